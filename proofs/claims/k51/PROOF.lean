import PyProof.Rows.All
import Wide.All
import OpenK.AllK
import Wide.FinOn
import Lean
import PyProof.EqAt
import PyProof.EqKinds
import PyProof.TupleCall
import PyProof.NeData
import PyProof.P3In
import PyProof.FactsAll.set
import PyProof.CollectWalk
import PyProof.FactsAll.range
import PyProof.MinMaxWalk
import KE.KMinKey
import PyProof.WalkInts
import PyProof.Rows.CallKwBuiltin
import KE.KLam
import KE.KSortTup
import PyProof.Rows.Range3
import PyProof.ListRange
import PyProof.DictRoadsH
import KE.KDictList
import PyProof.Rows.SortKeyStr
import PyProof.DictCompW
import PyProof.DictWalks
import PyProof.Rows.CompDC
import PyProof.SumAny
import PyProof.TupleOfGen
import PyProof.CollectIter
import KE.KTryMore
import OpenK.KOwn
import PyProof.ExcBaseAll.ValueError
import KE.KNestM
import PyProof.NsDelKeeps
import PyProof.ExcAttrAll.ValueError
import PyProof.Conv_int_bool
import PyProof.InstStoreFacts
import KE.KIntText
import PyProof.StrLawsTight
import PyProof.StrLawsChain
import PyProof.StrLawsIn
import PySem.Challenge.RW_twinmoulds_k51_a_desk_and_its_rows
set_option compiler.extract_closed false
set_option bootstrap.genMatcherCode false
set_option genInjectivity false
set_option genSizeOfSpec false
set_option Elab.async false
set_option linter.all false
set_option maxRecDepth 100000
set_option maxHeartbeats 4000000
open Decidable renaming decide→ώ
open Option renaming some→ϊ,none→ϋ
open Bool renaming true→ό,false→ύ
open PySem renaming wpAny_bind→À,wpAny_pure→Å,starEach→Ì,mainGlobals→Ð,sizeLine→Ô,Shared→Û,Value→á,model→è,wpAny→ê,Program→ù,bootBuiltins→ý,foldedSetIterable→Ā,Addr→ă,wpAny_callSpecial?_slot→ą,wpAny_call_entry→ć,wpAny_holding→Č,wpAny_newObj_type→Ď,Around→Đ,compareOp→đ,wpAny_mono→Ė,wpAny_field→ħ,World→ĩ,eval→į,backTo→İ,attributeBase→Ĳ,mem_of_lookup→ĵ,wpAny_seqItems→ļ,binaryOp→Ľ,rawInt→Ŀ,codeAny_builtin→ŀ,codeAny_mono→Ł,assignEach→Ń,wpAny_truthy_bool→ŏ,Expr→Ő,letOwnedTupleGo→ő,keywordEach→Œ,wpAny_standAt→ŗ,wpAny_Call_Name_kw→ř,wpAny_setField_rec→Ś,codeAny_call_builtin→ş,wpAny_pyIter_list→Š,wpAny_setState_of→ţ,wpAny_attempt→Ũ,wpAny_setEntries_of→ũ,Heap→ū,wpAny_rule→ů,call_meets→Ű,wpAny_setField→ű,intKind→Ų,codeAny→ų,Builtin→Ŷ,swapsWithSole→θ,swappedStores→ι,fits_of_scanBound→μ,Keyword→ξ,intText?→abI,wpAny_of_eq→aft,wpAny_call→afw,wpAny_typeOf→afz,holding→afA,wpAny_passesOwn→afC,behindInMarks→afD,backToKw→afH,cellsFrom→afI,scanBound→afK,pickOrder→afL,wpAny_pyIter_rangeiter→afS,IsPair→afU,sizeLine_eq→afW,sliceBounds→afZ,wpAny_storeSet_of→af4,wpAny_bindName→af6,standAt→age,wpAny_askSetting→agh,checkBuiltinCall→agi,typeIs_str→agl,swapsWith→agn,codeAny_of_tree→agw,Scope→agH,assign→agP,pyNext→agQ
open PySem.Heap renaming get?_push_of_some→Á,get?_push_size→Ë,lt_size→Í,size_push→ā,get?_update_self→ě,SameBut→ĥ,get?_update_other→ŵ,ExtBut→afs,get?_update_ne→afu,get?_some_iff→afO,FlyingW→aga
open Bool renaming and_eq_true→Â,false_eq_true→Æ,false_ne_true→Ú,not_eq_true'→û,true_and→ğ,eq_iff_iff→Ġ,and_self→Ĥ,not_true→ĳ,not_false→Ş,or_eq_true→Ť,not_eq_true→ŭ,false_and→af7,and_eq_false_iff→agd
open List renaming length_map→Ç,mem_cons_of_mem→É,mem_append_right→Î,getElem?_eq_some_iff→Ï,mem_cons→Ñ,getElem?_eq_getElem→Ò,mem_cons_self→Ó,replicate→Õ,length_append→Ù,all_eq_true→Ü,map_cons→Þ,range→â,size_toArray→ã,getElem?_map→å,length_cons→æ,getElem?_append_left→ç,mem_map→é,getElem?_set_self→í,mem_range→î,mem_append_left→ï,getElem?_set_ne→ð,pairwise_cons→ò,getElem?_append_right→ô,set_cons_succ→õ,set_cons_zero→ö,append_nil→ú,not_mem_nil→ü,mem_append→þ,length_set→Ă,mem_filter→ĉ,cons_append→ď,mem_singleton→Ē,length_nil→ē,map_append→Ĕ,map_map→ė,lookup_cons→Ę,getElem?_eq_none→Ĝ,append_assoc→ġ,nil_append→Ĩ,getElem?_replicate→Ī,getElem?_range→Ķ,length_filter_le→Ļ,map_nil→ł,filter_eq_self→ń,zip_cons_cons→ň,filter_cons→ŕ,drop_eq_getElem_cons→ŝ,any_eq_false→š,ext_getElem?→Ţ,any_eq_true→Ŭ,dropLast_concat_getLast→Ź,nodup_cons→Ż,length_replicate→ż,range_succ→ζ,all_eq_false→ν,mem_of_getElem?→ο,length_take→abL,mem_flatMap→adM,filterMap_cons→afp,getElem_of_mem→afr,mem_filterMap→afB,length_eq_zero_iff→afN,flatMap_eq_nil_iff→afR,lookup→afY,flatten_cons→af0,nodup_append→af5,length_singleton→af8,set_append_right→agc,getElem_mem→agg,length_dropLast→agj,all_cons→agk,of_mem_zip→agp,replicate_succ→agr,forIn_cons→agt,map_congr_left→agu,drop_succ_cons→agz,map_eq_flatMap→agA,map_eq_nil_iff→agB,length_pos_iff→agC,drop_zero→agI,getD→agK
open Nat renaming lt_of_lt_of_le→È,le_trans→Ø,ne_of_lt→ä,lt_irrefl→ó,zero_le→č,lt_succ_of_lt→ĭ,lt_succ_self→Ŋ,ne_of_gt→Ř,lt_of_le_of_lt→Ÿ,le_of_not_lt→adL,le_succ→afq,not_lt_zero→agy,le_of_eq→agF
open PySem.PyData renaming strOk→à,eqv→ī,depthAll→agx
open PySem.W renaming nsIn→ë,mg_none_of→ÿ,mg_of→Ĵ,keepIn→Ņ,Frag→Ň,fnOf→Ŏ,findIn→ś,cellsFrom_some→Ŵ,instObj→ź,lookIn→υ,codeIn→χ,hideAll_get→adS,callWith_K→afG,emptyDict→afX,plainGet→agf,plainGet_of→ago,hasDictIn→agJ,tabIn→agN,excIn→agO
open And renaming intro→ì
open Array renaming length_toList→Ą,getElem?_toList→ĸ,toList_push→af3
open False renaming elim→Ć
open PySem.Obj renaming data_mapFields→Ĉ,isFreed_of_fields→ņ,cls_mapFields→af1,mapSeq→agm
open PySem.Builtin.Range renaming rangeFitsLong→Ċ,rangeSize→ŋ
open PySem.PassesOwn renaming never→ċ
open PySem.SetTable renaming below→ĕ
open PyProof.Rows renaming slot_tuple_getitem→Ě,callWith_type1→Ħ,envOfC→ķ,firstMet→ō,assignInOrder_cons→Ŗ,split_le→agb,IntsAre→agq,AllBare→agM
open PySem.Heap.SameBut renaming update→ĝ
open PySem.Str renaming ofString→Ģ,join→Į,append_assoc→Ů,empty→afE
open Int renaming toNat_natCast→Ĭ,zero_add→Ŧ,eq_ofNat_of_zero_le→afP,emod_lt_of_pos→afQ,emod_nonneg→agD
open PySem.Txt renaming split→ĺ
open ForInStep renaming yield→ľ
open PySem.Builtin.Str renaming occurrences→Ō,strSliceIndices→ε
open List.cons renaming injEq→œ
open PySem.F renaming slot_tuple_iterator_next→Ŕ,plainAttrs_list→Ū,called_set→ž,slot_range_reversed→δ,args_tuple_add_2→afy,entry_tuple_add→afJ,slot_tuple_add→afT,slot_int_rmul→ags,slot_zip_next→agv
open PySem.Builtin.SmallTypes renaming nextOf→Ŝ
open Function renaming comp_def→ť
open Ne renaming symm→ŧ
open Or renaming inl→ŷ
open Option renaming map_some→Ž,isSome_iff_exists→afx,map_eq_some_iff→afV
open PySem.Builtin.List renaming listExtendWith→ſ
open PySem.Value renaming type→η,bool→afv,ref→agR
open PySem.Around renaming under_plainId→ς
open PySem.Builtin.Slice renaming sliceAdjust→ψ,slicePlaces→ω
open PySem.Calls renaming spliced_cons→afF
open PySem.Code renaming quiet_builtin→afM
open PySem.SetTable.below renaming go→af2
open List.Pairwise renaming sublist→af9
open PySem.Builtin.Tuple renaming tupleItemsOf→agE
open PySem.StrLaws renaming join_split→agG
open PySem.SetTable.probe renaming go→agL
def Ã:=@decide_eq_true_eq
def Ä:=@decide_eq_true
def Ê:=@decide_eq_false
def Ö:=@if_pos
def Ý:=@if_neg
def ß:=@of_decide_eq_true
def ñ:=@if_false
def ø:=@if_true
def ę:=@beq_self_eq_true
def Ğ:=@and_self
def ģ:=@decide_true
def ı:=@congrArg
def Ĺ:=@bne_self_eq_false
def agW:=@Nat.le_refl
def agX:=@Option.some.inj
abbrev agY:PySem.Str:="_law_state_here"
abbrev agZ:PySem.Str:="_law_pages"
abbrev ag0:PySem.Str:="_law_mark"
abbrev ag1:PySem.Str:="_law_mould"
abbrev ag2:PySem.Str:="_law_script"
abbrev ag3:PySem.Str:="_law_page_here"
abbrev ag4:PySem.Str:="_law_day"
abbrev ag5:PySem.Str:="_law_book"
abbrev ag6:PySem.Str:="_law_books"
abbrev ag7:PySem.Str:="_law_sheet_here"
abbrev ag8:PySem.Str:="_law_deed_here"
abbrev ag9:PySem.Str:="_law_asked"
abbrev aha:PySem.Str:="_law_parts"
abbrev ahb:PySem.Str:="_law_mark_stands"
abbrev ahc:PySem.Str:="_law_marks_text"
abbrev ahd:PySem.Str:="_law_sheet_text"
noncomputable section
def hold{G:Prop}(h:∀P:Prop,(G->P)->P):G:=h G id
local macro_rules | `(tactic| obtain ⟨$a,$b,$c,$d,$xs,*⟩ := $h)=>`(tactic| (refine hold λP k=>?_;rcases $h:term with ⟨$a,$b,$c,$d,$xs,*⟩<;>(refine k ?_;clear k P)))
local macro_rules | `(tactic| obtain ⟨$a,$b,$c,$d⟩ := $h)=>`(tactic| (refine hold λP k=>?_;rcases $h:term with ⟨$a,$b,$c,$d⟩<;>(refine k ?_;clear k P)))
local macro_rules | `(tactic| rcases $h:term with ⟨$a,$b,$c,$xs,*⟩ | $q)=>`(tactic| (refine hold λP k=>?_;obtain ⟨$a,$b,$c,$xs,*⟩ | $q := $h<;>(refine k ?_;clear k P)))
local macro_rules | `(⋯)=>`(by omega)
local macro_rules | `(∅)=>`(by simp)
local macro_rules | `(nofun)=>`(by decide +kernel)
local macro_rules | `(tactic| delta $x* $[$l]?)=>`(tactic| unfold $x* $[$l]?)
local macro_rules | `(tactic| erw[$[$x:term],*] $[$l:location]?)=>`(tactic| simp only[$[$x:term],*] $[$l:location]?)
local macro_rules | `(tactic| omega) => `(tactic| lia)
open PySem.W (Frag)
namespace L2
open PySem PySem.Spec PyProof.Rows
abbrev Key:=Sum Int Str
noncomputable def O3:Key->á->Bool
 | .inl k,v=>Value.isInt k v
 | .inr x,v=>Value.isStrOf x v
noncomputable def aea (w:ĩ):Key->Int
 | .inl k=>hashInt k
 | .inr x=>hashStr w x
def mx:∀{k} {v},O3 k v=ό->(∃i t,k=Sum.inl i/\v=Value.int i t)\/(∃x t,k=Sum.inr x/\v=Value.str x t)
 | .inl i,v,h=>by
  obtain⟨t,e⟩:=Value.isInt_shape h;exact .inl ⟨i,t,rfl,e⟩
 | .inr x,v,h=>by
  obtain⟨t,e⟩:=Value.isStrOf_shape h;exact .inr ⟨x,t,rfl,e⟩
def aak (a b):ώ ((Sum.inl a:Key)=Sum.inl b)=(a==b):=by
 by_cases e:a=b
 ·subst e;simp
 ·have h:¬ (Sum.inl a:Key)=Sum.inl b:=λq=>e (Sum.inl.inj q)
  rw[Ê h];exact(beq_eq_false_iff_ne.mpr e).symm
def aal (a b):ώ ((Sum.inr a:Key)=Sum.inr b)=ώ (a=b):=by
 by_cases e:a=b
 ·simp
 ·have h:¬ (Sum.inr a:Key)=Sum.inr b:=λq=>e (Sum.inr.inj q)
  rw[Ê h,Ê e]
def aic (a) (b):ώ ((Sum.inl a:Key)=Sum.inr b)=ύ:=Ê (λq=>nomatch q)
def aid (a) (b):ώ ((Sum.inr a:Key)=Sum.inl b)=ύ:=Ê (λq=>nomatch q)
def zJ (prog) (w):PySem.KeyKind prog w Key where
 is:=O3
 hash:=aea w
 inj:=λv a b X Y=>by
  rcases mx X with ⟨i,t,rfl,rfl⟩ | ⟨x,t,rfl,rfl⟩
  ·rcases mx Y with ⟨j,u,rfl,e⟩ | ⟨y,u,rfl,e⟩
   ·injection e with e1 _;rw[e1]
   ·exact nomatch e
  ·rcases mx Y with ⟨j,u,rfl,e⟩ | ⟨y,u,rfl,e⟩
   ·exact nomatch e
   ·injection e with e1 _;rw[e1]
 byValue:=λk v h=>by
  rcases mx h with ⟨i,t,rfl,rfl⟩ | ⟨x,t,rfl,rfl⟩<;>rfl
 pyHash:=λZ h=>by
  rcases mx Z with ⟨i,t,rfl,rfl⟩ | ⟨x,t,rfl,rfl⟩
  ·exact wpAny_pyHash_int h
  ·exact wpAny_pyHash_str h
 eqBool:=λW Z h=>by
  rcases mx W with ⟨i,t,rfl,rfl⟩ | ⟨x,t,rfl,rfl⟩
  ·rcases mx Z with ⟨j,u,rfl,rfl⟩ | ⟨y,u,rfl,rfl⟩
   ·rw[aak] at h;exact wpAny_eqBool_int h
   ·exact SeqAt.EqAt.int_str i t y u _ _ _ _ h
  ·rcases mx Z with ⟨j,u,rfl,rfl⟩ | ⟨y,u,rfl,rfl⟩
   ·exact SeqAt.EqAt.str_int x t j u _ _ _ _ h
   ·rw[aal] at h;exact wpAny_eqBool_str h
 «strs»:=λk x t v h=>by
  rcases mx h with ⟨i,u,rfl,e⟩ | ⟨y,u,rfl,e⟩
  ·exact nomatch e
  ·injection e with e1 _
   subst e1
   cases v<;>rfl
set_option genInjectivity true in
inductive V where
 |az|bl (b:Bool)|int (i:Int)|str (x:Str)|jR (b:Array UInt8)|Bd (b:UInt64)|ref (a:ă)|ty (n:String)
 deriving DecidableEq
def RelV:V->á->Prop
 | .az,u=>u=Value.none
 | .bl b,u=>u=afv b
 | .int i,u=>∃t,u=Value.int i t
 | .str x,u=>∃t,u=Value.str x t
 | .jR b,u=>∃t,u=Value.bytes b t
 | .Bd b,u=>∃t,u=Value.float b t
 | .ref a,u=>u=agR a
 | .ty n,u=>u=η n
abbrev Vals:List V->List á->Prop:=Paired RelV
theorem Vals.length (r:Vals xs us):xs.length=us.length:=Paired.length r
theorem Vals.get:∀{xs} {us} {i:Nat} {x},Vals xs us->xs[i]?=ϊ x->∃u,us[i]?=ϊ u/\RelV x u
 |_,_,_,_,.nil,e=>by simp at e
 |_,_,0,_,.cons r _,e=>by simp at e;subst e;exact⟨_,rfl,r⟩
 |_,_,i+1,x,.cons _ t,e=>by
  obtain⟨u,Z,Y⟩:=Vals.get t (by simpa using e);exact⟨u,by simpa using Z,Y⟩
theorem Vals.set (r:RelV x u):∀{xs} {us} i,Vals xs us->Vals (xs.set i x) (us.set i u)
 |_,_,_,.nil=>.nil
 |_,_,0,.cons _ t=>.cons r t
 |_,_,i+1,.cons q t=>.cons q (Vals.set r i t)
theorem Vals.append:∀{xs ys} {us ws},Vals xs us->Vals ys ws->Vals (xs++ys) (us++ws)
 |_,_,_,_,.nil,s=>s
 |_,_,_,_,.cons r t,s=>.cons r (Vals.append t s)
theorem Vals.take:∀{xs} {us} n,Vals xs us->Vals (xs.take n) (us.take n)
 |_,_,0,_=>.nil
 |_,_,_ + 1,.nil=>.nil
 |_,_,n+1,.cons r t=>.cons r (Vals.take n t)
theorem Vals.drop:∀{xs} {us} n,Vals xs us->Vals (xs.drop n) (us.drop n)
 |_,_,0,r=>r
 |_,_,_ + 1,.nil=>.nil
 |_,_,n+1,.cons _ t=>Vals.drop n t
def oH:Option V->Option á->Prop
 |some v,ϊ u=>RelV v u
 |none,ϋ=>True
 |_,_=>False
def KV:List (κ×V)->List (κ×á)->Prop:=Paired λp q=>p.1=q.1/\RelV p.2 q.2
noncomputable def kV:Key->V
 | .inl i=>.int i
 | .inr x=>.str x
inductive HO where
 |lst (xs:List V)
 |tup (xs:List V)
 |dK (bx:List (Key×V))|dT (bx:List (List Key×V))
 |set (S:Int->Bool) (n:Nat)
 |ins (C dx:ă) (fs:List (Str×V))
 |own (x:ă)
 |xd (fs:List (Str×V))
 |met (f x:ă)
 |dU (lo hi:Int)
 |bH (o:Obj) (u:HO)
 |cG (ps:Array á)
 |ext (φ:ū->Prop)
abbrev Hp:=ă->Option HO
noncomputable def upd (H:Hp) (a:ă) (o:HO):Hp:=λb=>if b=a then ϊ o else H b
def dC:upd H a o a=ϊ o:=by delta upd;rw[Ö rfl]
def bI (h:b≠a):upd H a o b=H b:=by delta upd;rw[Ý h]
def dW {H:Hp} {a b} {o} (h:H a=ϊ o) (h':H b=ϋ):a≠b:=by
 intro e;subst e;rw[h] at h';cases h'
section
variable (P:ù) (w:ĩ)
def gF (H:Hp) (h:ū) (a:ă):HO->Prop
 | .lst Z=>Z.length<=Ô/\∃(aj:List á) (n:Nat),Vals Z aj/\h.get? a=ϊ { cls:=.type "list",data:=.seq aj.toArray n }
 | .tup Z=>Z.length<=Ô/\∃aj,Vals Z aj/\IsTup h a aj.toArray
 | .dK X=>X.length<=Ô/\(a==sysModules)=ύ/\∃T,KV X T/\h.DictOf (zJ P w) a T
 | .dT X=>X.length<=Ô/\(a==sysModules)=ύ/\∃Z,
   Paired (λp q=>p.1=q.1/\H q.2.1=ϊ (.tup (p.1.map kV))/\RelV p.2 q.2.2) X Z /\
   ∃o R N,h.get? a=ϊ o/\o.ExactDict/\o.data=.dict R N/\R.toList=Z.map (entryOfKey (tupleKind (zJ P w)))/\(Z.map (·.1)).Nodup
 | .set S n=>h.SetOf (Ų P w) a S n
 | .ins C V fs=>H V=ϊ (.own a)/\fs.length<=1000/\V≠a/\h.get? a=ϊ (ź C V) /\
   ∃Y,h.Ns1 V Y/\(∀f,oH (fs.lookup f) (Y f))/\PySem.Within Y (fs.map (·.1))
 | .own _=>∃o,h.get? a=ϊ o
 | .xd fs=>∃Y,h.Ns1 a Y/\∀f,oH (fs.lookup f) (Y f)
 | .dU lo M=>∃t u v,h.get? a=ϊ { cls:=.type "range",data:=.fields #[.int lo t,.int M u,.int 1 v] }
 | .bH o u=>h.get? a=ϊ o/\gF H h a u
 | .cG L=>h.get? a=ϊ { cls:=.none,data:=.fields L }
 | .met f x=>h.get? a=ϊ (PySem.W.methodObj (.ref f) (.ref x))
 | .ext U=>U h/\(∃o,h.get? a=ϊ o)/\∀Q O,U Q->(∀o,Q.get? a=ϊ o->O.get? a=ϊ o)->U O
def dF (H:Hp) (h:ū):Prop:=∀a o,H a=ϊ o->gF P w H h a o
end
section
variable {P:ù} {w:ĩ} {H H':Hp} {h h':ū} {a:ă} {o:HO}
theorem gF.lt (x:gF P w H h a o):a<h.objs.size:=by
 cases o with
 |lst Z=>obtain⟨_,_,_,_,e⟩:=x;exact Í e
 |tup Z=>obtain⟨_,_,_,p⟩:=x;exact p.lt
 |dK Y=>obtain⟨_,_,_,_,o,_,_,e,_⟩:=x;exact Í e
 |dT Y=>obtain⟨_,_,_,_,o,_,_,e,_⟩:=x;exact Í e
 |set S n=>obtain⟨o,_,_,_,e,_⟩:=x;exact Í e
 |ins C X fs=>obtain⟨_,_,_,e,_⟩:=x;exact Í e
 |own y=>obtain⟨_,e⟩:=x;exact Í e
 |xd fs=>obtain⟨_,⟨_,_,_,e,_⟩,_⟩:=x;exact Í e
 |dU lo W=>obtain⟨_,_,_,e⟩:=x;exact Í e
 |bH V u=>obtain⟨e,_⟩:=x;exact Í e
 |cG U=>exact Í (x)
 |met f y=>exact Í (x)
 |ext T=>obtain⟨_,⟨_,e⟩,_⟩:=x;exact Í e
theorem Paired.Qg {F G}:∀{Qh:List α} {l₂:List β},Paired F Qh l₂->(∀a b,F a b->G a b)->Paired G Qh l₂
 |_,_,.nil,_=>.nil
 |_,_,.cons r t,f=>.cons (f _ _ r) (Paired.Qg t f)
def gF.iS (x:gF P w H h a o) (k:∀b u,(b=a\/H b=ϊ (.own a))->h.get? b=ϊ u->h'.get? b=ϊ u)
  (ho:∀b,H b=ϊ (.own a)->H' b=ϊ (.own a)) (ht:∀b xs,H b=ϊ (.tup xs)->H' b=ϊ (.tup xs)):gF P w H' h' a o:=by
 induction o with
 |lst xs=>obtain⟨z,aj,n,r,e⟩:=x;exact⟨z,aj,n,r,k _ _ (.inl rfl) e⟩
 |tup xs=>obtain⟨z,aj,r,Z,e,c⟩:=x;exact⟨z,aj,r,Z,k _ _ (.inl rfl) e,c⟩
 |dK T=>obtain⟨z,y,R,r,Z,Y,X,e,c⟩:=x;exact⟨z,y,R,r,Z,Y,X,k _ _ (.inl rfl) e,c⟩
 |dT T =>
  obtain⟨z,y,xs,r,Z,Y,X,e,c⟩:=x;exact⟨z,y,xs,Paired.Qg r λp q z=>⟨z.1,ht _ _ z.2.1,z.2.2⟩,Z,Y,X,k _ _ (.inl rfl) e,c⟩
 |set S n=>obtain⟨Z,Y,X,t,e,c⟩:=x;exact⟨Z,Y,X,t,k _ _ (.inl rfl) e,c⟩
 |ins C Q fs =>
  obtain⟨d,z,ne,e,W,⟨V,Y,X,e2,c⟩,r⟩:=x;exact⟨ho _ d,z,ne,k _ _ (.inl rfl) e,W,⟨V,Y,X,k _ _ (.inr d) e2,c⟩,r⟩
 |own y=>obtain⟨Z,e⟩:=x;exact⟨Z,k _ _ (.inl rfl) e⟩
 |xd fs=>obtain⟨W,⟨V,Y,X,e,c⟩,r⟩:=x;exact⟨W,⟨V,Y,X,k _ _ (.inl rfl) e,c⟩,r⟩
 |dU lo O=>obtain⟨t,u,v,e⟩:=x;exact⟨t,u,v,k _ _ (.inl rfl) e⟩
 |bH Z u ih=>obtain⟨e,q⟩:=x;exact⟨k _ _ (.inl rfl) e,ih q⟩
 |cG N =>
  have e:=x;exact k a _ (.inl rfl) e
 |met f y =>
  have e:=x;exact k a _ (.inl rfl) e
 |ext M=>obtain⟨p,⟨o,e⟩,U⟩:=x;exact⟨U _ _ p λo q=>k _ _ (.inl rfl) q,⟨o,k _ _ (.inl rfl) e⟩,U⟩
theorem dF.lt (x:dF P w H h) (e:H a=ϊ o):a<h.objs.size:=(x a o e).lt
def dF.fresh (x:dF P w H h) (e:h.objs.size<=a):H a=ϋ:=by
 cases q:H a with
 |none=>rfl
 |some u=>exact absurd (È (x.lt q) e) (ó _)
def dF.kept (x:dF P w H h) (k:∀b u,h.get? b=ϊ u->h'.get? b=ϊ u):dF P w H h':=λa o e =>
 (x a o e).iS (λb u _ q=>k b u q) (λ_ q=>q) λ_ _ q=>q
def dF.laid (x:dF P w H h) (k:∀b u,h.get? b=ϊ u->h'.get? b=ϊ u) (hp:h.objs.size<=a) (new:gF P w (upd H a o) h' a o):dF P w (upd H a o) h':=λb u e=>by
 have Z:=x.fresh hp;by_cases Y:b=a
 ·subst Y;rw[dC] at e;cases e;exact new
 ·rw[bI Y] at e
  exact(x b u e).iS (λc v _ q=>k c v q) (λc q=>by rw[bI (dW q Z)];exact q) λc X q=>by rw[bI (dW q Z)];exact q
end
def Rd (H:Hp) (a:ă) (u:HO):Prop:=H a=ϊ u\/∃o,H a=ϊ (.bH o u)
def Rd.ok (r:Rd H a u) (x:dF P w H h):gF P w H h a u:=by
 rcases r with r | ⟨o,r⟩
 ·exact x a u r
 ·obtain⟨_,q⟩:=x a _ r
  exact q
def Be:Option HO->Prop
 |some (.lst _)=>True
 |some (.dK _)=>True
 |some (.dT _)=>True
 |some (.set ..)=>True
 |some (.ins ..)=>True
 |some (.ext _)=>True
 |_=>False
section
variable {P:ù} {w:ĩ} {H:Hp} {h h':ū} {x e:ă} {o':HO}
def dF.write (ok:dF P w H h) (mu:Be (H x)) (he:e=x\/H e=ϊ (.own x)) (k:∀b u,b≠e->h.get? b=ϊ u->h'.get? b=ϊ u) (u7:∃u,h'.get? e=ϊ u)
  (new:gF P w (upd H x o') h' x o'):dF P w (upd H x o') h':=λb u q=>by
 have V:∀c y,H c=ϊ (.own y)->c≠x:=λc y r z=>by subst z;rw[r] at mu;exact mu
 have W:∀c Z,H c=ϊ (.tup Z)->c≠x:=λc Z r z=>by subst z;rw[r] at mu;exact mu
 by_cases Y:b=x
 ·subst Y;rw[dC] at q;cases q;exact new
 ·rw[bI Y] at q
  by_cases X:b=e
  ·have U:H b=ϊ (.own x):=by
    rcases he with z|z
    ·exact absurd (X.trans z) Y
    ·rw[X];exact z
   rw[q] at U;cases U;obtain⟨v,T⟩:=u7;exact⟨v,by rw[X];exact T⟩
  ·refine(ok b u q).iS (λc v hc r=>k c v ?_ r) (λc r=>by rw[bI (V c b r)];exact r) λc Z r=>by rw[bI (W c Z r)];exact r
   rcases hc with rfl|hc
   ·exact X
   ·rintro rfl
    rcases he with z|z
    ·exact V c b hc z
    ·rw[hc] at z;cases z;exact Y rfl
end
structure Un (fs ex:List ă) (H H':Hp) (h h':ū):Prop where
 keep:∀b o,h.get? b=ϊ o->H b=ϋ->b∉fs->b∉ex->h'.get? b=ϊ o
 slot:∀b o,h.get? b=ϊ o->H b=ϋ->b∈fs->b∉ex->∃sl,h'.get? b=ϊ { o with slots:=sl }
 free:∀b o,h.get? b=ϊ o->H b=ϋ->b∉ex->H' b=ϋ
 there:∀b o,h.get? b=ϊ o->b∉ex->∃o',h'.get? b=ϊ o'
 gI:∀b xs,H b=ϊ (.tup xs)->H' b=ϊ (.tup xs)
 fQ:∀b o u,H b=ϊ (.bH o u)->H' b=ϊ (.bH o u)
 gJ:∀b ps,H b=ϊ (.cG ps)->∃more,H' b=ϊ (.cG (ps++more))
section
variable {fs fs' ex ex':List ă} {H H1 H2:Hp} {h h1 h2 h':ū} {a x e:ă} {o:HO}
def Un.any (u:Un fs ex H H1 h h1) (q:h.get? b=ϊ ob) (n:H b=ϋ) (hx:b∉ex):∃sl,h1.get? b=ϊ { ob with slots:=sl }:=by
 by_cases Z:b∈fs
 ·exact u.slot b ob q n Z hx
 ·exact⟨_,u.keep b ob q n Z hx⟩
def Un.kept (k:∀b u,h.get? b=ϊ u->h'.get? b=ϊ u):Un fs ex H H h h' :=
 ⟨λb Z q _ _ _=>k b Z q,λb Z q _ _ _=>⟨_,k b Z q⟩,λ_ _ _ n _=>n,λb Z q _=>⟨Z,k b Z q⟩,λ_ _ q=>q,λ_ _ _ q=>q,λ_ Y q=>⟨#[],by rw[q];simp⟩⟩
def Un.refl:Un fs ex H H h h:=Un.kept λ_ _ q=>q
def Un.laid (k:∀b u,h.get? b=ϊ u->h'.get? b=ϊ u) (hp:h.objs.size<=a) (hn:H a=ϋ):Un fs ex H (upd H a o) h h' where
 keep:=λb u q _ _ _=>k b u q
 slot:=λb u q _ _ _=>⟨_,k b u q⟩
 free:=λb u q n _=>by rw[bI (ä (È (Í q) hp))];exact n
 there:=λb u q _=>⟨u,k b u q⟩
 gI:=λb Z q=>by rw[bI (dW q hn)];exact q
 fQ:=λb u Z q=>by rw[bI (dW q hn)];exact q
 gJ:=λb Y q=>⟨#[],by rw[bI (dW q hn),q];simp⟩
def Un.write (mu:Be (H x)) (he:e=x\/H e=ϊ (.own x)) (k:∀b u,b≠e->h.get? b=ϊ u->h'.get? b=ϊ u) (u7:∃u,h'.get? e=ϊ u):Un fs ex H (upd H x o) h h':=by
 have Y:∀b,H b=ϋ->b≠x:=λb n z=>by subst z;rw[n] at mu;exact mu
 have X:∀b,H b=ϋ->b≠e:=λb n z=>by
  subst z
  rcases he with r|r
  ·exact Y b n r
  ·rw[n] at r;cases r
 have Z:∀b u,H b=ϊ u->¬ Be (ϊ u)->b≠x:=λb u q nm z=>by subst z;rw[q] at mu;exact nm mu
 refine⟨λb u q n _ _=>k b u (X b n) q,λb u q n _ _=>⟨_,k b u (X b n) q⟩,λb u q n _=>by rw[bI (Y b n)];exact n,λb u q _=>?_,
  λb V q=>by rw[bI (Z b _ q λz=>z)];exact q,λb u V q=>by rw[bI (Z b _ q λz=>z)];exact q,λb U q=>⟨#[],by rw[bI (Z b _ q λz=>z),q];simp⟩⟩
 by_cases W:b=e
 ·subst W;exact u7
 ·exact⟨u,k b u W q⟩
end
noncomputable def GA (h:ū) (H:Hp):List ă:=(â h.objs.size).filter λa=>(H a).isSome
def uH (h:ū) (H:Hp):ū:=PySem.W.hideAll h (GA h H)
def Vp (h) (H):(uH h H).objs.size=h.objs.size:=PySem.W.hideAll_size ..
def CK (e:h.get? b=ϊ o) (n:H b=ϋ):(uH h H).get? b=ϊ o :=
 adS _ e λZ=>by
  have q:=(ĉ.mp Z).2;rw[n] at q;simp at q
def YB (e:(uH h H).get? b=ϊ o):h.get? b=ϊ o/\H b=ϋ:=by
 have Z:=PySem.W.of_hideAll _ e;refine⟨Z,?_⟩
 cases q:H b with
 |none=>rfl
 |some x =>
  have Y:b∈GA h H:=ĉ.mpr ⟨î.mpr (Í Z),by simp[q]⟩;have z:(uH h H).get? b=ϋ:=PySem.W.hideAll_none _ Y;rw[z] at e;cases e
noncomputable def YC (g h:ū) (L:ă):List (ă×Obj):=(â h.objs.size).filterMap λa=>if a=L\/(g.get? a).isSome=ό then ϋ else (h.get? a).map λo=>(a,o)
def rest (g h:ū) (L d:ă):List (ă×Obj):=(YC g h L).filter λp=>ώ (p.1≠d)
structure Mod (K:Ň) (mg) (base):Prop where
 kU:K.In base
 glob:base.Ns Ð mg
 blt:∃mb,base.Ns builtinsNs mb/\∀x:Str,x≠"__name__"->mb x=ý x
 nolimit:base.NoLimit
structure Cx where
 prog:ù
 w:ĩ
 K:Ň
 mg:Str->Option á
 base:ū
 A:Đ
 N:List Str
 dS:Û
 m9:Hp
 env:Env
 outer:List Env
 stack:List Env
 ex:List ă
 fn:Str->Bool
 calm:Bool
 pn:List (ă×Obj)
 xe:á->Û->Prop
noncomputable def dO (l:List Env):List ă:=l.filterMap (·.frame)
abbrev Cx.fs (X:Cx):List ă:=dO X.outer
def se (sc:agH) (x:Str):Prop:=sc.names.lookup x=ϊ .local\/sc.names.lookup x=ϊ .cell\/sc.names.lookup x=ϊ .free
def Loc (sc:agH) (x:Str):Prop:=sc.names.lookup x=ϊ .local\/sc.names.lookup x=ϊ .cell
def Look (env:Env) (h:ū) (m:Str->Option á) (x:Str) (u:á):Prop :=
 (env.kindOf x=ϊ .local/\m x=ϊ u)\/((env.kindOf x=ϊ .cell\/env.kindOf x=ϊ .free)/\∃c,env.cells.lookup x=ϊ c/\h.IsCell c (ϊ u))
structure Cx.Ok (X:Cx):Prop where
 mod:Mod X.K X.mg X.base
 kind:X.env.scope.kind=.function
 glob:X.env.globals=Ð
 blt:X.env.builtins=builtinsNs
 above:X.dS.heap.objs.size<=X.env.locals
 inj:∀x y c,X.env.cells.lookup x=ϊ c->X.env.cells.lookup y=ϊ c->x=y
 has:∀x,(X.env.kindOf x=ϊ .cell\/X.env.kindOf x=ϊ .free)->∃c,X.env.cells.lookup x=ϊ c
 u9:∀x c,X.fn x=ό->X.env.cells.lookup x=ϊ c->X.dS.heap.objs.size<=c
 hd:X.calm=ό->X.A.handled=ϋ
 frames:X.A.frames=ϊ X.stack
 nC:X.stack=X.outer\/(X.stack=X.env::X.outer/\X.env.frame=ϊ X.env.locals)
 Q4:∀b∈X.ex,b≠X.env.locals/\∀x c,X.env.cells.lookup x=ϊ c->c≠b
 bs:∀b o,X.base.get? b=ϊ o->X.dS.heap.get? b=ϊ o/\X.m9 b=ϋ
 jv:X.base.objs.size<=X.dS.heap.objs.size
 p9:∀b o,X.base.get? b=ϊ o->b∉X.ex
 AM:∀b∈X.ex,b∉X.fs
 jm:X.dS.heap.FunFrames X.base X.outer
 lZ:∀b∈X.fs,X.m9 b=ϋ
structure Inv (X:Cx) (π) (σ:List _) (H) (s:Û):Prop where
 ok:X.Ok
 os:s.os=X.dS.os
 bare:agM s.gens
 base:Un X.fs X.ex X.m9 H X.dS.heap s.heap
 loc:∃m,s.heap.Ns X.env.locals m/\∀(i:Nat) x v,X.N[i]?=ϊ x->σ[i]?=ϊ (ϊ v)->se X.env.scope x->∃u,RelV v u/\Look X.env s.heap m x u
 cell:∀x c,X.env.cells.lookup x=ϊ c->∃v,s.heap.IsCell c v
 free:H X.env.locals=ϋ
 jJ:∀x c,X.env.cells.lookup x=ϊ c->H c=ϋ
 pin:∀p∈X.pn++π,s.heap.get? p.1=ϊ p.2/\H p.1=ϋ/\p.1≠X.env.locals/\p.1∉X.fs/\∀v,p.2.data≠.cell v
 aQ:dF X.prog X.w H s.heap
 len:σ.length=X.N.length
section
variable {X:Cx} {π:List (ă×Obj)} {σ:List (Option V)} {H H':Hp} {s:Û} {h':ū}
def Cx.Ok.aec (ok:X.Ok) (e:X.base.get? b=ϊ o):b∉X.fs:=λZ=>by
 have:=(ok.jm.mem Z).1;rw[e] at this;cases this
theorem Inv.bs (I:Inv X π σ H s):∀b o,X.base.get? b=ϊ o->s.heap.get? b=ϊ o/\H b=ϋ:=λb o e =>
 ⟨I.base.keep b o (I.ok.bs b o e).1 (I.ok.bs b o e).2 (I.ok.aec e) (I.ok.p9 b o e),I.base.free b o (I.ok.bs b o e).1 (I.ok.bs b o e).2 (I.ok.p9 b o e)⟩
def Inv.bk (I:Inv X π σ H s):∀b o,X.base.get? b=ϊ o->s.heap.get? b=ϊ o:=λb o e=>(I.bs b o e).1
theorem Inv.mod (I:Inv X π σ H s):Mod X.K X.mg X.base:=I.ok.mod
def Inv.fT (I:Inv X π σ H s):X.K.In s.heap:=I.ok.mod.kU.keeps I.bk
theorem Inv.lt (I:Inv X π σ H s):X.env.locals<s.heap.objs.size:=let ⟨_,Z,_⟩:=I.loc;Z.lt
def Inv.sz (I:Inv X π σ H s):X.dS.heap.objs.size<=s.heap.objs.size:=Ø I.ok.above (Nat.le_of_lt I.lt)
def Inv.AN (I:Inv X π σ H s) {a:ă} (h:s.heap.objs.size<=a):a∉X.fs:=λZ=>by
 obtain⟨_,o,Y,_⟩:=I.ok.jm.mem Z;exact absurd (È (Í Y) (Ø I.sz h)) (ó _)
def Inv.kW (I:Inv X π σ H s):∀x c,X.env.cells.lookup x=ϊ c->c≠X.env.locals:=λx c e z=>by
 obtain⟨v,o,Z,Y⟩:=I.cell x c e;obtain⟨m,⟨U,T,S,W,V,_⟩,_⟩:=I.loc;rw[z,W] at Z;cases Z;rw[V] at Y;cases Y
theorem Inv.jm (I:Inv X π σ H s):s.heap.FunFrames X.base X.outer:=by
 have all:∀l,(∀b∈dO l,b∈X.fs)->X.dS.heap.FunFrames X.base l->s.heap.FunFrames X.base l:=by
  intro l
  induction l with
  |nil=>intro _ _;trivial
  |cons env r ih =>
   intro V U;obtain⟨T,⟨L,o,Z,S,R,Q⟩,P⟩:=U;have Y:=V L (by delta dO;rw[afp,Z];exact Ó);obtain⟨sl,e⟩:=I.base.slot L o R (I.ok.lZ L Y) Y λz=>I.ok.AM L z Y;exact⟨T,⟨L,_,Z,S,e,Q⟩,ih (λb W=>V b (by delta dO;rw[afp,Z];exact É _ W)) P⟩
 exact all _ (λ_ W=>W) I.ok.jm
theorem Inv.stack (I:Inv X π σ H s):s.heap.FunFrames X.base X.stack:=by
 rcases I.ok.nC with e | ⟨e,Z⟩
 ·rw[e];exact I.jm
 ·rw[e]
  obtain⟨m,Y,_⟩:=I.loc;refine .cons (by rw[I.ok.kind];decide) Z Y ?_ I.jm;exact Heap.get?_none_of_le (Ø I.ok.jv I.ok.above)
def Inv.mE (I:Inv X π σ H s):∀b∈dO X.stack,b∈X.env.locals::X.fs:=λb Z=>by
 rcases I.ok.nC with e | ⟨e,Y⟩
 ·rw[e] at Z;exact É _ Z
 ·rw[e] at Z
  delta dO at Z;rw[afp,Y] at Z;exact Z
def Inv.wj (I:Inv X π σ H s):∀b∈dO X.stack,H b=ϋ:=λb hb=>by
 rcases Ñ.mp (I.mE b hb) with e|hb
 ·rw[e];exact I.free
 ·obtain⟨_,o,Z,_⟩:=I.ok.jm.mem hb
  exact I.base.free b o Z (I.ok.lZ b hb) λz=>I.ok.AM b z hb
def Inv.step {d'} {ch:List ă} (I:Inv X π σ H s)
  (nD:∀b∈ch,(b∈X.ex\/X.dS.heap.objs.size<=b)/\b≠X.env.locals/\(∀x c,X.env.cells.lookup x=ϊ c->c≠b)/\∀p∈X.pn++π,p.1≠b)
  (keep:∀b o,b≠X.env.locals->b∉X.fs->b∉ch->s.heap.get? b=ϊ o->H b=ϋ->h'.get? b=ϊ o)
  (slot:∀b o,b≠X.env.locals->b∈X.fs->b∉ch->s.heap.get? b=ϊ o->H b=ϋ->∃sl,h'.get? b=ϊ { o with slots:=sl }) (free:∀b o,b∉ch->s.heap.get? b=ϊ o->H b=ϋ->H' b=ϋ)
  (there:∀b o,b∉ch->s.heap.get? b=ϊ o->∃o',h'.get? b=ϊ o')
  (gI:∀b xs,H b=ϊ (.tup xs)->H' b=ϊ (.tup xs)) (fQ:∀b o u,H b=ϊ (.bH o u)->H' b=ϊ (.bH o u)) (gJ:∀b ps,H b=ϊ (.cG ps)->∃more,H' b=ϊ (.cG (ps++more)))
  (ns:∀m,s.heap.Ns X.env.locals m->h'.Ns X.env.locals m) (aQ:dF X.prog X.w H' h') (hg:agM g') :
  Inv X π σ H' { s with heap:=h',gens:=g',drawn:=d',toks:=t' }:=by
 have S:∀b o,X.dS.heap.get? b=ϊ o->b≠X.env.locals:=λb o e=>ä (È (Í e) I.ok.above);have U:∀b o,X.dS.heap.get? b=ϊ o->b∉X.ex->b∉ch:=λb o e Z Y=>by
  rcases(nD b Y).1 with z|z
  ·exact Z z
  ·exact absurd (È (Í e) z) (ó _)
 have cellK:∀x c,X.env.cells.lookup x=ϊ c->∀v,s.heap.IsCell c v->h'.IsCell c v:=λx c e v ⟨o,W,T⟩=>by
  have V:=λz=>(nD c z).2.2.1 x c e rfl;by_cases R:c∈X.fs
  ·obtain⟨sl,q⟩:=slot c o (I.kW x c e) R V W (I.jJ x c e)
   exact⟨_,q,T⟩
  ·exact⟨o,keep c o (I.kW x c e) R V W (I.jJ x c e),T⟩
 refine⟨I.ok,I.os,hg,⟨λb o e n Y Z=>?_,λb o e n Y Z=>?_,λb o e n Z=>?_,λb o e Z=>?_,λb xs e=>gI b xs (I.base.gI b xs e),λb o xs e=>fQ b o xs (I.base.fQ b o xs e),λb ps e=>?_⟩,?_,λx c e=>?_,?_,λx c e=>?_,λp Q=>?_,aQ,I.len⟩
 ·exact keep b o (S b o e) Y (U b o e Z) (I.base.keep b o e n Y Z) (I.base.free b o e n Z)
 ·obtain⟨sl,e1⟩:=I.base.slot b o e n Y Z
  obtain⟨O,e2⟩:=slot b _ (S b o e) Y (U b o e Z) e1 (I.base.free b o e n Z);exact⟨O,e2⟩
 ·obtain⟨o',e1⟩:=I.base.there b o e Z
  exact free b o' (U b o e Z) e1 (I.base.free b o e n Z)
 ·obtain⟨o',e1⟩:=I.base.there b o e Z
  exact there b o' (U b o e Z) e1
 ·obtain⟨K,e1⟩:=I.base.gJ b ps e
  obtain⟨J,e2⟩:=gJ b _ e1;exact⟨_,by rw[e2,Array.append_assoc]⟩
 ·obtain⟨m,N,M⟩:=I.loc
  refine⟨m,ns m N,λi x v e1 e2 L=>?_⟩;obtain⟨u,r,l⟩:=M i x v e1 e2 L;refine⟨u,r,?_⟩
  rcases l with l | ⟨k,c,e,z⟩
  ·exact .inl l
  ·exact .inr ⟨k,c,e,cellK x c e _ z⟩
 ·obtain⟨v,z⟩:=I.cell x c e
  exact⟨v,cellK x c e v z⟩
 ·obtain⟨m,⟨o,_,_,W,_⟩,_⟩:=I.loc
  exact free _ o (λz=>(nD _ z).2.1 rfl) W I.free
 ·obtain⟨v,o,W,T⟩:=I.cell x c e
  exact free c o (λz=>(nD c z).2.2.1 x c e rfl) W (I.jJ x c e)
 ·obtain⟨e,n,ne,P,d⟩:=I.pin p Q
  have V:=λz=>(nD _ z).2.2.2 p Q rfl;exact⟨keep _ _ ne P V e n,free _ _ V e n,ne,P,d⟩
def Inv.un (I:Inv X π σ H s) (u:Un X.fs [] H H' s.heap h') (aQ:dF X.prog X.w H' h'):Inv X π σ H' { s with heap:=h',toks:=t' }:=by
 obtain⟨m,⟨o,Q,P,Y,r⟩,_⟩:=id I.loc;obtain⟨sl,V⟩:=u.any Y I.free ∅
 exact I.step (ch:=[]) (λ_ z=>nomatch z) (λb o _ Z _ e n=>u.keep b o e n Z ∅) (λb o _ Z _ e n=>u.slot b o e n Z ∅) (λb o _ e n=>u.free b o e n ∅) (λb o _ e=>u.there b o e ∅) u.gI u.fQ u.gJ (λO U=>by
  obtain⟨N,T,S,W,R⟩:=U;rw[Y] at W;cases W;exact⟨_,T,S,V,R⟩) aQ I.bare
def Inv.call {d'} {ch} (I:Inv X π σ H s) (u:Un (dO X.stack) ch H H' s.heap h') (aQ:dF X.prog X.w H' h') (hg:agM g')
  (nD:∀b∈ch,(b∈X.ex\/X.dS.heap.objs.size<=b)/\b≠X.env.locals/\(∀x c,X.env.cells.lookup x=ϊ c->c≠b)/\∀p∈X.pn++π,p.1≠b) :
  Inv X π σ H' { s with heap:=h',gens:=g',drawn:=d',toks:=t' }:=by
 obtain⟨m,⟨o,P,O,W,r⟩,_⟩:=id I.loc;obtain⟨sl,Y⟩:=u.any W I.free λz=>(nD _ z).2.1 rfl;exact I.step nD (λb o Y U Z e n=>u.keep b o e n (λz=>(Ñ.mp (I.mE b z)).elim Y U) Z) (λb o _ _ Z e n=>u.any e n Z) (λb o Z e n=>u.free b o e n Z) (λb o Z e=>u.there b o e Z) u.gI u.fQ u.gJ (λN T=>by
  obtain⟨M,S,R,V,Q⟩:=T;rw[W] at V;cases V;exact⟨_,S,R,Y,Q⟩) aQ hg
def Inv.turned {it} (I:Inv X π σ H s) (k:∀b o,b≠it->s.heap.get? b=ϊ o->h'.get? b=ϊ o) (hn:H it=ϋ) (hL:it≠X.env.locals)
  (h1:it∈X.ex\/X.dS.heap.objs.size<=it) (h2:∀x c,X.env.cells.lookup x=ϊ c->c≠it) (h3:∀p∈X.pn++π,p.1≠it):Inv X π σ H { s with heap:=h',toks:=t' }:=by
 have Y:∀b u,H b=ϊ u->b≠it:=λb u e z=>by rw[z,hn] at e;cases e
 refine I.step (ch:=[it]) (λb W=>?_) (λb o _ _ Z e _=>k b o (λz=>Z (by simp[z])) e) (λb o _ _ Z e _=>⟨_,k b o (λz=>Z (by simp[z])) e⟩) (λ_ _ _ _ n=>n)
  (λb o Z e=>⟨o,k b o (λz=>Z (by simp[z])) e⟩) (λ_ _ e=>e) (λ_ _ _ e=>e) (λb R e=>⟨#[],by rw[e];simp⟩) (λm V=>?_) (λb u e=>?_) I.bare
 ·have e:=by simpa using W
  subst e;exact⟨h1,hL,h2,h3⟩
 ·obtain⟨o,U,T,S,r⟩:=V
  exact⟨o,U,T,k _ o (ŧ hL) S,r⟩
 ·refine(I.aQ b u e).iS (λc v Z q=>k c v ?_ q) (λ_ q=>q) λ_ _ q=>q
  rcases Z with z|z
  ·rw[z];exact Y b u e
  ·exact Y c _ z
def Inv.tok (I:Inv X π σ H s) (t):Inv X π σ H { s with toks:=t }:=I.un Un.refl I.aQ
theorem Inv.kept (I:Inv X π σ H s) (k:∀b u,s.heap.get? b=ϊ u->h'.get? b=ϊ u):Inv X π σ H { s with heap:=h',toks:=t' }:=I.un (Un.kept k) (I.aQ.kept k)
theorem Inv.laid {a:ă} {o} {t'} (I:Inv X π σ H s) (k:∀b u,s.heap.get? b=ϊ u->h'.get? b=ϊ u) (hp:s.heap.objs.size<=a) (new:gF X.prog X.w (upd H a o) h' a o) :
  Inv X π σ (upd H a o) { s with heap:=h',toks:=t' }:=I.un (Un.laid k hp (I.aQ.fresh hp)) (I.aQ.laid k hp new)
theorem Inv.write (I:Inv X π σ H s) (mu:Be (H x)) (he:e=x\/H e=ϊ (.own x)) (k:∀b u,b≠e->s.heap.get? b=ϊ u->h'.get? b=ϊ u) (u7:∃u,h'.get? e=ϊ u)
 (new:gF X.prog X.w (upd H x o) h' x o):Inv X π σ (upd H x o) { s with heap:=h',toks:=t' }:=I.un (Un.write mu he k u7) (I.aQ.write mu he k u7 new)
def Inv.nZ (I:Inv X π σ H s) (h:∀p∈acu,s.heap.get? p.1=ϊ p.2/\H p.1=ϋ/\p.1≠X.env.locals/\p.1∉X.fs/\∀v,p.2.data≠.cell v):Inv X acu σ H s :=
 ⟨I.ok,I.os,I.bare,I.base,I.loc,I.cell,I.free,I.jJ,λp Z=>(þ.mp Z).elim (λz=>I.pin p (ï _ z)) (h p),I.aQ,I.len⟩
def CL {N:List Str} (hN:N.Nodup) {i j:Nat} {x} (a:N[i]?=ϊ x) (b:N[j]?=ϊ x):i=j:=by
 obtain⟨Z,e1⟩:=Ï.mp a;obtain⟨Y,e2⟩:=Ï.mp b;exact(List.getElem_inj hN).mp (e1.trans e2.symm)
def Vq {A} {E} {i} {x} {v} {u} {Q} (I:Inv X π σ H s) (hN:X.N.Nodup) (hi:X.N[i]?=ϊ x) (hx:Loc X.env.scope x) (r:RelV v u)
  (h:∀s',Inv X π (σ.set i (ϊ v)) H s'->(∃a,ĥ a s.heap s'.heap/\(a=X.env.locals\/X.env.cells.lookup x=ϊ a))->Q () s') (hf:X.fn x=ό\/X.env.scope.names.lookup x=ϊ .local:=by first|exact .inl rfl|exact .inr rfl|assumption):ê M A (storeName X.env x u) Q E s:=by
 obtain⟨m,T,D⟩:=id I.loc;have g:(X.env.scope.kind==.class||(X.env.scope.kind==.module&&X.env.locals != X.env.globals))=ύ:=by rw[I.ok.kind];rfl
 have C:i < σ.length:=by rw[I.len];exact(Ï.mp hi).1
 have kW:=I.kW;have tracked:∀{a} {h'},(∃o,s.heap.get? a=ϊ o/\H a=ϋ)->ĥ a _ h'->dF _ _ H h':=λf Z b ob e=>by
  obtain⟨_,_,B⟩:=f;refine(I.aQ b ob e).iS (λc V hc q=>(Z.2 c ?_).trans q) (λ_ q=>q) λ_ _ q=>q;rintro rfl
  rcases hc with rfl|hc
  ·rw[B] at e;cases e
  ·rw[B] at hc;cases hc
 rcases hx with hk|hk
 ·refine wpAny_storeName_local hk T (λh' l0 Z=>?_) g
  obtain⟨oL,_,_,yh,_⟩:=id T;refine h _ ⟨I.ok,I.os,I.bare,⟨λb o e n Y hx=>?_,λb o e n Y hx=>?_,I.base.free,λb o e hx=>?_,I.base.gI,I.base.fQ,I.base.gJ⟩,⟨_,l0,λj y S e1 e2 R=>?_⟩,λy c e=>?_,I.free,I.jJ,λp P=>?_,tracked ⟨oL,yh,I.free⟩ Z,by simpa using I.len⟩ ⟨_,Z,.inl rfl⟩
  ·exact(Z.2 b (ä (È (Í e) I.ok.above))).trans (I.base.keep b o e n Y hx)
  ·obtain⟨sl,e1⟩:=I.base.slot b o e n Y hx
   exact⟨sl,(Z.2 b (ä (È (Í e) I.ok.above))).trans e1⟩
  ·obtain⟨O,e1⟩:=I.base.there b o e hx
   exact⟨O,(Z.2 b (ä (È (Í e) I.ok.above))).trans e1⟩
  ·by_cases W:j=i
   ·subst W
    rw[hi] at e1;cases e1;rw[í C] at e2;cases e2;exact⟨u,r,.inl ⟨hk,by simp⟩⟩
   ·rw[ð (ŧ W)] at e2
    obtain⟨L,K,q⟩:=D j y S e1 e2 R;refine⟨L,K,?_⟩
    rcases q with ⟨k,e⟩ | ⟨k,c,e,z⟩
    ·refine .inl ⟨k,?_⟩
     have:y≠x:=λe=>W (CL hN e1 (e ▸ hi));simp[this,e]
    ·exact .inr ⟨k,c,e,z.sameBut Z (kW y c e)⟩
  ·obtain⟨V,z⟩:=I.cell y c e
   exact⟨V,z.sameBut Z (kW y c e)⟩
  ·obtain⟨e,n,ne,J,d⟩:=I.pin p P
   exact⟨(Z.2 _ ne).trans e,n,ne,J,d⟩
 ·have G:X.fn x=ό:=by
   rcases hf with z|z
   ·exact z
   ·rw[z] at hk;cases hk
  obtain⟨c,hc⟩:=I.ok.has x (.inl hk);obtain⟨V,z⟩:=I.cell x c hc;refine wpAny_storeName_cell I.ok.kind hk hc z (λh' w Z=>?_);obtain⟨oc,t,F⟩:=id z;refine h _ ⟨I.ok,I.os,I.bare,⟨λb o e n Y hx=>?_,λb o e n Y hx=>?_,I.base.free,λb o e hx=>?_,I.base.gI,I.base.fQ,I.base.gJ⟩,⟨m,T.sameBut Z (ŧ (kW x c hc)),λj y S e1 e2 R=>?_⟩,λy U e=>?_,I.free,I.jJ,λp P=>?_,tracked ⟨oc,t,I.jJ x c hc⟩ Z,by simpa using I.len⟩ ⟨c,Z,.inr hc⟩
  ·exact(Z.2 b (ä (È (Í e) (I.ok.u9 x c G hc)))).trans (I.base.keep b o e n Y hx)
  ·obtain⟨sl,e1⟩:=I.base.slot b o e n Y hx
   exact⟨sl,(Z.2 b (ä (È (Í e) (I.ok.u9 x c G hc)))).trans e1⟩
  ·obtain⟨O,e1⟩:=I.base.there b o e hx
   exact⟨O,(Z.2 b (ä (È (Í e) (I.ok.u9 x c G hc)))).trans e1⟩
  ·by_cases W:j=i
   ·subst W
    rw[hi] at e1;cases e1;rw[í C] at e2;cases e2;exact⟨u,r,.inr ⟨.inl hk,c,hc,w⟩⟩
   ·rw[ð (ŧ W)] at e2
    obtain⟨L,K,q⟩:=D j y S e1 e2 R;refine⟨L,K,?_⟩
    rcases q with q | ⟨k,U,e,z'⟩
    ·exact .inl q
    ·refine .inr ⟨k,U,e,z'.sameBut Z ?_⟩
     rintro rfl;exact W (CL hN e1 (I.ok.inj _ _ _ e hc ▸ hi))
  ·by_cases l:U=c
   ·subst l;exact⟨_,w⟩
   ·obtain⟨w2,z2⟩:=I.cell y U e
    exact⟨w2,z2.sameBut Z l⟩
  ·obtain⟨e,n,ne,J,d⟩:=I.pin p P
   refine⟨(Z.2 _ ?_).trans e,n,ne,J,d⟩;intro q;rw[q,t] at e;have q':=agX e;exact d V (by rw[<- q'];exact F)
def nV (I:Inv X π σ H s) (hN:X.N.Nodup) (hi:X.N[i]?=ϊ x) (hx:Loc X.env.scope x) (r:RelV v u)
 (h:∀s',Inv X π (σ.set i (ϊ v)) H s'->Q () s') (hf:X.fn x=ό\/X.env.scope.names.lookup x=ϊ .local:=by first|exact .inl rfl|exact .inr rfl|assumption):ê M A (storeName X.env x u) Q E s :=
 Vq I hN hi hx r (λs' Z _=>h s' Z) hf
def Inv.wX (I:Inv X π σ H s) (ho:s'.os=s.os) (u:Un (dO X.stack) ch H H' s.heap s'.heap) (aQ:dF X.prog X.w H' s'.heap) (hg:agM s'.gens)
 (nD:∀b∈ch,(b∈X.ex\/X.dS.heap.objs.size<=b)/\b≠X.env.locals/\(∀x c,X.env.cells.lookup x=ϊ c->c≠b)/\∀p∈X.pn++π,p.1≠b):Inv X π σ H' s':=by
 obtain⟨h',Z,Y,W,V⟩:=s';have e:=ho;subst e;exact I.call u aQ hg nD
end
abbrev XK:=á->Option ă->Hp->Prop
abbrev St:=List (Option V)
abbrev VK:=V->Hp->Prop
abbrev TE:=St->Hp->VK->Prop
abbrev TT:=St->Hp->(Bool->Hp->Prop)->Prop
abbrev TA:=St->Hp->(List V->Hp->Prop)->Prop
structure Ends where
 nx:St->Hp->Prop
 rt:VK
 bk:St->Hp->Prop:=λ_ _=>False
 ct:St->Hp->Prop:=λ_ _=>False
abbrev TS:=Ends->St->Hp->Prop
def EP (X:Cx) (π:List (ă×Obj)) (σ:St) (Q:VK) (u:á) (s':Û):Prop:=∃v Z,Inv X π σ Z s'/\RelV v u/\Q v Z
def TP (X:Cx) (π:List (ă×Obj)) (σ:St) (Q:Bool->Hp->Prop) (b:Bool) (s':Û):Prop:=∃Z,Inv X π σ Z s'/\Q b Z
def AP (X:Cx) (π:List (ă×Obj)) (σ:St) (Q:List V->Hp->Prop) (us:List á) (s':Û):Prop:=∃Z Y,Inv X π σ Y s'/\Vals Z us/\Q Z Y
def SP (X:Cx) (π:List (ă×Obj)) (D:Ends) (f:Flow) (s':Û):Prop :=
 match f with
 | .next=>∃ Y Z,Inv X π Y Z s'/\D.nx Y Z
 | .brk=>∃ Y Z,Inv X π Y Z s'/\D.bk Y Z
 | .cont=>∃ Y Z,Inv X π Y Z s'/\D.ct Y Z
 | .ret u=>∃v Y Z,Inv X π Y Z s'/\RelV v u/\D.rt v Z
def PE (X:Cx) (e:Ő) (t:TE):Prop :=
 ∀Z s (σ:St) H Q,Inv X Z σ H s->t σ H Q->ê (è X.prog X.w) X.A (į e X.env) (EP X Z σ Q) X.xe s
def PT (X:Cx) (e:Ő) (t:TT):Prop :=
 ∀Z s (σ:St) H Q,Inv X Z σ H s->t σ H Q->ê (è X.prog X.w) X.A (isTrue e X.env (į e X.env)) (TP X Z σ Q) X.xe s
def PW (X:Cx) (e:Ő) (t:TT):Prop :=
 ∀whole Z s (σ:St) H Q,Inv X Z σ H s->t σ H Q->ê (è X.prog X.w) X.A (isTrue e X.env whole) (TP X Z σ Q) X.xe s
def PW.pt (h:PW X e t):PT X e t:=h _
def PA (X:Cx) (es:List Ő) (t:TA):Prop :=
 ∀pos Z s (σ:St) H Q,Inv X Z σ H s->t σ H Q->ê (è X.prog X.w) X.A (spliced (İ pos (Ì es X.env))) (AP X Z σ Q) X.xe s
def PS (X:Cx) (st:Stmt) (t:TS):Prop :=
 ∀ ⦃Z⦄ s (σ:St) H D,Inv X Z σ H s->t D σ H->ê (è X.prog X.w) X.A (exec st X.env) (SP X Z D) X.xe s
def dP (X:Cx) (st:List Stmt) (t:TS):Prop :=
 ∀ ⦃Z⦄ s (σ:St) H D,Inv X Z σ H s->t D σ H->ê (è X.prog X.w) X.A (execs st X.env) (SP X Z D) X.xe s
def aW {t:Sem α} {Q Q'} {M} {A} {E} {s} (h:ê M A t Q E s) (hQ:∀a s,Q a s->Q' a s):ê M A t Q' E s:=Ė h hQ λ_ _ x=>x
section
variable {X:Cx}
def aee (i:Nat):TE:=fun σ H Q=>∃v,σ[i]?=ϊ (ϊ v)/\Q v H
def tC (v:V):TE:=λ_ H Q=>Q v H
def NZ {pos} (hN:X.N[i]?=ϊ x) (hv:se X.env.scope x) (hd:(x==("__debug__"))=ύ:=by decide) (ff:(x==("__classdict__"))=ύ:=by decide):PE X (.Name x pos) (aee i):=by
 intro W s σ H Q I h;obtain⟨v,e,h⟩:=h;obtain⟨m,V,U⟩:=I.loc;obtain⟨u,r,l⟩:=U i x v hN e hv;have fin:EP X W σ Q u s:=⟨v,H,I,r,h⟩
 rcases l with ⟨hk,T⟩ | ⟨hk,c,Z,Y⟩
 ·exact wpAny_Name (wpAny_loadName_local I.ok.kind hk V T fin) hd
 ·rcases hk with hk|hk
  ·exact wpAny_Name (wpAny_loadName_cell I.ok.kind hk Z Y fin) hd
  ·exact wpAny_Name (wpAny_loadName_free I.ok.kind hk Z Y fin ff) hd
def aam:PE X (.Constant (.int i) j pos) (tC (.int i)):=λ_ _ _ H _ I h=>wpAny_Constant_int ⟨.int i,H,I.tok _,⟨_,rfl⟩,h⟩
def ET:PE X (.Constant (.bool b) j pos) (tC (.bl b)):=λ_ _ _ H _ I h=>Constant_bool ⟨.bl b,H,I,rfl,h⟩
def aan:PE X (.Constant .none j pos) (tC .az):=λ_ _ _ H _ I h=>Constant_none ⟨.az,H,I,rfl,h⟩
def aao:PE X (.Constant (.str x) j pos) (tC (.str x)):=λ_ _ _ H _ I h=>Calls.Constant_str ⟨.str x,H,I.tok _,⟨_,rfl⟩,h⟩
def Gl (X:Cx) (x:Str):Prop:=X.env.kindOf x=ϊ .globalImplicit
def qU {π} {s} {σ:St} {H} {x} {u} {pos} {Q} (I:Inv X π σ H s) (hg:Gl X x) (hm:X.mg x=ϊ u) (h:Q u s)
  (hd:(x==("__debug__"))=ύ:=by decide):ê (è X.prog X.w) X.A (į (.Name x pos) X.env) Q E s :=
 Calls.Name_function_global I.ok.kind hg (Calls.loadGlobal_global (by rw[I.ok.glob];exact I.mod.glob.keeps I.bk) hm h) hd
def pL {E} {π} {s} {σ:St} {H} {x} {u} {pos} {Q} (I:Inv X π σ H s) (hg:Gl X x) (hm:X.mg x=ϋ) (hv:ý x=ϊ u) (h:Q u s)
  (hn:x≠"__name__":=by decide) (hd:(x==("__debug__"))=ύ:=by decide):ê (è X.prog X.w) X.A (į (.Name x pos) X.env) Q E s:=by
 obtain⟨W,Z,Y⟩:=I.mod.blt;exact Calls.Name_function_global I.ok.kind hg (Calls.loadGlobal_builtin (by rw[I.ok.glob];exact I.mod.glob.keeps I.bk) hm (by rw[I.ok.blt];exact Z.keeps I.bk) ((Y x hn).trans hv) h) hd
def Dx (hg:Gl X x) (hm:X.mg x=ϊ u) (r:RelV v u) (hd:(x==("__debug__"))=ύ:=by decide):PE X (.Name x pos) (tC v) :=
 λ_ _ _ H _ I h=>qU I hg hm ⟨v,H,I,r,h⟩ hd
def MO {u} {pos} (hg:Gl X x) (hm:X.mg x=ϋ) (hv:ý x=ϊ u) (r:RelV v u) (hn:x≠"__name__":=by decide) (hd:(x==("__debug__"))=ύ:=by decide):PE X (.Name x pos) (tC v) :=
 λ_ _ _ H _ I h=>pL I hg hm hv ⟨v,H,I,r,h⟩ hn hd
variable {a b:Ő} {ta tb:TE} {pos:Pos}
variable {tA Bi:TT} {rest:List Ő}
def eI (t u:TT):TT:=fun σ H Q=>t σ H λc Z=>if c=ό then u σ Z Q else Q ύ Z
def fU (t u:TT):TT:=fun σ H Q=>t σ H λc Z=>if c=ό then Q ό Z else u σ Z Q
def dM (t:TT):TT:=fun σ H Q=>t σ H λc Z=>Q (!c) Z
def YD (ha:PT X a tA):PW X (.BoolOp .And [a] pos) tA:=by
 intro Y Z s σ H Q I h;refine isTrue_and (aW (ha Z s σ H Q I h) λc W e=>?_)
 cases c with
 |true=>exact isTrue_and_nil e
 |false=>exact e
def aap (ha:PT X a tA):PW X (.BoolOp .Or [a] pos) tA:=by
 intro Y Z s σ H Q I h;refine isTrue_or (aW (ha Z s σ H Q I h) λc W e=>?_)
 cases c with
 |false=>exact isTrue_or_nil e
 |true=>exact e
def aaq (ha:PT X a tA) (hb:PW X (.BoolOp .And (b::rest) pos) Bi):PW X (.BoolOp .And (a::b::rest) pos) (eI tA Bi):=by
 intro U Z s σ H Q I h;refine isTrue_and (aW (ha Z s σ H _ I h) λc T ⟨Y,W,V⟩=>?_)
 cases c with
 |true=>exact hb U Z T σ Y Q W V
 |false=>exact⟨Y,W,V⟩
def acv (ha:PT X a tA) (hb:PW X (.BoolOp .Or (b::rest) pos) Bi):PW X (.BoolOp .Or (a::b::rest) pos) (fU tA Bi):=by
 intro U Z s σ H Q I h;refine isTrue_or (aW (ha Z s σ H _ I h) λc T ⟨Y,W,V⟩=>?_)
 cases c with
 |true=>exact⟨Y,W,V⟩
 |false=>exact hb U Z T σ Y Q W V
def aar (ha:PT X a tA):PT X (.UnaryOp .Not a pos) (dM tA):=by
 intro Z s σ H Q I h;exact isTrue_not (ha Z s σ H (λc Y=>Q _ Y) I h)
def acw (ta tb:TE):TE:=fun σ H Q=>ta σ H λx Z=>∃c,x=.bl c/\if c=ό then tb σ Z Q else Q (.bl ύ) Z
def aef (ta tb:TE):TE:=fun σ H Q=>ta σ H λx Z=>∃c,x=.bl c/\if c=ό then Q (.bl ό) Z else tb σ Z Q
def acx (ta:TE):TE:=fun σ H Q=>ta σ H λx Z=>∃c,x=.bl c/\Q (.bl (!c)) Z
def aas (h:PE X a t):PE X (.BoolOp op [a] pos) t:=λZ s σ H Q I hw=>BoolOp_one (h Z s σ H Q I hw)
def aat (ha:PE X a ta) (hb:PE X (.BoolOp .And (b::rest) pos) tb):PE X (.BoolOp .And (a::b::rest) pos) (acw ta tb):=by
 intro Y s σ H Q I h;refine BoolOp_and (aW (ha Y s σ H _ I h) λv U ⟨x,W,V,T,Z⟩=>?_);obtain⟨c,rfl,Z⟩:=Z;cases T;refine ŏ ?_
 cases c with
 |true=>exact hb Y U σ W Q V Z
 |false=>exact⟨.bl ύ,W,V,rfl,Z⟩
def acy (ha:PE X a ta) (hb:PE X (.BoolOp .Or (b::rest) pos) tb):PE X (.BoolOp .Or (a::b::rest) pos) (aef ta tb):=by
 intro Y s σ H Q I h;refine BoolOp_or (aW (ha Y s σ H _ I h) λv U ⟨x,W,V,T,Z⟩=>?_);obtain⟨c,rfl,Z⟩:=Z;cases T;refine ŏ ?_
 cases c with
 |false=>exact hb Y U σ W Q V Z
 |true=>exact⟨.bl ό,W,V,rfl,Z⟩
def aau (ha:PE X a ta):PE X (.UnaryOp .Not a pos) (acx ta):=by
 intro Y s σ H Q I h;refine UnaryOp_ (aW (ha Y s σ H _ I h) λv T ⟨x,W,V,U,Z⟩=>?_);obtain⟨c,rfl,Z⟩:=Z;cases U;exact not_of (ŏ ⟨.bl _,W,V,rfl,Z⟩)
def tIf (t:TT) (ta tb:TE):TE:=fun σ H Q=>t σ H λc Z=>if c=ό then ta σ Z Q else tb σ Z Q
def WM (hc:PT X c tA) (ha:PE X a ta) (hb:PE X b tb):PE X (.IfExp c a b pos) (tIf tA ta tb):=by
 intro Z s σ H Q I h;refine wpAny_IfExp (aW (hc Z s σ H _ I h) λd Y ⟨W,V,U⟩=>?_)
 cases d with
 |true=>exact ha Z Y σ W Q V U
 |false=>exact hb Z Y σ W Q V U
end
def cf (K:Ň) (H:Hp) (a:ă) (xs:List V):Prop :=
 Rd H a (.lst xs) \/
  ∃(o:Obj) (aj:Array á) (n:Nat),K.lookup a=ϊ o/\o.cls=.type "list"/\o.dict=ϋ/\o.data=.seq aj n/\aj.size<=Ô/\Vals xs aj.toList
def cb (K:Ň) (H:Hp) (a:ă) (xs:List V):Prop :=
 Rd H a (.tup xs) \/
  ∃(o:Obj) (aj:Array á) (n:Nat),K.lookup a=ϊ o/\o.cls=.type "tuple"/\o.data=.seq aj n/\aj.size<=Ô/\Vals xs aj.toList
noncomputable def aeg:á->Option V
 | .none=>ϊ .az
 | .bool b=>ϊ (.bl b)
 | .int i _=>ϊ (.int i)
 | .str x _=>ϊ (.str x)
 | .bytes b _=>ϊ (.jR b)
 | .float b _=>ϊ (.Bd b)
 | .ref a=>ϊ (.ref a)
 | .type n=>ϊ (.ty n)
 |_=>ϋ
def RelV.abs (r:RelV x u):aeg u=ϊ x:=by
 cases x with
 |az=>cases r;rfl
 |bl _=>cases r;rfl
 |int _=>obtain⟨t,rfl⟩:=r;rfl
 |str _=>obtain⟨t,rfl⟩:=r;rfl
 |jR _=>obtain⟨t,rfl⟩:=r;rfl
 |Bd _=>obtain⟨t,rfl⟩:=r;rfl
 |ref _=>cases r;rfl
 |ty _=>cases r;rfl
def RelV.inj (r:RelV x u) (q:RelV y u):x=y:=agX (r.abs.symm.trans q.abs)
theorem Vals.inj:∀{xs ys} {us},Vals xs us->Vals ys us->xs=ys
 |_,_,_,.nil,.nil=>rfl
 |_,_,_,.cons r t,.cons Z Y=>by rw[r.inj Z,Vals.inj t Y]
section
variable {X:Cx} {π:List (ă×Obj)} {σ:St} {H:Hp} {s:Û} {a:ă} {xs ys:List V}
def cf.of {K} (h:H a=ϊ (.lst xs)):cf K H a xs:=.inl (.inl h)
def cb.of {K} (h:H a=ϊ (.tup xs)):cb K H a xs:=.inl (.inl h)
def Inv.list (I:Inv X π σ H s) (h:cf X.K H a xs):∃aj,Vals xs aj/\PlainL s.heap a aj.toArray/\xs.length<=Ô:=by
 rcases h with h | ⟨o,aj,n,Z,Y,W,V,U,r⟩
 ·obtain⟨z,aj,n,r,e⟩:=h.ok I.aQ
  exact⟨aj,r,⟨_,n,e,rfl,rfl,rfl⟩,z⟩
 ·refine⟨_,r,⟨o,n,I.fT a o Z,Y,W,by simpa using V⟩,?_⟩
  have e:=r.length;erw[Ą] at e;omega
def Inv.tuple (I:Inv X π σ H s) (h:cb X.K H a xs):∃aj,Vals xs aj/\IsTup s.heap a aj.toArray/\xs.length<=Ô:=by
 rcases h with h | ⟨o,aj,n,Z,Y,W,V,r⟩
 ·obtain⟨z,aj,r,p⟩:=h.ok I.aQ
  exact⟨aj,r,p,z⟩
 ·refine⟨_,r,⟨o,I.fT a o Z,Y,n,by simpa using W⟩,?_⟩
  have e:=r.length;erw[Ą] at e;omega
def Inv.LJ (I:Inv X π σ H s) (h:cf X.K H a xs) (h':cf X.K H a ys):xs=ys:=by
 obtain⟨aj,r,⟨o,n,e,_,_,d⟩,_⟩:=I.list h;obtain⟨U,W,⟨T,S,Z,_,_,Y⟩,_⟩:=I.list h';rw[e] at Z;cases Z;rw[d] at Y
 injection Y with V _
 have:=by simpa using ı Array.toList V
 subst this;exact r.inj W
def Inv.K4 (I:Inv X π σ H s) (h:cb X.K H a xs) (h':cb X.K H a ys):xs=ys:=by
 obtain⟨aj,r,⟨o,e,_,n,d⟩,_⟩:=I.tuple h;obtain⟨U,W,⟨T,Z,_,S,Y⟩,_⟩:=I.tuple h';rw[e] at Z;cases Z;rw[d] at Y
 injection Y with V _
 have:=by simpa using ı Array.toList V
 subst this;exact r.inj W
end
noncomputable abbrev Cx.ik (X:Cx) (E:á->Û->Prop):Cx:={ X with xe:=E }
noncomputable abbrev Cx.oX (X:Cx):Cx:=X.ik λ_ _=>False
theorem Cx.Ok.ik {X:Cx} (ok:X.Ok) (E):(X.ik E).Ok :=
 ⟨ok.mod,ok.kind,ok.glob,ok.blt,ok.above,ok.inj,ok.has,ok.u9,ok.hd,ok.frames,ok.nC,ok.Q4,ok.bs,ok.jv,ok.p9,ok.AM,ok.jm,ok.lZ⟩
def Cx.Ok.og {X:Cx} {E} (ok:(X.ik E).Ok):X.Ok :=
 ⟨ok.mod,ok.kind,ok.glob,ok.blt,ok.above,ok.inj,ok.has,ok.u9,ok.hd,ok.frames,ok.nC,ok.Q4,ok.bs,ok.jv,ok.p9,ok.AM,ok.jm,ok.lZ⟩
section
variable {X:Cx} {π:List (ă×Obj)} {σ:St} {H:Hp} {s:Û} {E:á->Û->Prop}
theorem Inv.ik (I:Inv X π σ H s) (E):Inv (X.ik E) π σ H s:=⟨I.ok.ik E,I.os,I.bare,I.base,I.loc,I.cell,I.free,I.jJ,I.pin,I.aQ,I.len⟩
theorem Inv.og (I:Inv (X.ik E) π σ H s):Inv X π σ H s:=⟨I.ok.og,I.os,I.bare,I.base,I.loc,I.cell,I.free,I.jJ,I.pin,I.aQ,I.len⟩
theorem SP.og (h:SP (X.ik E) π D f s'):SP X π D f s':=by
 cases f with
 |next=>obtain⟨Y,Z,I,q⟩:=h;exact⟨_,Z,I.og,q⟩
 |brk=>obtain⟨Y,Z,I,q⟩:=h;exact⟨_,Z,I.og,q⟩
 |cont=>obtain⟨Y,Z,I,q⟩:=h;exact⟨_,Z,I.og,q⟩
 |ret u=>obtain⟨v,Y,Z,I,r,q⟩:=h;exact⟨v,_,Z,I.og,r,q⟩
theorem dP.oX {st} {t} (h:dP X.oX st t):dP X st t:=λπ s σ H D I hw =>
 Ė (h s σ H D (I.ik _) hw) (λ_ _ q=>q.og) λ_ _ z=>Ć z
end
section
variable {X:Cx} {st:Stmt} {rest:List Stmt} {t u:TS} {e:Ő} {te:TE} {pos:Pos}
def acz:TS:=λD σ H=>D.nx σ H
def aeh (t u:TS):TS:=λD σ H=>t { D with nx:=u D } σ H
def YE:dP X [] acz:=λ_ _ σ H _ I h=>wpAny_execs_nil ⟨σ,H,I,h⟩
def WN (h1:PS X st t) (h2:dP X rest u):dP X (st::rest) (aeh t u):=by
 intro V s σ H D I h;refine wpAny_execs_cons (aW (h1 s σ H _ I h) λf Z q=>?_)
 cases f with
 |next =>
  obtain⟨U,Y,W,q⟩:=q;exact h2 Z _ Y D W q
 |ret v=>exact q
 |brk=>exact q
 |cont=>exact q
def YF (h1:PS X st t):dP X [st] t:=by
 intro Z s σ H D I h;refine wpAny_execs_cons (aW (h1 s σ H D I h) λf Y q=>?_)
 cases f with
 |next=>exact wpAny_execs_nil q
 |ret v=>exact q
 |brk=>exact q
 |cont=>exact q
def Inv.quiet {σ:St} {H} {s} (I:Inv X π σ H s):interactive X.env=ύ:=by simp[interactive,I.ok.kind]
def acA (te:TE):TS:=λD σ H=>te σ H λ_ Z=>D.nx σ Z
def YG (he:PE X e te) (hs:agn e ϋ pos.line X.env=pure ύ:=by rfl):PS X (.Expr e pos) (acA te):=by
 intro Z s σ H D I h;exact wpAny_Expr_any (aW (he Z s σ H _ I h) λv U ⟨x,Y,W,T,V⟩=>⟨σ,Y,W,V⟩) I.quiet hs
def aei (te:TE):TS:=λD σ H=>te σ H D.rt
def aav (he:PE X e te):PS X (.Return (ϊ e) pos) (aei te):=by
 intro Z s σ H D I h;exact wpAny_Return_some (aW (he Z s σ H _ I h) λv T ⟨x,Y,W,V,U⟩=>⟨x,σ,Y,W,V,U⟩)
def aej (c:TT) (t u:TS):TS:=λD σ H=>c σ H λb Z=>if b=ό then t D σ Z else u D σ Z
def acB {a b} {tc} (hc:PT X c tc) (ha:dP X a t) (hb:dP X b u):PS X (.If c a b pos) (aej tc t u):=by
 intro U s σ H D I h;refine wpAny_If (aW (hc U s σ H _ I h) λd Z ⟨Y,W,V⟩=>?_)
 cases d with
 |true=>exact ha Z σ Y D W V
 |false=>exact hb Z σ Y D W V
end
abbrev TG:=V->St->Hp->(St->Hp->Prop)->Prop
abbrev qj:=List V->St->Hp->(St->Hp->Prop)->Prop
def PG (X:Cx) (target:Ő) (t:TG):Prop :=
 ∀Z s (σ:St) H v u Q,Inv X Z σ H s->RelV v u->t v σ H Q ->
  ê (è X.prog X.w) X.A (agP target X.env u) (λ_ V=>∃ Y W,Inv X Z Y W V/\Q Y W) X.xe s
def kX (X:Cx) (ts:List Ő) (t:qj):Prop :=
 ∀Z s (σ:St) H Y W Q,Inv X Z σ H s->Vals Y W->t Y σ H Q ->
  ê (è X.prog X.w) X.A (assignInOrder ((Ń ts X.env).map (·.2)) W) (λ_ T=>∃ V U,Inv X Z V U T/\Q V U) X.xe s
abbrev Qk:=V->V->V->Hp->(Hp->Prop)->Prop
def Ql (X:Cx) (t:Qk):Prop :=
 ∀Z s (σ:St) H o i v Y W u Q,Inv X Z σ H s->RelV o Y->RelV i W->RelV v u->t o i v H Q ->
  ê (è X.prog X.w) X.A (setItem Y W u) (λ_ U=>∃V,Inv X Z σ V U/\Q V) X.xe s
section
variable {X:Cx} {pos:Pos}
def ow (i:Nat):TG:=λv σ H Q=>Q (σ.set i (ϊ v)) H
def ix (hN:X.N.Nodup) (hi:X.N[i]?=ϊ x) (hx:Loc X.env.scope x) (hf:X.fn x=ό\/X.env.scope.names.lookup x=ϊ .local:=by first|exact .inl rfl|exact .inr rfl|assumption):PG X (.Name x pos) (ow i):=by
 intro Y s σ H v u Q I r h;exact wpAny_assign_Name (nV I hN hi hx r (λW Z=>⟨_,H,Z,h⟩) hf)
def FT:qj:=λZ σ H Q=>Z=[]/\Q σ H
def EU (t:TG) (u:qj):qj:=λZ σ H Q=>∃v r,Z=v::r/\t v σ H fun Y X=>u r Y X Q
def wo:kX X [] FT:=by
 intro Z s σ H Y W Q I r h;obtain⟨e,h⟩:=h;subst e;exact assignInOrder_nil ⟨σ,H,I,h⟩
def mB {es} {t} {u} (h1:PG X e t) (h2:kX X es u)
  (hs:(Ń (e::es) X.env).map (·.2)=agP e X.env::(Ń es X.env).map (·.2):=by rfl):kX X (e::es) (EU t u):=by
 intro Z s σ H R P Q I r h;obtain⟨v,O,e1,h⟩:=h;subst e1
 cases r with
 |cons r Y =>
  rw[hs];refine Ŗ (aW (h1 Z s σ H _ _ _ I r h) λ_ W ⟨V,U,T,S⟩=>?_);exact h2 Z W _ U _ _ Q T Y S
def FU (K:Ň) (n:Nat) (t:qj):TG:=λv σ H Q=>∃a Z,v=.ref a/\cb K H a Z/\Z.length=n/\t Z σ H Q
def wD {k} {n} (hc:X.calm=ό) (h:kX X es t)
 (hn:(Ń es X.env).length=n:=by rfl) (gr:(Ń es X.env).findIdx? (·.1)=ϋ:=by rfl):PG X (.Tuple es k pos) (FU X.K n t):=by
 intro Y s σ H v u Q I r hw;obtain⟨a,W,e1,V,U,hw⟩:=hw;subst e1;cases r;obtain⟨aj,Z,T,P⟩:=I.tuple V;refine assign_Tuple_tuple (I.ok.hd hc) T (by simp[hn,<- U,Z.length]) gr λO S=>?_;have R:=I.kept (t':=s.toks) λb o e=>S b o (ä (Í e)) e;exact h Y _ σ H W _ Q R (by simpa using Z) hw
def aek (to ti:TE) (t:Qk):TG:=λv σ H Q=>to σ H λo Z=>ti σ Z λi Y=>t o i v Y λX=>Q σ X
def aaw {to ti} {t} (ho:PE X o to) (hi:PE X i ti) (hs:Ql X t)
  (ha:∀v,agP (.Subscript o i pos) X.env v=(do
   let ov <- afA [v] (į o X.env)
   let iv <- afA [v,ov] (į i X.env)
   age pos
   afA [v,ov,iv] (setItem ov iv v)
   release [v,ov,iv] []):=by intro _;rfl):PG X (.Subscript o i pos) (aek to ti t):=by
 intro Z s σ H v u Q I r h;refine À (Č (aW (ho Z s σ H _ I h) λov Y ⟨x,W,V,U,T⟩=>?_));refine À (Č (aW (hi Z Y σ W _ V T) λiv S ⟨y,R,P,O,N⟩=>?_));refine À (ŗ (À (Č (aW (hs Z S σ R x y v ov iv u _ P U O r N) λ_ J ⟨M,L,K⟩=>?_))));exact wpAny_release ⟨σ,M,L,K⟩
def uJ (te:TE) (g:TG):TS:=λD σ H=>te σ H λx Z=>g x σ Z D.nx
def N0 {tg e} {te} {g} (he:PE X e te) (hg:PG X tg g) (hs:θ [tg] e pos.line X.env=pure ύ:=by rfl) (hw:ι [tg] e X.env=pure ϋ:=by rfl)
  (h1:(Ń [tg] X.env).map (·.2)=[agP tg X.env]:=by rfl):PS X (.Assign [tg] e pos) (uJ te g):=by
 intro Z s σ H D I h;refine wpAny_Assign_stores (aW (he Z s σ H _ I h) λv Y ⟨x,W,V,U,T⟩=>?_) hs hw;rw[h1];exact aW (hg Z Y σ W x v _ V U T) λ_ S q=>q
def aax {e} {te} {pos'} (hN:X.N.Nodup) (hi:X.N[i]?=ϊ x) (hx:Loc X.env.scope x) (he:PE X e te) (hs:agn e (ϊ (.Name x pos')) pos.line X.env=pure ύ:=by rfl) (hf:X.fn x=ό\/X.env.scope.names.lookup x=ϊ .local:=by first|exact .inl rfl|exact .inr rfl|assumption) :
  PS X (.Assign [.Name x pos'] e pos) (uJ te (ow i)):=by
 intro Z s σ H D I h;refine wpAny_Assign_Name (aW (he Z s σ H _ I h) λv S ⟨y,Y,W,V,U⟩=>?_) hs;exact nV W hN hi hx V (λR T=>⟨_,Y,T,U⟩) hf
def ael (i j:Nat) (ta:TA):TS:=λD σ H=>ta σ H λZ Y=>∃v w,Z=[v,w]/\D.nx ((σ.set i (ϊ v)).set j (ϊ w)) Y
def aay {x y} {a b} {ta} {px py pt} {kt k2 jw} (hc:X.calm=ό) (hN:X.N.Nodup) (hi:X.N[i]?=ϊ x) (hj:X.N[j]?=ϊ y) (fV:i≠j)
  (hx:X.env.scope.names.lookup x=ϊ .local) (hy:X.env.scope.names.lookup y=ϊ .local) (ha:PA X [a,b] ta)
  (hw:ι [.Tuple [.Name x px,.Name y py] kt pt] (.Tuple [a,b] k2 jw) X.env=pure (ϊ [x,y]))
  (hs:θ [.Tuple [.Name x px,.Name y py] kt pt] (.Tuple [a,b] k2 jw) pos.line X.env=pure ύ:=by rfl) :
  PS X (.Assign [.Tuple [.Name x px,.Name y py] kt pt] (.Tuple [a,b] k2 jw) pos) (ael i j ta):=by
 intro U s σ H D I h;refine À (ŗ ?_);refine À (Å ?_);refine À (Tuple_ (aW (ha _ U s σ H _ I h) λR W ⟨C,T,Q,P,V⟩=>?_));obtain⟨v,w,e1,V⟩:=V;subst e1;obtain⟨Z,Y,rfl,O,M⟩:∃Z Y,R=[Z,Y]/\RelV v Z/\RelV w Y:=by
  cases P with
  |cons p q =>
   cases q with
   |cons L K =>
    cases K;exact⟨_,_,rfl,p,L⟩
 refine Ď ?_ (by show 2<=Ô;decide)
 have J:Inv X U σ T { W with heap:=W.heap.push { cls:=.type "tuple",data:=.seq [Z,Y].toArray } }:=Q.kept λb o e=>Á _ e
 rw[hw];refine À (Å ?_);refine À (ů (À (unpackItems_tuple (items:=#[Z,Y]) (I.ok.hd hc) (IsTup.new _ _) λB G=>?_)));have F:=J.kept (t':=W.toks) λb o e=>G b o (ä (Í e)) e;refine À (Ŗ (af6 (nV F hN hj (.inl hy) M (λA E=>?_) (.inr hy))));refine Ŗ (af6 (nV E hN hi (.inl hx) O (λz S=>assignInOrder_nil (Å ?_)) (.inr hx)));rw[List.set_comm _ _ (ŧ fV)] at S;exact⟨_,T,S,V⟩
end
structure It where
 go:Nat->Hp->Prop
 vc:Nat->Hp->V->Hp->Prop
 stop:Nat->Hp->Prop
def gk (X:Cx) (π:List (ă×Obj)) (H:Hp) (b:ă):Prop :=
 H b=ϋ/\b≠X.env.locals/\b∉X.fs/\(b∈X.ex\/X.dS.heap.objs.size<=b)/\(∀x c,X.env.cells.lookup x=ϊ c->c≠b)/\∀p∈X.pn++π,p.1≠b
def Inv.rN {π} {σ:St} {H H'} {s} {b:ă} (I:Inv X π σ H s) (hb:s.heap.objs.size<=b) (hn:H' b=ϋ):gk X π H' b:=by
 refine⟨hn,Ř (È I.lt hb),I.AN hb,.inr (Ø I.sz hb),λx c e z=>?_,λp Z z=>?_⟩
 ·obtain⟨v,q⟩:=I.cell x c e
  exact absurd (È q.lt (by rw[z];exact hb)) (ó _)
 ·exact absurd (È (Í (I.pin p Z).1) (by rw[z];exact hb)) (ó _)
structure Turn (P) (w) (K) (tg) (J:It) (fp:List ă) (it) (tn:Nat->ū->Prop):Prop where
 mem:it∈fp
 obj:∀i h,tn i h->∀b∈fp,∃o,h.get? b=ϊ o/\∀v,o.data≠.cell v
 keep:∀i h h',tn i h->(∀b∈fp,∀o,h.get? b=ϊ o->h'.get? b=ϊ o)->tn i h'
 item:∀X,X.prog=P->X.w=w->X.K=K->X.calm=ό->∀i π s (σ:St) H E,Inv X π σ H s->(∀b∈fp,gk X π H b)->tn i s.heap->J.go i H ->
  ê (è P w) X.A (agQ (.ref it)) (λr s1=>∃u,r=ϊ u /\
   ê (è P w) X.A (ő tg (.ref it) u) (λ_ s2=>∃x H',Inv X π σ H' s2/\RelV x u/\J.vc i H x H'/\tn (i+1) s2.heap/\∀b∈fp,H' b=ϋ) E s1) E s
 done:∀X,X.prog=P->X.w=w->X.K=K->X.calm=ό->∀i π s (σ:St) H E,Inv X π σ H s->(∀b∈fp,gk X π H b)->tn i s.heap->J.stop i H ->
  ê (è P w) X.A (agQ (.ref it)) (λr s1=>r=ϋ/\Inv X π σ H s1) E s
 self:∀A i s Q E,tn i s.heap->Q (.ref it) s->ê (è P w) A (pyIter (.ref it)) Q E s
abbrev TI:=St->Hp->(It->Hp->Prop)->Prop
def Q7 (X:Cx) (π:List (ă×Obj)) (σ:St) (tg:Ő) (R:It->Hp->Prop) (iW:á) (s2:Û):Prop :=
 ∃(it:ă) (Y:List ă) (W:Nat->ū->Prop) (J:It) (Z:Hp),iW=.ref it/\Inv X π σ Z s2/\Turn X.prog X.w X.K tg J Y it W/\W 0 s2.heap/\(∀b∈Y,gk X π Z b)/\R J Z
def PI (X:Cx) (tg iter:Ő) (wi:TI):Prop :=
 ∀Z s (σ:St) H R,Inv X Z σ H s->wi σ H R ->
  ê (è X.prog X.w) X.A (į iter X.env) (λv Y=>ê (è X.prog X.w) X.A (pyIter v) (Q7 X Z σ tg R) X.xe Y) X.xe s
def wY (ho:s.heap.get? it=ϊ o) (hc:o.cls=.type n) (hd:o.data=.fields vs)
 (hn:["enumerate","zip","dict_itemiterator","dict_reverseitemiterator","odict_iterator","itertools.zip_longest","itertools.pairwise"].contains n=ύ) (hQ:Q () s):ê M A (ő tg (.ref it) u) Q E s:=by
 cases tg<;>first
  |exact Å hQ
  |(cases u<;>first
    |exact Å hQ
    |(refine À (wpAny_load ho ?_)
      rw[hc,hd]
      show ê M A (if (["enumerate","zip","dict_itemiterator","dict_reverseitemiterator","odict_iterator","itertools.zip_longest","itertools.pairwise"].contains n&&vs[0]?==ϊ _)=ό then _ else _) Q E s
      rw[Ý (by intro h;rw[hn] at h;cases h)];exact Å hQ))
noncomputable def GC (K:Ň) (a:ă):It :=
 ⟨λi H=>∃Z x,cf K H a Z/\Z[i]?=ϊ x,λi H x Y=>Y=H/\∀Z,cf K H a Z->Z[i]?=ϊ x,λi H=>∃Z,cf K H a Z/\Z.length<=i⟩
noncomputable def GD (K:Ň) (a:ă):It :=
 ⟨λi H=>∃Z x,cb K H a Z/\Z[i]?=ϊ x,λi H x Y=>Y=H/\∀Z,cb K H a Z->Z[i]?=ϊ x,λi H=>∃Z,cb K H a Z/\Z.length<=i⟩
noncomputable def yj (lo:Int) (n:Nat):It:=⟨λi _=>i<n,λi H x Z=>Z=H/\x=.int (lo+i),λi _=>n<=i⟩
def Vr {K} {tg} (a it):Turn P w K tg (GC K a) [it] it (λi h=>h.IsListIter it a i) where
 mem:=by simp
 obj:=λi h Z b Y=>by
  have e:=by simpa using Y
  subst e;obtain⟨o,e,c,d⟩:=Z;exact⟨o,e,λv z=>by rw[d] at z;cases z⟩
 keep:=λi h M Z k=>Z.at λo e=>k it ∅ o e
 item:=by
  intro X U hw T L i G s σ H E I W Z S;subst U hw T;obtain⟨F,x,V,R⟩:=S;obtain⟨aj,Q,p,D⟩:=I.list V;obtain⟨u,C,B⟩:=Q.get R;obtain⟨f0,f1,f2,O,f4,N⟩:=W it ∅;refine wpAny_pyNext_list_item Z p.isList (by simpa using C) λM J A=>?_;have y:=I.turned (t':=s.toks) (λb o Y e=>(A.2 b Y).trans e) f0 f1 O f4 N;obtain⟨o,e,c,d⟩:=id J;exact⟨u,rfl,wY e c d (by decide) ⟨x,H,y,B,⟨rfl,λq t=>by rw[I.LJ t V];exact R⟩,J,λb Y=>(W b Y).1⟩⟩
 done:=by
  intro X U hw T L i G s σ H E I W Z S;subst U hw T;obtain⟨F,V,R⟩:=S;obtain⟨aj,Q,p,D⟩:=I.list V;obtain⟨f0,f1,f2,O,f4,N⟩:=W it ∅;have n:=Q.length;exact wpAny_pyNext_list_end (I.ok.hd L) Z p.isList (by simp;omega) λM r=>⟨rfl,I.turned (λb o Y e=>r b o Y e) f0 f1 O f4 N⟩
 self:=λ_ _ _ _ _ Z h=>wpAny_pyIter_listiter Z h
def Uu {K} {tg} (a it):Turn P w K tg (GD K a) [it] it (λi h=>h.IsTupleIter it a i) where
 mem:=by simp
 obj:=λi h Z b Y=>by
  have e:=by simpa using Y
  subst e;obtain⟨o,e,c,d⟩:=Z;exact⟨o,e,λv z=>by rw[d] at z;cases z⟩
 keep:=λi h M Z k=>Z.at λo e=>k it ∅ o e
 item:=by
  intro X U hw T L i G s σ H E I W Z S;subst U hw T;obtain⟨F,x,V,R⟩:=S;obtain⟨aj,Q,p,D⟩:=I.tuple V;obtain⟨u,C,B⟩:=Q.get R;obtain⟨f0,f1,f2,O,f4,N⟩:=W it ∅;refine wpAny_pyNext_tuple_item Z (p) (by simpa using C) λM J A=>?_;have y:=I.turned (t':=s.toks) (λb o Y e=>(A.2 b Y).trans e) f0 f1 O f4 N;obtain⟨o,e,c,d⟩:=id J;exact⟨u,rfl,wY e c d (by decide) ⟨x,H,y,B,⟨rfl,λq t=>by rw[I.K4 t V];exact R⟩,J,λb Y=>(W b Y).1⟩⟩
 done:=by
  intro X U hw T L i G s σ H E I W Z S;subst U hw T;obtain⟨F,V,R⟩:=S;obtain⟨aj,Q,p,D⟩:=I.tuple V;obtain⟨f0,f1,f2,O,f4,N⟩:=W it ∅;have n:=Q.length;exact wpAny_pyNext_tuple_end (I.ok.hd L) Z (p) (by simp;omega) λM r=>⟨rfl,I.turned (λb o Y e=>r b o Y e) f0 f1 O f4 N⟩
 self:=λ_ _ _ _ _ Z h=>wpAny_pyIter_tupleiter Z h
def Uv {K} {tg} (it) (lo) (n):Turn P w K tg (yj lo n) [it] it (λi h=>IsRangeIter h it (lo+(i)*1) ((n)-(i)) 1) where
 mem:=by simp
 obj:=λi h Z b Y=>by
  have e:=by simpa using Y
  subst e;exact⟨_,Z,λv z=>by
   have J:=z;cases J⟩
 keep:=λi h U Z k=>k it ∅ _ Z
 item:=by
  intro X O hw N T i M s σ H E I V Z S;subst O hw N;obtain⟨f0,f1,f2,R,f4,Q⟩:=V it ∅;have W:=Walks.range (prog:=X.prog) (w:=X.w) (I.ok.hd T) it lo 1 n;refine W.item i s _ _ S Z λv U G F L D=>?_;obtain⟨t,rfl⟩:=F
  have C:Inv X M σ H { s with heap:=U,toks:=G }:=I.turned (λb o Y e=>D b o (by simpa using Y) e) f0 f1 R f4 Q
  refine⟨_,rfl,wY L rfl rfl (by decide) ⟨.int _,H,C,⟨t,?_⟩,⟨rfl,rfl⟩,L,λb Y=>(V b Y).1⟩⟩;rw[Int.mul_one]
 done:=by
  intro X O hw N T i M s σ H E I V Z S;obtain⟨f0,f1,f2,R,f4,Q⟩:=V it ∅;exact wpAny_pyNext_range_end (I.ok.hd T) Z (by have:n<=i:=S;omega) λU B=>⟨rfl,I.turned (λb o Y e=>B b o Y e) f0 f1 R f4 Q⟩
 self:=λ_ _ _ _ _ Z h=>afS Z h
section
variable {X:Cx} {tg:Ő}
def O5 (K:Ň) (tl:TE):TI:=fun σ H R=>tl σ H λx Z=>∃a,x=.ref a/\(∃Y,cf K Z a Y)/\R (GC K a) Z
def Qm (K:Ň) (tl:TE):TI:=fun σ H R=>tl σ H λx Z=>∃a,x=.ref a/\(∃Y,cb K Z a Y)/\R (GD K a) Z
def YH (hl:PE X l tl):PI X tg l (O5 X.K tl):=by
 intro Y s σ H R I h;refine aW (hl Y s σ H _ I h) λv Q ⟨x,W,Z,V,U⟩=>?_;obtain⟨a,e,⟨P,T⟩,q⟩:=U;subst e;cases V;obtain⟨aj,O,p,N⟩:=Z.list T;refine Š p.isList ?_;refine⟨_,_,_,_,W,rfl,Z.kept λb o e=>Á _ e,Vr a _,⟨_,Ë _ rfl,rfl,rfl⟩,λb S=>?_,q⟩;have e:=by simpa using S
 subst e;exact Z.rN (agW _) (Z.aQ.fresh (agW _))
def aaz (hl:PE X l tl):PI X tg l (Qm X.K tl):=by
 intro Y s σ H R I h;refine aW (hl Y s σ H _ I h) λv Q ⟨x,W,Z,V,U⟩=>?_;obtain⟨a,e,⟨P,T⟩,q⟩:=U;subst e;cases V;obtain⟨aj,O,p,N⟩:=Z.tuple T;refine wpAny_pyIter_tuple (p) ?_;refine⟨_,_,_,_,W,rfl,Z.kept λb o e=>Á _ e,Uu a _,⟨_,Ë _ rfl,rfl,rfl⟩,λb S=>?_,q⟩;have e:=by simpa using S
 subst e;exact Z.rN (agW _) (Z.aQ.fresh (agW _))
def LK {σ:St} {H} {s} {R} {E} {lo hi} {t u v} {tk} (I:Inv X π σ H s) (h1:-(2 ^ 62)<=lo) (h2:lo<2 ^ 62) (h3:-(2 ^ 62)<=hi) (h4:hi<2 ^ 62)
  (q:R (yj lo (hi-lo).toNat) H):ê (è X.prog X.w) X.A (pyIter (.ref s.heap.objs.size)) (Q7 X π σ tg R) E { s with heap:=s.heap.push { cls:=.type "range",data:=.fields #[.int lo t,.int hi u,.int 1 v] },toks:=tk }:=by
 refine wpAny_pyIter_range (IsRange.new ..) (small_one h1 h2 h3 h4) ?_
 have Z:Inv X π σ H { s with heap:=s.heap.push { cls:=.type "range",data:=.fields #[.int lo t,.int hi u,.int 1 v] },toks:=tk }:=I.kept λb o e=>Á _ e
 refine⟨_,_,_,_,H,rfl,
  Z.kept λb o e=>Á _ e,Uv _ lo _,?_,λb Y=>?_,q⟩
 ·have e1:lo+((0:Nat))*1=lo:=by simp
  have e2:(((hi-lo).toNat))-((0:Nat))=ŋ lo hi 1:=by rw[rangeSize_one];split<;>omega
  rw[e1,e2];exact Ë _ rfl
 ·have e:b=(s.heap.push { cls:=.type "range",data:=.fields #[.int lo t,.int hi u,.int 1 v] }).objs.size:=by simpa using Y
  subst e;exact Z.rN (agW _) (Z.aQ.fresh (agW _))
def acC (ta:TA):TI:=fun σ H R=>ta σ H λZ Y=>∃j,Z=[.int j]/\-(2 ^ 62)<=j/\j<2 ^ 62/\R (yj 0 j.toNat) Y
def acD (ta:TA):TI:=fun σ H R=>ta σ H λZ Y=>∃i j,Z=[.int i,.int j]/\(-(2 ^ 62)<=i/\i<2 ^ 62/\-(2 ^ 62)<=j/\j<2 ^ 62)/\R (yj i (j-i).toNat) Y
def Vs {p pos} (hg:Gl X "range") (hm:X.mg "range"=ϋ) (ha:PA X [a] ta) (hs:Ì [a] X.env=[(ύ,į a X.env)]:=by rfl):PI X tg (.Call (.Name "range" p) [a] [] pos) (acC ta):=by
 intro Y s σ H R I h;refine Call_ (pL I hg hm boot_range (Ħ (aW (ha pos Y s σ H _ I h) λS Q ⟨P,O,W,V,Z⟩=>?_) hs rfl));obtain⟨j,e,Z,U,q⟩:=Z;subst e
 cases V with
 |cons r T =>
  cases T;obtain⟨t,rfl⟩:=r;exact call_range_1 (LK W ⋯ ⋯ Z U (by simpa using q))
def Vt {p pos} (hg:Gl X "range") (hm:X.mg "range"=ϋ) (ha:PA X [a,b] ta) (hs:Ì [a,b] X.env=[(ύ,į a X.env),(ύ,į b X.env)]:=by rfl) (de:Ì [b] X.env=[(ύ,į b X.env)]:=by rfl) :
  PI X tg (.Call (.Name "range" p) [a,b] [] pos) (acD ta):=by
 intro W s σ H R I h;refine Call_ (pL I hg hm boot_range (Ħ (aW (ha pos W s σ H _ I h) λO N ⟨M,L,V,U,Z⟩=>?_) (by rw[hs,de]) (by rw[de];rfl)));obtain⟨i,j,e,⟨Z,T,S,Q⟩,q⟩:=Z;subst e
 cases U with
 |cons r Y =>
  cases Y with
  |cons P Y =>
   cases Y;obtain⟨t,rfl⟩:=r;obtain⟨K,rfl⟩:=P;exact call_range_2 (LK V Z T S Q q)
def Qn (wi:TI) (g:TG) (tb:TS):TS:=λD σ H=>wi σ H λJ V=>∃W:Nat->Nat->St->Hp->Prop,(∃m,W 0 m σ V)/\∀i m σ H,W i m σ H ->
 (J.stop i H/\D.nx σ H)\/(J.go i H/\∃N,(∀ Y Z,N Y Z->∃X,X < m/\W (i+1) X Y Z)/\∀x Z,J.vc i H x Z->g x σ Z fun U T=>tb { D with nx:=N,ct:=N,bk:=D.nx } U T)
noncomputable def t5 (fp:List ă) (h:ū):List (ă×Obj):=fp.filterMap λb=>(h.get? b).map λo=>(b,o)
def sY (hb:b∈fp) (e:h.get? b=ϊ o):(b,o)∈t5 fp h:=afB.mpr ⟨b,hb,by rw[e];rfl⟩
def K5 (hp:p∈t5 fp h):p.1∈fp/\h.get? p.1=ϊ p.2:=by
 obtain⟨b,Z,e⟩:=afB.mp hp
 cases q:h.get? b with
 |none=>rw[q] at e;cases e
 |some o =>
  rw[q] at e;have Y:=agX e;subst Y;exact⟨Z,q⟩
def Inv.pinned {σ:St} {H} {s} {fp} (I:Inv X π σ H s) (hf:∀b∈fp,gk X π H b) (ho:∀b∈fp,∃o,s.heap.get? b=ϊ o/\∀v,o.data≠.cell v):Inv X (π++t5 fp s.heap) σ H s :=
 I.nZ λp W=>(þ.mp W).elim (λz=>I.pin p (Î _ z)) λz=>by
  obtain⟨Z,e⟩:=K5 z;obtain⟨f0,f1,f2,_⟩:=hf _ Z;obtain⟨o,Y,d⟩:=ho _ Z;rw[e] at Y;cases Y;exact⟨e,f0,f1,f2,d⟩
def Inv.nW {σ:St} {H} {s} (I:Inv X (π++pl) σ H s):Inv X π σ H s:=I.nZ λp Z=>I.pin p (Î _ (ï _ Z))
def aaA {body} {wi} {g} {tb} {pos} (hp:PassesOwn (è X.prog X.w) X.A X.env X.xe) (hc:X.calm=ό) (hi:PI X tg iter wi) (hg:PG X tg g) (hb:dP X body tb)
  (hs:∀x,Ā iter X.env x=pure x:=by intro _;rfl):PS X (.For tg iter body [] pos) (Qn wi g tb):=by
 intro S s σ H D I h;refine wpAny_For (aW (hi S s σ H _ I h) λv s1 q=>aW q λiW s2 p=>?_) hs;obtain⟨it,O,G,J,l,e,k,T,j,f2,W,⟨m0,c⟩,turn⟩:=p;subst e;have stat:∀{V},(∀b∈O,V b=ϋ)->∀b∈O,gk X S V b:=λa b hb=>⟨a b hb,(f2 b hb).2⟩;refine codeAny_forLoop_any (λn F=>∃i Q V,Inv X S Q V F/\G i F.heap/\(∀b∈O,V b=ϋ)/\W i n Q V) ?_ m0 ⟨0,σ,l,k,j,λb hb=>(f2 b hb).1,c⟩;intro n E zzz;obtain⟨i,Q8,M,C,B,z,w3⟩:=zzz
 rcases turn i n _ M w3 with ⟨stop,qn⟩ | ⟨go,N,hN,step⟩
 ·refine afC hp (aW (T.done X rfl rfl rfl hc i S E _ M _ C (stat z) B stop) λr s4 ⟨L,I4⟩=>?_)
  subst L;exact wpAny_execs_nil ⟨_,M,I4,qn⟩
 ·refine afC hp (aW (T.item X rfl rfl rfl hc i S E _ M _ C (stat z) B go) λr s4 ⟨u,L,h4⟩=>?_)
  subst L;refine afC hp (aW h4 λ_ s5 ⟨x,y,I5,r5,y5,K,yk⟩=>?_);have yl:=I5.pinned (stat yk) (T.obj _ _ K);refine afC hp (aW (hg _ s5 _ y x u _ yl r5 (step x y y5)) λ_ s6 ⟨σ6,H6,I6,q6⟩=>?_);refine afC hp (aW (hb s6 _ H6 _ I6 q6) λf t U=>?_);have again:∀{R} {Z},Inv X _ _ Z t->N _ Z->∃m,m<n/\∃i Q V,Inv X S Q V t/\G i _/\(∀b∈O,V b=ϋ)/\W i m Q V:=λ{R Z} Y P=>by
   obtain⟨m',hm,w7⟩:=hN _ Z P;refine⟨m',hm,_,R,Z,Y.nW,T.keep _ _ _ K λb hb o e=>(Y.pin _ (Î _ (Î _ (sY hb e)))).1,λb hb=>?_,w7⟩;obtain⟨o,e,d⟩:=T.obj _ _ K b hb;exact(Y.pin _ (Î _ (Î _ (sY hb e)))).2.1
  cases f with
  |next=>obtain⟨R,Z,Y,P⟩:=U;exact again Y P
  |cont=>obtain⟨R,Z,Y,P⟩:=U;exact again Y P
  |brk=>obtain⟨R,Z,Y,U⟩:=U;exact⟨_,Z,Y.nW,U⟩
  |ret v=>obtain⟨x7,R,Z,Y,r7,U⟩:=U;exact⟨x7,_,Z,Y.nW,r7,U⟩
end
abbrev R2:=V->V->Hp->VK->Prop
def bP (X:Cx) (f:á->á->Sem á) (r:R2):Prop :=
 ∀Z s (σ:St) H x y v u Q,Inv X Z σ H s->RelV x v->RelV y u->r x y H Q ->
  ê (è X.prog X.w) X.A (f v u) (EP X Z σ Q) X.xe s
def ym (X:Cx) (f:á->Sem á) (r:V->Hp->VK->Prop):Prop :=
 ∀Z s (σ:St) H x v Q,Inv X Z σ H s->RelV x v->r x H Q ->
  ê (è X.prog X.w) X.A (f v) (EP X Z σ Q) X.xe s
def dh (X:Cx) (f:á) (r:List V->Hp->VK->Prop):Prop :=
 ∀Z s (σ:St) H Y W Q,Inv X Z σ H s->Vals Y W->r Y H Q ->
  ê (è X.prog X.w) X.A (call f W) (EP X Z σ Q) X.xe s
def aem (X:Cx) (r:V->Hp->(Bool->Hp->Prop)->Prop):Prop :=
 ∀Z s (σ:St) H x v Q,Inv X Z σ H s->RelV x v->r x H Q ->
  ê (è X.prog X.w) X.A (truthy v) (TP X Z σ Q) X.xe s
def yn (r:R2) (ta tb:TE):TE:=fun σ H Q=>ta σ H λx Z=>tb σ Z λy Y=>r x y Y Q
def tUn (r:V->Hp->VK->Prop) (ta:TE):TE:=fun σ H Q=>ta σ H λx Z=>r x Z Q
def rI (C:Int->Int->Prop) (g:Int->Int->V):R2:=λx y H Q=>∃i j,x=.int i/\y=.int j/\C i j/\Q (g i j) H
def sj (g:Int->Int->V):R2:=λx y H Q=>∃i j,x=.int i/\y=.int j/\Q (g i j) H
def rU (g:Int->V):V->Hp->VK->Prop:=λx H Q=>∃i,x=.int i/\Q (g i) H
section
variable {X:Cx} {a b c:Ő} {ta tb tc:TE} {pos:Pos}
def FV (ha:PE X a ta) (hb:PE X b tb) {π} {s} {σ:St} {H} {R:V->V->Hp->Prop} (I:Inv X π σ H s)
  (h:ta σ H λx H1=>tb σ H1 λy H2=>R x y H2) {Q} {f:á->á->Sem á}
  (hf:∀v u s2 x y H2,Inv X π σ H2 s2->RelV x v->RelV y u->R x y H2->ê (è X.prog X.w) X.A (f v u) Q X.xe s2) :
  ê (è X.prog X.w) X.A (į a X.env) (λv cm=>ê (è X.prog X.w) X.A (į b X.env) (λu uK=>ê (è X.prog X.w) X.A (f v u) Q X.xe uK) X.xe cm) X.xe s:=by
 refine aW (ha π s σ H _ I h) λv Z ⟨x,H1,Y,W,U⟩=>?_;refine aW (hb π Z σ H1 _ Y U) λu s2 ⟨y,H2,T,S,P⟩=>?_;exact hf v u s2 x y H2 T W S P
def acE (ho:bP X (Ľ op) r) (ha:PE X a ta) (hb:PE X b tb):PE X (.BinOp a op b pos) (yn r ta tb):=by
 intro Z s σ H Q I h;exact wpAny_BinOp (FV ha hb I h λv u Y x y W V U T q=>ho Z Y σ W x y v u Q V U T q)
def acF {r} (ho:ym X (unaryOp op) r) (ha:PE X a ta):PE X (.UnaryOp op a pos) (tUn r ta):=by
 intro Z s σ H Q I h;exact UnaryOp_ (aW (ha Z s σ H _ I h) λv Y ⟨x,W,V,U,T⟩=>ho Z Y σ W x v Q V U T)
def Bj {C} {g:Int->Int->Int}
 (rule:∀i j t u s Q E,C i j->Q (.int (g i j) s.toks) { s with toks:=s.toks+1 }->ê (è X.prog X.w) X.A (f (.int i t) (.int j u)) Q E s) :
  bP X f (rI C λi j=>.int (g i j)):=by
 intro U s σ H x y v u Q I Z Y h;obtain⟨i,j,rfl,rfl,W,q⟩:=h;obtain⟨t,rfl⟩:=Z;obtain⟨V,rfl⟩:=Y;exact rule i j t V s _ _ W ⟨.int _,H,I.tok _,⟨_,rfl⟩,q⟩
def Qo {g:Int->Int->Int}
 (rule:∀i j t u s Q E,Q (.int (g i j) s.toks) { s with toks:=s.toks+1 }->ê (è X.prog X.w) X.A (f (.int i t) (.int j u)) Q E s) :
  bP X f (sj λi j=>.int (g i j)):=by
 intro V s σ H x y v u Q I Z Y h;obtain⟨i,j,rfl,rfl,q⟩:=h;obtain⟨t,rfl⟩:=Z;obtain⟨W,rfl⟩:=Y;exact rule i j t W s _ _ ⟨.int _,H,I.tok _,⟨_,rfl⟩,q⟩
def FW {g:Int->Int->Bool}
 (rule:∀i j t u s Q E,Q (.bool (g i j)) s->ê (è X.prog X.w) X.A (f (.int i t) (.int j u)) Q E s) :
  bP X f (sj λi j=>.bl (g i j)):=by
 intro V s σ H x y v u Q I Z Y h;obtain⟨i,j,rfl,rfl,q⟩:=h;obtain⟨t,rfl⟩:=Z;obtain⟨W,rfl⟩:=Y;exact rule i j t W s _ _ ⟨.bl _,H,I,rfl,q⟩
def aen (i j:Int):Prop:=0<j/\j<1073741824
def aeo (i j:Int):Prop:=0<=j/\j<=1000000/\i.natAbs<2 ^ 64
def AO (i j:Int):Prop:=(-(2 ^ 64)<i/\i<2 ^ 64)\/(-(2 ^ 64)<j/\j<2 ^ 64)
def AO.ok (h:AO i j):IntMulOk i j:=by
 rcases h with ⟨Z,Y⟩ | ⟨Z,Y⟩
 ·exact .of_left (intBits_le_64 Z Y)
 ·exact .of_right (intBits_le_64 Z Y)
def aaB:bP X (Ľ .Add) (sj λi j=>.int (i+j)):=Qo λ_ _ _ _ _ _ _ q=>add_int q
def aaC:bP X (Ľ .Sub) (sj λi j=>.int (i-j)):=Qo λ_ _ _ _ _ _ _ q=>sub_int q
def aaD:bP X (Ľ .Mult) (rI AO λi j=>.int (i*j)):=Bj λ_ _ _ _ _ _ _ Z q=>mul_int q Z.ok
def YI:bP X (Ľ .FloorDiv) (rI aen λi j=>.int (i / j)):=Bj λi j _ _ _ _ _ Z q=>by
 have Y:=Z.1;have W:=Z.2;exact floordiv_int ⋯ (by rw[Int.fdiv_eq_ediv_of_nonneg i ⋯];exact q) (.inl (PyProof.noPylong_small ⋯))
def aaE:bP X (Ľ .Mod) (rI (λ_ j=>0<j) λi j=>.int (i % j)):=Bj λi j _ _ _ _ _ Z q=>by
 exact mod_int' ⋯ (by rw[Int.fmod_eq_emod_of_nonneg i ⋯];exact q)
def aaF:bP X (Ľ .Pow) (rI aeo λi j=>.int (i ^ j.toNat)):=Bj λ_ _ _ _ _ _ _ Z q=>pow_int_small Z.1 Z.2.1 Z.2.2 q
def unI {g:Int->Int}
 (rule:∀i t s Q E,Q (.int (g i) s.toks) { s with toks:=s.toks+1 }->ê (è X.prog X.w) X.A (f (.int i t)) Q E s) :
  ym X f (rU λi=>.int (g i)):=by
 intro Y s σ H x v Q I Z h;obtain⟨i,rfl,q⟩:=h;obtain⟨t,rfl⟩:=Z;exact rule i t s _ _ ⟨.int _,H,I.tok _,⟨_,rfl⟩,q⟩
def aaG:ym X (unaryOp .USub) (rU λi=>.int (-i)):=unI λ_ _ _ _ _ q=>neg_int q
end
noncomputable def FX:V->V->Bool
 | .az,.az=>ό | .az,.int _=>ό | .int _,.az=>ό | .az,.bl _=>ό | .bl _,.az=>ό | .az,.str _=>ό | .str _,.az=>ό
 | .int _,.int _=>ό | .bl _,.bl _=>ό | .str _,.str _=>ό | .jR _,.jR _=>ό
 | .int _,.str _=>ό | .str _,.int _=>ό | .bl _,.str _=>ό | .str _,.bl _=>ό
 |_,_=>ύ
def rEq:R2:=λx y H Q=>FX x y=ό/\Q (.bl (ώ (x=y))) H
def rNe:R2:=λx y H Q=>FX x y=ό/\Q (.bl (!ώ (x=y))) H
def MP:ώ (V.int i=V.int j)=(i==j):=by
 rw[Ġ];simp
def N1:ώ (V.bl i=V.bl j)=(i==j):=by
 rw[Ġ];simp
def Dy:ώ (V.str i=V.str j)=(i==j):=by
 rw[Ġ];simp
def MQ:ώ (V.jR i=V.jR j)=(i.toList==j.toList):=by
 rw[Ġ];cases i;cases j;simp
section
variable {X:Cx} {a b c:Ő} {ta tb tc:TE} {pos:Pos}
def dg {σ:St} {H} {s} {Q} {k k'} (I:Inv X π σ H s) (q:Q (.bl k) H) (e:k=k'):EP X π σ Q (.bool k') s:=by
 subst e;exact⟨.bl k,H,I,rfl,q⟩
def acG:bP X (đ .Eq) rEq:=by
 intro T s σ H x y v u Q I U Z h;obtain⟨V,q⟩:=h
 cases x with
 |az =>
  cases U
  cases y with
  |az=>cases Z;exact PySem.EqNone.eq_none_none (dg I q ∅)
  |bl j=>cases Z;exact PySem.EqNone.eq_none_bool (dg I q ∅)
  |int j=>obtain⟨Y,rfl⟩:=Z;exact PySem.EqNone.eq_none_int (dg I q ∅)
  |str j=>obtain⟨Y,rfl⟩:=Z;exact PySem.EqNone.eq_none_str (dg I q ∅)
  |_=>exact absurd (show ύ=ό from V) Ú
 |bl i =>
  cases U
  cases y with
  |az=>cases Z;exact PySem.EqNone.eq_bool_none (dg I q ∅)
  |bl j=>cases Z;exact eq_bool (dg I q N1)
  |str j=>obtain⟨Y,rfl⟩:=Z;exact PySem.EqMixed.eq_bool_str (dg I q ∅)
  |_=>exact absurd (show ύ=ό from V) Ú
 |int i =>
  obtain⟨t,rfl⟩:=U
  cases y with
  |az=>cases Z;exact PySem.EqNone.eq_int_none (dg I q ∅)
  |int j=>obtain⟨Y,rfl⟩:=Z;exact eq_int (dg I q MP)
  |str j=>obtain⟨Y,rfl⟩:=Z;exact PySem.EqMixed.eq_int_str (dg I q ∅)
  |_=>exact absurd (show ύ=ό from V) Ú
 |str i =>
  obtain⟨t,rfl⟩:=U
  cases y with
  |az=>cases Z;exact PySem.EqNone.eq_str_none (dg I q ∅)
  |bl j=>cases Z;exact PySem.EqMixed.eq_str_bool (dg I q ∅)
  |int j=>obtain⟨Y,rfl⟩:=Z;exact PySem.EqMixed.eq_str_int (dg I q ∅)
  |str j=>obtain⟨Y,rfl⟩:=Z;exact eq_str (dg I q Dy)
  |_=>exact absurd (show ύ=ό from V) Ú
 |jR i =>
  obtain⟨t,rfl⟩:=U
  cases y with
  |jR j=>obtain⟨Y,rfl⟩:=Z;exact PySem.W.eq_bytes (dg I q MQ)
  |_=>exact absurd (show ύ=ό from V) Ú
 |_=>cases y<;>exact absurd (show ύ=ό from V) Ú
def O6:bP X (đ .NotEq) rNe:=by
 intro T s σ H x y v u Q I U Z h;obtain⟨V,q⟩:=h
 cases x with
 |az =>
  cases U
  cases y with
  |az=>cases Z;exact PySem.EqNone.ne_none_none (dg I q ∅)
  |bl j=>cases Z;exact PySem.EqNone.ne_none_bool (dg I q ∅)
  |int j=>obtain⟨Y,rfl⟩:=Z;exact PySem.EqNone.ne_none_int (dg I q ∅)
  |str j=>obtain⟨Y,rfl⟩:=Z;exact PySem.EqNone.ne_none_str (dg I q ∅)
  |_=>exact absurd (show ύ=ό from V) Ú
 |bl i =>
  cases U
  cases y with
  |az=>cases Z;exact PySem.EqNone.ne_bool_none (dg I q ∅)
  |bl j=>cases Z;exact ne_bool (dg I q (ı not N1))
  |str j=>obtain⟨Y,rfl⟩:=Z;exact PySem.EqMixed.ne_bool_str (dg I q ∅)
  |_=>exact absurd (show ύ=ό from V) Ú
 |int i =>
  obtain⟨t,rfl⟩:=U
  cases y with
  |az=>cases Z;exact PySem.EqNone.ne_int_none (dg I q ∅)
  |int j=>obtain⟨Y,rfl⟩:=Z;exact ne_int (dg I q (ı not MP))
  |str j=>obtain⟨Y,rfl⟩:=Z;exact PySem.EqMixed.ne_int_str (dg I q ∅)
  |_=>exact absurd (show ύ=ό from V) Ú
 |str i =>
  obtain⟨t,rfl⟩:=U
  cases y with
  |az=>cases Z;exact PySem.EqNone.ne_str_none (dg I q ∅)
  |bl j=>cases Z;exact PySem.EqMixed.ne_str_bool (dg I q ∅)
  |int j=>obtain⟨Y,rfl⟩:=Z;exact PySem.EqMixed.ne_str_int (dg I q ∅)
  |str j=>obtain⟨Y,rfl⟩:=Z;exact ne_str (dg I q (ı not Dy))
  |_=>exact absurd (show ύ=ό from V) Ú
 |jR i =>
  obtain⟨t,rfl⟩:=U
  cases y with
  |jR j=>obtain⟨Y,rfl⟩:=Z;exact PySem.W.ne_bytes (dg I q (ı not MQ))
  |_=>exact absurd (show ύ=ό from V) Ú
 |_=>cases y<;>exact absurd (V) Ú
def acH:bP X (đ .LtE) (sj λi j=>.bl (ώ (i<=j))):=FW λ_ _ _ _ _ _ _ q=>le_int q
def acI:bP X (đ .Gt) (sj λi j=>.bl (ώ (j<i))):=FW λ_ _ _ _ _ _ _ q=>gt_int q
def acJ:bP X (đ .GtE) (sj λi j=>.bl (ώ (j<=i))):=FW λ_ _ _ _ _ _ _ q=>ge_int q
def Vu:bP X (đ .In) (λx y H Q=>∃i j,x=.str i/\y=.str j/\Q (.bl (!(Ō j i 0 j.length 1).isEmpty)) H):=by
 intro W s σ H x y v u Q I Z Y h;obtain⟨i,j,rfl,rfl,q⟩:=h;obtain⟨t,rfl⟩:=Z;obtain⟨V,rfl⟩:=Y;exact in_str (dg I q rfl)
def aaH:bP X (đ .Is) (λx y H Q=>y=.az/\Q (.bl (ώ (x=.az))) H):=by
 intro W s σ H x y v u Q I Z Y h;obtain⟨rfl,q⟩:=h;cases Y;refine is_none_gen (dg I q ?_)
 cases x<;>first
  |(rfl)
  |(obtain⟨t,rfl⟩:=Z;rfl)
def YJ:bP X (đ .IsNot) (λx y H Q=>y=.az/\Q (.bl (!ώ (x=.az))) H):=by
 intro W s σ H x y v u Q I Z Y h;obtain⟨rfl,q⟩:=h;cases Y;refine isnot_none_gen (dg I q ?_)
 cases x<;>first
  |(rfl)
  |(obtain⟨t,rfl⟩:=Z;rfl)
def ba (b) (h:op≠.In:=by decide) (h2:op≠.NotIn:=by decide):afD op b=ύ:=by
 have e1:(op==CmpOp.In)=ύ:=by cases op<;>first|rfl|exact absurd rfl h
 have e2:(op==CmpOp.NotIn)=ύ:=by cases op<;>first|rfl|exact absurd rfl h2
 cases b<;>simp[afD,e1,e2]
def YK (ho:bP X (đ op) r) (ha:PE X a ta) (hb:PE X b tb) (hm:afD op b=ύ):PE X (.Compare a [op] [b] pos) (yn r ta tb):=by
 intro Z s σ H Q I h;exact wpAny_Compare1 (FV ha hb I h λv u Y x y W V U T q=>ho Z Y σ W x y v u Q V U T q) hm
def Aw (t:TE):TT:=fun σ H Q=>t σ H λx Z=>∃k,x=.bl k/\Q k Z
def YL (ho:bP X (đ op) r) (ha:PE X a ta) (hb:PE X b tb) (hm:afD op b=ύ):PT X (.Compare a [op] [b] pos) (Aw (yn r ta tb)):=by
 intro Z s σ H Q I h;refine wpAny_isTrue_Compare1 (aW (ha Z s σ H _ I h) λv Y ⟨x,W,V,U,T⟩=>aW (hb Z Y σ W _ V T) λu S ⟨y,R,P,O,N⟩ =>
  aW (ho Z S σ R x y v u _ P U O N) λc G ⟨z,M,L,K,k,e,J⟩=>?_) hm
 subst e;cases K;exact ŏ ⟨M,L,J⟩
def N2 (r r':R2) (ta tb tc:TE):TE:=fun σ H Q=>ta σ H λx Y=>tb σ Y λy X=>r x y X λz Z=>∃k,z=.bl k /\
 (if k=ό then tc σ Z λW V=>r' y W V Q else Q (.bl ύ) Z)
def WO {r r'} (ho:bP X (đ op) r) (iJ:bP X (đ yo) r') (ha:PE X a ta) (hb:PE X b tb) (hc:PE X c tc)
  (hm:lastMarks [op,yo] [b,c]=ύ:=by with_unfolding_all rfl):PE X (.Compare a [op,yo] [b,c] pos) (N2 r r' ta tb tc):=by
 intro Z s σ H Q I h;refine Compare_chain (aW (ha Z s σ H _ I h) λv T ⟨x,S,R,P,O⟩=>chain_link (aW (hb Z T σ S _ R O) λu N ⟨y,M,L,Y,K⟩ =>
  aW (ho Z N σ M x y v u _ L P Y K) λd J ⟨z,W,V,G,k,e,U⟩=>?_)) hm
 subst e;cases G;refine ŏ ?_
 cases k with
 |false=>exact ite_ff ⟨.bl ύ,W,V,rfl,U⟩
 |true=>exact ite_tt (chain_last (aW (hc Z J σ W _ V U) λF E ⟨D,C,B,A,w⟩=>iJ Z E σ C y D u F Q B Y A w))
def rP (K:Ň) (x:V) (H:Hp) (k:Bool):Prop :=
 match x with
 | .az=>k=ύ
 | .bl b=>k=b
 | .int i=>k=(i != 0)
 | .str y=>y.length<=Ô/\k=((y.length:Int) != 0)
 | .jR y=>y.size<=Ô/\k=((y.size:Int) != 0)
 | .ref p=>(∃Z,cf K H p Z/\k=!Z.isEmpty)\/(∃Z,cb K H p Z/\k=!Z.isEmpty)\/∃Y,H p=ϊ (.dK Y)/\k=!Y.isEmpty
 |_=>False
def Uw {bx:List (κ×V)} {vs} (r:KV bx vs):(!vs.isEmpty)=!bx.isEmpty:=by
 cases r<;>rfl
def Kw (r:Vals xs aj):(!aj.toArray.isEmpty)=!xs.isEmpty:=by
 cases r<;>simp
def ra:(Ô)<2 ^ 63:=by decide
def Eh:aem X (λx H Q=>∃k,rP X.K x H k/\Q k H):=by
 intro J s σ H x v Q I U h;obtain⟨k,e,q⟩:=h;have G:=ra;have F:Ô=16777216:=afW
 cases x with
 |az =>
  cases U;have Z:k=ύ:=e;subst Z;exact truthy_none ⟨H,I,q⟩
 |bl b =>
  cases U;have Z:k=b:=e;subst Z;exact ŏ ⟨H,I,q⟩
 |int i =>
  obtain⟨t,rfl⟩:=U;have Z:k=(i != 0):=e;subst Z;exact PySem.P.truthy_int ⟨H,I,q⟩
 |str y =>
  obtain⟨t,rfl⟩:=U;obtain⟨M,Z⟩:y.length<=Ô/\k=((y.length:Int) != 0):=e;subst Z;exact PySem.P.truthy_str ⋯ ⟨H,I.tok _,q⟩
 |jR y =>
  obtain⟨t,rfl⟩:=U;obtain⟨M,Z⟩:y.size<=Ô/\k=((y.size:Int) != 0):=e;subst Z;exact PySem.W.truthy_bytes ⋯ ⟨H,I.tok _,q⟩
 |ref p =>
  cases U;have Z:(∃V,cf X.K H p V/\k=!V.isEmpty)\/(∃V,cb X.K H p V/\k=!V.isEmpty)\/∃T,H p=ϊ (.dK T)/\k=!T.isEmpty:=e
  rcases Z with ⟨V,S,Z⟩ | ⟨V,S,Z⟩ | ⟨T,S,Z⟩
  ·subst Z
   obtain⟨aj,r,O,N⟩:=I.list S;have Y:=r.length;exact wpAny_truthy_list O.isList (by erw[ã];omega) ⟨H,I.tok _,by rw[Kw r];exact q⟩
  ·subst Z
   obtain⟨aj,r,O,N⟩:=I.tuple S;have Y:=r.length;exact truthy_tuple O (by erw[ã];omega) ⟨H,I.tok _,by rw[Kw r];exact q⟩
  ·subst Z
   obtain⟨N,L,R,r,m⟩:T.length<=Ô/\(p==sysModules)=ύ/\∃R,KV T R/\s.heap.DictOf (zJ X.prog X.w) p R:=I.aQ p _ S;have Y:T.length=R.length:=Paired.length r;exact wpAny_truthy_dict L m ⋯ ⟨H,I.tok _,by rw[Uw r];exact q⟩
 |_=>exact(show False from e).elim
def WQ (ha:PE X a ta) (he:∀whole,isTrue a X.env whole=(do let v <- whole;age a.pos;afA [v] (truthy v))) :
  PT X a (fun σ H Q=>ta σ H λx H'=>∃k,rP X.K x H' k/\Q k H'):=by
 intro Z s σ H Q I h;exact isTrue_plain (aW (ha Z s σ H _ I h) λv Y ⟨x,W,V,U,T⟩=>Eh Z Y σ W x v Q V U T) (he _)
def Ux:bP X (Ľ .Add) (λx y H Q=>∃i j,x=.str i/\y=.str j/\i.length+j.length<=Ô/\Q (.str (i++j)) H):=by
 intro U s σ H x y v u Q I Z Y h;obtain⟨i,j,rfl,rfl,W,q⟩:=h;obtain⟨t,rfl⟩:=Z;obtain⟨V,rfl⟩:=Y;exact add_str (λV T=>⟨.str _,H,I.tok _,⟨_,rfl⟩,q⟩) W
def vals1 (r:Vals [x] us):∃u,us=[u]/\RelV x u:=by
 cases r with
 |cons Z Y=>cases Y;exact⟨_,rfl,Z⟩
def vals2 (r:Vals [x,y] us):∃u w',us=[u,w']/\RelV x u/\RelV y w':=by
 cases r with
 |cons Z Y =>
  cases Y with
  |cons X W=>cases W;exact⟨_,_,rfl,Z,X⟩
def Vv (hc:X.calm=ό):dh X (.builtin "max") (λxs H Q=>∃i j,xs=[.int i,.int j]/\Q (.int (if j > i then j else i)) H):=by
 intro Y s σ H xs W Q I r h;obtain⟨i,j,rfl,q⟩:=h;obtain⟨u,V,rfl,⟨t,rfl⟩,⟨U,rfl⟩⟩:=vals2 r;refine max_two_ints (I.ok.hd hc) λT S k=>⟨_,H,I.kept k,?_,q⟩;by_cases Z:j > i
 ·rw[Ö Z,Ö Z];exact⟨_,rfl⟩
 ·rw[Ý Z,Ý Z];exact⟨_,rfl⟩
def Vw (hc:X.calm=ό):dh X (.builtin "min") (λxs H Q=>∃i j,xs=[.int i,.int j]/\Q (.int (if j<i then j else i)) H):=by
 intro Y s σ H xs W Q I r h;obtain⟨i,j,rfl,q⟩:=h;obtain⟨u,V,rfl,⟨t,rfl⟩,⟨U,rfl⟩⟩:=vals2 r;refine min_two_ints (I.ok.hd hc) λT S k=>⟨_,H,I.kept k,?_,q⟩;by_cases Z:j<i
 ·rw[Ö Z,Ö Z];exact⟨_,rfl⟩
 ·rw[Ý Z,Ý Z];exact⟨_,rfl⟩
def Tc:dh X (.type "str") (λxs H Q=>∃i,xs=[.int i]/\i.natAbs.log2<1920/\Q (.str (toString i)) H):=by
 intro Y s σ H xs W Q I r h;obtain⟨i,rfl,Z,q⟩:=h;obtain⟨u,rfl,t,rfl⟩:=vals1 r;exact PySem.P.str_of_int Z ⟨.str _,H,I.tok _,⟨_,rfl⟩,q⟩
end
structure rQ (h:ū) (x dx C) (mA):Prop where
 obj:h.get? x=ϊ (ź C dx)
 ns:h.Ns1 dx mA
 ne:dx≠x
def Vx {h:ū} {dx} {mA} (n:h.Ns1 dx mA):∃od,h.get? dx=ϊ od/\∀name,υ name od=ϊ (mA name):=by
 obtain⟨o,Y,R,X,W,V,_,U⟩:=n;refine⟨o,X,λname=>?_⟩;have e:=U name;delta nsFind findBy at e;rw[<- Array.find?_toList] at e;delta υ;rw[W];dsimp only;split
 ·rename_i y q
  rw[q] at e;exact ı ϊ e
 ·rename_i q
  rw[q] at e;have a:Y.toList.any (·.refKey)=ύ:=by
   rw[š];intro y T;obtain⟨z,t,Z⟩:=V y (Array.mem_toList_iff.mp T);simp[DictEntry.refKey,Z]
  have S:¬ Y.toList.any (·.refKey)=ό:=by rw[a];exact Ú
  rw[Ý S];exact ı ϊ e
def rQ.look (I:rQ h x dx C mA):∃od,PySem.W.InstAt h x (ź C dx) C (ϊ od)/\∀name,υ name od=ϊ (mA name) :=
 let ⟨od,Z,Y⟩:=Vx I.ns
 ⟨od,⟨I.obj,rfl,rfl,Z⟩,Y⟩
section
variable {prog:ù} {w:ĩ} {A:Đ} {E:á->Û->Prop} {s:Û} {K:Ň} {x dx C f:ă} {mA:Str->Option á} {name:Str} {v:á}
def get_map (X:K.In s.heap) (I:rQ s.heap x dx C mA) (hg:agf K C name=ό) (hh:agJ K C=ό)
 (ha:ś K (.ref C) name=ϊ ϋ) (hv:mA name=ϊ v) (Bl:PySem.W.handedIn v=ό) (h:Q v { s with toks:=s.toks+1 }) :
  ê (è prog w) A (getAttr (.ref x) name expr) Q E s:=by
 obtain⟨Y,J,Z⟩:=I.look;exact PySem.W.get_value X J (ago hg).1 (PySem.W.findObj_own hh ha rfl (by rw[Z,hv])) Bl h
def WR (X:K.In s.heap) (I:rQ s.heap x dx C mA) (hg:agf K C name=ό)
 (hf:ś K (.ref C) name=ϊ (ϊ (.ref f))) (ht:PySem.W.isFn K (.ref f)=ό) (hv:mA name=ϋ) (h:Q (.ref f,[.ref x]) s) :
  ê (è prog w) A (getMethod (.ref x) name pl) Q E s:=by
 obtain⟨Z,J,Y⟩:=I.look;exact PySem.W.method_fn X J (ago hg).1 (ago hg).2 hf (beq_iff_eq.mp ht) (by show (υ name Z).map _=ϊ ύ;rw[Y,hv];rfl) h
def YM (X:K.In s.heap) (I:rQ s.heap x dx C mA)
 (hs:ś K (.ref C) "__setattr__"=ϊ (ϊ (.builtin "object.__setattr__"))) (hp:PySem.W.plainOver K C=ό) (ht:PySem.W.takerIn K C name=ϊ ϋ) (hh:agJ K C=ό)
 (hw:PySem.Within mA ns) (hsz:ns.length<=Ô)
 (h:∀h',rQ h' x dx C (λy=>if y=name then ϊ v else mA y)->ĥ dx s.heap h'->Q () { s with heap:=h',toks:=s.toks+2 }) :
  ê (è prog w) A (setAttr (.ref x) name v) Q E s:=by
 obtain⟨M,J,L⟩:=I.look;refine PySem.W.set_plain X J hs (PySem.W.osa_open X J hp ht λb=>?_);obtain⟨cd,S,R⟩:=PySem.W.any_some hh;have P:=I.obj;refine À (Å (À (À (wpAny_loadPart P (À (PySem.W.Looks.here (PySem.W.looks_clsIn X S) ?_))))));rw[R];refine Å (À (Å (À ?_)));refine wpAny_nsSet1 I.ns λh' U T=>?_;obtain⟨H,O,N,Z,Y,V⟩:=U.count (PySem.Within.cons name v hw);refine À (wpAny_lookBehind Z (by rw[Y];exact pastItsLine_dict (Ø V (by rw[æ];omega))) ?_);exact Å (h _ ⟨(T.2 _ (ŧ I.ne)).trans I.obj,U,I.ne⟩ T)
def WS (X:K.In s.heap) (hm:PySem.W.makesIn K C=ό)
 (hi:ś K (.ref C) "__init__"=ϊ (ϊ (.ref f))) (hf:PySem.W.typeIn K (.ref f)=ϊ (.type "function"))
 (h:ų (è prog w) (A.under (.builtin "type.__call__" ⟨.ref C::vs,kw⟩)) (.call (.ref f) ⟨.ref (s.heap.objs.size+1)::vs,kw⟩) (PySem.W.InitBack (s.heap.objs.size+1) R)
 { s with heap:=(s.heap.push afX).push (ź C s.heap.objs.size) }) :
  ų (è prog w) A (.call (.ref C) ⟨vs,kw⟩) R s:=by
 exact PySem.W.make_core (PySem.W.makes_of X hm) (PySem.W.looks_findIn X hi) (λself=>PySem.W.bind_fn X self hf) (.inl rfl) h
end
noncomputable def gZ (f:Str) (v:V):List (Str×V)->List (Str×V)
 | []=>[(f,v)]
 |(g,x)::r=>if g=f then (g,v)::r else (g,x)::gZ f v r
theorem J8 (f g) (v):∀fs,(gZ f v fs).lookup g=if g=f then ϊ v else fs.lookup g
 | []=>by
  show afY g [(f,v)]=_;by_cases h:g=f
  ·have Z:=beq_iff_eq.mpr h
   erw[afY,Z,Ö h]
  ·have Z:=beq_eq_false_iff_ne.mpr h
   erw[afY,Z,Ý h]
 |(k,x)::r=>by
  have ih:=J8 f g v r
  rw[show gZ f v _=(if k=f then (k,v)::r else (k,x)::gZ f v r) from rfl]
  by_cases Y:k=f
  ·rw[Ö Y]
   by_cases h:g=k
   ·have Z:=beq_iff_eq.mpr h
    erw[afY,Z,Ö (h.trans Y)]
   ·have Z:=beq_eq_false_iff_ne.mpr h
    erw[afY,Z,Ý (λe:g=f=>h (e.trans Y.symm))]
  ·rw[Ý Y]
   by_cases h:g=k
   ·have Z:=beq_iff_eq.mpr h
    erw[afY,Z,Ý (λe=>Y (h.symm.trans e))]
   ·have Z:=beq_eq_false_iff_ne.mpr h
    erw[afY,Z];exact ih
theorem Co (f) (v):∀fs,f∈(gZ f v fs).map (·.1)/\∀g,g∈fs.map (·.1)->g∈(gZ f v fs).map (·.1)
 | []=>⟨by simp[gZ],λg h=>by simp at h⟩
 |(k,x)::r=>by
  obtain⟨Y,X⟩:=Co f v r
  rw[show gZ f v _=(if k=f then (k,v)::r else (k,x)::gZ f v r) from rfl]
  by_cases Z:k=f
  ·subst Z
   exact⟨by simp,λg h=>by simpa using h⟩
  ·rw[Ý Z]
   refine⟨?_,λg h=>?_⟩
   ·exact É _ Y
   ·rcases Ñ.mp h with e|e
    ·exact Ñ.mpr (.inl e)
    ·exact É _ (X g e)
theorem J9 (f) (v):∀fs,(gZ f v fs).length<=fs.length+1
 | []=>by simp[gZ]
 |(k,x)::r=>by
  have ih:=J9 f v r
  rw[show gZ f v _=(if k=f then (k,v)::r else (k,x)::gZ f v r) from rfl]
  by_cases Z:k=f
  ·rw[Ö Z,æ,æ];omega
  ·rw[Ý Z,æ,æ];omega
def oH.some_of (r:oH (ϊ v) o):∃u,o=ϊ u/\RelV v u:=by
 cases o with
 |none=>exact(r).elim
 |some u=>exact⟨u,rfl,r⟩
def oH.none_of (r:oH ϋ o):o=ϋ:=by
 cases o with
 |none=>rfl
 |some u=>exact(r).elim
def Vy (r:RelV v u):PySem.W.handedIn u=ό:=by
 cases v with
 |az=>cases (r);rfl
 |bl b=>cases (r);rfl
 |int i=>obtain⟨t,e⟩:=(r);cases e;rfl
 |str x=>obtain⟨t,e⟩:=(r);cases e;rfl
 |jR b=>obtain⟨t,e⟩:=(r);cases e;rfl
 |Bd b=>obtain⟨t,e⟩:=(r);cases e;rfl
 |ref a=>cases (r);rfl
 |ty n=>cases (r);rfl
section
variable {P:ù} {w:ĩ} {H H':Hp} {h h':ū} {a C dx:ă} {fs fs':List (Str×V)}
def Dz (aQ:dF P w H h) (e:H a=ϊ (.ins C dx fs)):∃mA,rQ h a dx C mA/\(∀f,oH (fs.lookup f) (mA f))/\PySem.Within mA (fs.map (·.1))/\fs.length<=1000/\H dx=ϊ (.own a):=by
 obtain⟨d,z,ne,Z,mA,n,r,q⟩:=(aQ a _ e);exact⟨mA,⟨Z,n,ne⟩,r,q,z,d⟩
end
structure k9 (K) (C):Prop where
 pg:agf K C afE=ό
 hd:agJ K C=ό
 po:PySem.W.plainOver K C=ό
 sa:ś K (.ref C) "__setattr__"=ϊ (ϊ (.builtin "object.__setattr__"))
def k9.get {K} {C} (c:k9 K C) (f):agf K C f=ό:=c.pg
def pM (K:Ň) (C:ă) (f:Str):Prop:=ś K (.ref C) f=ϊ ϋ
def pM.acK {K} {C} {f} (n:pM K C f):PySem.W.takerIn K C f=ϊ ϋ:=by
 delta PySem.W.takerIn;rw[n];rfl
structure Meth (K) (C) (m) (f):Prop where
 at_:ś K (.ref C) m=ϊ (ϊ (.ref f))
 fn:PySem.W.isFn K (.ref f)=ό
 kp:Ņ K (.ref f)=ό
section
variable {X:Cx} {π:List (ă×Obj)} {σ:St} {H:Hp} {s:Û} {a C dx:ă} {fs:List (Str×V)} {f:Str} {v:V} {A:Đ} {E:á->Û->Prop}
def Uy (I:Inv X π σ H s) (e:H a=ϊ (.ins C dx fs)) (c:k9 X.K C) (n:pM X.K C f) (l:fs.lookup f=ϊ v)
 (h:∀u s',Inv X π σ H s'->RelV v u->Q u s'):ê (è X.prog X.w) A (getAttr (.ref a) f b) Q E s:=by
 obtain⟨W,O,r,_,_,_⟩:=Dz I.aQ e;obtain⟨u,Y,Z⟩:=oH.some_of (by rw[<- l];exact r f);exact get_map I.fT O (c.get f) c.hd n Y (Vy Z) (h u _ (I.tok _) Z)
def Kx (I:Inv X π σ H s) (e:H a=ϊ (.ins C dx fs)) (c:k9 X.K C) (k:Meth X.K C m g) (l:fs.lookup m=ϋ)
 (h:Q (.ref g,[.ref a]) s):ê (è X.prog X.w) A (getMethod (.ref a) m pl) Q E s:=by
 obtain⟨Y,O,r,_,_,_⟩:=Dz I.aQ e;have Z:=oH.none_of (by rw[<- l];exact r m);exact WR I.fT O (c.get m) k.at_ k.fn Z h
def Uz (I:Inv X π σ H s) (e:H a=ϊ (.ins C dx fs)) (c:k9 X.K C) (n:pM X.K C f) (hl:fs.length<1000) (ry:RelV y u)
 (h:∀s',Inv X π σ (upd H a (.ins C dx (gZ f y fs))) s'->Q () s'):ê (è X.prog X.w) A (setAttr (.ref a) f u) Q E s:=by
 obtain⟨V,O,r,Y,_,W⟩:=Dz I.aQ e;have U:(fs.map (·.1)).length<=Ô:=by rw[Ç,afW];omega
 refine YM I.fT O c.sa c.po n.acK c.hd Y U λT Z S=>h _ ?_
 have hd:∃o,T.get? dx=ϊ o:=let ⟨o,_,_,R,_⟩:=Z.ns;⟨o,R⟩
 refine I.write (by rw[e];exact True.intro) (.inr W) (λb q P z=>(S.2 b P).trans z) hd ?_;refine⟨by rw[bI O.ne];exact W,?_,O.ne,Z.obj,_,Z.ns,λg=>?_,λg N=>?_⟩
 ·have:=J9 f y fs;omega
 ·rw[J8]
  by_cases q:g=f
  ·rw[Ö q,Ö q];exact ry
  ·rw[Ý q,Ý q];exact r g
 ·by_cases q:g=f
  ·rw[q];exact(Co f y fs).1
  ·refine(Co f y fs).2 g (Y g λz=>N ?_)
   show (if g=f then ϊ u else V g)=ϋ
   rw[Ý q];exact z
def Inv.made (I:Inv X π σ H s):Inv X π σ (upd (upd H s.heap.objs.size (.own (s.heap.objs.size+1))) (s.heap.objs.size+1) (.ins C s.heap.objs.size []))
  { s with heap:=(s.heap.push afX).push (ź C s.heap.objs.size) }:=by
 have e1:(s.heap.push _).get? _=ϊ afX:=Ë _ rfl;have e2:=by
  have:=Ë (s.heap.push afX) (o:=ź C s.heap.objs.size) rfl;rwa [ā] at this
 have Z:(s.heap.push _).Ns _ (λ_=>ϋ):=⟨_,_,_,e1,rfl,(λe Y=>absurd Y ∅),λ_=>rfl⟩;have W:=I.laid (o:=.own (s.heap.objs.size+1)) (t':=s.toks) (λb u q=>Á _ q) (agW _) ⟨_,e1⟩;refine W.laid (λb u q=>Á _ q) (agF (ā ..)) ?_;have ne:s.heap.objs.size≠s.heap.objs.size+1:=ä (Ŋ _);refine⟨by rw[bI ne,dC],č _,ne,e2,λ_=>ϋ,(Heap.Ns1.of_empty Z).at λo q=>Á _ q,λ_=>True.intro,λy V=>absurd rfl V⟩
def YN (hb:Ĳ e f env (į e env)=į e env)
 (h:ê (è prog w) A (į e env) (λo cm=>ê (è prog w) A (getAttr o f ό) Q E cm) E s):ê (è prog w) A (į (.Attribute e f pos) env) Q E s :=
 Attribute_any_ h (by rw[arm_eval_Attribute,hb])
end
def aeq (K:Ň) (ta:TE) (f:Str):TE:=fun σ H Q=>ta σ H λx Z=>∃a C Y fs v,x=.ref a/\Z a=ϊ (.ins C Y fs)/\k9 K C/\pM K C f/\fs.lookup f=ϊ v/\Q v Z
def aer (K:Ň) (ta tv:TE) (f:Str):TS:=λD σ H=>tv σ H λy X=>ta σ X λx Z=>∃a C Y fs,x=.ref a/\Z a=ϊ (.ins C Y fs)/\k9 K C/\pM K C f/\fs.length<1000 /\
 D.nx σ (upd Z a (.ins C Y (gZ f y fs)))
section
variable {X:Cx} {o e value:Ő} {f:Str} {pos pos' xA:Pos} {ta tv:TE}
def aaI (he:PE X e ta) (hb:Ĳ e f X.env (į e X.env)=į e X.env):PE X (.Attribute e f pos) (aeq X.K ta f):=by
 intro Z s σ H Q I h;refine YN hb (aW (he Z s σ H _ I h) λu R ⟨x,Y,W,V,a,C,P,fs,v,ex,U,c,n,l,q⟩=>?_);subst ex;obtain rfl:u=agR a:=V;exact Uy W U c n l λO N T S=>⟨v,Y,T,S,q⟩
def aaJ (ha:PE X o ta) (hv:PE X value tv) (hs:agn value (ϊ (.Attribute o f pos')) pos.line X.env=pure ύ):PS X (.Assign [.Attribute o f pos'] value pos) (aer X.K ta tv f):=by
 intro Z s σ H D I h;refine plainObj_wpAny_Assign_Attribute (aW (hv Z s σ H _ I h) λu Y ⟨y,W,V,U,q⟩=>aW (ha Z Y σ W _ V q) λT N ⟨x,M,S,R,a,C,L,fs,ex,Q,c,n,l,P⟩=>?_) hs;subst ex;obtain rfl:T=agR a:=R;exact Uz S Q c n l U λJ O=>⟨σ,_,O,P⟩
end
structure bV (k) (A:Đ):Prop where
 hd:A.handled=ϋ
 dp:A.depth+3*k+5<recursionLimit
 un:A.units+16*k+200<cLine
 gd:A.guards=ϊ []
def bV.mono (r:bV k A) (h:j<=k):bV j A:=⟨r.hd,by have:=r.dp;omega,by have:=r.un;omega,r.gd⟩
theorem bV.deeper (r:bV (k+1) A) (env):bV k (A.deeper env) :=
 ⟨r.hd,by have:=r.dp;show A.depth+1+3*k+5 < _;omega,by have:=r.un;show A.units+3+16*k+200 < _;omega,r.gd⟩
def UA {A:Đ} {C} {us} {kw}:(A.under (.builtin "type.__call__" ⟨.ref C::us,kw⟩)).depth=A.depth+1:=by
 first|rfl|simp[Around.under,Code.weight,Code.isCreation,Code.isGuard,Code.isCaller,Code.frames,Code.isFrame,guardIds]
def UB {A:Đ} {C} {us} {kw}:(A.under (.builtin "type.__call__" ⟨.ref C::us,kw⟩)).units=A.units+1:=by
 first|rfl|simp[Around.under,Code.cUnits,Code.frames,Code.isFrame]
def bV.make (r:bV (k+1) A) (C) (us) (kw):bV k (A.under (.builtin "type.__call__" ⟨.ref C::us,kw⟩)) :=
 ⟨r.hd,by have:=r.dp;rw[UA];omega,by have:=r.un;rw[UB];omega,by first|exact r.gd | (exact r.gd)⟩
theorem bV.depth (r:bV k A):A.depth<recursionLimit:=by have:=r.dp;omega
def FY:TA:=λ_ H Q=>Q [] H
def acL (ta:TE) (tr:TA):TA:=fun σ H Q=>ta σ H λx Z=>tr σ Z λY X=>Q (x::Y) X
section
variable {X:Cx} {e:Ő} {es:List Ő} {te:TE} {t:TA} {pos:Pos}
def mF:PA X [] FY:=λ_ _ _ _ H Q I h=>Calls.spliced_nil ⟨_,H,I,.nil,h⟩
def lD (ha:PE X e te) (hr:PA X es t) (hs:Ì (e::es) X.env=(ύ,į e X.env)::Ì es X.env:=by rfl):PA X (e::es) (acL te t):=by
 intro pos Z s σ H Q I h;rw[hs];refine afF (aW (ha Z s σ H _ I h) λu Y ⟨x,W,V,U,T⟩=>?_);exact aW (hr pos Z Y σ W _ V T) λN M ⟨L,S,R,P,O⟩=>⟨_,S,R,.cons U P,O⟩
def aes (t:TA):TE:=fun σ H Q=>t σ H λZ Y=>Z.length<=Ô/\∀p,Y p=ϋ->Q (.ref p) (upd Y p (.tup Z))
def aet (t:TA):TE:=fun σ H Q=>t σ H λZ Y=>Z.length<=Ô/\∀p,Y p=ϋ->Q (.ref p) (upd Y p (.lst Z))
def aaK (h:PA X es t):PE X (.Tuple es x1 pos) (aes t):=by
 intro Y s σ H Q I W;refine wpAny_Tuple_spliced (aW (h pos Y s σ H _ I W) λV T ⟨S,R,Z,r,z,q⟩=>⟨by rw[<- r.length];exact z,?_⟩);have U:=Z.aQ.fresh (agW _);refine⟨.ref _,_,Z.laid (λb u e=>Á _ e) (agW _) ?_,rfl,q _ U⟩;exact⟨z,V,r,⟨_,Ë _ rfl,rfl,_,rfl⟩⟩
def N3 (h:PA X es t):PE X (.List es pos) (aet t):=by
 intro Y s σ H Q I W;refine wpAny_List_spliced (aW (h pos Y s σ H _ I W) λV T ⟨S,R,Z,r,z,q⟩=>⟨by rw[<- r.length];exact z,?_⟩);have U:=Z.aQ.fresh (agW _);refine⟨.ref _,_,Z.laid (λb u e=>Á _ e) (agW _) ?_,rfl,q _ U⟩;exact⟨z,V,0,r,Ë _ rfl⟩
end
abbrev Sp:=List V->Hp->VK->XK->Prop
abbrev ql:=List Env->Hp->Û->XK->á->Û->Prop
structure oI (P) (w) (K) (mg) (base) (A:Đ) (outer) (s:Û) (H:Hp):Prop where
 frames:A.frames=ϊ outer
 mod:Mod K mg base
 bs:∀b o,base.get? b=ϊ o->s.heap.get? b=ϊ o/\H b=ϋ
 jv:base.objs.size<=s.heap.objs.size
 jm:s.heap.FunFrames base outer
 lZ:∀b∈dO outer,H b=ϋ
 aQ:dF P w H s.heap
 bare:agM s.gens
def CE (outer:List Env) (P:ù) (w:ĩ) (H:Hp) (s:Û) (Q:VK) (u:á) (s':Û):Prop :=
 ∃v Z,s'.os=s.os/\agM s'.gens/\Un (dO outer) [] H Z s.heap s'.heap/\dF P w Z s'.heap/\RelV v u/\Q v Z
def CR (CX:ql) (outer:List Env) (P:ù) (w:ĩ) (H:Hp) (s:Û) (Q:VK) (E:XK) (r:Result) (s':Û):Prop :=
 match r with
 | .ok (.ret u)=>CE outer P w H s Q u s'
 | .ok _=>False
 | .error e=>CX outer H s E e s'
structure dD (P) (w) (K) (mg) (base) (CX) (k) (f) (fd) (ps:List Str) (sp:Sp):Prop where
 len:∀vs H Q E,sp vs H Q E->vs.length=ps.length
 run:∀A outer s H args us vs Q E,bV k A->oI P w K mg base A outer s H->BindsTo s fd args (ps.zip us)->Vals vs us->sp vs H Q E ->
  ų (è P w) A (.call (.ref f) args) (CR CX outer P w H s Q E) s
def dD.imp {K} {mg} {base} {CX} {k} {f} {fd} {ps} {sp Q9} (F:dD P w K mg base CX k f fd ps sp)
  (h:∀vs H Q E,Q9 vs H Q E->sp vs H Q E):dD P w K mg base CX k f fd ps Q9 :=
 ⟨λvs H Q E q=>F.len vs H Q E (h _ _ _ _ q),λA outer s H args Z vs Q E Y X W V U=>F.run A outer s H args Z vs Q E Y X W V (h _ _ _ _ U)⟩
def oI.make {K} {mg} {base} {A} {outer} {s} {H} (e:oI P w K mg base A outer s H) (C) (us) (kw) :
  oI P w K mg base (A.under (.builtin "type.__call__" ⟨.ref C::us,kw⟩)) outer s H:=⟨by first|exact e.frames | (simpa [pushEnvs] using e.frames),e.mod,e.bs,e.jv,e.jm,e.lZ,e.aQ,e.bare⟩
section
variable {X:Cx} {π:List (ă×Obj)} {σ:St} {H:Hp} {s s':Û}
def Inv.kQ (I:Inv X π σ H s):oI X.prog X.w X.K X.mg X.base X.A X.stack s H :=
 ⟨I.ok.frames,I.ok.mod,I.bs,Ø I.ok.jv I.sz,I.stack,I.wj,I.aQ,I.bare⟩
def Inv.after (I:Inv X π σ H s) (h:CE X.stack X.prog X.w H s Q u s'):EP X π σ Q u s':=by
 obtain⟨v,Z,os,bare,un,Y,r,q⟩:=h;obtain⟨V,g,d,t,W⟩:=s';obtain rfl:W=s.os:=os;exact⟨v,Z,I.call un Y bare (λb z=>absurd z ∅),r,q⟩
end
def O7 (sp:Sp) (ak:List V) (E:XK) (t:TA):TE:=fun σ H Q=>t σ H λZ Y=>sp (Z++ak) Y Q E
def EV (C:ă) (m:Str) (sp:Sp) (ak:List V) (E:XK) (ta:TE) (t:TA):TE:=fun σ H Q=>ta σ H λx Z=>∃a Y fs,x=.ref a/\Z a=ϊ (.ins C Y fs)/\fs.lookup m=ϋ /\
 t σ Z λX W=>sp (x::(X++ak)) W Q E
def acM (C:ă) (sp:Sp) (ak:List V) (E:XK) (t:TA):TE:=fun σ H Q=>t σ H λX Y=>∀x Z,Y x=ϋ->Y Z=ϋ->Z≠x ->
 sp (.ref x::(X++ak)) (upd (upd Y Z (.own x)) x (.ins C Z [])) (λv W=>v=.az/\Q (.ref x) W) E
def Binds (K:Ň) (fd:FuncData) (ps:List Str) (ds:List á):Prop :=
 ∀s Z,K.In s.heap->(Z++ds).length=ps.length->BindsTo s fd ⟨Z,[]⟩ (ps.zip (Z++ds))
def Binds.all {K} {fd} {ps} (h:∀us,us.length=ps.length->bindArgs fd ⟨us,[]⟩=pure (ps.zip us)):Binds K fd ps []:=λs us _ Z=>by
 rw[ú] at Z |-;exact .of_eq (h us Z)
def Passes (CX:ql) (X:Cx) (E:XK):Prop:=∀Y (σ:St) H s e Z,Inv X Y σ H s->CX X.stack H s E e Z->X.xe e Z
section
variable {X:Cx} {CX:ql} {k:Nat} {f C:ă} {fd:FuncData} {ps:List Str} {sp:Sp} {ak:List V} {ds:List á} {E:XK} {x m:Str} {p pos apos:Pos} {e o:Ő} {es:List Ő} {ta:TE} {t:TA}
def Ei {σ:St} {H} {s} {Q} {us} {vs} (F:dD X.prog X.w X.K X.mg X.base CX k f fd ps sp) (hr:bV k X.A) (hb:Binds X.K fd ps ds) (hd:Vals ak ds) (hx:Passes CX X E)
  (I:Inv X π σ H s) (r:Vals vs us) (h:sp (vs++ak) H Q E):ê (è X.prog X.w) X.A (call (.ref f) us) (EP X π σ Q) X.xe s:=by
 have Y:=r.append hd;have W:(us++ds).length=ps.length:=by rw[<- Y.length];exact F.len _ _ _ _ h
 refine afw (Ł (F.run _ _ s H _ _ _ Q E hr I.kQ (hb s us I.fT W) Y h) λr V Z=>?_)
 cases r with
 |error e=>exact hx π σ H s e V I Z
 |ok U =>
  cases U with
  |ret u=>exact I.after Z
  |next=>exact Ć Z
  |brk=>exact Ć Z
  |cont=>exact Ć Z
def MR (F:dD X.prog X.w X.K X.mg X.base CX k f fd ps sp) (hr:bV k X.A) (hg:Gl X x) (hm:X.mg x=ϊ (.ref f)) (hk:Ņ X.K (.ref f)=ό) (hb:Binds X.K fd ps ds) (hd:Vals ak ds) (hx:Passes CX X E)
  (ha:PA X (e::es) t) (eQ:(x==("__debug__"))=ύ:=by decide) (he:Ì (e::es) X.env=(ύ,į e X.env)::Ì es X.env:=by rfl) (bY:(İ pos (Ì es X.env)).any (·.1)=ύ:=by rfl) :
  PE X (.Call (.Name x p) (e::es) [] pos) (O7 sp ak E t):=by
 intro Y s σ H Q I h;refine ř (qU I hg hm ?_ eQ);refine afG I.ok.mod.kU hk (aW (ha pos Y s σ H _ I h) λW V ⟨U,T,Z,r,q⟩=>⟨Z.fT,?_⟩) he bY;exact Ei F hr hb hd hx Z r q
def YO {pl} (he:PE X o ta) (c:k9 X.K C) (hm:Meth X.K C m f) (F:dD X.prog X.w X.K X.mg X.base CX k f fd ps sp) (hr:bV k X.A) (hb:Binds X.K fd ps ds) (hd:Vals ak ds) (hx:Passes CX X E) (ha:PA X (e::es) t)
  (gr:Ì (e::es) X.env=(ύ,į e X.env)::Ì es X.env:=by rfl) (bY:(İ pos (Ì es X.env)).any (·.1)=ύ:=by rfl)
  (ht:į (.Call (.Attribute o m apos) (e::es) [] pos) X.env=(do
   let ov <- į o X.env
   age apos.atName
   let (f,first) <- afA [ov] (getMethod ov m pl)
   callWith pos f first (İ pos (Ì (e::es) X.env)) (afH pos (Œ [] X.env))):=by rfl) :
  PE X (.Call (.Attribute o m apos) (e::es) [] pos) (EV C m sp ak E ta t):=by
 intro Z s σ H Q I h;refine PySem.W.methodCall_KW (aW (he Z s σ H _ I h) λu U ⟨x,T,Y,S,a,O,fs,ex,R,l,q⟩=>?_) ht;subst ex;obtain rfl:u=agR a:=S;refine Kx Y R c hm l ?_;refine afG I.ok.mod.kU hm.kp (aW (ha pos Z U σ T _ Y q) λN M ⟨vs,L,V,r,P⟩=>⟨V.fT,?_⟩) gr bY;exact Ei (vs:=.ref a::vs) F hr hb hd hx V (.cons rfl r) P
def WT (he:PE X o ta) (c:k9 X.K C) (hm:Meth X.K C m f) (F:dD X.prog X.w X.K X.mg X.base CX k f fd ps sp) (hr:bV k X.A) (hb:Binds X.K fd ps ds) (hd:Vals ak ds) (hx:Passes CX X E)
 (ht:į (.Call (.Attribute o m apos) [] [] pos) X.env=(do
   let ov <- į o X.env
   age apos.atName
   let (f,first) <- afA [ov] (getMethod ov m pl)
   callWith pos f first (İ pos (Ì [] X.env)) (afH pos (Œ [] X.env))):=by rfl) :
  PE X (.Call (.Attribute o m apos) [] [] pos) (EV C m sp ak E ta FY):=by
 intro Y s σ H Q I h;refine PySem.W.methodCall_KW (aW (he Y s σ H _ I h) λu T ⟨x,S,Z,V,a,R,fs,ex,U,l,q⟩=>?_) ht;subst ex;obtain rfl:u=agR a:=V;refine Kx Z U c hm l ?_;exact PySem.W.callWith_K0 Z.fT hm.kp (Ei (vs:=[.ref a]) F hr hb hd hx Z (.cons rfl .nil) q)
structure Mk (K) (C f):Prop where
 makes:PySem.W.makesIn K C=ό
 init:ś K (.ref C) "__init__"=ϊ (ϊ (.ref f))
 fn:PySem.W.isFn K (.ref f)=ό
 kp:Ņ K (.ref C)=ό
def WU {σ:St} {H} {s} {Q} {us} {vs} (M:Mk X.K C f) (F:dD X.prog X.w X.K X.mg X.base CX k f fd ps sp) (hr:bV (k+1) X.A) (hb:Binds X.K fd ps ds) (hd:Vals ak ds)
  (hx:Passes CX X E) (I:Inv X π σ H s) (r:Vals vs us)
  (h:∀x dx,H x=ϋ->H dx=ϋ->dx≠x->sp (.ref x::(vs++ak)) (upd (upd H dx (.own x)) x (.ins C dx [])) (λv H2=>v=.az/\Q (.ref x) H2) E) :
  ê (è X.prog X.w) X.A (call (.ref C) us) (EP X π σ Q) X.xe s:=by
 have W:=h _ _ (I.aQ.fresh (afq _)) (I.aQ.fresh (agW _)) (ä (Ŋ _));have Y:=Inv.made (C:=C) I;have U:Vals (V.ref (s.heap.objs.size+1)::(vs++ak)) _:=.cons rfl (r.append hd);have T:=by
  have e:=U.length;rw[F.len _ _ _ _ W] at e;exact e.symm
 refine afw (WS I.fT M.makes M.init (beq_iff_eq.mp M.fn) (Ł (F.run _ _ _ _ _ _ _ _ E (hr.make C us _)
  (Y.kQ.make C us _) (hb _ _ Y.fT T) U W) λr S Z=>?_))
 cases r with
 |error e=>exact hx π σ _ _ e S Y Z
 |ok R =>
  cases R with
  |ret u =>
   obtain⟨v,P,O,N,ev,L⟩:=Y.after Z;subst ev;exact⟨N,⟨V.ref _,P,O,rfl,L⟩⟩
  |next=>exact Ć Z
  |brk=>exact Ć Z
  |cont=>exact Ć Z
def WV (M:Mk X.K C f) (F:dD X.prog X.w X.K X.mg X.base CX k f fd ps sp) (hr:bV (k+1) X.A) (hg:Gl X x) (hm:X.mg x=ϊ (.ref C)) (hb:Binds X.K fd ps ds) (hd:Vals ak ds) (hx:Passes CX X E)
  (eQ:(x==("__debug__"))=ύ:=by decide):PE X (.Call (.Name x p) [] [] pos) (acM C sp ak E FY):=by
 intro Z s σ H Q I h;refine ř (qU I hg hm ?_ eQ);exact PySem.W.callWith_K0 I.fT M.kp (WU M F hr hb hd hx I .nil h)
end
structure tV (N P:List Str) (sc:agH):Prop where
 kind:sc.kind=.function
 co:sc.isCoroutine=ύ
 gen:sc.isGenerator=ύ
 nd:N.Nodup
 pre:N.take P.length=P
 par:∀x∈P,sc.names.lookup x=ϊ .local\/sc.names.lookup x=ϊ .cell
 aaL:∀y∈sc.names,y.2≠.free
theorem K6 {kindOf} {x}:∀{binds} {m},(∀v,(x,v)∉binds)->bindL kindOf binds m x=m x
 | [],_,_=>rfl
 |(n,v)::r,m,h=>by
  delta bindL;rw[K6 λw hw=>h w (É _ hw)];split
  ·have:x≠n:=by rintro rfl;exact h v Ó
   simp[this]
  ·rfl
theorem K7 {kindOf} {x}:∀{binds} {m},(∀v,(x,v)∉binds)->bindC kindOf binds m x=m x
 | [],_,_=>rfl
 |(n,v)::r,m,h=>by
  delta bindC;rw[K7 λw hw=>h w (É _ hw)];split
  ·rfl
  ·have:x≠n:=by rintro rfl;exact h v Ó
   simp[this]
theorem K8 {kindOf} {x} {v}:∀{P:List Str} {vs} {i:Nat} {m},P.Nodup->P[i]?=ϊ x->vs[i]?=ϊ v->kindOf x=ϊ .local ->
  bindL kindOf (P.zip vs) m x=ϊ v
 | [],_,_,_,_,h,_,_=>by simp at h
 |_::_,[],_,_,_,_,h,_=>by simp at h
 |p::P,w::vs,0,m,X,Z,Y,W=>by
  simp at Z Y;subst Z;subst Y;show bindL kindOf ((p,w)::P.zip vs) m p=_;delta bindL;rw[K6 λv V=>(Ż.mp X).1 (agp V).1,Ö W];simp
 |p::P,w::vs,i+1,m,X,Z,Y,W=>by
  delta bindL;exact K8 (Ż.mp X).2 (by simpa using Z) (by simpa using Y) W
theorem K9 {kindOf} {x} {v}:∀{P:List Str} {vs} {i:Nat} {m},P.Nodup->P[i]?=ϊ x->vs[i]?=ϊ v->kindOf x≠ϊ .local ->
  bindC kindOf (P.zip vs) m x=ϊ v
 | [],_,_,_,_,h,_,_=>by simp at h
 |_::_,[],_,_,_,_,h,_=>by simp at h
 |p::P,w::vs,0,m,X,Z,Y,W=>by
  simp at Z Y;subst Z;subst Y;show bindC kindOf ((p,w)::P.zip vs) m p=_;delta bindC;rw[K7 λv V=>(Ż.mp X).1 (agp V).1,Ý W];simp
 |p::P,w::vs,i+1,m,X,Z,Y,W=>by
  delta bindC;exact K9 (Ż.mp X).2 (by simpa using Z) (by simpa using Y) W
noncomputable def start (N:List Str) (vs:List V):St:=vs.map ϊ++Õ (N.length-vs.length) ϋ
noncomputable def iC (CX:ql) (P:ù) (w:ĩ) (K:Ň) (mg:Str->Option á) (base:ū) (N:List Str) (qual:Str) (scope:agH) (f:ă) (cd:á) (A:Đ) (outer:List Env) (s:Û) (H:Hp) (E:XK):Cx where
 prog:=P
 w:=w
 K:=K
 mg:=mg
 base:=base
 A:=A.deeper (envOfC qual scope s.heap.objs.size f cd)
 N:=N
 dS:=s
 m9:=H
 env:=envOfC qual scope s.heap.objs.size f cd
 outer:=outer
 stack:=envOfC qual scope s.heap.objs.size f cd::outer
 ex:=[]
 calm:=ό
 fn:=λ_=>ό
 pn:=[]
 xe:=λe Y=>ê (è P w) (A.deeper (envOfC qual scope s.heap.objs.size f cd)) (leaving (envOfC qual scope s.heap.objs.size f cd) e) (λ_ Z=>CX outer H s E e Z) (λX Z=>CX outer H s E X Z) Y
def LL {sc:agH} {n} {x} (h:sc.names.lookup x=ϊ .cell):∃c,(afI n sc.names []).lookup x=ϊ c:=by
 have q:=Ŵ _ n [] (.inl h);exact afx.mp q
def La {P} {w} {K} {mg} {base} {N ps} {qual} {scope} {f} {cd} {A} {outer} {s s1} {H} {E} {us} {vs}
  (S:tV N ps scope) (hd:A.handled=ϋ) (e0:oI P w K mg base A outer s H) (hl:vs.length=ps.length) (r:Vals vs us)
  (x:InCallC s s.heap.objs.size (bindL (envOfC qual scope s.heap.objs.size f cd).kindOf (ps.zip us) λ_=>ϋ) (afI (s.heap.objs.size+1) scope.names []) (bindC (envOfC qual scope s.heap.objs.size f cd).kindOf (ps.zip us) λ_=>ϋ) s1) :
  Inv (iC CX P w K mg base N qual scope f cd A outer s H E) [] (start N vs) H s1:=by
 have M:ps.length<=N.length:=by have:=ı List.length S.pre;rw[abL] at this;omega
 obtain⟨X,L,rfl,U⟩:=x.done;have V:∀b,b∉(iC CX P w K mg base N qual scope f cd A outer s H E).ex:=λb z=>absurd (show b∈([]) from z) ∅;refine⟨⟨e0.mod,S.kind,rfl,rfl,agW _,λy z c X Z=>?_,λy hy=>?_,λy c _ h=>?_,λ_=>hd,Around.frames_deeper e0.frames,.inr ⟨rfl,rfl⟩,λb z=>absurd z (V b),e0.bs,e0.jv,λb _ _=>V b,λb z=>absurd z (V b),e0.jm,e0.lZ⟩,
  rfl,e0.bare,Un.kept U,⟨_,x.toInCall.ns,λi y v X Z J=>?_⟩,λy c h=>⟨_,x.cell y c h⟩,e0.aQ.fresh (agW _),λy c h=>?_,λp Y=>absurd (show p∈([]) from Y) ∅,e0.aQ.kept U,?_⟩
 ·exact name_of_addr x.apart (ĵ X) (ĵ Z)
 ·rcases hy with hy|hy
  ·exact LL hy
  ·exact absurd rfl (S.aaL _ (ĵ hy))
 ·exact Nat.le_of_lt (x.above y c (ĵ h))
 ·have W:i<vs.length:=by
   delta start at Z;by_cases W:i<vs.length
   ·exact W
   ·rw[ô (by simpa using W)] at Z
    rw[Ī] at Z
    split at Z<;>cases Z
  have Q:vs[i]?=ϊ v:=by
   delta start at Z;rw[ç (by simpa using W),å] at Z
   cases e:vs[i]? with
   |none=>rw[e] at Z;cases Z
   |some a=>rw[e] at Z;cases Z;rfl
  obtain⟨u,T,O⟩:=r.get Q;have Y:ps[i]?=ϊ y:=by
   rw[<- S.pre,List.getElem?_take_of_lt ⋯];exact X
  have R:ps.Nodup:=by rw[<- S.pre];exact S.nd.sublist (List.take_sublist ..)
  refine⟨u,O,?_⟩
  rcases S.par y (ο Y) with k|k
  ·exact .inl ⟨k,K8 R Y T k⟩
  ·obtain⟨c,e⟩:=LL k
   refine .inr ⟨.inl k,c,e,?_⟩;have q:=x.cell y c e;rw[K9 R Y T (by show scope.names.lookup y≠_;rw[k];decide)] at q;exact q
 ·exact e0.aQ.fresh (Nat.le_of_lt (x.above y c (ĵ h)))
 ·delta start
  show _=N.length;rw[Ù,Ç,ż];omega
def Ax {P} {w} {K} {mg} {base} {k} {f} {name qual} {params} {body} {scope} {dV kV doc pm bw ct oc} {an od}
  {jU} {N ps} {sp} (lk:K.lookup f=ϊ ⟨oc,od,.func (Ŏ name qual params body scope dV kV doc pm an bw ct),jU⟩) (ff:χ K bw qual=ό) (S:tV N ps scope)
  (len:∀vs H Q E,sp vs H Q E->vs.length=ps.length)
  (lO:∀A outer s H vs Q E,bV k (A.deeper (envOfC qual scope s.heap.objs.size f bw))->sp vs H Q E ->
   ∃t,dP (iC CX P w K mg base N qual scope f bw A outer s H E) body t/\t { nx:=λ_ H'=>Q .az H',rt:=Q } (start N vs) H) :
  dD P w K mg base CX (k+1) f (Ŏ name qual params body scope dV kV doc pm an bw ct) ps sp:=by
 refine⟨len,λA outer s H args F vs Q E U Y D r M=>?_⟩;have C:=len _ _ _ _ M;have L:=Y.mod.kU.keeps λb o e=>(Y.bs b o e).1;have lim:=Y.mod.nolimit.keeps λb o e=>(Y.bs b o e).1;have T:∀y∈ps.zip F,scope.names.lookup y.1=ϊ _\/(scope.names.lookup y.1=ϊ _/\((afI (s.heap.objs.size+1) _ []).lookup y.1).isSome=ό):=λ⟨n,v⟩ B=>by
  rcases S.par n (agp B).1 with q|q
  ·exact .inl q
  ·exact .inr ⟨q,Ŵ _ _ _ (.inl q)⟩
 refine codeAny_call_function U.depth (L _ _ lk) rfl S.co S.gen rfl (PySem.W.codeRec_of L ff) (D _ _ _ _ ?_);refine wpAny_newFunctionEnv_cells S.kind T λenv z G x=>?_;subst z;refine⟨lim.keeps x.toInCall.keep,codeAny_func ?_⟩;obtain⟨t,p,m⟩:=lO A outer s H vs Q E (U.deeper _) M;have I:Inv (iC CX P w K mg base N qual scope f bw A outer s H E) _ _ H G:=La S U.hd Y C r x;refine Ė (p G _ H _ I m) (λl R Z=>?_) λe R Z=>Z;have fin:∀{X} {H'} {v} {u},Inv (iC CX P w K mg base N qual scope f bw A outer s H E) [] X H' R->RelV v u->Q v H'->CE outer P w H s Q u R :=
  λ{X H' v u} J O q=>⟨v,H',J.os,J.bare,J.base,J.aQ,O,q⟩
 cases l with
 |ret u =>
  obtain⟨v,X,H',J,O,q⟩:=Z;exact fin J O q
 |next =>
  obtain⟨X,H',J,q⟩:=Z;exact fin (v:=V.az) J rfl q
 |brk =>
  obtain⟨_,_,_,q⟩:=Z;exact Ć q
 |cont =>
  obtain⟨_,_,_,q⟩:=Z;exact Ć q
section
variable {X:Cx} {x:Str} {p pos:Pos} {e:Ő} {es:List Ő} {t:TA} {id T:String} {r:List V->Hp->VK->Prop}
def GH (r:List V->Hp->VK->Prop) (t:TA):TE:=fun σ H Q=>t σ H λZ Y=>r Z Y Q
def CN (hc:dh X (.builtin id) r) (hg:Gl X x) (hm:X.mg x=ϋ) (hv:ý x=ϊ (.builtin id)) (ha:PA X (e::es) t) (hn:x≠"__name__":=by decide) (eQ:(x==("__debug__"))=ύ:=by decide)
  (he:Ì (e::es) X.env=(ύ,į e X.env)::Ì es X.env:=by rfl) (bY:(İ pos (Ì es X.env)).any (·.1)=ύ:=by rfl):PE X (.Call (.Name x p) (e::es) [] pos) (GH r t):=by
 intro Z s σ H Q I h;refine ř (pL I hg hm hv ?_ hn eQ);exact PyProof.Rows.callWith_builtin1 (aW (ha pos Z s σ H _ I h) λY W ⟨V,U,T,S,R⟩=>hc Z W σ U V Y Q T S R) he bY
def Cp (hc:dh X (.type T) r) (hg:Gl X x) (hm:X.mg x=ϋ) (hv:ý x=ϊ (.type T)) (ha:PA X (e::es) t) (hn:x≠"__name__":=by decide) (eQ:(x==("__debug__"))=ύ:=by decide)
  (he:Ì (e::es) X.env=(ύ,į e X.env)::Ì es X.env:=by rfl) (bY:(İ pos (Ì es X.env)).any (·.1)=ύ:=by rfl):PE X (.Call (.Name x p) (e::es) [] pos) (GH r t):=by
 intro Z s σ H Q I h;refine ř (pL I hg hm hv ?_ hn eQ);exact Ħ (aW (ha pos Z s σ H _ I h) λY W ⟨V,U,S,R,P⟩=>hc Z W σ U V Y Q S R P) he bY
end
end L2
namespace HT
open PySem PyProof.Rows
noncomputable def lexLt:List Int->List Int->Bool
 | [],[]=>ύ
 | [],_::_=>ό
 |_::_,[]=>ύ
 |x::Z,y::Y=>if x=y then lexLt Z Y else ώ (x<y)
def mz (x y) (xs ys):lexLt (x::xs) (y::ys)=if x=y then lexLt xs ys else ώ (x<y):=rfl
def LM (A) (s) (a) (t) (c) (u) (prog) (w) (E) (Q) (h:Q (.bool (ώ (a<c))) s) :
  ê (è prog w) A (richCompare .Lt (.int a t) (.int c u)) Q E s :=
 (PyProof.Rows.lt_int h)
section
variable {prog:ù} {w:ĩ} {A:Đ} {E:á->Û->Prop} {s:Û}
def YQ (ht:IsTup s.heap t vs.toArray) (hb:IsTup s.heap b ws.toArray) (hv:vs≠[])
 (h1:ws=[]->Q (.ref t) s) (h2:ws≠[]->Q (.ref s.heap.objs.size) { s with heap:=s.heap.push { cls:=.type "tuple",data:=.seq (vs++ws).toArray } })
 (hsz:vs.length+ws.length<=Ô):ê (è prog w) A (Ľ .Add (.ref t) (.ref b)) Q E s:=by
 obtain⟨⟨cls,X,data,sl⟩,Z,T,n,S⟩:=id ht;obtain⟨⟨P,W,data2,V⟩,Y,R,U,hd2⟩:=id hb;subst T S R hd2;have e:vs.toArray++ws.toArray=(vs++ws).toArray:=by simp
 by_cases hw:ws=[]
 ·exact concat_meets ⟨_,Z,rfl⟩ ⟨_,Y,rfl⟩ noFill_tuple_add seq_tuple_add afT afJ (afy ..)
   (tuple_addW1 t b _ _ n U X W sl V (by simpa using hv) (by simp[hw])) ⟨Z,Y,h1 hw⟩
 ·refine concat_meets ⟨_,Z,rfl⟩ ⟨_,Y,rfl⟩ noFill_tuple_add seq_tuple_add afT afJ (afy ..)
   (tuple_addW2 t b _ _ n U X W sl V (by simpa using hv) (by simpa using hw) (by exact hsz)) ⟨Z,Y,?_⟩
  rw[e];exact h2 hw
noncomputable def bT (n d:Nat):Option Int->Nat
 |none=>d
 |some v=>if v<0 then (v+(n)).toNat else min v.toNat n
def aie (n d) (hd:d<=n) (o):bT n d o<=n:=by
 cases o with
 |none=>exact hd
 |some v =>
  show (if v<0 then (v+(n)).toNat else min _ n)<=n
  by_cases Z:v<0
  ·rw[Ö Z];omega
  ·rw[Ý Z];exact Nat.min_le_right ..
def MS (v) (n d:Nat):(if v<0 then max (v+(n:Int)) 0 else min v (n))=((bT n d (ϊ v))):=by
 show (if v<0 then max _ 0 else min v _)=(((if v<0 then (v+(n)).toNat else min _ n):Nat))
 by_cases Z:v<0
 ·erw[Ö Z];omega
 ·erw[Ý Z];omega
def UC (lo hi) (n:Nat):ψ lo hi 1 (n)=(((bT n 0 lo):Int),((bT n n hi):Int)):=by
 have Z:=by omega
 delta ψ;refine Prod.ext ?_ ?_
 ·cases lo with
  |none=>rfl
  |some v=>exact MS v n 0
 ·cases hi with
  |none=>rfl
  |some v=>exact MS v n n
def UD (i j:Nat):ω (i) (j) 1=j-i:=by
 delta ω;have Z:(1:Int) > 0:=by omega
 erw[Z,ø,Int.ediv_one]
 split<;>omega
def Ky (p:IsPart v o) (h:Q o s):ê (è prog w) A (Builtin.Slice.slicePartIndex v) Q E s:=by
 cases p with
 |none=>exact slicePart_none h
 |int i t=>exact slicePart_int h
def JC {lo hi} {n:Nat} {Q} (hs:s.heap.IsSliceOf sl vl vu .none) (pl:IsPart vl lo) (pu:IsPart vu hi)
 (h:Q (((bT n 0 lo)),1,bT n n hi-bT n 0 lo) s):ê (è prog w) A (Builtin.Slice.sliceApplied (.ref sl) (pure (n))) Q E s:=by
 obtain⟨os,Z,X,Y⟩:=id hs;refine À (À (ħ Z Y rfl (À (ħ Z Y rfl (À (ħ Z Y rfl (Å ?_)))))));refine À (slicePart_none ?_);refine À (Ky pl (À (Ky pu (À (Å ?_)))))
 show ê _ _ (match ψ lo hi 1 _ with | (lo,hi)=>pure (lo,(1:Int),ω lo hi 1)) _ _ s
 rw[UC lo hi n];show ê _ _ (pure _) _ _ s;rw[UD];exact Å h
def WW (xs:Array á) (i k:Nat):((â k).filterMap λ(m:Nat)=>xs[((i)+(m:Int)*1).toNat]?).toArray=((xs.toList.drop i).take k).toArray:=by
 have e:(λ(m:Nat)=>xs[((i)+(m:Int)*1).toNat]?)=λm=>xs[i+m]?:=by
  funext m;have:((i)+(m:Int)*1).toNat=i+m:=by omega
  rw[this]
 rw[e];have:=pick_run xs i k;rw[List.filterMap_map] at this;have e2:((λx=>xs[x]?) ∘ λx=>i+x)=λm=>xs[i+m]?:=rfl;rw[e2] at this;rw[this]
def Sj {lo hi} {Q} (ht:IsTup s.heap t items) (hs:s.heap.IsSliceOf sl vl vu .none) (pl:IsPart vl lo) (pu:IsPart vu hi)
 (hw:¬ (bT items.size 0 lo=0/\bT items.size items.size hi=items.size))
 (h:Q (.ref s.heap.objs.size) { s with heap:=s.heap.push { cls:=.type "tuple",data:=.seq ((items.toList.drop (bT items.size 0 lo)).take (bT items.size items.size hi-bT items.size 0 lo)).toArray } })
 (hsz:items.size<=Ô):ê (è prog w) A (getItem (.ref t) (.ref sl)) Q E s:=by
 have Z:=by
  show ((items.toList.drop (bT items.size 0 lo)).take (bT items.size items.size hi-bT items.size 0 lo)).toArray.size<=Ô;rw[ã,abL,List.length_drop,Ą];omega
 obtain⟨os,Y,X,U⟩:=id hs;have W:s.TypeIs (.ref sl) _:=⟨os,Y,X⟩;delta getItem
 try with_reducible refine Č ?_
 refine À (wpAny_sequenceKey ht.typeIs (by decide) ?_);refine À (ą ht.typeIs Ě
  (ć Ě ht.typeIs entry_tuple_getitem ?_ (args_tuple_getitem ..)))
 show ê _ _ (agE _ >>= _) _ _ s;refine À (tupleItemsOf_ ht ?_);refine À (afz W ?_);refine À (JC hs pl pu ?_);have V:¬ ((((bT items.size 0 lo):Int)==0&&(1:Int)==1&&(bT items.size items.size hi-bT items.size 0 lo)==items.size)=ό):=by
  intro q;rw[Â,Â] at q;have T:=eq_of_beq q.1.1;have S:=eq_of_beq q.2;exact hw ⟨by omega,by omega⟩
 show ê _ _ (if (((bT _ 0 lo):Int)==0&&(1)==1&&(bT _ _ hi-bT _ 0 lo)==items.size)=ό then _ else _) _ _ s
 rw[Ý V,WW]
 first
  |exact À (Ď (Å ⟨_,rfl,Å h⟩) Z)
  |exact À _
  |exact À _
  |exact À _
end
end HT
namespace L2
open PySem PySem.Spec PyProof.Rows
abbrev TO:=St->Hp->(Option Int->Hp->Prop)->Prop
def PO (X:Cx) (e:Option Ő) (t:TO):Prop :=
 ∀Z s (σ:St) H Q,Inv X Z σ H s->t σ H Q ->
  ê (è X.prog X.w) X.A (evalPart e X.env) (λu W=>∃o Y,Inv X Z σ Y W/\IsPart u o/\Q o Y) X.xe s
def YR:TO:=λ_ H Q=>Q ϋ H
def acP (t:TE):TO:=fun σ H Q=>t σ H λx Z=>∃i,x=.int i/\Q (ϊ i) Z
def intsAre_of:∀{us},Vals (ns.map V.int) us->agq us ns:=by
 induction ns with
 |nil=>intro us r;cases r;exact .nil
 |cons n ns ih =>
  intro us r
  cases r with
  |cons Z Y =>
   obtain⟨t,e⟩:=Z;subst e;exact .cons n t (ih Y)
section
variable {X:Cx} {e:Ő} {te:TE} {lo hi:Option Ő} {tl th:TO} {pos p2:Pos}
def YS:PO X ϋ YR:=by
 intro Z s σ H Q I h;exact Å ⟨ϋ,H,I,.none,h⟩
def YT (h:PE X e te):PO X (ϊ e) (acP te):=by
 intro Z s σ H Q I hw;refine aW (h Z s σ H _ I hw) λu T ⟨x,Y,W,V,U⟩=>?_;obtain⟨i,rfl,q⟩:=U;obtain⟨t,rfl⟩:=V;exact⟨_,Y,W,.int i t,q⟩
def so (X:Cx) (r:V->Option Int->Option Int->Hp->VK->Prop):Prop :=
 ∀Z s (σ:St) H x v Y W lo hi sl Q,Inv X Z σ H s->RelV x v->s.heap.IsSliceOf sl Y W .none->IsPart Y lo->IsPart W hi->r x lo hi H Q ->
  ∃T id,typeLookup (.type T) "__getitem__"=pure (ϊ (.builtin id))/\s.TypeIs v T/\ê (è X.prog X.w) X.A (getItem v (.ref sl)) (EP X Z σ Q) X.xe s
def tSl (r:V->Option Int->Option Int->Hp->VK->Prop) (te:TE) (tl th:TO):TE:=fun σ H Q=>te σ H λx Z=>tl σ Z λl Y=>th σ Y λu X=>r x l u X Q
def LN (hr:so X r) (he:PE X e te) (hl:PO X lo tl) (hu:PO X hi th):PE X (.Subscript e (.Slice lo hi ϋ p2) pos) (tSl r te tl th):=by
 intro Z s σ H Q I h;refine Subscript_ (aW (he Z s σ H _ I h) λv S ⟨x,R,P,O,N⟩=>?_);refine wpAny_Slice (aW (hl Z S σ R _ P N) λY M ⟨l,L,K,J,G⟩=>aW (hu Z M σ L _ K G) λW V ⟨u,U,F,pu,E⟩=>?_);refine Å ?_
 have D:Inv X Z σ U { V with heap:=V.heap.push { cls:=.type "slice",data:=.fields #[Y,W,.none] } }:=F.kept λb z q=>Á _ q
 obtain⟨T,id,C,B,A⟩:=hr Z _ σ U x v Y W l u _ Q D O (Heap.IsSliceOf.new ..) J pu E;exact tail_any B C A (by with_unfolding_all rfl)
noncomputable def oJ (xs:List V) (lo hi:Option Int):List V:=(xs.drop (HT.bT xs.length 0 lo)).take (HT.bT xs.length xs.length hi-HT.bT xs.length 0 lo)
def Ka (xs) (lo hi):(oJ xs lo hi).length<=xs.length:=by
 delta oJ;rw[abL,List.length_drop];omega
def aev (K:Ň):V->Option Int->Option Int->Hp->VK->Prop:=λx lo hi H Q=>∃a Z,x=.ref a/\cb K H a Z /\
 ¬ (HT.bT Z.length 0 lo=0/\HT.bT Z.length Z.length hi=Z.length)/\∀p,H p=ϋ->Q (.ref p) (upd H p (.tup (oJ Z lo hi)))
def Aa:so X (aev X.K):=by
 intro P s σ H x v O N lo hi sl Q I U T S pu h;obtain⟨a,Y,rfl,R,hw,q⟩:=h;cases U;obtain⟨aj,r,W,V⟩:=I.tuple R;have Z:aj.toArray.size=Y.length:=by exact r.length.symm
 refine⟨_,_,Ě.lookup,W.typeIs,?_⟩;refine HT.Sj W T S pu (by rw[Z];exact hw) ?_ (by rw[Z];exact V);rw[Z];refine⟨.ref _,_,I.laid (λb M q=>Á _ q) (agW _) ?_,rfl,q _ (I.aQ.fresh (agW _))⟩;exact⟨Ø (Ka Y lo hi) V,_,(r.drop _).take _,IsTup.new ..⟩
def acQ (K:Ň):R2:=λx y H Q=>∃a b Y Z,x=.ref a/\y=.ref b/\cb K H a Y/\cb K H b Z/\Y≠[]/\Y.length+Z.length<=Ô /\
 (Z=[]->Q (.ref a) H)/\(Z≠[]->∀p,H p=ϋ->Q (.ref p) (upd H p (.tup (Y++Z))))
def Vals.DA (r:Vals xs us):us=[]↔xs=[]:=by
 cases r with
 |nil=>simp
 |cons _ _=>simp
def YU:bP X (Ľ .Add) (acQ X.K):=by
 intro M s σ H x y v u Q I V U h;obtain⟨a,b,L,J,rfl,rfl,T,S,R,W,P,O⟩:=h;cases V;cases U;obtain⟨aj,Y,N,_⟩:=I.tuple T;obtain⟨G,Z,p2,_⟩:=I.tuple S;refine HT.YQ N p2 (λz=>R (Y.DA.mp z)) (λz=>⟨.ref a,H,I,rfl,P (Z.DA.mp z)⟩) (λz=>?_) (by rw[<- Y.length,<- Z.length];exact W);refine⟨.ref _,_,I.laid (λb F q=>Á _ q) (agW _) ?_,rfl,O (λw=>z (Z.DA.mpr w)) _ (I.aQ.fresh (agW _))⟩;exact⟨by rw[Ù];exact W,_,Y.append Z,IsTup.new ..⟩
end
noncomputable def fW (n:Nat) (i:Int):Option Nat:=if 0<=i then (if i<n then ϊ i.toNat else ϋ) else if -(n)<=i then ϊ (i+n).toNat else ϋ
def cR {α:Type} (xs:List α) (i:Int):Option α:=(fW xs.length i).bind λj=>xs[j]?
def MT (h:fW n i=ϊ j):seqIndex? i n=ϊ j/\j<n/\-(n)<=i/\i<n:=by
 delta fW at h;by_cases Y:0<=i
 ·rw[Ö Y] at h
  by_cases Z:i<n
  ·rw[Ö Z] at h
   have e:=agX h;exact⟨by rw[seqIndex_of Y Z,e],by omega,by omega,Z⟩
  ·rw[Ý Z] at h;cases h
 ·rw[Ý Y] at h
  by_cases Z:-(n)<=i
  ·rw[Ö Z] at h
   have e:=agX h;exact⟨by rw[seqIndex_neg ⋯ Z,e],by omega,Z,by omega⟩
  ·rw[Ý Z] at h;cases h
def DB {xs} {i} {v:α} (h:cR xs i=ϊ v):∃j,seqIndex? i xs.length=ϊ j/\xs[j]?=ϊ v/\j<xs.length/\-(xs.length)<=i/\i<xs.length:=by
 delta cR at h
 cases e:fW _ i with
 |none=>rw[e] at h;cases h
 |some j =>
  rw[e] at h;obtain⟨Z,Y,X,W⟩:=MT e;exact⟨j,Z,h,Y,X,W⟩
def YV {xs} {j:Nat} {v:α} (h:xs[j]?=ϊ v):cR xs (j)=ϊ v:=by
 have Z:=(Ï.mp h).1;have e:fW xs.length (j)=ϊ j:=by
  delta fW;rw[Ö ⋯,Ö ⋯];simp
 delta cR;rw[e];exact h
def WX (xs) (v:α):cR (xs++[v]) (-1)=ϊ v:=by
 have Z:(xs++[v]).length=xs.length+1:=by simp
 have e:fW (xs++[v]).length (-1)=ϊ xs.length:=by
  delta fW;rw[Z,Ý (by decide),Ö ⋯];congr 1;omega
 delta cR;rw[e];simp
def MU (b:Ő):Prop:=∀o i,subscripted b ύ o i=operate [o,i] (getItem o i)
def yr (X:Cx) (r:R2):Prop :=
 ∀value slice Z s (σ:St) H x y v u Q,Inv X Z σ H s->RelV x v->RelV y u->r x y H Q ->
  subscripted slice ύ v u=operate [v,u] (getItem v u)->ê (è X.prog X.w) X.A (subscriptTail value slice v u) (EP X Z σ Q) X.xe s
def vf (X:Cx) (id:String) (r:V->List V->Hp->VK->Prop):Prop :=
 ∀Z s (σ:St) H x Y v W Q,Inv X Z σ H s->RelV x v->Vals Y W->r x Y H Q ->
  ê (è X.prog X.w) X.A (call (.builtin id) (v::W)) (EP X Z σ Q) X.xe s
section
variable {X:Cx} {a b:Ő} {ta tb:TE} {pos:Pos}
def acR (hr:yr X r) (ha:PE X a ta) (hb:PE X b tb) (hs:MU b):PE X (.Subscript a b pos) (yn r ta tb):=by
 intro Z s σ H Q I h;exact Subscript_ (FV ha hb I h λv u Y x y W V U T q=>hr a b Z Y σ W x y v u Q V U T q (hs ..))
def aew (K:Ň):R2:=λx y H Q=>∃p Z i v,x=.ref p/\y=.int i/\cf K H p Z/\cR Z i=ϊ v/\Q v H
def aex (K:Ň):R2:=λx y H Q=>∃p Z i v,x=.ref p/\y=.int i/\cb K H p Z/\cR Z i=ϊ v/\Q v H
def aey:R2:=λx y H Q=>∃z i c,x=.str z/\y=.int i/\z.length<=Ô/\cR z.cps.toList i=ϊ c/\Q (.str ⟨#[c]⟩) H
def MV:yr X (aew X.K):=by
 intro value slice S s σ H x y v u Q I R P h V;obtain⟨p,E,i,z,rfl,rfl,O,N,q⟩:=h;cases R;obtain⟨t,rfl⟩:=P;obtain⟨aj,r,Y,D⟩:=I.list O;obtain⟨j,Z,M,C,L,J⟩:=DB N;obtain⟨w,U,G⟩:=r.get M;have F:=r.length;have B:=ra;have fin:EP X S σ Q w s:=⟨z,H,I,G,q⟩;by_cases T:0<=i
 ·have W:=by
   rw[seqIndex_of T J] at Z;exact agX Z
  exact item_listR Y.isList T ⋯ (by rw[W];simpa using U) fin V
 ·have W:(i+(aj.toArray.size)).toNat=j:=by
   rw[seqIndex_neg ⋯ L] at Z;rw[ã,<- F];exact agX Z
  exact subscriptTail_builtinR Y.isList.typeIs slot_list_getitem.lookup
   (wpAny_getItem_list_neg Y.isList ⋯ (by rw[ã]<;>omega) ⋯ (by rw[W];simpa using U) ⟨rfl,fin⟩) V
def aaM:yr X (aex X.K):=by
 intro value slice Y s σ H x y v u Q I W V h U;obtain⟨p,L,i,z,rfl,rfl,T,S,q⟩:=h;cases W;obtain⟨t,rfl⟩:=V;obtain⟨aj,r,Z,J⟩:=I.tuple T;obtain⟨j,R,P,G,F,E⟩:=DB S;obtain⟨w,O,N⟩:=r.get P;have M:=r.length;have D:=ra;have fin:EP X Y σ Q w s:=⟨z,H,I,N,q⟩;exact subscriptTail_builtinR Z.typeIs slot_tuple_getitem.lookup
  (getItem_tuple Z ⋯ ⋯ (by rw[ã,<- M];exact R) (by simpa using O) ⟨rfl,fin⟩) U
def aaN:yr X aey:=by
 intro value slice O s σ H x y v u Q I Y W h V;obtain⟨z,i,c,rfl,rfl,N,U,q⟩:=h;obtain⟨t,rfl⟩:=Y;obtain⟨M,rfl⟩:=W;obtain⟨j,Z,T,L,S,R⟩:=DB U;have P:z.cps.toList.length=z.length:=by simp[Str.length]
 rw[P] at Z S R;have K:=ra;exact tail_any (agl s z t) slot_str_getitem.lookup (getItem_str (by
  have e1:ώ (i < -(2 ^ 63))=ύ:=Ê ⋯;have e2:ώ (i ≥ 2 ^ 63)=ύ:=Ê ⋯;rw[e1,e2,Bool.or_false]) (by rw[Z];simpa using T) ⟨.str _,H,I.tok _,⟨_,rfl⟩,q⟩) V
def UE (aj:List á) (n j) (u):agm (·.setIfInBounds j u) { cls:=.type "list",data:=.seq aj.toArray n }={ cls:=.type "list",data:=.seq (aj.set j u).toArray n }:=by
 simp[agm]
theorem Inv.lst {σ:St} {H} {s} {p} {xs} (I:Inv X π σ H s) (h:H p=ϊ (.lst xs)) :
  ∃(aj:List á) (n:Nat),Vals xs aj/\s.heap.get? p=ϊ { cls:=.type "list",data:=.seq aj.toArray n }/\xs.length<=Ô:=by
 obtain⟨z,aj,n,r,e⟩:=I.aQ p _ h;exact⟨aj,n,r,e,z⟩
def Inv.aaO {σ:St} {H} {s} {p} {xs ys} {aj kP:List á} {n n'} {f} (I:Inv X π σ H s) (h:H p=ϊ (.lst xs))
  (ho:s.heap.get? p=ϊ { cls:=.type "list",data:=.seq aj.toArray n }) (hf:f { cls:=.type "list",data:=.seq aj.toArray n }={ cls:=.type "list",data:=.seq kP.toArray n' }) (r:Vals ys kP) (hz:ys.length<=Ô) (t) :
  Inv X π σ (upd H p (.lst ys)) { s with heap:=s.heap.update p f,toks:=t }:=by
 have e:(s.heap.update p f).get? p=ϊ { cls:=.type "list",data:=.seq kP.toArray n' }:=by
  rw[ě f ho (by rw[hf]<;>rfl),hf]
 refine I.write (by rw[h];trivial) (.inl rfl) (λb u Z q=>(ŵ _ _ (ŧ Z)).trans q) ⟨_,e⟩ ?_;exact⟨hz,kP,n',r,e⟩
def acS:V->V->V->Hp->(Hp->Prop)->Prop:=λo i v H Q=>∃p Z k j,o=.ref p/\i=.int k/\H p=ϊ (.lst Z)/\fW Z.length k=ϊ j/\Q (upd H p (.lst (Z.set j v)))
def set_list:Ql X acS:=by
 intro G s σ H o i v F E u Q I N M L h;obtain⟨p,D,k,j,rfl,rfl,T,K,q⟩:=h;cases N;obtain⟨t,rfl⟩:=M;obtain⟨aj,n,r,Y,J⟩:=I.lst T;obtain⟨Z,C,S,R⟩:=MT K;have V:=r.length;have B:=ra;have P :=
  I.aaO T Y (UE aj n j u) (r.set L j) (by rw[Ă];exact J) s.toks
 by_cases O:0<=k
 ·have U:=by
   rw[seqIndex_of O R] at Z;exact agX Z
  exact PySem.W.ki_setAt Y O ⋯ (by rw[ã,<- V];exact R) (by rw[U];exact⟨_,P,q⟩)
 ·have U:(k+(aj.toArray.size)).toNat=j:=by
   rw[seqIndex_neg ⋯ S] at Z;rw[ã,<- V];exact agX Z
  exact PySem.W.ki_setBack Y ⋯ (by rw[ã,<- V];exact S) ⋯ (by rw[U];exact⟨_,P,q⟩)
def Td (lo hi) (n):(afZ lo hi ϋ n).1=((HT.bT n 0 lo))/\(afZ lo hi ϋ n).2.1=((HT.bT n n hi))/\(afZ lo hi ϋ n).2.2=1:=by
 refine⟨?_,?_,rfl⟩
 ·cases lo with
  |none=>simp[afZ,HT.bT]
  |some i =>
   erw[afZ,HT.bT,Option.getD_none,show (1:Int) > 0 by decide,ø];by_cases h:i<0
   ·erw[h,ø]<;>omega
   ·erw[h,ñ]<;>omega
 ·cases hi with
  |none=>simp[afZ,HT.bT]
  |some i =>
   erw[afZ,HT.bT,Option.getD_none,show (1:Int) > 0 by decide,ø];by_cases h:i<0
   ·erw[h,ø]<;>omega
   ·erw[h,ñ]<;>omega
def SJ (aj:List á) (lo hi):slicePick aj.toArray lo hi ϋ=((aj.drop (HT.bT aj.length 0 lo)).take (HT.bT aj.length aj.length hi-HT.bT aj.length 0 lo)).toArray:=by
 obtain⟨Z,Y,X⟩:=Td lo hi _;delta slicePick;rw[Z,Y,X]
 erw[sliceRange_one,pick_run,ã]<;>rfl
def aez (K:Ň):V->Option Int->Option Int->Hp->VK->Prop:=λx lo Y H Q=>∃a Z,x=.ref a/\cf K H a Z/\∀p,H p=ϋ->Q (.ref p) (upd H p (.lst (oJ Z lo Y)))
def YW:so X (aez X.K):=by
 intro O s σ H x v N M lo W sl Q I V U T pu h;obtain⟨a,S,rfl,R,q⟩:=h;cases V;obtain⟨aj,r,Y,P⟩:=I.list R;have Z:=r.length;refine⟨_,_,slot_list_getitem.lookup,Y.isList.typeIs,?_⟩
 refine wpAny_getItem_list_slice Y.isList U T pu .none ∅ ?_ (by rw[ã]<;>omega)
 rw[SJ,<- Z];refine⟨.ref _,_,I.laid (λb L q=>Á _ q) (agW _) ?_,rfl,q _ (I.aQ.fresh (agW _))⟩;exact⟨Ø (Ka S lo W) P,_,0,(r.drop _).take _,Ë _ rfl⟩
def BU:dh X (.builtin "len") (λxs H Q=>∃p ys,xs=[.ref p]/\(cf X.K H p ys\/cb X.K H p ys)/\Q (.int ys.length) H):=by
 intro T s σ H xs S Q I r h;obtain⟨p,ys,rfl,hq,q⟩:=h;obtain⟨u,rfl,V⟩:=vals1 r;cases V;have R:=ra
 rcases hq with hq|hq
 ·obtain⟨aj,Y,W,U⟩:=I.list hq
  have Z:=Y.length
  exact Calls.call_len_list W.isList (by erw[ã]<;>omega) ⟨.int _,H,I.tok _,⟨_,by rw[ã,Z]⟩,q⟩
 ·obtain⟨aj,Y,W,U⟩:=I.tuple hq
  have Z:=Y.length
  exact len_tuple W (by erw[ã]<;>omega) ⟨.int _,H,I.tok _,⟨_,by rw[ã,Z]⟩,q⟩
def Te:dh X (.builtin "len") (λxs H Q=>∃z,xs=[.str z]/\z.length<=Ô/\Q (.int z.length) H):=by
 intro Z s σ H xs Y Q I r h;obtain⟨z,rfl,W,q⟩:=h;obtain⟨u,rfl,t,rfl⟩:=vals1 r;have V:=ra;exact len_str ⋯ ⟨.int _,H,I.tok _,⟨_,rfl⟩,q⟩
def JM:dh X (.type "tuple") (λxs H Q=>∃p ys,xs=[.ref p]/\((cf X.K H p ys/\∀l,H l=ϋ->Q (.ref l) (upd H l (.tup ys)))\/(cb X.K H p ys/\Q (.ref p) H))):=by
 intro P s σ H xs O Q I r h;obtain⟨p,ys,rfl,h⟩:=h;obtain⟨u,rfl,S⟩:=vals1 r;cases S
 rcases h with ⟨Z,q⟩ | ⟨Z,q⟩
 ·obtain⟨aj,Y,W,V⟩:=I.list Z
  have U:=Y.length
  refine call_tuple_list W.isList (λN kp=>?_) (by erw[ã]<;>omega)
  have T:=I.kept (t':=s.toks) kp;have R :=
   T.laid (t':=s.toks) (λb o e=>Á _ e) (agW _) (show gF _ _ _ _ _ (.tup ys) from ⟨V,aj,Y,IsTup.new ..⟩)
  exact⟨.ref _,_,R,rfl,q _ (T.aQ.fresh (agW _))⟩
 ·obtain⟨aj,Y,W,V⟩:=I.tuple Z
  exact call_tuple_same W ⟨.ref p,H,I,rfl,q⟩
def GN (K:Ň) (T:String) (x:V) (H:Hp):Prop:=match x with
 | .str _=>T="str"
 | .int _=>T="int"
 | .ref p=>(T="list"/\∃Y,cf K H p Y)\/(T="tuple"/\∃o,K.lookup p=ϊ o/\o.cls=.type "tuple"/\o.dict=ϋ) \/
   (T="dict"/\((∃Z,H p=ϊ (.dK Z))\/∃Z,H p=ϊ (.dT Z)))\/(T="set"/\∃S n,H p=ϊ (.set S n))
 |_=>False
def N4 {σ:St} {H} {s} {T} {x} {v} (I:Inv X π σ H s) (r:RelV x v) (ty:GN X.K T x H) :
  s.TypeIs v T/\∀a,v=.ref a->∃ob,s.heap.get? a=ϊ ob/\ob.dict=ϋ:=by
 cases x with
 |str z =>
  obtain⟨t,rfl⟩:=r;cases (ty)
  exact⟨agl s z t,λ_ e=>nomatch e⟩
 |int i =>
  obtain⟨t,rfl⟩:=r;cases (ty)
  exact⟨typeIs_int s i t,λ_ e=>nomatch e⟩
 |ref p =>
  cases r
  rcases ty with ⟨rfl,Q,V⟩ | ⟨rfl,o,Z,U,Y⟩ | ⟨rfl,Z⟩ | ⟨rfl,S,n,Z⟩
  ·obtain⟨aj,_,W,_⟩:=I.list V
   refine⟨W.isList.typeIs,λa e=>?_⟩;cases e;obtain⟨o,n,e,c,Y,_⟩:=W;exact⟨o,e,Y⟩
  ·refine⟨⟨o,I.fT p o Z,U⟩,λa e=>?_⟩
   cases e;exact⟨o,I.fT _ o Z,Y⟩
  ·have z:∃o,s.heap.get? p=ϊ o/\o.ExactDict:=by
    rcases Z with ⟨R,Z⟩ | ⟨R,Z⟩
    ·obtain⟨_,_,_,_,o,_,_,e,ex,_⟩:=I.aQ p _ Z
     exact⟨o,e,ex⟩
    ·obtain⟨_,_,_,_,o,_,_,e,ex,_⟩:=I.aQ p _ Z
     exact⟨o,e,ex⟩
   obtain⟨o,e,ex⟩:=z;refine⟨⟨o,e,ex.1⟩,λa e2=>?_⟩;cases e2;exact⟨o,e,ex.2.1⟩
  ·obtain⟨o,_,_,_,e,ex,_⟩:=I.aQ p _ Z
   refine⟨⟨o,e,ex.1⟩,λa e2=>?_⟩;cases e2;exact⟨o,e,ex.2.1⟩
 |_=>exact Ć ty
def aeA (K:Ň) (T:String) (r:V->List V->Hp->VK->Prop) (to:TE):TE:=fun σ H Q=>to σ H λx Z=>GN K T x Z/\r x [] Z Q
def tBM (K:Ň) (T:String) (r:V->List V->Hp->VK->Prop) (to:TE) (t:TA):TE:=fun σ H Q=>to σ H λx Z=>GN K T x Z/\t σ Z λY X=>r x Y X Q
variable {o e:Ő} {es:List Ő} {to:TE} {t:TA} {name:Str} {apos bB:Pos} {T id:String} {r:V->List V->Hp->VK->Prop}
def aaP (pa:PlainAttrs T) (slot:Slot T name id) (GO:typeOf (.builtin id)=pure (.type "method_descriptor")) (hm:vf X id r) (ho:PE X o to)
  (jd:Ĳ o name X.env (į o X.env)=į o X.env:=by rfl) (je:(apos.endLine==bB.line)=ό:=by rfl):PE X (.Call (.Attribute o name apos) [] [] bB) (aeA X.K T r to):=by
 intro Z s σ H Q I h;refine wpAny_Call_method0_late jd je (aW (ho Z s σ H _ I h) λv V ⟨x,U,Y,W,ty,S⟩=>?_);obtain⟨R,P⟩:=N4 Y W ty;exact⟨T,id,pa,slot,GO,R,P,Calls.callWith_builtin rfl (PySem.evalArgs_none (hm Z V σ U x _ v _ Q Y W .nil S))⟩
def wZ (pa:PlainAttrs T) (slot:Slot T name id) (GO:typeOf (.builtin id)=pure (.type "method_descriptor")) (hm:vf X id r) (ho:PE X o to) (ha:PA X (e::es) t)
  (jd:Ĳ o name X.env (į o X.env)=į o X.env:=by rfl)
  (lT:((İ bB (Ì (e::es) X.env)).all (λx=>!x.1)&&(afH bB (Œ [] X.env)).all (λx=>x.1.isSome)
   && ώ ((e::es).length+([]:List ξ).length+(if ([]:List ξ).isEmpty then 0 else 1)<30))=ό:=by rfl)
  (je:(apos.endLine==bB.line)=ό:=by rfl) (hs:Ì (e::es) X.env=(ύ,į e X.env)::Ì es X.env:=by rfl) (i8:(İ bB (Ì es X.env)).any (·.1)=ύ:=by rfl) :
  PE X (.Call (.Attribute o name apos) (e::es) [] bB) (tBM X.K T r to t):=by
 intro Z s σ H Q I h;refine wpAny_Call_method_late jd lT je rfl (aW (ho Z s σ H _ I h) λv U ⟨x,S,Y,W,ty,R⟩=>?_);obtain⟨P,O⟩:=N4 Y W ty;refine⟨T,id,pa,slot,GO,P,O,?_⟩;have V:=ha bB Z U σ S _ Y R;rw[hs] at V |-
 refine Calls.callWith_builtin (by show (ύ||(İ bB _).any _)=ύ;rw[i8]<;>rfl) (Calls.evalArgs_plain ?_)
 exact aW V λN M ⟨L,J,G,F,E⟩=>hm Z M σ J x L v N Q G W F E
end
def Rb (X:Cx) (id:String) (r:V->List V->Hp->VK->Prop):Prop :=
 ∀Z s (σ:St) H x Y v W Q,Inv X Z σ H s->RelV x v->Vals Y W->r x Y H Q ->
  ê (è X.prog X.w) X.A (call (.builtin id) (v::W)) (EP X Z σ Q) X.xe s
def Vals.one:∀{x} {us},Vals [x] us->∃u,us=[u]/\RelV x u
 |_,_,.cons r .nil=>⟨_,rfl,r⟩
def Vals.zero:∀{us},Vals [] us->us=[]
 |_,.nil=>rfl
theorem Vals.dropLast (h:Vals xs us):Vals xs.dropLast us.dropLast:=by
 induction h with
 |nil=>exact .nil
 |cons r t ih =>
  cases t with
  |nil=>exact .nil
  |cons q Z=>exact .cons r ih
theorem Vals.rep (h:Vals xs us):∀k,Vals (Õ k xs).flatten (Õ k us).flatten
 |0=>.nil
 |k+1=>by
  exact Vals.append h (Vals.rep h k)
def UG {α:Type} (l:List α):l.eraseIdx (l.length-1)=l.dropLast:=by
 induction l with
 |nil=>rfl
 |cons a r ih =>
  cases r with
  |nil=>rfl
  |cons b r =>
   have e:(a::b::r).length-1=((b::r).length-1)+1:=by
    have Z:(a::b::r).length=r.length+2:=rfl;have Y:(b::r).length=r.length+1:=rfl;omega
   rw[e,List.eraseIdx_cons_succ,ih]
   all_goals rfl
theorem foldl_rep (aj):∀k (acc:List á),
  List.foldl (λx1 x2=>x1++x2) acc.toArray (Õ k aj.toArray)=(acc++(Õ k aj).flatten).toArray
 |0,acc=>by simp
 |k+1,acc=>by
  have e:acc.toArray++aj.toArray=(acc++aj).toArray:=by simp
  have e2:(acc++aj)++(Õ k aj).flatten=acc++(Õ (k+1) aj).flatten:=by
   rw[agr,af0,ġ]
  rw[<- e2,<- foldl_rep aj k _,<- e,agr,List.foldl_cons]
section
variable {X:Cx} {π:List (ă×Obj)} {σ:St} {H:Hp} {s:Û} {l b:ă} {xs ys zs:List V}
def Inv.Qq {aj kP:List á} {n} {f} {t'} (I:Inv X π σ H s) (hH:H l=ϊ (.lst xs))
  (e:s.heap.get? l=ϊ { cls:=.type "list",data:=.seq aj.toArray n }) (hf:f aj.toArray=kP.toArray) (hv:Vals ys kP) (hz:ys.length<=Ô) :
  Inv X π σ (upd H l (.lst ys)) { s with heap:=s.heap.update l (agm f),toks:=t' }:=by
 have q:=PySem.IsL.update e f;rw[hf] at q;refine I.write (by rw[hH];exact trivial) (.inl rfl) (λW u Z Y=>(ŵ _ _ (ŧ Z)).trans Y) ⟨_,q⟩ ?_;exact⟨hz,kP,_,hv,q⟩
def Inv.Qr (I:Inv X π σ H s) (hv:Vals ys aj) (hz:ys.length<=Ô) :
  Inv X π σ (upd H s.heap.objs.size (.lst ys)) { s with heap:=s.heap.push { cls:=.type "list",data:=.seq aj.toArray },toks:=t' } :=
 I.laid (λ_ _ q=>Á _ q) (agW _) ⟨hz,aj,0,hv,Ë _ rfl⟩
theorem Inv.fresh (I:Inv X π σ H s):H s.heap.objs.size=ϋ:=I.aQ.fresh (agW _)
def Inv.xB (I:Inv X π σ H s) (hH:H l=ϊ (.lst xs)):xs.length<=Ô/\∃(aj:List á) (n:Nat),Vals xs aj/\xs.length=aj.length/\s.heap.get? l=ϊ { cls:=.type "list",data:=.seq aj.toArray n }:=by
 obtain⟨z,aj,n,r,e⟩:=I.aQ l _ hH;exact⟨z,aj,n,r,r.length,e⟩
def WY (h:n<=Ô):Builtin.List.listTooLong n=ύ:=by
 exact Ê ⋯
end
section
variable {X:Cx}
def YX:V->List V->Hp->VK->Prop:=λx Y H Q=>∃l Z y,x=.ref l/\Y=[y]/\H l=ϊ (.lst Z)/\Z.length<Ô/\Q .az (upd H l (.lst (Z++[y])))
def Vz:Rb X "list.append" YX:=by
 intro U s σ H x T v S Q I Y W h;obtain⟨l,R,y,rfl,rfl,Z,P,q⟩:=h;cases Y;obtain⟨u,rfl,V⟩:=W.one;obtain⟨z,aj,n,r,O,e⟩:=I.xB Z;refine Ű F.slot_list_append ⟨_,e,rfl⟩ F.entry_list_append (F.args_list_append_2 ..) (PySem.list_append l _ n u (by rw[ã];omega)) ⟨e,?_⟩;refine⟨.az,_,I.Qq Z e ∅ (r.append (.cons V .nil)) ?_,rfl,q⟩;rw[Ù,af8];omega
def aeB:V->List V->Hp->VK->Prop:=λx Y H Q=>∃l Z y,x=.ref l/\Y=[]/\H l=ϊ (.lst Z)/\Z[Z.length-1]?=ϊ y/\Q y (upd H l (.lst Z.dropLast))
def aaQ:Rb X "list.pop" aeB:=by
 intro O s σ H x N v M Q I W V h;obtain⟨l,L,y,rfl,rfl,Y,U,q⟩:=h;cases W;have Z:=V.zero;subst Z;obtain⟨z,aj,n,r,T,e⟩:=I.xB Y;obtain⟨u,S,R⟩:=r.get U;have P:=by
  show aj.toArray[aj.length-1]?=ϊ u;rw[<- ĸ,<- T];exact S
 refine Ű F.slot_list_pop ⟨_,e,rfl⟩ F.entry_list_pop (F.args_list_pop_1 _) (MeetsSeq.list_pop_last l _ n u P (by rw[ã];omega)) ⟨e,?_⟩;refine⟨y,_,I.Qq Y e ?_ r.dropLast ?_,R,q⟩
 ·rw[ã,List.eraseIdxIfInBounds_toArray,UG]
 ·rw[agj]
  omega
def aeC:R2:=λx y H Q=>∃l b Z zs,x=.ref l/\y=.ref b/\H l=ϊ (.lst Z)/\H b=ϊ (.lst zs)/\Z.length+zs.length<=Ô/\∀p,H p=ϋ->Q (.ref p) (upd H p (.lst (Z++zs)))
def aaR:bP X (Ľ .Add) aeC:=by
 intro R s σ H x y v u Q I Y W h;obtain⟨l,b,O,zs,rfl,rfl,V,U,N,q⟩:=h;cases Y;cases W;obtain⟨z,aj,n,r,M,e⟩:=I.xB V;obtain⟨L,Z,K,T,J,e2⟩:=I.xB U;refine PySem.P.add_list e e2 ?_ (by rw[ã,ã];omega);have S:aj.toArray++Z.toArray=(aj++Z).toArray:=by simp
 rw[S];exact⟨.ref _,_,I.Qr (r.append T) (by rw[Ù];omega),rfl,q _ I.fresh⟩
def aeD:R2:=λx y H Q=>∃l k Z,x=.ref l/\y=.int k/\H l=ϊ (.lst Z)/\-(2 ^ 63)<=k/\k<2 ^ 63/\Z.length*k.toNat<=Ô /\
 ∀p,H p=ϋ->Q (.ref p) (upd H p (.lst (Õ k.toNat Z).flatten))
def len_rep {α:Type} (xs:List α) (k):(Õ k xs).flatten.length=k*xs.length:=by
 induction k with
 |zero=>simp
 |succ k ih=>rw[agr,af0,Ù,ih,Nat.succ_mul,Nat.add_comm]
def aaS:bP X (Ľ .Mult) aeD:=by
 intro G s σ H x y v u Q I S R h;obtain⟨l,k,E,rfl,rfl,P,O,N,T,q⟩:=h;cases S;obtain⟨t,rfl⟩:=R;obtain⟨z,aj,n,r,M,e⟩:=I.xB P;have Z:aj.toArray.size*k.toNat<=Ô:=by rw[ã,<- M];exact T
 have Y:¬ aj.toArray.size*k.toNat > (2 ^ 63-1) / 8:=by
  have:(Ô)<=(2 ^ 63-1) / 8:=by decide
  omega
 have W:¬ (!Builtin.List.listFitsIndex k)=ό:=by
  rw[fitsIndex_both O N];exact Ú
 have V:¬ Builtin.List.listTooLong (aj.toArray.size*k.toNat)=ό:=by
  rw[WY Z];exact Ú
 have U:List.foldl (λL K=>L++K) #[] (Õ (if aj.toArray.isEmpty=ό then 0 else k.toNat) aj.toArray)=(Õ k.toNat aj).flatten.toArray:=by
  have f0:=λm=>by
   have:=foldl_rep aj m [];rw[Ĩ] at this;exact this
  rw[f0]
  cases aj with
  |nil=>simp
  |cons a D=>rw[Ý ∅]
 refine wpAny_binaryOp_repeat_ref (by decide) ⟨_,e,rfl⟩ (λJ=>typeIs_int J k t) noFill_list_mul F.fills_int_mul ags repeat_list F.slot_int_index.lookup
  (Ű ags (typeIs_int s k t) F.entry_int_rmul (F.args_int_rmul_2 ..) (int___rmul___int_list k t l _ n)
   ⟨e,rfl,⟨_,e,rfl⟩,Ű F.slot_list_mul ⟨_,e,rfl⟩ F.entry_list_mul (F.args_list_mul_2 ..) (AutoListH.list___mul___list_int_3 l _ n k t W Y V) ⟨e,?_⟩⟩)
 rw[U];exact⟨.ref _,_,I.Qr (r.rep _) (by rw[len_rep,Nat.mul_comm];exact T),rfl,q _ I.fresh⟩
end
section
variable {prog:ù} {w:ĩ} {A:Đ} {E:á->Û->Prop} {s:Û}
set_option maxRecDepth 100000 in
end
end L2
namespace Rf
open PySem PySem.W PySem.Calls PyProof.Rows
def Sq:∀ns vs,WellAll P h vs (ns.map WData.int)->agq vs ns:=by
 intro ns
 induction ns with
 |nil =>
  intro vs w;cases w;exact .nil
 |cons n ns ih =>
  intro vs w
  cases w with
  |cons a b =>
   cases a;exact .cons _ _ (ih _ b)
def VA {l:OpenLaw} {n} (hn:l.most=ϊ n) {P} {h} {args} {vals}
  (AQ:l.row.toRowW.claim.pre args=ό) (GP:WellAll P h vals args) :
  ∃a vs ns,vals=[agR a]/\args=[WData.list (ns.map WData.int)]/\h.get? a=ϊ { cls:=.type "list",data:=.seq vs.toArray }/\agq vs ns/\ns.length<=n:=by
 have X:=(pre_splitW AQ).1;have V:l.pre.holds _ _=ό:=(pre_splitW AQ).2;obtain⟨d,r,rfl,U,T⟩:=hasAllW_cons X;obtain rfl:=hasAllW_nil T;obtain⟨M,rfl,S⟩:=hasW_list U;obtain⟨ns,rfl⟩:=items_int S;have Z:=by
  have Y:=by
   have Y:=(holds_andW V).1;rw[hn] at Y;exact Y
  have W:=condW_of Y (w_not (w_lt w_lit (w_len_list (w_arg rfl))))
  first
   |(exact absurd W (by decide))
   |(simp at W;omega)
 cases GP with
 |cons R Q =>
  cases Q
  cases R with
  |list O N=>exact⟨_,_,ns,rfl,rfl,O,Sq ns _ N,Z⟩
def VB (l:OpenLaw) (args):l.row.toRowW.claim.post args (.bool ό) args=ό :=
 postW_of
  (by first|rfl|decide|simp[WShape.has,WShape.arms,WShape.armsAll])
  (w_eq_bool (w_res rfl) w_lit) rfl
def TV {l:OpenLaw} {n} {q} {loose} {XP} {YP} {d}
  (hn:l.most=ϊ n) (yt:d.params.defaults=[])
  (call:∀w dS cm mg mb fa o pm cd doc a vs ns,
   Ground q loose [] XP w dS mg mb cm.heap->YP w cm.heap ->
   cm.heap.get? fa=ϊ o->o.data=.func (docDef d.name d.params d.body d.scope pm cd doc)->cm.heap.CodeRec cd d.name->mg d.name=ϊ (.ref fa) ->
   cm.heap.get? a=ϊ { cls:=.type "list",data:=.seq vs.toArray }->agq vs ns->ns.length<=n->cm.gens=#[] ->
   ų (è l.prog w) callerA (.call (.ref fa) ⟨[.ref a],[]⟩) (λr s'=>r=.ok (.ret (.bool ό))/\OldK cm.heap s'.heap/\s'.os=cm.os/\agM s'.gens) cm) :
  WalkO q loose XP YP l.row.toRowW d [] (λf vs=>PySem.call f vs):=by
 intro w dS cm mg mb G Y fa o pm cd doc W kV V U T X S R args vals as Q P O N F;obtain rfl:W=.none:=Dflts.none X yt;obtain rfl:kV=.none:=Dflts.noKw X;obtain⟨a,vs,ns,rfl,rfl,M,hints,Z⟩:=VA hn Q N;refine enter_call (Ł (call w _ _ mg mb fa o pm cd doc a vs ns G Y V (fd_plain U) T S M hints Z R) λr s' L=>?_);obtain⟨rfl,K,J,I⟩:=L
 exact⟨.inl ⟨_,_,_,rfl,λ_=>rfl,.bool ό,VB l _,λ_=>⟨List.Pairwise.nil,λ_ H=>(nomatch H)⟩⟩,K,J,I⟩
section
variable {prog:ù} {w:ĩ} {A:Đ} {E:á->Û->Prop} {s:Û} {K:Ň}
noncomputable def ledger (h:ū) (L d:ă):List (ă×Obj):=(â h.objs.size).filterMap λa=>if a=L\/a=d then ϋ else (h.get? a).map λo=>(a,o)
end
end Rf
namespace L2
open PySem PySem.Spec PyProof.Rows
theorem Lb:∀{vs} {ns},agq vs ns->Vals (ns.map V.int) vs
 |_,_,.nil=>.nil
 |_,_,.cons n t h=>.cons ⟨t,rfl⟩ (Lb h)
noncomputable abbrev KOf {K:Ň} {h} (_:K.In h):Ň:=K
noncomputable def lF (s:Stmt):Arguments:=match s with
 | .FunctionDef _ a ..=>a
 |_=>{ posonlyargs:=[],args:=[],vararg:=ϋ,kwonlyargs:=[],kw_defaults:=[],kwarg:=ϋ,defaults:=[] }
noncomputable def gS (s:Stmt):List Stmt:=match s with
 | .FunctionDef _ _ b ..=>b
 |_=>[]
noncomputable def cI (s:Stmt):agH:=match s with
 | .FunctionDef _ _ _ _ _ _ sc ..=>sc
 |_=>{ kind:=.function,names:=[],isGenerator:=ύ,isCoroutine:=ύ }
abbrev fg:ql:=λ_ _ _ _ _ _=>False
abbrev E0:XK:=λ_ _ _=>False
def acU:Passes fg X E0:=λ_ _ _ _ _ _ _ h=>h.elim
structure qo (K) (x qual) (st) (f) (fd):Prop where
 ex:∃(oc:á) (od:Option ă) (kV doc pm:á) (an:Option ă) (bw ct:á) (jU:Array _),
  fd=Ŏ x qual (lF st) (gS st) (cI st) .none kV doc pm an bw ct/\K.lookup f=ϊ ⟨oc,od,.func fd,jU⟩/\χ K bw qual=ό
 kp:Ņ K (.ref f)=ό
section
variable {P:ù} {w:ĩ} {K:Ň} {mg:Str->Option á} {base:ū}
def qo.ok {st} {f} {fd} {N ps} {k} {sp} (F:qo K x qual st f fd) (S:tV N ps (cI st)) (len:∀vs H Q E,sp vs H Q E->vs.length=ps.length)
  (lO:∀bw A outer s H vs Q E,bV k (A.deeper (envOfC qual (cI st) s.heap.objs.size f bw))->sp vs H Q E ->
   ∃t,dP (iC fg P w K mg base N qual (cI st) f bw A outer s H E).oX (gS st) t/\t { nx:=λ_ H'=>Q .az H',rt:=Q } (start N vs) H):dD P w K mg base fg (k+1) f fd ps sp:=by
 obtain⟨W,V,kV,doc,pm,an,bw,U,T,rfl,lk,Z⟩:=F.ex;refine Ax lk Z S len λA outer s H vs Q E Y X=>?_;obtain⟨t,h,q⟩:=lO bw A outer s H vs Q E Y X;exact⟨t,h.oX,q⟩
def qo.binds {st} {f} {fd} {ps} (F:qo K x qual st f fd)
  (h:∀kV doc pm an bw ct us,us.length=ps.length->bindArgs (Ŏ x qual (lF st) (gS st) (cI st) .none kV doc pm an bw ct) ⟨us,[]⟩=pure (ps.zip us)):Binds K fd ps []:=by
 obtain⟨Z,Y,kV,doc,pm,an,bw,ct,X,rfl,lk,W⟩:=F.ex;exact .all (h kV doc pm an bw ct)
def Ab {st} {f} {oc} {od an} {jU} {kV doc pm bw ct} (l:K.lookup f=ϊ ⟨oc,od,.func (Ŏ x qual (lF st) (gS st) (cI st) .none kV doc pm an bw ct),jU⟩)
  (c:χ K bw qual=ό) (k:Ņ K (.ref f)=ό):qo K x qual st f (Ŏ x qual (lF st) (gS st) (cI st) .none kV doc pm an bw ct):=⟨⟨oc,od,kV,doc,pm,an,bw,ct,jU,rfl,l,c⟩,k⟩
end
def lU (H H':Hp):Prop:=∀b o,H b=ϊ o->H' b=ϊ o
def lU.refl (H):lU H H:=λ_ _ h=>h
theorem CO (env):∀(l:List _) acc,(∀n,(n,NameKind.free)∈l->∃c,env.cells.lookup n=ϊ c) ->
  ∃cl,(forIn l acc (λ(p:Str×NameKind) cs=>(do
   if (p.2==NameKind.free)=ό then do let c <- cellOf env p.1;pure (ľ ((p.1,c)::cs)) else pure (ľ cs))))=pure cl /\
   ∀n c,cl.lookup n=ϊ c↔(((n,NameKind.free)∈l/\env.cells.lookup n=ϊ c)\/((n,NameKind.free)∉l/\acc.lookup n=ϊ c))
 | [],acc,_=>⟨acc,rfl,λn c=>by simp⟩
 |(x,k)::r,acc,h=>by
  rw[agt]
  cases Y:(k==NameKind.free) with
  |false =>
   have U:k≠.free:=by intro e;rw[e] at Y;cases Y
   obtain⟨cl,e,q⟩:=CO env r acc λn X=>h n (É _ X);refine⟨cl,?_,λn c=>?_⟩
   ·exact e
   ·rw[q n c]
    have:(n,NameKind.free)∈(x,k)::r↔(n,NameKind.free)∈r:=by
     constructor
     ·intro Z
      rcases Ñ.mp Z with z|z
      ·injection z with _ T
       exact absurd T.symm U
      ·exact z
     ·exact É _
    rw[this]
  |true =>
   have S:k=.free:=by cases k<;>first|rfl|cases Y
   subst S;obtain⟨Q,W⟩:=h x Ó;obtain⟨cl,e,q⟩:=CO env r _ λn X=>h n (É _ X);refine⟨cl,?_,λn c=>?_⟩
   ·erw[ø,cellOf,W]
    exact e
   ·rw[q n c]
    by_cases V:n=x
    ·subst V
     constructor
     ·rintro (⟨_,z⟩ | ⟨_,z⟩)
      ·exact .inl ⟨Ó,z⟩
      ·rw[Ę,ę] at z
       exact .inl ⟨Ó,W.trans z⟩
     ·rintro (⟨_,z⟩ | ⟨z,_⟩)
      ·by_cases Z:(n,NameKind.free)∈r
       ·exact .inl ⟨Z,z⟩
       ·refine .inr ⟨Z,?_⟩
        rw[Ę,ę];exact W.symm.trans z
      ·exact absurd Ó z
    ·have:(n,NameKind.free)∈(x,NameKind.free)::r↔(n,NameKind.free)∈r:=by
      constructor
      ·intro Z
       rcases Ñ.mp Z with z|z
       ·injection z with R _
        exact absurd R V
       ·exact z
      ·exact É _
     rw[this,Ę,beq_false_of_ne V]
def N5 (h:∀n,(n,NameKind.free)∈sc.names->∃c,env.cells.lookup n=ϊ c) :
  ∃cl,closureFor sc env=pure cl/\∀n c,cl.lookup n=ϊ c↔((n,NameKind.free)∈sc.names/\env.cells.lookup n=ϊ c):=by
 obtain⟨cl,e,q⟩:=CO env _ _ h;refine⟨cl,?_,λn c=>?_⟩
 ·exact(ı (λz=>z >>= λr=>pure r) e)
 ·rw[q n c]
  simp
theorem LO (f:Str->NameKind->NameKind) (x):∀l:List _,(l.map λp=>(p.1,f p.1 p.2)).lookup x=(l.lookup x).map (f x)
 | []=>rfl
 |(n,k)::r=>by
  rw[Þ,Ę,Ę]
  cases h:x==n with
  |true =>
   have e:=by simpa using h
   subst e;rfl
  |false=>exact LO f x r
def zh (sc) (env) (x):(relabel sc env).names.lookup x=(sc.names.lookup x).map λk=>if (k==NameKind.free&&env.scope.kind==.function&&env.kindOf x==ϊ .cell)=ό then NameKind.cell else k:=by
 rw[<- LO (λx k=>if (k==NameKind.free&&env.scope.kind==.function&&env.kindOf x==ϊ _)=ό then NameKind.cell else k)]
 congr 1;apply agu;rintro ⟨n,k⟩ _;dsimp only
 split<;>rfl
noncomputable abbrev fy (X:Cx) (N:List Str) (sc:agH) (cl:List (Str×ă)) (C:ă) (s:Û) (H:Hp) (ex:List ă) (pn:List (ă×Obj)):Cx where
 prog:=X.prog
 w:=X.w
 K:=X.K
 mg:=X.mg
 base:=X.base
 A:=X.A
 N:=N
 dS:=s
 m9:=H
 env:=compEnvC sc cl C X.env
 outer:=X.stack
 stack:=X.stack
 ex:=ex
 fn:=λ_=>ύ
 calm:=X.calm
 pn:=pn
 xe:=λ_ _=>False
structure wF (X:Cx) (sc:agH) (N:List Str) (nt) (cap:List Nat):Prop where
 kind:sc.kind=.function
 wG:∀x∈sc.names,x.2≠.cell
 names:∀x∈sc.names,x.2=.local->sc.names.lookup x.1=ϊ .local
 frees:∀x∈sc.names,x.2=.free->sc.names.lookup x.1=ϊ .free/\(X.env.scope.names.lookup x.1=ϊ .cell\/X.env.scope.names.lookup x.1=ϊ .free)
 len:N.length=nt+cap.length
 F0:∀k j,cap[k]?=ϊ j->∃x,X.N[j]?=ϊ x/\N[nt+k]?=ϊ x/\(x,NameKind.free)∈sc.names
noncomputable def mG (nt:Nat) (cap:List Nat) (σ:St):St:=Õ nt ϋ++cap.map λj=>(σ[j]?).getD ϋ
def PF (X:Cx) (tests:List Ő) (t:TT):Prop :=
 ∀Z s (σ:St) H Q,Inv X Z σ H s->t σ H Q ->
  ê (è X.prog X.w) X.A (forIn tests ό λc r=>if r=ό then do let ok <- isTrue c X.env (į c X.env);pure (ľ ok) else pure (ľ r)) (TP X Z σ Q) X.xe s
def aeH:TT:=λ_ H Q=>Q ό H
def aaT:PF X [] aeH:=λ_ _ _ H _ I h=>wpAny_tests_nil ⟨H,I,h⟩
def aaU (h:PT X c t):PF X [c] t:=λZ s σ H Q I hw=>wpAny_tests_one (h Z s σ H Q I hw)
def oY (g:TG) (nt:Nat):Prop:=∀x o Z H R,o.length=nt->g x (o++Z) H R->g x (o++Z) H fun Y W=>(∃X,X.length=nt/\Y=X++Z)/\R Y W
noncomputable def pS (cap:List Nat) (σ:St):St:=cap.map λj=>(σ[j]?).getD ϋ
def Rh (mk:ă->List V->HO) (l8:List V->Prop) (J:It) (nt:Nat) (caps:St) (g:TG) (tf:TT) (te:TE) (H:Hp) (Q:VK):Prop:=∃W:Nat->Nat->List V->Hp->Prop,(∃m,W 0 m [] H) /\
 ∀i m Z Y,W i m Z Y->(J.stop i Y/\l8 Z/\∀D,Y D=ϋ->Q (.ref D) (upd Y D (mk D Z))) \/
  (J.go i Y/\l8 Z/\∃N:List V->Hp->Prop,(∀X U,N X U->∃T,T < m/\W (i+1) T X U) /\
   ∀o x S,o.length=nt->J.vc i Y x S->g x (o++caps) S fun R O=>tf R O λb P=>if b=ό then te R P λv M=>N (Z++[v]) M else N Z P)
def CW (J:It) (nt:Nat) (caps:St) (g:TG) (tf:TT) (te:TE) (H:Hp) (Q:VK):Prop:=Rh (λ_ Z=>.lst Z) (λZ=>Z.length<=Ô) J nt caps g tf te H Q
def rz (wi:TI) (nt:Nat) (cap:List Nat) (g:TG) (tf:TT) (te:TE):TE:=fun σ H Q=>wi σ H λJ Z=>CW J nt (pS cap σ) g tf te Z Q
section
variable {fs ex:List ă} {H H':Hp} {h h1 h2:ū} {P:ù} {w:ĩ}
def Un.adopt {D:ă} {o} (u:Un fs ex H H' h h1) (hp:h.objs.size<=D) (hn:H' D=ϋ):Un fs ex H (upd H' D o) h h1 where
 keep:=u.keep
 slot:=u.slot
 free:=λb Y q n X=>by rw[bI (ä (È (Í q) hp))];exact u.free b Y q n X
 there:=u.there
 gI:=λb Z q=>by rw[bI (dW (u.gI b Z q) hn)];exact u.gI b Z q
 fQ:=λb Y Z q=>by rw[bI (dW (u.fQ b Y Z q) hn)];exact u.fQ b Y Z q
 gJ:=λb W q=>by
  obtain⟨more,e⟩:=u.gJ b W q;exact⟨more,by rw[bI (dW e hn)];exact e⟩
def Un.but {C:ă} (u:Un fs ex H H' h h1) (hp:h.objs.size<=C) (sb:ĥ C h1 h2):Un fs ex H H' h h2:=by
 have ne:∀b Z,h.get? b=ϊ Z->b≠C:=λb Z q=>ä (È (Í q) hp);refine⟨λb Z q n X Y=>(sb.2 b (ne b Z q)).trans (u.keep b Z q n X Y),λb Z q n X Y=>?_,u.free,λb Z q Y=>?_,u.gI,u.fQ,u.gJ⟩
 ·obtain⟨sl,e⟩:=u.slot b Z q n X Y
  exact⟨sl,(sb.2 b (ne b Z q)).trans e⟩
 ·obtain⟨W,e⟩:=u.there b Z q Y
  exact⟨W,(sb.2 b (ne b Z q)).trans e⟩
def dF.but (x:dF P w H h1) (hn:H C=ϋ) (sb:ĥ C h1 h2):dF P w H h2:=λa o e =>
 (x a o e).iS (λb u Z q=>(sb.2 b (by
  rintro rfl
  rcases Z with z|z
  ·subst z;rw[hn] at e;cases e
  ·rw[hn] at z;cases z)).trans q) (λ_ q=>q) λ_ _ q=>q
def dF.adopt (x:dF P w H h) (hn:H D=ϋ) (new:gF P w (upd H D o) h D o):dF P w (upd H D o) h:=λb u e=>by
 by_cases Z:b=D
 ·subst Z;rw[dC] at e;cases e;exact new
 ·rw[bI Z] at e
  exact(x b u e).iS (λc v _ q=>q) (λc q=>by rw[bI (dW q hn)];exact q) λc Y q=>by rw[bI (dW q hn)];exact q
end
section
variable {X:Cx} {sc:agH} {N:List Str} {nt:Nat} {cap:List Nat} {cl:List (Str×ă)} {s:Û} {h1:ū} {H:Hp} {σ:St} {π:List (ă×Obj)} {fp:List ă} {C:ă} {t':Nat}
def Inv.block (I:Inv X π σ H s) (S:wF X sc N nt cap) (dQ:∀n c,cl.lookup n=ϊ c↔((n,NameKind.free)∈sc.names/\X.env.cells.lookup n=ϊ c)) (hf:∀b∈fp,gk X π H b) (hV:∀b∈fp,b<s.heap.objs.size)
  (hk:∀b o,s.heap.get? b=ϊ o->h1.get? b=ϊ o) (hC:s.heap.objs.size<=C) (qp:∃m,h1.Ns C m):Inv (fy X N sc cl C s H fp (X.pn++π)) [] (mG nt cap σ) H { s with heap:=h1,toks:=t' }:=by
 have Q:=I.mE;have L:∀x,(relabel sc _).names.lookup x=ϊ .cell\/(relabel sc X.env).names.lookup x=ϊ .free->(x,NameKind.free)∈sc.names:=λx Z=>by
  rw[zh] at Z
  cases e:sc.names.lookup x with
  |none=>rw[e] at Z;rcases Z with z|z<;>cases z
  |some k =>
   have Y:(x,k)∈sc.names:=by
    obtain⟨a,l2,e1,_⟩:=List.lookup_eq_some_iff.mp e;rw[e1];simp
   rw[e] at Z
   cases k with
   |free=>exact Y
   |cell=>exact absurd rfl (S.wG _ Y)
   |_=>revert Z;simp
 have K:∀x,(x,NameKind.free)∈sc.names->∃c,X.env.cells.lookup x=ϊ c:=λx Z=>I.ok.has x (S.frees _ Z rfl).2;have ok:Cx.Ok (fy X N sc cl C s H fp (X.pn++π)):=by
  refine⟨I.ok.mod,?_,I.ok.glob,I.ok.blt,hC,?_,?_,?_,I.ok.hd,I.ok.frames,.inl rfl,?_,I.bs,Ø I.ok.jv I.sz,?_,?_,I.stack,I.wj⟩
  ·exact S.kind
  ·intro x y c Z J
   exact I.ok.inj x y c ((dQ x c).mp Z).2 ((dQ y c).mp J).2
  ·intro x Z
   have Y:=L x Z;obtain⟨c,e⟩:=K x Y;exact⟨c,(dQ x c).mpr ⟨Y,e⟩⟩
  ·intro x c Z
   cases Z
  ·intro b W
   refine⟨ä (È (hV b W) hC),λx c e=>?_⟩;exact(hf b W).2.2.2.2.1 x c ((dQ x c).mp e).2
  ·intro b o e W
   rcases(hf b W).2.2.2.1 with z|z
   ·exact I.ok.p9 b o e z
   ·exact absurd (È (Í e) (Ø I.ok.jv z)) (ó _)
  ·intro b W z
   rcases Ñ.mp (Q b z) with e|e
   ·exact(hf b W).2.1 e
   ·exact(hf b W).2.2.1 e
 obtain⟨m,Y⟩:=qp;obtain⟨mX,G,F⟩:=I.loc;refine⟨ok,rfl,I.bare,Un.kept hk,⟨m,Y,λi x v e1 e2 e3=>?_⟩,λx c e=>?_,I.aQ.fresh hC,λx c e=>I.jJ x c ((dQ x c).mp e).2,λp E=>?_,I.aQ.kept hk,?_⟩
 ·
  have P:=by
   apply adL;intro O;have:(mG nt cap σ)[i]?=ϊ ϋ:=by
    delta mG;rw[ç (by simpa using O),Ī,Ö O]
   rw[this] at e2;cases e2
  have V:(cap.map λj=>(σ[j]?).getD ϋ)[i-nt]?=ϊ (ϊ v):=by
   have e:=e2;delta mG at e;rw[ô (by simpa using P)] at e;simpa using e
  rw[å] at V
  cases U:cap[i-nt]? with
  |none=>rw[U] at V;cases V
  |some j =>
   rw[U] at V;have ev:(σ[j]?).getD ϋ=ϊ v:=agX V;have D:σ[j]?=ϊ (ϊ v):=by
    cases q:σ[j]? with
    |none=>rw[q] at ev;cases ev
    |some z=>rw[q] at ev;exact ı ϊ ev
   obtain⟨y,f1,f2,M⟩:=S.F0 _ _ U;rw[Nat.add_sub_cancel' P] at f2;have B:=agX (f2.symm.trans e1);subst B;obtain⟨g1,g2⟩:=S.frees _ M rfl;have A:se _ y:=.inr g2;obtain⟨u,r,l⟩:=F j y v f1 D A;refine⟨u,r,.inr ⟨?_,?_⟩⟩
   ·show (relabel sc _).names.lookup y=ϊ _\/(relabel sc _).names.lookup y=ϊ _
    rw[zh,g1];erw[Ž];split
    ·exact .inl rfl
    ·exact .inr rfl
   ·rcases l with ⟨k,_⟩ | ⟨_,c,w,t⟩
    ·have h:X.env.scope.names.lookup y=ϊ _:=k
     rw[h] at g2
     rcases g2 with z|z<;>cases z
    ·obtain⟨T,R,hd⟩:=t
     exact⟨c,(dQ y c).mpr ⟨M,w⟩,T,hk _ _ R,hd⟩
 ·obtain⟨v,T,R,hd⟩:=I.cell x c ((dQ x c).mp e).2
  exact⟨v,T,hk _ _ R,hd⟩
 ·have g:p∈X.pn++π:=by simpa using E
  obtain⟨e,n,ne,f,d⟩:=I.pin p g;refine⟨hk _ _ e,n,ä (È (Í e) hC),λz=>?_,d⟩
  rcases Ñ.mp (Q _ z) with q|q
  ·exact ne q
  ·exact f q
 ·delta mG
  rw[Ù,ż,Ç];exact S.len.symm
end
inductive Kn where
 |az|bl|int|str|tup|lst|cL
 deriving DecidableEq
def vi (K:Ň) (H:Hp):V->Kn->Prop
 | .az,.az=>True
 | .bl _,.bl=>True
 | .int _,.int=>True
 | .str _,.str=>True
 | .ref a,.tup=>∃Z,cb K H a Z
 | .ref a,.lst=>∃Z,cf K H a Z
 | .ref a,.cL=>∃Y,H a=ϊ (.dK Y)
 |_,_=>False
noncomputable def uM:Kn->String->Bool
 | .int,"int"=>ό
 | .bl,"int"=>ό
 | .bl,"bool"=>ό
 | .str,"str"=>ό
 | .tup,"tuple"=>ό
 | .lst,"list"=>ό
 |_,_=>ύ
section
variable {X:Cx}
def Inv.wH {σ:St} {H} {s} {a} {xs} (I:Inv X π σ H s) (h:cb X.K H a xs):∃o,s.heap.get? a=ϊ o/\o.cls=.type "tuple":=by
 obtain⟨aj,r,⟨o,e,c,_⟩,_⟩:=I.tuple h;exact⟨o,e,c⟩
def Inv.wI {σ:St} {H} {s} {a} {xs} (I:Inv X π σ H s) (h:cf X.K H a xs):∃o,s.heap.get? a=ϊ o/\o.cls=.type "list":=by
 obtain⟨aj,r,⟨o,n,e,c,_⟩,_⟩:=I.list h;exact⟨o,e,c⟩
def Inv.wJ {σ:St} {H} {s} {a} {bx} (I:Inv X π σ H s) (h:H a=ϊ (.dK bx)):∃o,s.heap.get? a=ϊ o/\o.cls=.type "dict":=by
 obtain⟨_,_,W,_,p⟩:=(I.aQ a _ h);obtain⟨o,V,U,Z,Y,_⟩:=p;exact⟨o,Z,Y.1⟩
def Tf:dh X (.builtin "isinstance") (λxs H Q=>∃x k,xs=[x,.ty "int"]/\vi X.K H x k/\Q (.bl (uM k "int")) H):=by
 intro T s σ H xs S Q I r h;obtain⟨x,k,rfl,Z,q⟩:=h;obtain⟨u,c,rfl,Y,rc⟩:=vals2 r;cases rc
 cases k with
 |az =>
  cases x with
  |az =>
   cases Y;exact IsiPair.NoneType_int ⟨.bl ύ,H,I.tok _,rfl,q⟩
  |_=>exact Z.elim
 |bl =>
  cases x with
  |bl b =>
   cases Y;exact IsiPair.bool_int ⟨.bl ό,H,I,rfl,q⟩
  |_=>exact Z.elim
 |int =>
  cases x with
  |int i =>
   obtain⟨t,rfl⟩:=Y;exact IsiPair.int_int ⟨.bl ό,H,I,rfl,q⟩
  |_=>exact Z.elim
 |str =>
  cases x with
  |str y =>
   obtain⟨t,rfl⟩:=Y;exact IsiPair.str_int ⟨.bl ύ,H,I.tok _,rfl,q⟩
  |_=>exact Z.elim
 |tup =>
  cases x with
  |ref a =>
   cases Y;obtain⟨z,W⟩:=Z;obtain⟨o,V,U⟩:=I.wH W;exact IsiPair.tuple_int V U ⟨.bl ύ,H,I.tok _,rfl,q⟩
  |_=>exact Z.elim
 |lst =>
  cases x with
  |ref a =>
   cases Y;obtain⟨z,W⟩:=Z;obtain⟨o,V,U⟩:=I.wI W;exact IsiPair.list_int V U ⟨.bl ύ,H,I.tok _,rfl,q⟩
  |_=>exact Z.elim
 |cL =>
  cases x with
  |ref a =>
   cases Y;obtain⟨z,W⟩:=Z;obtain⟨o,V,U⟩:=I.wJ W;exact IsiPair.dict_int V U ⟨.bl ύ,H,I.tok _,rfl,q⟩
  |_=>exact Z.elim
def SK:dh X (.builtin "isinstance") (λxs H Q=>∃x k,xs=[x,.ty "bool"]/\vi X.K H x k/\Q (.bl (uM k "bool")) H):=by
 intro T s σ H xs S Q I r h;obtain⟨x,k,rfl,Z,q⟩:=h;obtain⟨u,c,rfl,Y,rc⟩:=vals2 r;cases rc
 cases k with
 |az =>
  cases x with
  |az =>
   cases Y;exact IsiPair.NoneType_bool ⟨.bl ύ,H,I.tok _,rfl,q⟩
  |_=>exact Z.elim
 |bl =>
  cases x with
  |bl b =>
   cases Y;exact IsiPair.bool_bool ⟨.bl ό,H,I,rfl,q⟩
  |_=>exact Z.elim
 |int =>
  cases x with
  |int i =>
   obtain⟨t,rfl⟩:=Y;exact IsiPair.int_bool ⟨.bl ύ,H,I.tok _,rfl,q⟩
  |_=>exact Z.elim
 |str =>
  cases x with
  |str y =>
   obtain⟨t,rfl⟩:=Y;exact IsiPair.str_bool ⟨.bl ύ,H,I.tok _,rfl,q⟩
  |_=>exact Z.elim
 |tup =>
  cases x with
  |ref a =>
   cases Y;obtain⟨z,W⟩:=Z;obtain⟨o,V,U⟩:=I.wH W;exact IsiPair.tuple_bool V U ⟨.bl ύ,H,I.tok _,rfl,q⟩
  |_=>exact Z.elim
 |lst =>
  cases x with
  |ref a =>
   cases Y;obtain⟨z,W⟩:=Z;obtain⟨o,V,U⟩:=I.wI W;exact IsiPair.list_bool V U ⟨.bl ύ,H,I.tok _,rfl,q⟩
  |_=>exact Z.elim
 |cL =>
  cases x with
  |ref a =>
   cases Y;obtain⟨z,W⟩:=Z;obtain⟨o,V,U⟩:=I.wJ W;exact IsiPair.dict_bool V U ⟨.bl ύ,H,I.tok _,rfl,q⟩
  |_=>exact Z.elim
def Ti:dh X (.builtin "isinstance") (λxs H Q=>∃x k,xs=[x,.ty "str"]/\vi X.K H x k/\Q (.bl (uM k "str")) H):=by
 intro T s σ H xs S Q I r h;obtain⟨x,k,rfl,Z,q⟩:=h;obtain⟨u,c,rfl,Y,rc⟩:=vals2 r;cases rc
 cases k with
 |az =>
  cases x with
  |az =>
   cases Y;exact IsiPair.NoneType_str ⟨.bl ύ,H,I.tok _,rfl,q⟩
  |_=>exact Z.elim
 |bl =>
  cases x with
  |bl b =>
   cases Y;exact IsiPair.bool_str ⟨.bl ύ,H,I.tok _,rfl,q⟩
  |_=>exact Z.elim
 |int =>
  cases x with
  |int i =>
   obtain⟨t,rfl⟩:=Y;exact IsiPair.int_str ⟨.bl ύ,H,I.tok _,rfl,q⟩
  |_=>exact Z.elim
 |str =>
  cases x with
  |str y =>
   obtain⟨t,rfl⟩:=Y;exact IsiPair.str_str ⟨.bl ό,H,I,rfl,q⟩
  |_=>exact Z.elim
 |tup =>
  cases x with
  |ref a =>
   cases Y;obtain⟨z,W⟩:=Z;obtain⟨o,V,U⟩:=I.wH W;exact IsiPair.tuple_str V U ⟨.bl ύ,H,I.tok _,rfl,q⟩
  |_=>exact Z.elim
 |lst =>
  cases x with
  |ref a =>
   cases Y;obtain⟨z,W⟩:=Z;obtain⟨o,V,U⟩:=I.wI W;exact IsiPair.list_str V U ⟨.bl ύ,H,I.tok _,rfl,q⟩
  |_=>exact Z.elim
 |cL =>
  cases x with
  |ref a =>
   cases Y;obtain⟨z,W⟩:=Z;obtain⟨o,V,U⟩:=I.wJ W;exact IsiPair.dict_str V U ⟨.bl ύ,H,I.tok _,rfl,q⟩
  |_=>exact Z.elim
def Sy:dh X (.builtin "isinstance") (λxs H Q=>∃x k,xs=[x,.ty "tuple"]/\vi X.K H x k/\Q (.bl (uM k "tuple")) H):=by
 intro T s σ H xs S Q I r h;obtain⟨x,k,rfl,Z,q⟩:=h;obtain⟨u,c,rfl,Y,rc⟩:=vals2 r;cases rc
 cases k with
 |az =>
  cases x with
  |az =>
   cases Y;exact IsiPair.NoneType_tuple ⟨.bl ύ,H,I.tok _,rfl,q⟩
  |_=>exact Z.elim
 |bl =>
  cases x with
  |bl b =>
   cases Y;exact IsiPair.bool_tuple ⟨.bl ύ,H,I.tok _,rfl,q⟩
  |_=>exact Z.elim
 |int =>
  cases x with
  |int i =>
   obtain⟨t,rfl⟩:=Y;exact IsiPair.int_tuple ⟨.bl ύ,H,I.tok _,rfl,q⟩
  |_=>exact Z.elim
 |str =>
  cases x with
  |str y =>
   obtain⟨t,rfl⟩:=Y;exact IsiPair.str_tuple ⟨.bl ύ,H,I.tok _,rfl,q⟩
  |_=>exact Z.elim
 |tup =>
  cases x with
  |ref a =>
   cases Y;obtain⟨z,W⟩:=Z;obtain⟨o,V,U⟩:=I.wH W;exact IsiPair.tuple_tuple V U ⟨.bl ό,H,I,rfl,q⟩
  |_=>exact Z.elim
 |lst =>
  cases x with
  |ref a =>
   cases Y;obtain⟨z,W⟩:=Z;obtain⟨o,V,U⟩:=I.wI W;exact IsiPair.list_tuple V U ⟨.bl ύ,H,I.tok _,rfl,q⟩
  |_=>exact Z.elim
 |cL =>
  cases x with
  |ref a =>
   cases Y;obtain⟨z,W⟩:=Z;obtain⟨o,V,U⟩:=I.wJ W;exact IsiPair.dict_tuple V U ⟨.bl ύ,H,I.tok _,rfl,q⟩
  |_=>exact Z.elim
def SM:dh X (.builtin "isinstance") (λxs H Q=>∃x k,xs=[x,.ty "list"]/\vi X.K H x k/\Q (.bl (uM k "list")) H):=by
 intro T s σ H xs S Q I r h;obtain⟨x,k,rfl,Z,q⟩:=h;obtain⟨u,c,rfl,Y,rc⟩:=vals2 r;cases rc
 cases k with
 |az =>
  cases x with
  |az =>
   cases Y;exact IsiPair.NoneType_list ⟨.bl ύ,H,I.tok _,rfl,q⟩
  |_=>exact Z.elim
 |bl =>
  cases x with
  |bl b =>
   cases Y;exact IsiPair.bool_list ⟨.bl ύ,H,I.tok _,rfl,q⟩
  |_=>exact Z.elim
 |int =>
  cases x with
  |int i =>
   obtain⟨t,rfl⟩:=Y;exact IsiPair.int_list ⟨.bl ύ,H,I.tok _,rfl,q⟩
  |_=>exact Z.elim
 |str =>
  cases x with
  |str y =>
   obtain⟨t,rfl⟩:=Y;exact IsiPair.str_list ⟨.bl ύ,H,I.tok _,rfl,q⟩
  |_=>exact Z.elim
 |tup =>
  cases x with
  |ref a =>
   cases Y;obtain⟨z,W⟩:=Z;obtain⟨o,V,U⟩:=I.wH W;exact IsiPair.tuple_list V U ⟨.bl ύ,H,I.tok _,rfl,q⟩
  |_=>exact Z.elim
 |lst =>
  cases x with
  |ref a =>
   cases Y;obtain⟨z,W⟩:=Z;obtain⟨o,V,U⟩:=I.wI W;exact IsiPair.list_list V U ⟨.bl ό,H,I,rfl,q⟩
  |_=>exact Z.elim
 |cL =>
  cases x with
  |ref a =>
   cases Y;obtain⟨z,W⟩:=Z;obtain⟨o,V,U⟩:=I.wJ W;exact IsiPair.dict_list V U ⟨.bl ύ,H,I.tok _,rfl,q⟩
  |_=>exact Z.elim
end
section
variable {X:Cx} {es:List Ő} {t:TA} {pos:Pos}
def LP {bs:List Bool} (r:Vals (bs.map V.bl) aj):TruthOf X.prog X.w A (λi v=>aj.toArray[i]?=ϊ v) (λi=>bs.getD i ύ):=by
 intro i v s Q E T S;have Z:=by simpa using T
 have O:=(Ï.mp Z).1;have Y:i<bs.length:=by
  have e:=r.length;rw[Ç] at e;omega
 have R:(bs.map V.bl)[i]?=ϊ (.bl (bs[i])):=by rw[å,Ò Y];rfl
 obtain⟨u,W,P⟩:=Vals.get r R;rw[Z] at W;cases W;cases P;have e:bs.getD i ύ=bs[i]:=by simp[agK,Ò Y]
 have U:Q (bs.getD i ύ) s:=S;rw[e] at U;exact ŏ U
def range_all (bs:List Bool):(â bs.length).all (λi=>bs.getD i ύ)=bs.all id:=by
 rw[Ġ,Ü,Ü];constructor
 ·intro h b Y
  obtain⟨i,Z,e⟩:=afr Y;have:=h i (î.mpr Z);simpa [Ò Z,e] using this
 ·intro h i Z
  have Z:=î.mp Z;have:=h _ (agg Z);simpa [Ò Z] using this
def range_any (bs:List Bool):(â bs.length).any (λi=>bs.getD i ύ)=bs.any id:=by
 rw[Ġ,Ŭ,Ŭ];constructor
 ·rintro ⟨i,Z,h⟩
  have Z:=î.mp Z;exact⟨_,agg Z,by simpa [Ò Z] using h⟩
 ·rintro ⟨b,Y,h⟩
  obtain⟨i,Z,e⟩:=afr Y;exact⟨i,î.mpr Z,by simpa [Ò Z,e] using h⟩
def WZ (hc:X.calm=ό):dh X (.builtin "all") (λxs H Q=>∃(p:ă) (bs:List Bool),xs=[.ref p]/\cf X.K H p (bs.map V.bl)/\Q (.bl (bs.all id)) H):=by
 intro P s σ H xs O Q I r h;obtain⟨p,bs,rfl,W,q⟩:=h;obtain⟨u,rfl,U⟩:=vals1 r;cases U;obtain⟨aj,Y,Z,N⟩:=I.list W;have T:aj.toArray.size=bs.length:=by
  have e:=Y.length;simpa using e.symm
 have S:X.A.in1.handled=ϋ:=I.ok.hd hc;refine call_all_walk (Š Z.isList ?_);have old:=ä (by obtain⟨o,n,e,_⟩:=Z;exact Í e);refine⟨_,_,_,_,_,_,λi=>bs.getD i ύ,rfl,Walks.list S _ p old _,⟨⟨_,Ë _ rfl,rfl,rfl⟩,Z.isList.at λo e=>Á _ e⟩,LP Y,λM L R=>?_⟩;rw[T,range_all];exact⟨.bl _,H,I.kept λb o e=>R b o (by simpa using ä (Í e)) (Á _ e),rfl,q⟩
def W0 (hc:X.calm=ό):dh X (.builtin "any") (λxs H Q=>∃(p:ă) (bs:List Bool),xs=[.ref p]/\cf X.K H p (bs.map V.bl)/\Q (.bl (bs.any id)) H):=by
 intro P s σ H xs O Q I r h;obtain⟨p,bs,rfl,W,q⟩:=h;obtain⟨u,rfl,U⟩:=vals1 r;cases U;obtain⟨aj,Y,Z,N⟩:=I.list W;have T:aj.toArray.size=bs.length:=by
  have e:=Y.length;simpa using e.symm
 have S:X.A.in1.handled=ϋ:=I.ok.hd hc;refine call_any_walk (Š Z.isList ?_);have old:=ä (by obtain⟨o,n,e,_⟩:=Z;exact Í e);refine⟨_,_,_,_,_,_,λi=>bs.getD i ύ,rfl,Walks.list S _ p old _,⟨⟨_,Ë _ rfl,rfl,rfl⟩,Z.isList.at λo e=>Á _ e⟩,LP Y,λM L R=>?_⟩;rw[T,range_any];exact⟨.bl _,H,I.kept λb o e=>R b o (by simpa using ä (Í e)) (Á _ e),rfl,q⟩
end
noncomputable def xD:Key->PyData
 | .inl i=>.int i
 | .inr x=>.str x
mutual
def DV (K:Ň) (Z:ă->Prop) (H:Hp):PyData->V->Prop
 | .none,v=>v=.az
 | .bool b,v=>v=.bl b
 | .int i,v=>v=.int i
 | .str x,v=>v=.str x
 | .tuple X,v=>∃a Y,v=.ref a/\cb K H a Y/\aC K Z H X Y
 | .list X,v=>∃a Y,v=.ref a/\¬ Z a/\H a=ϊ (.lst Y)/\aC K Z H X Y
 | .dict U,v=>∃a W,v=.ref a/\¬ Z a/\H a=ϊ (.dK W)/\∃l:List (Key×Int),W=l.map (λp=>(p.1,V.int p.2))/\U=l.map λp=>(xD p.1,PyData.int p.2)
def aC (K:Ň) (Z:ă->Prop) (H:Hp):List PyData->List V->Prop
 | [],Y=>Y=[]
 |d::X,Y=>∃v r,Y=v::r/\DV K Z H d v/\aC K Z H X r
end
section
variable {X:Cx} {π:List (ă×Obj)} {σ:St} {H:Hp} {s:Û} {Z:ă->Prop}
theorem Kb:∀{l:List (Key×Int)} {vs} {es},KV (l.map λp=>(p.1,V.int p.2)) vs->Pairs (zJ P w) es vs ->
  ReadsAll h (es.map (·.key)) ((l.map λp=>(xD p.1,PyData.int p.2)).map (·.1)) []/\ReadsAll h (es.map (·.val)) ((l.map λp=>(xD p.1,PyData.int p.2)).map (·.2)) []
 | [],_,_,.nil,.nil=>⟨.nil,.nil⟩
 |(k,i)::l,_,_,.cons (b:=q) r t,.cons (e:=e) X W U=>by
  obtain⟨a1,a2⟩:=Kb t U;obtain⟨Z,T,S⟩:=r;have Z:k=q.1:=Z;refine⟨?_,?_⟩
  ·have Y:=X
   rw[<- Z] at Y;have:Reads h e.key (xD k) []:=by
    rcases mx Y with ⟨j,u,e1,e2⟩ | ⟨x,u,e1,e2⟩
    ·rw[e1,e2];exact .int j u
    ·rw[e1,e2];exact .str x u
   exact ReadsAll.cons this a1
  ·have:Reads h e.val (.int i) []:=by rw[W,S];exact .int i T
   exact ReadsAll.cons this a2
mutual
theorem DV.reads (I:Inv X π σ H s):∀{d} {v} {u},DV X.K Z H d v->RelV v u->∃as,Reads s.heap u d as
 | .none,v,u,h,r=>by
  have e:=h;subst e;cases r;exact⟨_,.none⟩
 | .bool b,v,u,h,r=>by
  have e:=h;subst e;cases r;exact⟨_,.bool b⟩
 | .int i,v,u,h,r=>by
  have e:=h;subst e;obtain⟨t,rfl⟩:=r;exact⟨_,.int i t⟩
 | .str x,v,u,h,r=>by
  have e:=h;subst e;obtain⟨t,rfl⟩:=r;exact⟨_,.str x t⟩
 | .tuple S,v,u,h,r=>by
  obtain⟨a,R,e,Y,W⟩:=h;subst e;cases r;obtain⟨aj,V,⟨o,e,c,n,U⟩,_⟩:=I.tuple Y;obtain⟨as,T⟩:=aC.reads I W V;exact⟨as,.tuple e c U (by simpa using T)⟩
 | .list S,v,u,h,r=>by
  obtain⟨a,R,e,_,Y,W⟩:=h;subst e;cases r;obtain⟨aj,V,⟨o,n,e,c,_,U⟩,_⟩:=I.list (cf.of Y);obtain⟨as,T⟩:=aC.reads I W V;exact⟨_,.list e c U (by simpa using T)⟩
 | .dict M,v,u,h,r=>by
  erw[DV] at h;obtain⟨a,L,e,_,Y,l,e1,e2⟩:=h;subst e e1 e2;cases r;obtain⟨_,_,J,Q,o,G,F,g1,g2,g3,_,P,_⟩:=(I.aQ a _ Y);obtain⟨O,N⟩:=Kb Q P;exact⟨_,.dict g1 g2.1 g3 O N⟩
theorem aC.reads (I:Inv X π σ H s):∀{ds} {vs} {us},aC X.K Z H ds vs->Vals vs us->∃as,ReadsAll s.heap us ds as
 | [],vs,us,h,r=>by
  have e:=h;subst e;cases r;exact⟨_,.nil⟩
 |d::ds,vs,us,h,r=>by
  obtain⟨v,T,e,Y,W⟩:=h;subst e
  cases r with
  |cons V U =>
   obtain⟨as,a1⟩:=DV.reads I Y V;obtain⟨bs,a2⟩:=aC.reads I W U;exact⟨_,.cons a1 a2⟩
end
def Qs (K:Ň) (neg:Bool):R2:=λx y H Q=>∃(d e:PyData) (Z:ă->Prop),DV K Z H d x/\DV K Z H e y/\d.canLay0=ό/\e.canLay0=ό/\min d.depth e.depth<=100/\Q (.bl (if neg then !PyData.eqv d e else ī d e)) H
def aaV (hr:bV k X.A):bP X (đ .Eq) (Qs X.K ύ):=by
 intro O s σ H x y v u Q I Y W h;obtain⟨d,e,Z,V,U,T,S,N,q⟩:=h;obtain⟨as,R⟩:=V.reads I Y;obtain⟨bs,P⟩:=U.reads I W;exact SeqAt.eqOverData _ _ _ _ _ _ _ _ _ _ _ _ R P T S (by have:=hr.un;omega) ⟨.bl _,H,I,rfl,q⟩
def aaW (hr:bV k X.A):bP X (đ .NotEq) (Qs X.K ό):=by
 intro O s σ H x y v u Q I Y W h;obtain⟨d,e,Z,V,U,T,S,N,q⟩:=h;obtain⟨as,R⟩:=V.reads I Y;obtain⟨bs,P⟩:=U.reads I W;exact SeqAt.neOverData _ _ _ _ _ _ _ _ _ _ _ _ R P T S (by have:=hr.un;omega) ⟨.bl _,H,I,rfl,q⟩
end
end L2
namespace HT
open PySem PySem.Spec PyProof.Rows
section
variable {prog:ù} {w:ĩ} {A:Đ} {E:á->Û->Prop} {s:Û}
def VD (ht:IsTup s.heap t items) (h:Q ό s):ê (è prog w) A (Builtin.Tuple.tupleIsExact (.ref t)) Q E s:=by
 exact À (afz ht.typeIs (Å h))
def Sz {lo hi} {Q} (ht:IsTup s.heap t items) (hs:s.heap.IsSliceOf sl vl vu .none) (pl:IsPart vl lo) (pu:IsPart vu hi)
 (hw:bT items.size 0 lo=0/\bT items.size items.size hi=items.size) (h:Q (.ref t) s):ê (è prog w) A (getItem (.ref t) (.ref sl)) Q E s:=by
 obtain⟨os,Z,Y,U⟩:=id hs;have X:s.TypeIs (.ref sl) _:=⟨os,Z,Y⟩;delta getItem
 try with_reducible refine Č ?_
 refine À (wpAny_sequenceKey ht.typeIs (by decide) ?_);refine À (ą ht.typeIs Ě
  (ć Ě ht.typeIs entry_tuple_getitem ?_ (args_tuple_getitem ..)))
 show ê _ _ (agE _ >>= _) _ _ s;refine À (tupleItemsOf_ ht ?_);refine À (afz X ?_);refine À (JC hs pl pu ?_);obtain⟨W,V⟩:=hw
 show ê _ _ (if (((bT _ 0 lo):Int)==0&&(1)==1&&(bT _ _ hi-bT _ 0 lo)==items.size)=ό then _ else _) _ _ s
 rw[W,V,Ö ∅]
 first
  |exact À (VD ht (by exact À (ů (Å ⟨_,rfl,Å h⟩))))
  |exact À _
end
end HT
namespace L2
open PySem PySem.Spec PyProof.Rows
def lU.sqT {K} {H H'} {a} {xs} (e:lU H H') (h:cb K H a xs):cb K H' a xs:=by
 rcases h with (h | ⟨o,h⟩)|h
 ·exact .inl (.inl (e _ _ h))
 ·exact .inl (.inr ⟨o,e _ _ h⟩)
 ·exact .inr h
theorem lU.upd (hn:H p=ϋ):lU H (upd H p o):=λb u e=>by rw[bI (dW e hn)];exact e
def qa (K:Ň) (H:Hp) (ys:List V) (Q:VK):Prop:=∀a Z,lU H Z->cb K Z a ys->Q (.ref a) Z
def qa.here {K} {H} {ys} {Q} {a} (h:qa K H ys Q) (hs:cb K H a ys):Q (.ref a) H:=h a H (lU.refl H) hs
def qa.new {K} {H} {ys} {Q} {p} (h:qa K H ys Q) (hn:H p=ϋ):Q (.ref p) (L2.upd H p (.tup ys)):=h p _ (lU.upd hn) (cb.of dC)
section
variable {X:Cx} {e:Ő} {te:TE} {pos p2 p3 p4:Pos}
def W2 {lo hi} (h:HT.bT xs.length 0 lo=0/\HT.bT xs.length xs.length hi=xs.length):oJ xs lo hi=xs:=by
 delta oJ;rw[h.1,h.2];simp
def aeI (K:Ň):V->Option Int->Option Int->Hp->VK->Prop:=λx lo Y H Q=>∃a Z,x=.ref a/\cb K H a Z/\qa K H (oJ Z lo Y) Q
def YY:so X (aeI X.K):=by
 intro P s σ H x v O N lo V sl Q I U T S pu h;obtain⟨a,Z,rfl,W,q⟩:=h;by_cases hw:HT.bT Z.length 0 lo=0/\HT.bT Z.length Z.length V=Z.length
 ·cases U
  obtain⟨aj,r,R,L⟩:=I.tuple W;have Y:aj.toArray.size=Z.length:=by exact r.length.symm
  rw[W2 hw] at q;exact⟨_,_,Ě.lookup,R.typeIs,HT.Sz R T S pu (by rw[Y];exact hw) ⟨.ref a,H,I,rfl,q.here W⟩⟩
 ·exact Aa P s σ H _ v O N lo V sl Q I U T S pu ⟨a,Z,rfl,W,hw,λp M=>q.new M⟩
def acV (K:Ň):R2:=λx y H Q=>∃a b Z Y,x=.ref a/\y=.ref b/\cb K H a Z/\cb K H b Y/\Z.length+Y.length<=Ô/\qa K H (Z++Y) Q
def YZ:bP X (Ľ .Add) (acV X.K):=by
 intro P s σ H x y v u Q I W V h;obtain⟨a,b,U,O,rfl,rfl,Z,Y,N,q⟩:=h;by_cases T:U=[]
 ·subst T
  cases W;cases V;obtain⟨aj,M,L,_⟩:=I.tuple Z;obtain⟨z,w,p2,_⟩:=I.tuple Y;cases M;obtain⟨⟨cls,J,data,sl⟩,S,G,n,F⟩:=id L;obtain⟨⟨t,E,data2,D⟩,R,C,B,hd2⟩:=id p2;subst G F C hd2;exact concat_meets ⟨_,S,rfl⟩ ⟨_,R,rfl⟩ noFill_tuple_add seq_tuple_add afT afJ (afy ..)
   (tuple_addW0 a b _ _ n B J E sl D ∅) ⟨S,R,⟨.ref b,H,I,rfl,q.here Y⟩⟩
 ·refine YU P s σ H _ _ v u Q I W V ⟨a,b,U,O,rfl,rfl,Z,Y,T,N,λe=>?_,λ_ p A=>q.new A⟩
  subst e;rw[ú] at q;exact q.here Z
end
end L2
namespace HZ
open PySem PySem.Spec PyProof.Rows
structure ma (P) (w) (A) (i l) (tn:Nat->ū->Prop) (val:Nat->Option á):Prop where
 keep:∀k h h',tn k h->(∀o,h.get? i=ϊ o->h'.get? i=ϊ o)->(∀o,h.get? l=ϊ o->h'.get? l=ϊ o)->tn k h'
 item:∀k s Q E x,tn k s.heap->val k=ϊ x->(∀h',tn (k+1) h'->ĥ i s.heap h'->Q x { s with heap:=h' })->ê (è P w) A (Ŝ (.ref i)) Q E s
 stop:∀k s Q E,tn k s.heap->val k=ϋ->(∀h' e,afs i s.heap h'->(∃o,h'.get? e=ϊ o/\o.cls=.type "StopIteration")->E (.ref e) { s with heap:=h' })->ê (è P w) A (Ŝ (.ref i)) Q E s
 obj:∀k h,tn k h->∃o,h.get? i=ϊ o/\∀v,o.data≠.cell v
section
variable {P:ù} {w:ĩ} {A:Đ} {E:á->Û->Prop} {s:Û}
def UH (g:s.heap.IsTupleIter it t k) (gt:s.heap.IsTuple t aj) (gx:aj[k]?=ϊ x)
 (q:∀h',h'.IsTupleIter it t (k+1)->ĥ it s.heap h'->Q x { s with heap:=h' }):ê (è P w) A (Ŝ (.ref it)) Q E s:=by
 obtain⟨o,go,Y,Z⟩:=id g;obtain⟨ol,X,_,nl,W⟩:=gt;refine À (ą g.typeIs Ŕ
  (ć Ŕ g.typeIs F.entry_tuple_iterator_next ?_ (F.args_tuple_iterator_next_1 _)))
 show ê _ _ (field _ 0 >>= _) ..;refine À (ħ go Z rfl ?_);refine À (ħ go Z rfl ?_);refine À (ļ X W ?_);erw[Ĭ,gx];refine À (ű go Z ∅ (Å ⟨x,rfl,Å (q _ ?_ (ĝ ..))⟩));exact⟨_,ě _ go (ņ (Ĉ Z _)),(af1 ..).trans Y,by rw[Ĉ Z];simp[Ŀ]⟩
def SA (gh:A.handled=ϋ) (g:s.heap.IsTupleIter it t k) (gt:s.heap.IsTuple t aj) (gx:aj[k]?=ϋ)
 (q:∀h' e,afs it s.heap h'->(∃o,h'.get? e=ϊ o/\o.cls=.type "StopIteration")->E (.ref e) { s with heap:=h' }):ê (è P w) A (Ŝ (.ref it)) Q E s:=by
 obtain⟨o,go,W,Z⟩:=id g;obtain⟨ol,Y,_,nl,X⟩:=gt;refine À (ą g.typeIs Ŕ
  (ć Ŕ g.typeIs F.entry_tuple_iterator_next ?_ (F.args_tuple_iterator_next_1 _)))
 show ê _ _ (field _ 0 >>= _) ..;refine À (ħ go Z rfl ?_);refine À (ħ go Z rfl ?_);refine À (ļ Y X ?_);erw[Ĭ,gx];refine À (ů (À (ű go Z ∅ ?_)));refine À ?_
 refine À (m:=firstArgMember ..) (aft (by first|rfl | (rfl)) ?_)
 refine Ď ?_ (by size_fits);refine À (wpAny_handled ?_)
 first|rw[gh]|rw[gh]
 refine À (Å (wpAny_throw ?_));exact q _ _ (((ĝ ..).extBut.push _).push _) ⟨_,Ë _ rfl,rfl⟩
def Y0 (gh:A.handled=ϋ) (i l) (aj):ma P w A i l (λk h=>h.IsTupleIter i l k/\h.IsTuple l aj) (λk=>aj[k]?) where
 keep:=λk h Y Z U T=>⟨Z.1.at U,by obtain⟨o,e,r⟩:=Z.2;exact⟨o,T o e,r⟩⟩
 item:=λk s Q E x Z e q=>UH Z.1 Z.2 e λY g X=>by
  by_cases W:l=i
  ·subst W
   obtain⟨o,e1,S,_⟩:=Z.1;obtain⟨R,e2,V,_⟩:=Z.2;rw[e1] at e2;cases e2;rw[S] at V;simp at V
  ·obtain⟨o,e2,r⟩:=Z.2
   exact q Y ⟨g,o,(X.2 l W).trans e2,r⟩ X
 stop:=λk s Q E Z e q=>SA gh Z.1 Z.2 e q
 obj:=λk h Z=>by
  obtain⟨o,e,_,d⟩:=Z.1;exact⟨o,e,λv z=>by rw[d] at z;cases z⟩
def Y1 (gh:A.handled=ϋ) (i l) (aj):ma P w A i l (λk h=>h.IsListIter i l k/\h.IsList l aj) (λk=>aj[k]?) where
 keep:=λk h Y Z U T=>⟨Z.1.at U,Z.2.at T⟩
 item:=λk s Q E x Z e q=>wpAny_nextOf_list_item Z.1 Z.2 e λY g X=>by
  by_cases W:l=i
  ·exfalso
   subst W;obtain⟨o,e1,S,_⟩:=Z.1;obtain⟨R,e2,V,_⟩:=Z.2;rw[e1] at e2;cases e2;rw[S] at V;simp at V
  ·exact q Y ⟨g,Z.2.at λo e2=>(X.2 l W).trans e2⟩ X
 stop:=λk s Q E Z e q=>wpAny_nextOf_list_end gh Z.1 Z.2 e q
 obj:=λk h Z=>by
  obtain⟨o,e,_,d⟩:=Z.1;exact⟨o,e,λv z=>by rw[d] at z;cases z⟩
structure Apart (z ti to j1 j2 m1 m2:ă):Prop where
 a1:ti≠z
 a2:to≠z
 a3:j1≠z
 a4:j2≠z
 a5:ti≠to
 a6:ti≠j1
 a7:ti≠j2
 a8:to≠j1
 a9:to≠j2
 b0:j1≠j2
 b1:m1≠z
 b2:m1≠to
 b3:m1≠j1
 b4:m1≠j2
 b5:m2≠z
 b6:m2≠to
 b7:m2≠j1
 b8:m2≠j2
def W3 {t1 t2} {v1 v2:Nat->Option á} {k} {Q:á->Û->Prop} (D:Apart z ti to j1 j2 m1 m2) (S1:ma P w A j1 m1 t1 v1) (S2:ma P w A j2 m2 t2 v2)
 (gz:IsZip s.heap z ti to .none) (gi:afU s.heap ti (.ref j1) (.ref j2)) (go:afU s.heap to a b) (h1:t1 k s.heap) (h2:t2 k s.heap) (hx:v1 k=ϊ x) (hy:v2 k=ϊ y)
 (q:∀h',IsZip h' z ti to (Ŀ s.heap.objs.size)->afU h' to x y->t1 (k+1) h'->t2 (k+1) h'->afU h' s.heap.objs.size x y->h'.objs.size=s.heap.objs.size+1 ->
 (∀c o,c≠z->c≠to->c≠j1->c≠j2->s.heap.get? c=ϊ o->h'.get? c=ϊ o)->Q (.ref s.heap.objs.size) { s with heap:=h' }) :
  ê (è P w) A (Ŷ.«zip.__next__» ⟨[.ref z],[]⟩) (λfin s'=>∃v,fin=.done (.ret v)/\Q v s') E s:=by
 show ê _ _ (field _ 2 >>= _) _ _ _;refine À (ħ gz rfl (x:=.bool ύ) rfl ?_);refine À (ħ gz rfl rfl ?_);refine À (ļ gi rfl ?_);refine À ?_;refine À (ħ gz rfl rfl (Å ?_));refine À (ů ?_);refine À (ħ gz rfl (x:=.ref to) rfl ?_);refine À (Ś gz ∅ λf p Y=>?_);refine À ?_;refine À (À (wpAny_onRaise ?_));refine À (S1.item k _ _ _ x (S1.keep k _ _ h1 (λo e=>Y.extBut _ _ D.a3 e) (λo e=>Y.extBut _ _ D.b1 e)) hx λn m V=>Å ?_);have G:afU n to a b:=V.extBut _ _ D.a8 (Y.extBut _ _ D.a2 go);refine À (ļ G rfl ?_);refine À (wpAny_updateSeq_pair G λd l X=>?_);refine À (wpAny_letGo (Å ?_));refine À (À (wpAny_onRaise ?_));refine À (S2.item k _ _ _ y (S2.keep k _ _ h2 (λo e=>X.extBut _ _ D.a9.symm (V.extBut _ _ D.b0.symm (Y.extBut _ _ D.a4 e))) (λo e=>X.extBut _ _ D.b6 (V.extBut _ _ D.b7 (Y.extBut _ _ D.b5 e)))) hy λj i U=>Å ?_);have F:afU j to x b:=U.extBut _ _ D.a9 l;refine À (ļ F rfl ?_);refine À (wpAny_updateSeq_pair F λZ T s5=>?_)
 replace T:afU Z to x y:=T
 refine À (wpAny_letGo (Å (Å ?_)));refine À (ļ T rfl ?_);refine À (wpAny_newTuple ?_);have C:Z.objs.size=s.heap.objs.size:=by rw[s5.1,U.1,X.1,V.1,Y.1]
 have B:IsZip Z z ti to _:=s5.extBut _ _ D.a2.symm (U.extBut _ _ D.a4.symm (X.extBut _ _ D.a2.symm (V.extBut _ _ D.a3.symm p)));have h:∀c o,c≠z->c≠to->c≠j1->c≠j2->s.heap.get? c=ϊ o->Z.get? c=ϊ o:=λc o W S N M e=>s5.extBut _ _ S (U.extBut _ _ M (X.extBut _ _ S (V.extBut _ _ N (Y.extBut _ _ W e))));have L:t1 _ Z:=S1.keep _ _ _ m (λo e=>s5.extBut _ _ D.a8.symm (U.extBut _ _ D.b0 (X.extBut _ _ D.a8.symm e))) (λo e=>s5.extBut _ _ D.b2 (U.extBut _ _ D.b4 (X.extBut _ _ D.b2 e)));have K:t2 _ Z:=S2.keep _ _ _ i (λo e=>s5.extBut _ _ D.a9.symm e) (λo e=>s5.extBut _ _ D.b6 e);have u:=Í B;refine À ?_;have g:IsZip (Z.push { cls:=.type "tuple",data:=.seq #[x,y] }) z ti to _:=Á _ B;refine À (Ś g ∅ λp7 J I=>?_)
 replace J:=J
 refine Ś J ∅ λR O H=>?_
 replace O:IsZip R z ti to _:=O
 have up:∀c o,c≠z->Z.get? c=ϊ o->R.get? c=ϊ o:=λc o W e=>H.extBut _ _ W (I.extBut _ _ W (Á _ e));have t:=H.extBut _ _ (Ř u) (I.extBut _ _ (Ř u) (Ë _ rfl));have r:R.objs.size=Z.objs.size+1:=by rw[H.1,I.1,ā]
 rw[C] at O t r;refine Å ⟨_,rfl,?_⟩;rw[C];exact q R O (up _ _ D.a2 T) (S1.keep _ _ _ L (λo e=>up _ o D.a3 e) (λo e=>up _ o D.b1 e)) (S2.keep _ _ _ K (λo e=>up _ o D.a4 e) (λo e=>up _ o D.b5 e)) t r λc o W S N M e=>up c o W (h c o W S N M e)
def Y2 (D:Apart z ti to j1 j2 m1 m2) (S1:ma P w A j1 m1 t1 v1) (S2:ma P w A j2 m2 t2 v2)
 (gz:IsZip s.heap z ti to .none) (gi:afU s.heap ti (.ref j1) (.ref j2)) (go:afU s.heap to a b) (h1:t1 k s.heap) (h2:t2 k s.heap) (F1:v1 k=ϋ\/v2 k=ϋ)
 (q:∀h' e,(∀c o,c≠z->c≠to->c≠j1->c≠j2->s.heap.get? c=ϊ o->h'.get? c=ϊ o)->(∃o,h'.get? e=ϊ o/\o.cls=.type "StopIteration")->E (.ref e) { s with heap:=h' }) :
  ê (è P w) A (Ŷ.«zip.__next__» ⟨[.ref z],[]⟩) Q E s:=by
 show ê _ _ (field _ 2 >>= _) _ _ _;refine À (ħ gz rfl rfl ?_);refine À (ħ gz rfl rfl ?_);refine À (ļ gi rfl ?_);refine À ?_;refine À (ħ gz rfl rfl (Å ?_));refine À (ů ?_);refine À (ħ gz rfl rfl ?_);refine À (Ś gz ∅ λB R Y=>?_);refine À ?_;erw[List.zipIdx_cons,List.zipIdx_nil,agt,List.forIn_nil];refine À (À (wpAny_onRaise ?_));have O:=S1.keep k _ _ h1 (λo e=>Y.extBut _ _ D.a3 e) (λo e=>Y.extBut _ _ D.b1 e)
 cases V:v1 k with
 |none =>
  refine À (S1.stop k _ _ _ O V λI e Z U=>?_);obtain⟨T,g1,g2⟩:=U;have N:=Z _ _ D.a3.symm R;have ne:e≠z:=λu=>by subst u;rw[N] at g1;cases g1;simp at g2
  refine Ś N ∅ λM _ X=>q M e (λc o W _ S _ u=>X.extBut _ _ W (Z _ _ S (Y.extBut _ _ W u))) ⟨T,X.extBut _ _ ne g1,g2⟩
 |some x =>
  have H:v2 k=ϋ:=by
   rcases F1 with h|h
   ·rw[V] at h;cases h
   ·exact h
  refine À (S1.item k _ _ _ x O V λI y Z=>Å ?_);have L:=Z.extBut _ _ D.a8 (Y.extBut _ _ D.a2 go);refine À (ļ L rfl ?_);refine À (wpAny_updateSeq_pair L λM v X=>?_);refine À (wpAny_letGo (Å ?_));refine À (À (wpAny_onRaise ?_));refine À (S2.stop k _ _ _ (S2.keep k _ _ h2 (λo e=>X.extBut _ _ D.a9.symm (Z.extBut _ _ D.b0.symm (Y.extBut _ _ D.a4 e))) (λo e=>X.extBut _ _ D.b6 (Z.extBut _ _ D.b7 (Y.extBut _ _ D.b5 e)))) H λt e K U=>?_);obtain⟨T,g1,g2⟩:=U;have J:=K _ _ D.a4.symm (X.extBut _ _ D.a2.symm (Z.extBut _ _ D.a3.symm R));have ne:e≠z:=λu=>by subst u;rw[J] at g1;cases g1;simp at g2
  refine Ś J ∅ λG _ s5=>q G e (λc o W F S C u=>s5.extBut _ _ W (K _ _ C (X.extBut _ _ F (Z.extBut _ _ S (Y.extBut _ _ W u))))) ⟨T,s5.extBut _ _ ne g1,g2⟩
def next_item (D:Apart z ti to j1 j2 m1 m2) (S1:ma P w A.in1 j1 m1 t1 v1) (S2:ma P w A.in1 j2 m2 t2 v2)
 (gz:IsZip s.heap z ti to .none) (gi:afU s.heap ti (.ref j1) (.ref j2)) (go:afU s.heap to a b) (h1:t1 k s.heap) (h2:t2 k s.heap) (hx:v1 k=ϊ x) (hy:v2 k=ϊ y)
 (q:∀h',IsZip h' z ti to (Ŀ s.heap.objs.size)->afU h' to x y->t1 (k+1) h'->t2 (k+1) h'->afU h' s.heap.objs.size x y->h'.objs.size=s.heap.objs.size+1 ->
 (∀c o,c≠z->c≠to->c≠j1->c≠j2->s.heap.get? c=ϊ o->h'.get? c=ϊ o)->Q (ϊ (.ref s.heap.objs.size)) { s with heap:=h' }):ê (è P w) A (agQ (.ref z)) Q E s:=by
 have Z:s.TypeIs (.ref z) _:=⟨_,gz,rfl⟩;exact À (Ũ (ą Z agv
  (ć agv Z F.entry_zip_next (W3 D S1 S2 gz gi go h1 h2 hx hy λh' a1 a2 Y X W V U=>Å (q h' a1 a2 Y X W V U)) (F.args_zip_next_1 _))))
def next_end (D:Apart z ti to j1 j2 m1 m2) (S1:ma P w A.in1 j1 m1 t1 v1) (S2:ma P w A.in1 j2 m2 t2 v2)
 (gz:IsZip s.heap z ti to .none) (gi:afU s.heap ti (.ref j1) (.ref j2)) (go:afU s.heap to a b) (h1:t1 k s.heap) (h2:t2 k s.heap) (F1:v1 k=ϋ\/v2 k=ϋ)
 (q:∀h',(∀c o,c≠z->c≠to->c≠j1->c≠j2->s.heap.get? c=ϊ o->h'.get? c=ϊ o)->Q ϋ { s with heap:=h' }):ê (è P w) A (agQ (.ref z)) Q E s:=by
 have Z:s.TypeIs (.ref z) _:=⟨_,gz,rfl⟩;refine À (Ũ (ą Z agv
  (ć agv Z F.entry_zip_next (Y2 D S1 S2 gz gi go h1 h2 F1 λh' e Y X=>?_) (F.args_zip_next_1 _))))
 obtain⟨o,W,V⟩:=X;exact À (wpAny_isInstance ⟨o,W,V⟩ isSubtype_stop (Å (q _ Y)))
end
end HZ
namespace L2
open PySem PySem.Spec PyProof.Rows
def aaX {π} {σ:St} {H} {s} {a b} {xs} (I:Inv X π σ H s) (h:cb X.K H a xs) (f:gk X π H b):a≠b:=by
 rintro rfl;obtain⟨f0,_,_,Y,_⟩:=f
 rcases h with (h | ⟨o,h⟩) | ⟨o,aj,n,W,_⟩
 ·rw[f0] at h;cases h
 ·rw[f0] at h;cases h
 ·have Z:=I.mod.kU a o W
  rcases Y with z|z
  ·exact I.ok.p9 a o Z z
  ·exact absurd (È (Í Z) (Ø I.ok.jv z)) (ó _)
def aaY {π} {σ:St} {H} {s} {a b} {xs} (I:Inv X π σ H s) (h:cf X.K H a xs) (f:gk X π H b):a≠b:=by
 rintro rfl;obtain⟨f0,_,_,Y,_⟩:=f
 rcases h with (h | ⟨o,h⟩) | ⟨o,aj,n,W,_⟩
 ·rw[f0] at h;cases h
 ·rw[f0] at h;cases h
 ·have Z:=I.mod.kU a o W
  rcases Y with z|z
  ·exact I.ok.p9 a o Z z
  ·exact absurd (È (Í Z) (Ø I.ok.jv z)) (ó _)
def Inv.Lc {π} {σ:St} {H} {s} {h'} {t'} {ch:List ă} (I:Inv X π σ H s) (k:∀b o,b∉ch->s.heap.get? b=ϊ o->h'.get? b=ϊ o) (hf:∀b∈ch,gk X π H b) :
  Inv X π σ H { s with heap:=h',toks:=t' }:=by
 have Y:∀b u,H b=ϊ u->b∉ch:=λb u e z=>by rw[(hf b z).1] at e;cases e
 refine I.step (λb W=>?_) (λb o _ _ Z e _=>k b o Z e) (λb o _ _ Z e _=>⟨_,k b o Z e⟩) (λ_ _ _ _ n=>n) (λb o Z e=>⟨o,k b o Z e⟩) (λ_ _ e=>e) (λ_ _ _ e=>e)
  (λb P e=>⟨#[],by rw[e];simp⟩) (λm V=>?_) (λb u e=>?_) I.bare
 ·obtain⟨_,f1,_,U,f4,T⟩:=hf b W
  exact⟨U,f1,f4,T⟩
 ·obtain⟨o,S,R,Q,r⟩:=V
  exact⟨o,S,R,k _ o (λz=>(hf _ z).2.1 rfl) Q,r⟩
 ·refine(I.aQ b u e).iS (λc v Z q=>k c v ?_ q) (λ_ q=>q) λ_ _ q=>q
  rcases Z with z|z
  ·rw[z];exact Y b u e
  ·exact Y c _ z
def Inv.VE {π} {σ:St} {H} {s} {h'} {t'} {ch:List ă} {p:ă} {u} (I:Inv X π σ H s) (k:∀b o,b∉ch->s.heap.get? b=ϊ o->h'.get? b=ϊ o) (hf:∀b∈ch,gk X π H b)
  (hp:s.heap.objs.size<=p) (new:gF X.prog X.w (upd H p u) h' p u):Inv X π σ (upd H p u) { s with heap:=h',toks:=t' }:=by
 have Y:=I.aQ.fresh hp;have aQ:=(I.Lc (t':=t') k hf).aQ.adopt Y new;refine I.step (λb W=>?_) (λb o _ _ Z e _=>k b o Z e) (λb o _ _ Z e _=>⟨_,k b o Z e⟩) (λb o _ e n=>?_) (λb o Z e=>⟨o,k b o Z e⟩) (λc P e=>by rw[bI (dW e Y)];exact e) (λc o v e=>by rw[bI (dW e Y)];exact e)
  (λc O e=>⟨#[],by rw[bI (dW e Y),e];simp⟩) (λm V=>?_) aQ I.bare
 ·obtain⟨_,f1,_,U,f4,T⟩:=hf b W
  exact⟨U,f1,f4,T⟩
 ·rw[bI (ä (È (Í e) hp))]
  exact n
 ·obtain⟨o,S,R,Q,r⟩:=V
  exact⟨o,S,R,k _ o (λz=>(hf _ z).2.1 rfl) Q,r⟩
@[reducible] def kq:Bool->Ň->Hp->ă->List V->Prop
 |true=>cb
 |false=>cf
@[reducible] def md:Bool->ū->ă->Array á->Prop
 |true=>Heap.IsTuple
 |false=>Heap.IsList
@[reducible] def oZ:Bool->ū->ă->ă->Nat->Prop
 |true=>Heap.IsTupleIter
 |false=>Heap.IsListIter
def Inv.uN {π} {σ:St} {H} {s} {a} {xs} (I:Inv X π σ H s):∀{k},kq k X.K H a xs->∃aj,Vals xs aj/\md k s.heap a aj.toArray
 |true,h=>by obtain⟨i,r,p,_⟩:=I.tuple h;exact⟨i,r,p⟩
 |false,h=>by obtain⟨i,r,p,_⟩:=I.list h;exact⟨i,r,p.isList⟩
def Inv.LQ {π} {σ:St} {H} {s} {a} {xs ys} (I:Inv X π σ H s):∀{k},kq k X.K H a xs->kq k X.K H a ys->xs=ys
 |true,h,g=>I.K4 h g
 |false,h,g=>I.LJ h g
def Ad {π} {σ:St} {H} {s} {a b} {xs} (I:Inv X π σ H s):∀{k},kq k X.K H a xs->gk X π H b->a≠b
 |true,h,f=>aaX I h f
 |false,h,f=>aaY I h f
def AR (gh:A.handled=ϋ) (i l) (aj):∀k,HZ.ma P w A i l (λn h=>oZ k h i l n/\md k h l aj) (λn=>aj[n]?)
 |true=>HZ.Y0 gh i l aj
 |false=>HZ.Y1 gh i l aj
def Ae (k:∀o,h.get? i=ϊ o->h'.get? i=ϊ o):∀{b},oZ b h i l n->oZ b h' i l n
 |true,x=>x.at k
 |false,x=>x.at k
def zK:∀{b},oZ b h i l n->∃o,h.get? i=ϊ o/\∀v,o.data≠.cell v
 |true,x=>by obtain⟨o,e,_,d⟩:=x;exact⟨o,e,λv q=>by rw[d] at q;cases q⟩
 |false,x=>by obtain⟨o,e,_,d⟩:=x;exact⟨o,e,λv q=>by rw[d] at q;cases q⟩
def AS (k l:Bool) (K:Ň) (a b:ă):It :=
 ⟨λi H=>∃Z Y x y,kq k K H a Z/\kq l K H b Y/\Z[i]?=ϊ x/\Y[i]?=ϊ y,λi H v X=>∃p x y,H p=ϋ/\v=.ref p/\X=upd H p (.tup [x,y])/\∀Z Y,kq k K H a Z->kq l K H b Y->Z[i]?=ϊ x/\Y[i]?=ϊ y,
  λi H=>∃Z Y,kq k K H a Z/\kq l K H b Y/\(Z.length<=i\/Y.length<=i)⟩
abbrev aeJ:=AS ό ό
structure acW (it:Nat->ū->Prop) (jW:Nat->ū->Prop) (z ti to j1 j2) (i) (h):Prop where
 z:IsZip h z ti to .none
 ti:afU h ti (.ref j1) (.ref j2)
 to:∃u v,afU h to u v
 h1:it i h
 h2:jW i h
structure Qt (z ti to j1 j2:ă):Prop where
 a1:ti≠z
 a2:to≠z
 a3:j1≠z
 a4:j2≠z
 a5:ti≠to
 a6:ti≠j1
 a7:ti≠j2
 a8:to≠j1
 a9:to≠j2
 b0:j1≠j2
def VF {P} {w} {K} {elts} {kk} {pos} (a b z ti to j1 j2) (F:Qt z ti to j1 j2) :
  Turn P w K (.Tuple elts kk pos) (AS k1 k2 K a b) [z,ti,to,j1,j2] z (acW (λi h=>oZ k1 h j1 a i) (λi h=>oZ k2 h j2 b i) z ti to j1 j2) where
 mem:=by simp
 obj:=λi h Z c S=>by
  have M:=by simpa using S
  rcases M with rfl|rfl|rfl|rfl|rfl
  ·exact⟨_,Z.z,λv q=>nomatch q⟩
  ·exact⟨_,Z.ti,λv q=>nomatch q⟩
  ·obtain⟨u,v,q⟩:=Z.to;exact⟨_,q,λv q=>nomatch q⟩
  ·exact zK Z.h1
  ·exact zK Z.h2
 keep:=λi h m Z k=>⟨k z ∅ _ Z.z,k ti ∅ _ Z.ti,by obtain⟨u,v,q⟩:=Z.to;exact⟨u,v,k to ∅ _ q⟩,Ae (λo e=>k j1 ∅ o e) Z.h1,Ae (λo e=>k j2 ∅ o e) Z.h2⟩
 item:=by
  intro X L hw J S i l s σ H E I Y Z G;subst L hw J;obtain⟨g,f,x,y,V,U,ex,j⟩:=G;obtain⟨d,C,B⟩:=I.uN V;obtain⟨i2,t,r⟩:=I.uN U;obtain⟨u,eu,ru⟩:=C.get ex;obtain⟨v,ev,rv⟩:=t.get j;have ne:∀c∈[z,ti,to,j1,j2],a≠c/\b≠c:=λc W=>⟨Ad I V (Y c W),Ad I U (Y c W)⟩;have D:HZ.Apart z ti to j1 j2 a b:=⟨F.a1,F.a2,F.a3,F.a4,F.a5,F.a6,F.a7,F.a8,F.a9,F.b0,(ne z ∅).1,(ne to ∅).1,(ne j1 ∅).1,(ne j2 ∅).1,(ne z ∅).2,(ne to ∅).2,(ne j1 ∅).2,(ne j2 ∅).2⟩;obtain⟨w1,w2,O⟩:=Z.to;have R:X.A.in1.handled=ϋ:=I.ok.hd S;refine HZ.next_item D (AR R j1 a _ k1) (AR R j2 b _ k2) Z.z Z.ti O ⟨Z.h1,B⟩ ⟨Z.h2,r⟩ (by simpa using eu) (by simpa using ev) λm c1 c2 c3 c4 c5 c6 N=>⟨_,rfl,?_⟩;refine wpAny_letOwnedTupleGo_zip c1 λh2 d1 T=>?_;have hn:=I.aQ.fresh (agW _);have p:=Í Z.z;have xE:IsTup h2 _ _:=⟨_,T.extBut _ _ (Ř p) c5,rfl,_,rfl⟩
  have I2:Inv X l σ (upd H _ (.tup _)) { s with heap:=h2,toks:=s.toks }:=I.VE (λc o n e=>by
   have q:=by simpa using n
   exact T.extBut c o q.1 (N c o q.1 q.2.2.1 q.2.2.2.1 q.2.2.2.2 e)) Y (agW _) ⟨by show 2<=Ô;decide,_,.cons ru (.cons rv .nil),xE⟩
  refine⟨.ref _,_,I2,rfl,⟨_,x,y,hn,rfl,rfl,λxs' ys' q1 q2=>?_⟩,?_,λc W=>?_⟩
  ·rw[I.LQ q1 V,I.LQ q2 U];exact⟨ex,j⟩
  ·refine⟨d1,T.extBut _ _ F.a1 (N _ _ F.a1 F.a5 F.a6 F.a7 Z.ti),⟨_,_,T.extBut _ _ F.a2 c2⟩,Ae (λo e=>T.extBut _ _ F.a3 e) c3.1,Ae (λo e=>T.extBut _ _ F.a4 e) c4.1⟩
  ·rw[bI]
   ·exact(Y c W).1
   ·intro e
    obtain⟨o,eo⟩:∃o,s.heap.get? c=ϊ o:=by
     have M:=by simpa using W
     rcases M with q|q|q|q|q
     ·rw[q];exact⟨_,Z.z⟩
     ·rw[q];exact⟨_,Z.ti⟩
     ·rw[q];exact⟨_,O⟩
     ·rw[q];obtain⟨o,e,_⟩:=zK Z.h1;exact⟨o,e⟩
     ·rw[q];obtain⟨o,e,_⟩:=zK Z.h2;exact⟨o,e⟩
    exact absurd (Í eo) (by rw[e];exact ó _)
 done:=by
  intro X L hw J S i l s σ H E I Y Z G;subst L hw J;obtain⟨g,f,V,U,hle⟩:=G;obtain⟨d,C,B⟩:=I.uN V;obtain⟨i2,t,r⟩:=I.uN U;have ne:∀c∈[z,ti,to,j1,j2],a≠c/\b≠c:=λc W=>⟨Ad I V (Y c W),Ad I U (Y c W)⟩;have D:HZ.Apart z ti to j1 j2 a b:=⟨F.a1,F.a2,F.a3,F.a4,F.a5,F.a6,F.a7,F.a8,F.a9,F.b0,(ne z ∅).1,(ne to ∅).1,(ne j1 ∅).1,(ne j2 ∅).1,(ne z ∅).2,(ne to ∅).2,(ne j1 ∅).2,(ne j2 ∅).2⟩;obtain⟨w1,w2,O⟩:=Z.to;have R:X.A.in1.handled=ϋ:=I.ok.hd S;have l1:=C.length;have l2:=t.length;refine HZ.next_end D (AR R j1 a _ k1) (AR R j2 b _ k2) Z.z Z.ti O ⟨Z.h1,B⟩ ⟨Z.h2,r⟩ ?_ λm N=>⟨rfl,I.Lc (λc o n e=>by
   have q:=by simpa using n
   exact N c o q.1 q.2.2.1 q.2.2.2.1 q.2.2.2.2 e) Y⟩
  rcases hle with q|q
  ·simp;omega
  ·simp;omega
 self:=λA i s Q E Z h=>wpAny_pyIter_zip Z.z h
end L2
namespace HZ
open PySem PySem.Spec PyProof.Rows L2
@[reducible] noncomputable def yw:Bool->String
 |true=>"tuple_iterator"
 |false=>"list_iterator"
abbrev y1 (k:Bool) (h:ū) (m1:ă):ū:=h.push { cls:=.type (yw k),data:=.fields #[.ref m1,.int 0 0] }
abbrev y2 (k l:Bool) (h:ū) (m1 m2:ă):ū:=(y1 k h m1).push { cls:=.type (yw l),data:=.fields #[.ref m2,.int 0 0] }
abbrev y3 (k l:Bool) (h:ū) (m1 m2:ă):ū:=(y2 k l h m1 m2).push { cls:=.type "tuple",data:=.seq #[.ref h.objs.size,.ref (y1 k h m1).objs.size] }
abbrev y4 (k l:Bool) (h:ū) (m1 m2:ă):ū:=(y3 k l h m1 m2).push { cls:=.type "tuple",data:=.seq #[.none,.none] }
abbrev y5 (k l:Bool) (h:ū) (m1 m2:ă):ū:=(y4 k l h m1 m2).push { cls:=.type "zip",data:=.fields #[.none,.bool ύ,.bool ύ,.ref (y2 k l h m1 m2).objs.size,.ref (y3 k l h m1 m2).objs.size] }
def O8:∀{k},md k s.heap m xs->Q (.ref s.heap.objs.size) { s with heap:=s.heap.push { cls:=.type (yw k),data:=.fields #[.ref m,.int 0 0] } }->ê (è P w) A (pyIter (.ref m)) Q E s
 |true,h,q=>wpAny_pyIter_tuple h q
 |false,h,q=>Š h q
def W4 (o):∀{k},md k h m xs->md k (h.push o) m xs
 |true,x=>Heap.IsTuple.push x o
 |false,x=>Heap.IsList.push x o
def Y3 (k l:Bool) (m1 m2:ă) (xs ys:Array á) :
  Meets (Ŷ.«zip.__new__» ⟨[.type "zip",.ref m1,.ref m2],[]⟩) (λ_ R s=>md k s.heap m1 xs/\md l s.heap m2 ys/\R (.ok (.ret (.ref (y4 k l s.heap m1 m2).objs.size))) { s with heap:=y5 k l s.heap m1 m2 }) :=
 .of_wp λprog w A R s h=>by
  obtain⟨Z,g,d,Y,os⟩:=s;obtain⟨X,W,h⟩:=h;have V:=sub_zip;have U:md k (Shared.heap ⟨Z,g,d,Y,os⟩) m1 xs:=X;have L2:md l (Shared.heap ⟨Z.push { cls:=.type (yw k),data:=.fields #[.ref m1,.int 0 0] },g,d,Y,os⟩) m2 ys:=W4 _ W
  wp_walk using O8 U,O8 L2
  exact⟨_,rfl,h⟩
section
variable {P:ù} {w:ĩ} {A:Đ} {E:á->Û->Prop} {s:Û}
def MW:∀{k},h.get? i=ϊ { cls:=.type (yw k),data:=.fields #[.ref m,.int 0 0] }->oZ k h i m 0
 |true,e=>⟨_,e,rfl,rfl⟩
 |false,e=>⟨_,e,rfl,rfl⟩
def VG (h1:md k s.heap m1 xs) (h2:md l s.heap m2 ys)
 (h:∀h',IsZip h' (s.heap.objs.size+4) (s.heap.objs.size+2) (s.heap.objs.size+3) .none->afU h' (s.heap.objs.size+2) (.ref s.heap.objs.size) (.ref (s.heap.objs.size+1)) ->
   afU h' (s.heap.objs.size+3) .none .none->oZ k h' s.heap.objs.size m1 0->oZ l h' (s.heap.objs.size+1) m2 0->h'.objs.size=s.heap.objs.size+5 ->
 (∀c o,s.heap.get? c=ϊ o->h'.get? c=ϊ o)->Q (.ref (s.heap.objs.size+4)) { s with heap:=h' }):ê (è P w) A (call (.type "zip") [.ref m1,.ref m2]) Q E s:=by
 refine callType_new F.called_zip (by decide) (F.typeCall_zip_2 ..) (F.newCall_zip_2 ..) (λobj=>F.args_object_init_3 obj ..) F.entry_zip_new (Y3 k l m1 m2 xs ys) ⟨h1,h2,?_⟩;have e1:(y1 k _ m1).objs.size=s.heap.objs.size+1:=ā ..;have e2:(y2 k l s.heap m1 m2).objs.size=s.heap.objs.size+2:=by rw[ā,e1]
 have Z:(y3 k l s.heap m1 m2).objs.size=s.heap.objs.size+3:=by rw[ā,e2]
 have Y:(y4 k l s.heap m1 m2).objs.size=s.heap.objs.size+4:=by rw[ā,Z]
 have V:(y5 k l s.heap m1 m2).objs.size=s.heap.objs.size+5:=by rw[ā,Y]
 have X:(y5 k l s.heap m1 m2).get? _=ϊ _:=Ë _ rfl;have W:(y5 k l s.heap m1 m2).get? _=ϊ _:=Á _ (Ë _ rfl);have g3:(y5 k l s.heap m1 m2).get? _=ϊ _:=Á _ (Á _ (Ë _ rfl));have g2:(y5 k l s.heap m1 m2).get? _=ϊ _:=Á _ (Á _ (Á _ (Ë _ rfl)));have g1:(y5 k l s.heap m1 m2).get? _=ϊ _:=Á _ (Á _ (Á _ (Á _ (Ë _ rfl))));rw[e2,Z,Y] at X;rw[e1,e2] at g3;rw[Z] at W;rw[e1] at g2;rw[Y];exact⟨⟨_,X,rfl⟩,h _ X g3 W (MW g1) (MW g2) V λc o q=>Á _ (Á _ (Á _ (Á _ (Á _ q))))⟩
end
end HZ
namespace L2
open PySem PySem.Spec PyProof.Rows
def W5 (n:Nat):Qt (n+4) (n+2) (n+3) n (n+1):=by constructor<;>(show (_:Nat)≠_)<;>omega
section
variable {X:Cx} {elts:List Ő} {kk:Nat} {tp:Pos}
def O9 (k l:Bool) (K:Ň) (ta:TA):TI:=fun σ H R=>ta σ H λY Z=>∃a b X W,Y=[.ref a,.ref b]/\kq k K Z a X/\kq l K Z b W/\R (AS k l K a b) Z
noncomputable abbrev acX:=O9 ό ό
def VH:ý "zip"=ϊ (.type "zip"):=nofun
def aaZ {σ:St} {H} {s} (I:Inv X π σ H s):∀b∈[s.heap.objs.size+4,s.heap.objs.size+2,s.heap.objs.size+3,s.heap.objs.size,s.heap.objs.size+1],gk X π H b:=λb Y=>by
 have Z:s.heap.objs.size<=b:=by
  have q:=by simpa using Y
  omega
 exact I.rN Z (I.aQ.fresh Z)
def Y4 {k l} {a b} {ta} {p pos} (hg:Gl X "zip") (hm:X.mg "zip"=ϋ) (ha:PA X [a,b] ta) (hs:Ì [a,b] X.env=[(ύ,į a X.env),(ύ,į b X.env)]:=by rfl) (de:Ì [b] X.env=[(ύ,į b X.env)]:=by rfl) :
  PI X (.Tuple elts kk tp) (.Call (.Name "zip" p) [a,b] [] pos) (O9 k l X.K ta):=by
 intro W s σ H R I h;refine Call_ (pL I hg hm VH (Ħ (aW (ha pos W s σ H _ I h) λD C ⟨B,V,Z,U,T⟩=>?_) (by rw[hs,de]) (by rw[de];rfl)));obtain⟨a,b,A,z,e,S,Q,q⟩:=T;subst e;obtain⟨u,v,rfl,P,O⟩:=vals2 U;cases P;cases O;obtain⟨y,_,N⟩:=Z.uN S;obtain⟨x,_,M⟩:=Z.uN Q;refine HZ.VG N M λw Y L J G F t E=>?_;refine wpAny_pyIter_zip Y ?_;exact⟨_,_,_,_,V,rfl,Z.kept E,VF a b _ _ _ _ _ (W5 _),⟨Y,L,⟨_,_,J⟩,G,F⟩,aaZ Z,q⟩
def Y5 {p pos} (hg:Gl X "zip") (hm:X.mg "zip"=ϋ) (ha:PA X [a,b] ta) (hs:Ì [a,b] X.env=[(ύ,į a X.env),(ύ,į b X.env)]:=by rfl) (de:Ì [b] X.env=[(ύ,į b X.env)]:=by rfl) :
  PI X (.Tuple elts kk tp) (.Call (.Name "zip" p) [a,b] [] pos) (acX X.K ta):=Y4 hg hm ha hs de
end
end L2
namespace PySem
end PySem
namespace L2
open PySem PySem.Spec PyProof.Rows
def map_getD (ns:List Int):(â ns.length).map (λi=>ns.getD i 0)=ns:=by
 apply Ţ;intro i;rw[å];by_cases h:i<ns.length
 ·rw[Ķ h]
  simp[agK,Ò h]
 ·rw[Ĝ (by simpa using h),Ĝ ⋯]
  rfl
structure M1 (X:Cx) (o) (m) (apos:Pos) (e) (bB):Prop where
 base:Ĳ o m X.env (į o X.env)=į o X.env
 nG:((İ bB (Ì [e] X.env)).all (λx=>!x.1)&&(afH bB (Œ [] X.env)).all (λx=>x.1.isSome)
  && ώ (([e]).length+([]:List ξ).length+(if ([]:List ξ).isEmpty then 0 else 1)<30))=ό
 line:(apos.endLine==bB.line)=ό
 trees:İ bB (Ì [e] X.env)=[(ύ,į e X.env)]
structure M2 (X:Cx) (o) (m) (apos:Pos) (e f) (bB):Prop where
 base:Ĳ o m X.env (į o X.env)=į o X.env
 nG:((İ bB (Ì [e,f] X.env)).all (λx=>!x.1)&&(afH bB (Œ [] X.env)).all (λx=>x.1.isSome)
  && ώ (([e,f]).length+([]:List ξ).length+(if ([]:List ξ).isEmpty then 0 else 1)<30))=ό
 line:(apos.endLine==bB.line)=ό
 trees:İ bB (Ì [e,f] X.env)=[(ύ,į e X.env),(ύ,į f X.env)]
noncomputable def N6 (sc:agH) (on:List (Str×NameKind)) (oN N:List Str) (nt:Nat) (cap:List Nat):Bool :=
 ώ (sc.kind=.function)&&sc.names.all (λx=>ώ (x.2≠.cell))&&sc.names.all (λx=>ώ (x.2=.local->sc.names.lookup x.1=ϊ .local)) &&
 sc.names.all (λx=>ώ (x.2=.free->sc.names.lookup x.1=ϊ .free/\(on.lookup x.1=ϊ .cell\/on.lookup x.1=ϊ .free)))&&ώ (N.length=nt+cap.length) &&
 (â cap.length).all (λk=>match cap[k]? with
  |some j=>match oN[j]? with
   |some x=>ώ (N[nt+k]?=ϊ x)&&ώ ((x,NameKind.free)∈sc.names)
   |none=>ύ
  |none=>ό)
def EX (h:N6 sc X.env.scope.names X.N N nt cap=ό):wF X sc N nt cap:=by
 delta N6 at h;erw[Â,Ü,Ã] at h;obtain⟨⟨⟨⟨⟨Z,Y⟩,W⟩,V⟩,U⟩,T⟩:=h;refine⟨Z,Y,W,λx S e=>V x S e,U,λk j e=>?_⟩;have R:=(Ï.mp e).1;have:=T k (î.mpr R);rw[e] at this;dsimp only at this
 cases ex:X.N[j]? with
 |none=>rw[ex] at this;cases this
 |some x =>
  rw[ex] at this;erw[Â,Ã] at this;exact⟨x,rfl,this.1,this.2⟩
end L2
namespace TS
open PySem
abbrev ng (l:List Nat):Prop:=l.Pairwise (· < ·)
def W6 (xs:Array Nat) (k d):xs.getD k d=xs.toList.getD k d:=by
 cases xs with
 |mk l =>
  by_cases h:k<l.length
  ·simp[Array.getD,agK,h]
  ·simp[Array.getD,agK,h]
def zL (h:ng l) (hW:a<b) (hb:b<l.length):l.getD a 0<l.getD b 0:=by
 have:=List.pairwise_iff_getElem.mp h a b ⋯ hb hW;simpa [Ò hb,Ò (show a<l.length by omega)] using this
def W7 (l:List Nat) (hk:k<l.length) (d e):l.getD k d=l.getD k e:=by
 simp[agK,Ò hk]
theorem DD (xs) (j) (hr:ng xs.toList):∀fuel lo hi,hi-lo<=fuel->lo<=hi->hi<=xs.toList.length->(∀k,k<lo->xs.toList.getD k 0<j)->(∀k,hi<=k->k<xs.toList.length->j<=xs.toList.getD k 0) ->
  af2 xs j fuel lo hi<=xs.toList.length/\(∀k,k<af2 xs j fuel lo hi->xs.toList.getD k 0<j)/\(∀k,af2 xs j fuel lo hi<=k->k<xs.toList.length->j<=xs.toList.getD k 0)
 |0,lo,hi,S,R,Z,Y,X=>by
  have e:lo=hi:=by omega
  subst e;exact⟨Z,Y,X⟩
 |fuel+1,lo,hi,S,R,Z,Y,X=>by
  delta af2;by_cases U:lo<hi
  ·rw[Ö U]
   dsimp only;have T:(lo+hi) / 2<xs.toList.length:=by omega
   rw[W6,W7 _ T j 0];by_cases W:xs.toList.getD ((lo+hi) / 2) 0<j
   ·rw[Ö W]
    refine DD xs j hr fuel _ _ ⋯ ⋯ Z (λk Q=>?_) X;by_cases V:k=(lo+hi) / 2
    ·rw[V];exact W
    ·exact Nat.lt_trans (zL hr ⋯ T) W
   ·rw[Ý W]
    refine DD xs j hr fuel _ _ ⋯ ⋯ ⋯ Y (λk Q V=>?_);by_cases P:k=(lo+hi) / 2
    ·rw[P];omega
    ·have:=zL hr (show (lo+hi) / 2<k by omega) V
     omega
  ·rw[Ý U]
   have e:lo=hi:=by omega
   subst e;exact⟨Z,Y,X⟩
def Kz (xs) (j) (hr:ng xs.toList):ĕ xs j<=xs.toList.length/\(∀k,k<ĕ xs j->xs.toList.getD k 0<j)/\(∀k,ĕ xs j<=k->k<xs.toList.length->j<=xs.toList.getD k 0):=by
 exact DD xs j hr _ 0 _ ⋯ (č _) ∅ (λk Z=>by omega) (λk Z Y=>by simp at Y;omega)
def TX {l:List Nat} {p j} (h:∀k,k<p->l.getD k 0<j):∀x∈l.take p,x<j:=by
 intro x Y;obtain⟨k,X,e⟩:=afr Y;have Z:k<p/\k<l.length:=by rw[abL] at X;omega
 have:=h k Z.1;rw[<- e];simpa [Ò Z.2] using this
def TY {l:List Nat} {p j} (h:∀k,p<=k->k<l.length->j<=l.getD k 0):∀x∈l.drop p,j<=x:=by
 intro x Y;obtain⟨k,X,e⟩:=afr Y;have Z:p+k<l.length:=by rw[List.length_drop] at X;omega
 have:=h _ ⋯ Z;rw[<- e];simpa [Ò Z] using this
def W8 (hr:ng xs.toList) (hn:xs[ĕ xs j]?≠ϊ j):ng (SetTable.insertAt xs (ĕ xs j) j).toList:=by
 obtain⟨T,V,U⟩:=Kz xs j hr;rw[SetTable.toList_insertAt];have a1:=TX V;have a2:∀x∈xs.toList.drop (ĕ xs j),j<x:=by
  intro x hx;have Y:=TY U;have X:ng (xs.toList.drop (ĕ xs j)):=af9 (List.drop_sublist ..) hr
  cases Z:xs.toList.drop _ with
  |nil=>rw[Z] at hx;cases hx
  |cons y r =>
   rw[Z] at X hx Y;have hy:j≠y:=by
    intro e;apply hn;have:(xs.toList.drop (ĕ xs j))[0]?=ϊ y:=by rw[Z];rfl
    have e2:xs.toList[ĕ xs j]?=ϊ y:=by simpa using this
    rw[<- ĸ,e2,e]
   have W:=Nat.lt_of_le_of_ne (Y y Ó) hy
   rcases Ñ.mp hx with e|hx
   ·rw[e];exact W
   ·exact Nat.lt_trans W ((ò.mp X).1 x hx)
 first
  |(refine List.pairwise_append.mpr ⟨af9 (List.take_sublist ..) hr,ò.mpr ⟨a2,af9 (List.drop_sublist ..) hr⟩,λx hx y hy=>?_⟩
    rcases Ñ.mp hy with e|hy
    ·rw[e];exact a1 x hx
    ·exact Nat.lt_trans (a1 x hx) (a2 y hy))
  |trace_state
theorem DE (t) (h):∀fuel p j dm,(∀d,p.dummy=ϊ d->t.slot d=.dummy)->agL t (λ_=>h+1) h fuel p=ϊ (.empty j dm)->t.slot j=.empty/\∀d,dm=ϊ d->t.slot d=.dummy
 |0,p,j,dm,X,e=>by simp[agL] at e
 |fuel+1,p,j,dm,X,e=>by
  delta agL at e
  cases Y:t.slot p.j with
  |empty =>
   rw[Y] at e;simp at e;rw[<- e.1,<- e.2];exact⟨Y,X⟩
  |dummy =>
   rw[Y] at e;refine DE t h fuel _ j dm (λd Z=>?_) e;delta SetTable.advance at Z;split at Z
   ·simp at Z;rw[<- Z];exact Y
   ·simp at Z;rw[<- Z];exact Y
  |live i =>
   rw[Y] at e;have W:(h+1==h)=ύ:=by simp;omega
   erw[W,Æ,ñ] at e;refine DE t h fuel _ j dm (λd Z=>?_) e;delta SetTable.advance at Z;split at Z
   ·exact X d Z
   ·exact X d Z
def Ld {t:SetTable} {j} (h:t.slot j=.empty\/t.slot j=.dummy):t.place[ĕ t.place j]?≠ϊ j:=by
 intro e;have:t.slot j=.live (ĕ t.place j):=by
  delta SetTable.slot;simp[e]
 rw[this] at h
 rcases h with h|h<;>cases h
def VI {t:SetTable} {h} {j} {b} (e:t.freeSlot h=ϊ (j,b)):t.place[ĕ t.place j]?≠ϊ j:=by
 delta SetTable.freeSlot SetTable.probe at e;split at e
 ·rename_i Y Z X
  have k:=DE t h _ _ Y Z (λd W=>by simp[SetTable.probeStart] at W) X;simp at e;rw[<- e.1]
  cases Z with
  |none=>exact Ld (.inl k.1)
  |some d=>exact Ld (.inr (k.2 d rfl))
 ·cases e
structure jK (led) (t:SetTable):Prop where
 led:t.led=led
 rise:t.plain=ό->ng t.place.toList
def zo (h:jK led t) (n):jK led (t.standIn n):=⟨h.led,λz=>by simp[SetTable.standIn] at z⟩
def UI {t} (h:jK led t) (es) (hs) (x):jK led (layNew t es hs x).2.1:=by
 delta layNew;split
 ·rename_i slot Y e
  dsimp only;delta SetTable.orStandIn;have Z:jK led (t.put slot).1:=⟨h.led,λz=>W8 (h.rise z) (VI e)⟩;split
  ·exact Z
  ·exact zo Z _
 ·exact zo h _
def W9 {mask finger moves} {led plain} {hs} {o} (e:SetTable.laid mask finger moves led plain hs=ϊ (t,o)):jK led t/\t.plain=plain:=by
 delta SetTable.laid at e
 cases X:SetTable.layClean mask hs with
 |none=>rw[X] at e;simp at e
 |some owner =>
  rw[X] at e;simp at e;obtain⟨e1,e2⟩:=e;subst e1;refine⟨⟨rfl,λ_=>?_⟩,rfl⟩;erw[List.map_filterMap];refine List.pairwise_filterMap.mpr ?_;refine List.Pairwise.imp ?_ (List.pairwise_lt_range);intro a b U x Z y Y
  cases W:(owner[a]?.getD ϋ) with
  |none=>rw[W] at Z;simp at Z
  |some q =>
   cases V:(owner[b]?.getD ϋ) with
   |none=>rw[V] at Y;simp at Y
   |some r =>
    rw[W] at Z;simp at Z Y;omega
def VJ (h:jK led t) (es) (n):jK led (relayAll t es n).2.1:=by
 delta relayAll;split
 ·rename_i Z o e
  dsimp only;split
  ·have k:=W9 e
   exact⟨k.1.led.trans h.led,k.1.rise⟩
  ·exact zo h _
 ·exact zo h _
def VL (led):jK led (.fresh 0 0 led):=⟨rfl,λ_=>List.Pairwise.nil⟩
open PySem.Spec PyProof.Rows
section
variable {P:ù} {w:ĩ} {A:Đ} {E:á->Û->Prop} {s:Û} {led:Bool}
def iD (P:ù) (w:ĩ) (led:Bool) (h:ū) (a:ă) (S:Int->Bool) (n:Nat):Prop :=
 ∃o Z Y t,h.get? a=ϊ o/\o.ExactSet/\o.data=.set Z Y t/\ElemsOf (Ų P w) Z.toList/\(∀k,S k=ό↔∃e∈Z.toList,(Ų P w).is k e.2=ό)/\Z.size<afK/\t.fits Z.size=ό/\Z.size=n/\jK led t
def iD.at (x:iD P w led h a S n) (k:∀o,h.get? a=ϊ o->h'.get? a=ϊ o):iD P w led h' a S n:=by
 obtain⟨o,Z,Y,t,X,r⟩:=x;exact⟨o,Z,Y,t,k o X,r⟩
def iD.congr (x:iD P w led h a S n) (e:∀k,S k=S' k) (en:n=n'):iD P w led h a S' n':=by
 obtain rfl:S=S':=funext e;subst en;exact x
def DF {es jS} {ep} {t t'} {h:ū} (hu:h.get? a=ϊ u) (hx:u.ExactSet) (hd:u.data=.set es ep t) {S}
  (c1:ElemsOf (Ų P w) jS.toList) (c2:∀k,S k=ό↔∃e∈jS.toList,(Ų P w).is k e.2=ό) (c3:jS.size<afK) (c4:t'.fits jS.size=ό) (c5:jK led t') :
  (h.update a (Obj.putSet jS t')).get? a=ϊ { u with data:=.set jS (ep+1) t' }/\iD P w led (h.update a (Obj.putSet jS t')) a S jS.size:=by
 have g:=(SetOf_store hu hx hd c1 c2 c3 c4).1;exact⟨g,_,jS,_,t',g,hx,rfl,c1,c2,c3,c4,rfl,c5⟩
def Y6 {S} {n} {k} {tk} {Q} (hS:iD P w led s.heap a S n) (aih:n+1<afK)
  (h:∀h',ĥ a s.heap h'->iD P w led h' a (λj=>S j||ώ (j=k)) (if S k then n else n+1)->Q (!S k) { s with heap:=h' }) :
  ê (è P w) A (setAddHashed a (.int k tk) ((Ų P w).hash k)) Q E s:=by
 obtain⟨u,U,c,t,R,K,O,J,I,m,C,i,g⟩:=hS;have ky:(Ų P w).is k (.int k tk)=ό:=intKind_is ..;have sc:(Value.int k tk).scannable=ό:=rfl;refine À (ţ R O C ?_);dsimp only;rw[byScan_of sc m J];refine À (À (ů ?_));refine À (wpAny_setScan_of ky R O C J ?_)
 cases f:U.toList.findIdx? (λe=>(Ų P w).is k _) with
 |some j =>
  obtain⟨hj,pj,_⟩:=List.findIdx?_eq_some_iff_getElem.mp f;have N:=(I k).mpr ⟨_,agg hj,pj⟩;have q:=h _ (Heap.SameBut.refl a _) ⟨u,U,c,t,R,K,O,J,λj'=>by
   rw[Ť,Ã,<- I j'];exact⟨λz=>z.elim id λe=>by rw[e];exact N,ŷ⟩,m,C,by rw[N];exact i,g⟩
  rw[N] at q;exact Å (Å q)
 |none =>
  have N:S k=ύ:=by
   rw[<- ŭ,I k];rintro ⟨e,X,pe⟩;have z:=List.findIdx?_eq_none_iff.mp f e X;rw[pe] at z;cases z
  have way:∀b {B} {y},y () B->ê (è P w) A (match b with|true=>rule "set.scan.the-table-gave-way"|false=>pure ()) y E B :=
   λb B y q=>by cases b<;>first|exact Å q|exact ů q
  have pm:=layNew_perm t U ((Ų P w).hash k) (.int k tk);have x:=layNew_fits t U ((Ų P w).hash k) (.int k tk);have H:=UI g U ((Ų P w).hash k) (.int k tk);generalize layNew t U _ _=L at pm x H |-;obtain⟨Z,t1,ah9,aim⟩:=L;dsimp only at pm x H |-;rw[af3] at pm;have v:=(J.push ky sc).perm pm;have r:=mem_push_iff ky I pm;have z1:Z.size=n+1:=by
   have l:=pm.length_eq;rw[Ù,Ą,Ą,i] at l;exact l
  have W:Z.size<afK:=by omega
  refine À (way _ ?_);obtain⟨g1,d⟩:=DF R K O v r W x H;have G:=ĝ s.heap a (Obj.putSet Z t1);have fin:∀h',ĥ a _ h'->iD P w led h' a (λj=>S j||ώ _) Z.size->Q ό _:=λh' sb T=>by
   have q:=h h' sb;rw[N] at q;rw[z1] at T;exact q T
  have Y:=relayAll_perm t1 Z (SetTable.grown Z.size);have F:=relayAll_fits t1 Z (SetTable.grown Z.size);have D:=VJ H Z (SetTable.grown Z.size);have hv:hashByValue 8 (Value.int k tk)=pure ό:=rfl;split
  ·refine À ?_
   refine Å ?_;erw[ø];refine À (af4 R O ?_ (μ W));split
   ·generalize relayAll t1 Z _=L2 at Y F D |-
    obtain⟨p,t2,o⟩:=L2;have V:=by
     have l:=Y.length_eq;rwa [Ą] at l
    have f2:∀j,(S j||ώ _)=ό↔∃e∈p.toList,(Ų P w).is j _=ό:=λj=>(r j).trans ⟨λ⟨e,X,q⟩=>⟨e,Y.mem_iff.mpr X,q⟩,λ⟨e,X,q⟩=>⟨e,Y.mem_iff.mp X,q⟩⟩;refine À (way _ ?_);refine À (af4 g1 rfl ?_ (μ (by rw[V];exact W)));obtain⟨g2,M⟩:=DF g1 K rfl (v.perm Y) f2 (by rw[V];exact W) F D;rw[V] at M;exact Å (Å (fin _ (G.trans (ĝ _ a _)) M))
   ·exact Å (Å (fin _ G d))
  ·refine À (Å ?_)
   erw[ø];refine À (af4 R O ?_ (μ W));split
   ·generalize relayAll t1 Z _=L2 at Y F D |-
    obtain⟨p,t2,o⟩:=L2;have V:=by
     have l:=Y.length_eq;rwa [Ą] at l
    have f2:∀j,(S j||ώ _)=ό↔∃e∈p.toList,(Ų P w).is j _=ό:=λj=>(r j).trans ⟨λ⟨e,X,q⟩=>⟨e,Y.mem_iff.mpr X,q⟩,λ⟨e,X,q⟩=>⟨e,Y.mem_iff.mp X,q⟩⟩;refine À (way _ ?_);refine À (af4 g1 rfl ?_ (μ (by rw[V];exact W)));obtain⟨g2,M⟩:=DF g1 K rfl (v.perm Y) f2 (by rw[V];exact W) F D;rw[V] at M;exact Å (Å (fin _ (G.trans (ĝ _ a _)) M))
   ·exact Å (Å (fin _ G d))
end
def SD:entryFor table "set.__iter__"=ϊ Ŷ.«frozenset.__iter__»:=entryFor_alias (id':="frozenset.__iter__") (by kernel_rfl) rfl nofun (by kernel_rfl)
def lC:Slot "set_iterator" "__next__" "set_iterator.__next__" :=
 .of (owner:="set_iterator") (n:="__next__") (by kernel_rfl) nofun nofun nofun
  (by first|exact .inl nofun|exact .inr nofun) (by kernel_rfl)
def zd:entryFor table "set_iterator.__next__"=ϊ Ŷ.«set_iterator.__next__»:=entryFor_of_tree (by kernel_rfl)
def zi (a):argsOk "set_iterator.__next__" ⟨[a],[]⟩:=by kernel_rfl
def JW:Slot "set_iterator" "__iter__" "set_iterator.__iter__" :=
 .of (owner:="set_iterator") (n:="__iter__") (by kernel_rfl) nofun nofun nofun
  (by first|exact .inl nofun|exact .inr nofun) (by kernel_rfl)
def kh (h:ū) (I a:ă) (first:á) (i n ep:Nat):Prop:=∃o,h.get? I=ϊ o/\o.cls=.type "set_iterator"/\o.data=.fields #[first,.int i 0,.ref a,.int n 0,.int ep 0]
section
variable {P:ù} {w:ĩ} {A:Đ} {E:á->Û->Prop} {s:Û}
def MX {slot i n ep nx:Nat} {es} {Q} (hit:kh s.heap I a (.int slot 0) i n ep)
 (hu:s.heap.get? a=ϊ u) (hd:u.data=.set es ep t) (hf:t.fits es.size=ό) (hn:es.size=n)
 (hs:∀A' Q' E',Q' (ϊ (x,nx)) s->ê (è P w) A' (setNext a slot i ep) Q' E' s)
 (hQ:∀h',kh h' I a (.int nx 0) (i+1) n ep->ĥ I s.heap h'->Q (ϊ x) { s with heap:=h' }):ê (è P w) A (agQ (.ref I)) Q E s:=by
 obtain⟨o,Y,X,Z⟩:=id hit;have W:s.TypeIs (.ref I) _:=⟨o,Y,X⟩;refine À (Ũ (ą W lC
  (ć lC W zd ?_ (zi _))))
 refine À (Å ?_);refine À (wpAny_fieldsOf Y Z ?_);refine À (ũ hu hd hf ?_);rw[hn];simp only[Ĺ,Æ,↓reduceIte,Ĭ];refine À (hs _ _ _ ?_);refine À (ű Y Z ∅ ?_);refine À (ű (ě _ Y (ņ (Ĉ Z _))) (Ĉ Z _) ∅ ?_);refine Å ⟨x,rfl,Å (hQ _ ⟨_,ě _ (ě _ Y (ņ (Ĉ Z _))) (ņ (Ĉ (Ĉ Z _) _)),(af1 ..).trans ((af1 ..).trans X),?_⟩ ((ĝ ..).trans (ĝ ..)))⟩;rw[Ĉ (Ĉ Z _)];simp[Ŀ]
def UJ (hm:m≠0) (h:Q (w.draws src (s.drawn.get src) % m) { s with drawn:=s.drawn.bump src }):ê (è P w) A (choose src m) Q E s:=fun Y p Z=>by
 exact⟨hm,h⟩
def Lf (hh:A.handled=ϋ) (ho:s.heap.get? I=ϊ o) (fG:o.data=.fields vs) (h2:2<vs.size)
 (hQ:∀h',afs I s.heap h'->Q ϋ { s with heap:=h' }) :
  ê (è P w) A.in1 (setField (.ref I) 2 .none >>= λ_=>newExc (.type "StopIteration") [] >>= λe=>(raiseNew e)) (λfin s'=>∃v,fin=Fin.done (Flow.ret v)/\ê (è P w) A (pure (ϊ v)) Q E s')
   (λe s'=>ê (è P w) A (isInstance e (η "StopIteration") >>= λb=>if b=ό then pure ϋ else throw e) Q E s') s:=by
 refine À (ű ho fG h2 ?_);refine À ?_
 refine À (m:=firstArgMember ..) (aft (by first|rfl | (rfl)) ?_)
 refine Ď ?_ (by size_fits);refine À (wpAny_handled ?_)
 first|rw[hh]|rw[hh]
 refine À (Å (wpAny_throw ?_));refine À (wpAny_isInstance ⟨_,Ë _ rfl,rfl⟩ isSubtype_stop ?_);exact Å (hQ _ (((ĝ ..).extBut.push _).push _))
def N7 {slot i n ep:Nat} {es} {Q} (hh:A.handled=ϋ) (hit:kh s.heap I a (.int slot 0) i n ep)
 (hu:s.heap.get? a=ϊ u) (hd:u.data=.set es ep t) (hf:t.fits es.size=ό) (hn:es.size=n)
 (hs:∀A' Q' E',Q' ϋ s->ê (è P w) A' (setNext a slot i ep) Q' E' s)
 (hQ:∀h',afs I s.heap h'->Q ϋ { s with heap:=h' }):ê (è P w) A (agQ (.ref I)) Q E s:=by
 obtain⟨o,Z,W,Y⟩:=id hit;have X:s.TypeIs (.ref I) _:=⟨o,Z,W⟩;refine À (Ũ (ą X lC
  (ć lC X zd ?_ (zi _))))
 refine À (Å ?_);refine À (wpAny_fieldsOf Z Y ?_);refine À (ũ hu hd hf ?_);rw[hn];simp only[Ĺ,Æ,↓reduceIte,Ĭ];refine À (hs _ _ _ ?_);exact Lf hh Z Y ∅ hQ
def Xa {i n ep pl:Nat} {es} {x} {Q} (hit:kh s.heap I a (.ref tp) i n ep)
 (hu:s.heap.get? a=ϊ u) (hd:u.data=.set es ep t) (hf:t.fits es.size=ό) (hn:es.size=n) (yx:s.heap.IsTuple tp places) (bY:places[i]?=ϊ (.int pl tk)) (hx:es[pl]?=ϊ x)
 (hQ:∀h',kh h' I a (.ref tp) (i+1) n ep->ĥ I s.heap h'->Q (ϊ x.2) { s with heap:=h' }):ê (è P w) A (agQ (.ref I)) Q E s:=by
 obtain⟨o,Z,X,Y⟩:=id hit;obtain⟨op,V,U,np,T⟩:=yx;have W:s.TypeIs (.ref I) _:=⟨o,Z,X⟩;refine À (Ũ (ą W lC
  (ć lC W zd ?_ (zi _))))
 refine À (Å ?_);refine À (wpAny_fieldsOf Z Y ?_);refine À (ũ hu hd hf ?_);rw[hn];simp only[Ĺ,Æ,↓reduceIte,Ĭ];refine À (ļ V T ?_);dsimp only;rw[bY];refine À (À (ţ hu hd hf ?_));simp only[Ĺ,Æ,↓reduceIte,Ĭ];rw[hx];refine Å ?_;refine À (ű Z Y ∅ ?_);refine Å ⟨_,rfl,Å (hQ _ ⟨_,ě _ Z (ņ (Ĉ Y _)),(af1 ..).trans X,?_⟩ (ĝ ..))⟩;rw[Ĉ Y];simp[Ŀ]
def Y7 (hh:A.handled=ϋ) (hit:kh s.heap I a (.ref tp) i n ep)
 (hu:s.heap.get? a=ϊ u) (hd:u.data=.set es ep t) (hf:t.fits es.size=ό) (hn:es.size=n) (yx:s.heap.IsTuple tp places) (bY:places[i]?=ϋ)
 (hQ:∀h',afs I s.heap h'->Q ϋ { s with heap:=h' }):ê (è P w) A (agQ (.ref I)) Q E s:=by
 obtain⟨o,Z,W,Y⟩:=id hit;obtain⟨op,V,U,np,T⟩:=yx;have X:s.TypeIs (.ref I) _:=⟨o,Z,W⟩;refine À (Ũ (ą X lC
  (ć lC X zd ?_ (zi _))))
 refine À (Å ?_);refine À (wpAny_fieldsOf Z Y ?_);refine À (ũ hu hd hf ?_);rw[hn];simp only[Ĺ,Æ,↓reduceIte,Ĭ];refine À (ļ V T ?_);dsimp only;rw[bY];refine À (ű Z Y ∅ ?_);exact Lf hh (ě _ Z (ņ (Ĉ Y _))) (Ĉ Y _) ∅ λh' e=>hQ h' (Heap.ExtBut.trans (ĝ ..).extBut e)
end
def SN:entryFor table "set_iterator.__iter__"=ϊ Ŷ.«dict_keyiterator.__iter__»:=entryFor_alias (id':="dict_keyiterator.__iter__") (by kernel_rfl) rfl nofun (by kernel_rfl)
def Tj (a):argsOk "set_iterator.__iter__" ⟨[a],[]⟩:=by kernel_rfl
section
variable {P:ù} {w:ĩ} {A:Đ} {E:á->Û->Prop} {s:Û}
def DG (hit:kh s.heap I a f i n ep) (h:Q (.ref I) s):ê (è P w) A (pyIter (.ref I)) Q E s:=by
 obtain⟨o,Y,X,W⟩:=id hit;have Z:s.TypeIs (.ref I) _:=⟨o,Y,X⟩;refine wpAny_pyIter_slot Z JW (ć JW Z SN ?_ (Tj _));exact Å ⟨_,rfl,_,_,Z,lC.lookup,h⟩
def kh.at (x:kh h I a f i n ep) (k:∀o,h.get? I=ϊ o->h'.get? I=ϊ o):kh h' I a f i n ep:=by
 obtain⟨o,Z,r⟩:=x;exact⟨o,k o Z,r⟩
def Lg (jy:w.params.followText "set-order"=ό) (hu:s.heap.get? a=ϊ u) (hd:u.data=.set es ep t) (hf:t.fits es.size=ό)
 (h:Q' (((afL (w.params.setOrder a ep) es)[i]?).map λe=>(e.2,slot)) s):ê (è P w) A (setNext a slot i ep) Q' E s:=by
 refine À (ţ hu hd hf ?_)
 show ê _ _ (if w.params.followText _=ό then _ else _) ..
 rw[Ö jy];simp only[Ĺ,Æ,↓reduceIte];refine À (À (ţ hu hd hf ?_))
 show ê _ _ (if w.params.followText _=ό then _ else _) ..
 rw[Ö jy];refine À (agh (Å ?_));exact Å h
def tJ (hr:ng xs.toList) (hi:i<=xs.toList.length) (h1:∀k,k<i->xs.toList.getD k 0<slot) (h2:∀k,i<=k->k<xs.toList.length->slot<=xs.toList.getD k 0):ĕ xs slot=i:=by
 obtain⟨V,a1,a2⟩:=Kz xs slot hr;by_cases Y:ĕ xs slot<i
 ·have X:=a2 _ (agW _) ⋯
  have W:=h1 _ Y;omega
 ·by_cases Z:i<ĕ xs slot
  ·have X:=a1 i Z
   have W:=h2 i (agW _) ⋯;omega
  ·omega
def KC (jy:w.params.followText "set-order"=ύ) (hu:s.heap.get? a=ϊ u) (hd:u.data=.set es ep t) (hf:t.fits es.size=ό)
 (hl:t.led=ό) (hp:t.plain=ό\/es.size<=1) (hb:ĕ t.place slot=i)
 (h:Q' (match es[i]?,t.place[i]? with|some (_,x),ϊ j=>ϊ (x,j+1) | _,_=>ϋ) s):ê (è P w) A (setNext a slot i ep) Q' E s:=by
 refine À (ţ hu hd hf ?_)
 show ê _ _ (if w.params.followText _=ό then _ else _) ..
 rw[Ý (by rw[jy];decide)];split
 ·rename_i Z
  have Y:(!t.plain&&ώ _)=ό:=Z
  rcases hp with hp|hp
  ·rw[hp] at Y;cases Y
  ·simp at Y;omega
 ·refine À ?_
  show ê _ _ (if (!t.led&&!es.isEmpty)=ό then _ else _) ..
  rw[hl];refine Å ?_;rw[hb];exact Å h
def Cf (sb:ĥ I s.heap h'):Moved [I] (λa b=>b=a) s { s with heap:=h' }:=⟨λb o Z e=>by rw[sb.2 b (λz=>Z (by simp[z]))];exact e,rfl,rfl,rfl,agW _⟩
def Cq (sb:afs I s.heap h'):Moved [I] (λa b=>b=a) s { s with heap:=h' }:=⟨λb o Z e=>sb b o (λz=>Z (by simp[z])) e,rfl,rfl,rfl,agW _⟩
end
def UK (hh:A.handled=ϋ) (ip:a≠I) (jy:w.params.followText "set-order"=ό) (hd:u.data=.set es ep t) (hf:t.fits es.size=ό) (hsz:(afL (w.params.setOrder a ep) es).size=es.size) :
  WalksS P w A I [I,a] [I] (λa b=>b=a) es.size (λi v=>((afL (w.params.setOrder a ep) es).map (·.2))[i]?=ϊ v) (λi s=>kh s.heap I a (.int 0 0) i es.size ep/\s.heap.get? a=ϊ u) where
 sub:=λb W=>by simp at W;simp[W]
 grefl:=λ_=>rfl
 gtrans:=λ_ _ _ T S=>S.trans T
 frame:=λi s V K Z _ U=>⟨Z.1.at λo e=>U I ∅ o e,U a ∅ _ Z.2⟩
 item:=λi s Q E R Z Y=>by
  have O:i<(afL (w.params.setOrder a ep) es).size:=by rw[hsz];exact R
  have ex:(afL (w.params.setOrder a ep) es)[i]?=ϊ (afL _ es)[i]:=by simp[O]
  refine MX Z.1 Z.2 hd hf rfl (λN M L q=>Lg jy Z.2 hd hf (by rw[ex];exact q)) λV it X=>?_;exact Y _ _ (by simp[ex]) ⟨it,by rw[X.2 a ip];exact Z.2⟩ (Cf X)
 done:=λs Q E Z Y=>by
  refine N7 hh Z.1 Z.2 hd hf rfl (λN M L q=>Lg jy Z.2 hd hf (by
   rw[show (afL _ es)[es.size]?=ϋ by simp[hsz]];exact q)) λV X=>Y _ (Cq X)
 self:=λi s Q E Z Y=>DG Z.1 Y
def TZ (hh:A.handled=ϋ) (ip:a≠I) (jy:w.params.followText "set-order"=ύ) (hd:u.data=.set es ep t) (hf:t.fits es.size=ό) (hl:t.led=ό) (hp:t.plain=ό\/es.size<=1) (hr:ng t.place.toList) :
  WalksS P w A I [I,a] [I] (λa b=>b=a) es.size (λi v=>(es.map (·.2))[i]?=ϊ v) (λi s=>∃slot:Nat,kh s.heap I a (.int slot 0) i es.size ep/\s.heap.get? a=ϊ u/\i<=es.size/\(∀k,k<i->t.place.toList.getD k 0<slot)/\∀k,i<=k->k<t.place.toList.length->slot<=t.place.toList.getD k 0) where
 sub:=λb N=>by simp at N;simp[N]
 grefl:=λ_=>rfl
 gtrans:=λ_ _ _ J H=>H.trans J
 frame:=λi s M z Y _ V=>by
  obtain⟨slot,X,Z,T⟩:=Y;exact⟨slot,X.at λo e=>V I ∅ o e,V a ∅ _ Z,T⟩
 item:=λi s Q E L Y W=>by
  obtain⟨slot,X,Z,T,S,R⟩:=Y;have G:t.place.toList.length=es.size:=by
   erw[SetTable.fits,Â,beq_iff_eq,Ã] at hf;simpa using hf.1
  have K:i<t.place.toList.length:=by omega
  have e1:es[i]?=ϊ es[i]:=by simp[L]
  have e2:t.place[i]?=ϊ (t.place.toList.getD i 0):=by
   simp[agK,Ò K]
  refine MX X Z hd hf rfl (λF D C q=>KC jy Z hd hf hl hp (tJ hr ⋯ S R) (by rw[e1,e2];exact q)) λM it U=>?_;refine W _ _ (by simp[e1]) ⟨_,it,by rw[U.2 a ip];exact Z,L,λk V=>?_,λk V B=>?_⟩ (Cf U)
  ·by_cases O:k=i
   ·rw[O];omega
   ·have:=zL hr (show k<i by omega) K
    omega
  ·have:=zL hr (show i<k by omega) B
   omega
 done:=λs Q E Y W=>by
  obtain⟨slot,X,Z,T,S,R⟩:=Y;have G:t.place.toList.length=es.size:=by
   erw[SetTable.fits,Â,beq_iff_eq,Ã] at hf;simpa using hf.1
  refine N7 hh X Z hd hf rfl (λF D C q=>KC jy Z hd hf hl hp (tJ hr ⋯ S R) (by
   rw[show es[es.size]?=ϋ by simp];exact q)) λM U=>W _ (Cq U)
 self:=λi s Q E Y W=>by
  obtain⟨slot,X,_⟩:=Y;exact DG X W
def T4 (hh:A.handled=ϋ) (ip:a≠I) (hnt:tp≠I) (hd:u.data=.set es ep t) (hf:t.fits es.size=ό) (pl:List Nat) (bY:pl.length=es.size) (yz:∀x∈pl,x<es.size) :
  WalksS P w A I [I,a,tp] [I] (λa b=>b=a) es.size (λi v=>(pl.map λk=>(es.getD k (0,Value.none)).2)[i]?=ϊ v) (λi s=>kh s.heap I a (.ref tp) i es.size ep/\s.heap.get? a=ϊ u/\s.heap.IsTuple tp (pl.map λ(k:Nat)=>Ŀ k).toArray) where
 sub:=λb U=>by simp at U;simp[U]
 grefl:=λ_=>rfl
 gtrans:=λ_ _ _ R O=>O.trans R
 frame:=λi s T tk Z _ Y=>⟨Z.1.at λo e=>Y I ∅ o e,Y a ∅ _ Z.2.1,let ⟨o,V,r⟩:=Z.2.2;⟨o,Y tp ∅ o V,r⟩⟩
 item:=λi s Q E N Z X=>by
  have S:i<pl.length:=by omega
  have e1:=Ò S;have Y:=yz _ (agg S);refine Xa (pl:=pl[i]) (x:=es.getD pl[i] (0,Value.none)) (tk:=0) Z.1 Z.2.1 hd hf rfl Z.2.2 (by simp[e1,Ŀ]) (by simp[Y,Array.getD]) λT it W=>?_
  refine X _ _ (by simp[e1]) ⟨it,by rw[W.2 a ip];exact Z.2.1,let ⟨o,V,r⟩:=Z.2.2;⟨o,by rw[W.2 tp hnt];exact V,r⟩⟩ (Cf W)
 done:=λs Q E Z X=>Y7 hh Z.1 Z.2.1 hd hf rfl Z.2.2 (by simp[bY]) λT W=>X _ (Cq W)
 self:=λi s Q E Z X=>DG Z.1 X
noncomputable def gm (w:ĩ):Bool:=!(w.params.followText "set-order")
section
variable {P:ù} {w:ĩ} {A:Đ} {E:á->Û->Prop} {s:Û}
def Xb (a:á)
 (hq:Q₁ (.ref s.heap.objs.size) { s with heap:=s.heap.push { cls:=.type "set",dict:=ϋ,data:=.set #[] 0 (.fresh 0 0 (gm w)) } }) :
  ų (è P w) A (.call (.builtin "set.__new__") ⟨[.type "set",a],[]⟩) (wants Q₁ E) s:=by
 refine agw ?_;show ê _ A.in1 (agi "set.__new__" ⟨[.type "set",a],[]⟩ >>= λ_=>again (.builtin "set.__new__" ⟨[.type "set",a],[]⟩)) _ _ s;refine À ?_;refine aft (F.newCall_set_1 a) ?_;refine Å ⟨plainId_quiet F.plain_set_new _,ŀ F.entry_set_new ?_⟩;rw[ς F.plain_set_new _];delta Ŷ.«set.__new__» Builtin.Frozenset.newClass;have ss:=sub_set_self;obtain⟨Z,Y,X,W,V⟩:=s;dsimp only
 wp_walk
 refine agh (Å ?_);dsimp only;erw[newObj];refine À (wpAny_alloc ?_);exact Å (Å hq)
end
section
variable {P:ù} {w:ĩ} {A:Đ} {R:Result->Û->Prop} {I:ă} {fp wr:List ă} {G:Array GenState->Array GenState->Prop} {n:Nat} {Pv:Nat->á->Prop} {St:Nat->Û->Prop} {led:Bool}
def Xc (val) {i n} (h:i<=n):(ō val i).length<=(ō val n).length:=by
 induction h with
 |refl=>exact agW _
 |step _ ih =>
  rw[firstMet_succ,step_length]
  split<;>omega
def Xd (W:WalksS P w A.in1 I fp wr G n Pv St) (S) (yA:S∉fp)
  (val) (aeK:∀i v,Pv i v->∃t,v=.int (val i) t) (hb:(ō val n).length+1<afK) :
  ∀k i s,n-i=k->i<=n->St i s ->
   iD P w led s.heap S (λj=>(ō val i).any (·==j)) (ō val i).length ->
   (∀s',Moved (S::wr) G s s'->iD P w led s'.heap S (λj=>(ō val n).any (·==j)) (ō val n).length->R (.ok (.ret .none)) s') ->
   ų (è P w) A (.builtin "set.update.loop" ⟨[.ref S,.ref I],[]⟩) R s:=by
 have nw:=λz=>yA (W.sub _ z);have sw:∀b∈wr,b∈S::wr:=λb z=>É _ z;intro k
 induction k with
 |zero =>
  intro i s N Q Z T Y;obtain rfl:i=n:=by omega
  refine ŀ F.entry_set_update_loop ?_;refine À (W.done s _ _ Z λs' m=>?_);exact Å (Y s' (m.mono sw) (T.at λo e=>m.heap S o nw e))
 |succ k ih =>
  intro i s N Q Z T Y;have lt:i<n:=by omega
  refine ŀ F.entry_set_update_loop ?_;rw[ς F.plain_set_update_loop _];refine À (W.item i s _ _ lt Z λv s' pv M m=>?_);obtain⟨t,rfl⟩:=aeK i v pv;have L:=T.at λo e=>m.heap S o nw e;refine À (Č ?_);refine À ((Ų P w).pyHash (intKind_is ..) ?_);have room:(ō val i).length+1<afK:=by have:=Xc val Q;omega
  refine Y6 L room λK O J=>?_;have H:iD P w led K S (λj=>(ō val _).any _) (ō val (i+1)).length:=J.congr (λj=>by rw[firstMet_succ,step_any]) (by rw[firstMet_succ,step_length]);refine Å ⟨plainId_quiet F.plain_set_update_loop _,ih _ _ ⋯ lt (W.frame _ s' _ _ M (afq _) λb X o e=>?_) H λE V U=>?_⟩
  ·rw[O.2 b λz=>yA (z ▸ X)];exact e
  ·refine Y E (Moved.trans W.gtrans ((m.mono sw).then_heap (afq _) λb o X e=>?_) V) U
   rw[O.2 b λz=>X (by rw[z];exact Ó)];exact e
end
section
variable {P:ù} {w:ĩ} {A:Đ} {E:á->Û->Prop} {s:Û}
def UL   
 (hh:A.handled=ϋ) (hl:s.heap.IsList l aj) (hi:agq aj.toList ns) (hb:(ō (λi=>ns.getD i 0) aj.size).length+1<afK)
 (h:∀(h':ū) (tk:Nat),iD P w (gm w) h' s.heap.objs.size (λk'=>(ō (λi=>ns.getD i 0) aj.size).any (·==k')) (ō (λi=>ns.getD i 0) aj.size).length ->
 (∀b o,b<s.heap.objs.size->s.heap.get? b=ϊ o->h'.get? b=ϊ o)->Q (.ref s.heap.objs.size) { s with heap:=h',toks:=tk }) :
  ê (è P w) A (call (.type "set") [.ref l]) Q E s:=by
 obtain⟨c,tl,ur⟩:=ž.mro;have um:=ž.made;have ub:=ž.sub;refine afw (agw ?_);show ê _ _ (callAny (.type "set") _) _ _ _;refine Å ⟨afM _ nofun,ŀ F.entry_type_call ?_⟩;rw[Around.under_plain (weight_type_call_type "set" [.ref l] []) rfl];have h1:=ž.notType;have h2:=ž.canCreate;have I:=F.typeCall_set_1 (.ref l)
 repeat (any_goals (first|assumption|wp_step))
 refine Ł (Xb (.ref l) (E:=E) (Q₁:=λobj O=>obj=.ref s.heap.objs.size/\O={ s with heap:=s.heap.push { cls:=.type "set",dict:=ϋ,data:=.set #[] 0 (.fresh 0 0 (gm w)) } }) ⟨rfl,rfl⟩) λr O Y=>?_
 cases r with
 |error e=>exact Y
 |ok H =>
  cases H with
  |ret obj =>
   obtain⟨rfl,rfl⟩:=Y;have v:(s.heap.push { cls:=.type "set",dict:=ϋ,data:=.set #[] 0 (.fresh 0 0 (gm w)) }).get? s.heap.objs.size=ϊ { cls:=.type "set",dict:=ϋ,data:=.set #[] 0 (.fresh 0 0 (gm w)) }:=Ë _ rfl
   have G:Shared.TypeIs { s with heap:=s.heap.push { cls:=.type "set",dict:=ϋ,data:=.set #[] 0 (.fresh 0 0 (gm w)) } } (.ref s.heap.objs.size) "set":=⟨_,v,rfl⟩
   have vl:=ž.init.lookup;have vb:=ž.init.bind (.ref s.heap.objs.size)
   repeat (any_goals (first|assumption|wp_step))
   refine Ł (ş (R:=wants (λr N=>r=.none/\∃h' tk,N={ s with heap:=h',toks:=tk } /\
     iD P w (gm w) h' s.heap.objs.size (λk'=>(ō (λi=>ns.getD i 0) aj.size).any (·==k')) (ō (λi=>ns.getD i 0) aj.size).length /\
     (∀b o,b<s.heap.objs.size->s.heap.get? b=ϊ o->h'.get? b=ϊ o)) E) ž.init.plain F.entry_set_init (check_set_init_1 G ?_)) λX N W=>?_
   ·obtain⟨ol,M,L,nn,K⟩:=hl
    obtain⟨oc,D,oa,V⟩:=ol;simp only at L K;subst L;subst K;have U:(s.heap.push { cls:=.type "set",dict:=ϋ,data:=.set #[] 0 (.fresh 0 0 (gm w)) }).get? l=ϊ { cls:=.type "list",dict:=D,data:=.seq aj nn,slots:=V }:=Á _ M;have u1:=F.sub_list_set;have u2:=F.sub_list_frozenset;have ip:(η "list"==η "dict")=ύ:=by decide
    have ul:(s.heap.push { cls:=.type "set",dict:=ϋ,data:=.set #[] 0 (.fresh 0 0 (gm w)) }).IsList l aj:=⟨_,U,rfl,nn,rfl⟩;delta Ŷ.«set.__init__» noKeywords Builtin.Frozenset.updateFrom;generalize C:pyIter=PI
    wp_walk
    subst C;refine Š ul ?_;refine À (wpAny_runValue ?_);have J:l<s.heap.objs.size:=Í M;have B:A.in1.in1.in1.handled=ϋ:=by simp[hh]
    have z:l≠(s.heap.push { cls:=.type "set",dict:=ϋ,data:=.set #[] 0 (.fresh 0 0 (gm w)) }).objs.size:=by
     rw[ā];exact ä (ĭ J)
    have y:s.heap.objs.size∉[(s.heap.push { cls:=.type "set",dict:=ϋ,data:=.set #[] 0 (.fresh 0 0 (gm w)) }).objs.size,l]:=by
     rw[ā];erw[Ñ,Ē,ü,or_false,not_or];exact⟨ä (Ŋ _),Ř J⟩
    have x:∀(i:Nat) (v:á),aj[i]?=ϊ v->∃t,v=.int ((λi=>ns.getD i 0) i) t:=λi v u =>
     IntsAre.int_at hi i v (by rw[ĸ];exact u)
    refine Xd (led:=gm w) ((Walks.list B _ l z aj).toS) s.heap.objs.size
     y (λi=>ns.getD i 0) x hb (aj.size-0) 0 _ ⋯ (č _)
     ⟨⟨_,Ë _ rfl,rfl,rfl⟩,(ul.push _)⟩ ?v0 ?vR
    case v0 =>
     have q:((s.heap.push { cls:=.type "set",dict:=ϋ,data:=.set #[] 0 (.fresh 0 0 (gm w)) }).push { cls:=.type "list_iterator",data:=.fields #[.ref l,.int 0 0] }).get? s.heap.objs.size
       = ϊ { cls:=.type "set",dict:=ϋ,data:=.set #[] 0 (.fresh 0 0 (gm w)) }:=Á _ v
     exact⟨_,#[],0,_,q,⟨rfl,rfl,rfl⟩,rfl,λe p=>by simp at p,λk=>by simp[firstMet_zero],by delta afK;simp,by rfl,rfl,VL _⟩
    case vR =>
     intro n Z T;obtain⟨h',m,j,g,f⟩:=n;have d:m=s.gens:=Z.gens;have a:j=s.drawn:=Z.drawn;have eo:f=s.os:=Z.os;subst d;subst a;subst eo;show ê _ _ _ _ _ _;refine Å ?_;show ê _ _ (ret Value.none) _ _ _;refine Å ⟨rfl,h',g,rfl,T,λb o hb e=>?_⟩;have v1:b≠s.heap.objs.size:=ä hb;have v2:b≠(s.heap.push { cls:=.type "set",dict:=ϋ,data:=.set #[] 0 (.fresh 0 0 (gm w)) }).objs.size:=by
      rw[ā];exact ä (ĭ hb)
     exact Z.heap b o (by erw[Ñ,Ē,ü,or_false,not_or];exact⟨v1,v2⟩) (Á _ (Á _ e))
   ·cases X with
    |error e=>exact W
    |ok S =>
     cases S with
     |ret r =>
      obtain⟨rfl,h',tk,rfl,T,vk⟩:=W
      repeat (any_goals (first|assumption|wp_step))
      exact h _ _ T vk
     |_=>exact W.elim
  |_=>exact Y.elim
end
theorem Cg {α:Type}:∀{l} {i} {x:α},l[i]?=ϊ x->(x::l.eraseIdx i).Perm l
 | [],i,x,h=>by simp at h
 |y::l,0,x,h=>by
  have:=by simpa using h
  subst this;exact List.Perm.refl _
 |y::l,i+1,x,h=>by
  have ih:=Cg (by simpa using h);exact(List.Perm.swap y x _).trans (List.Perm.cons y ih)
theorem MY (next):∀fuel k (left:List α) out,left.length=fuel->(pickOrder.go next fuel k left out).toList.Perm (out.toList++left)
 |0,k,left,out,h=>by
  have:=afN.mp h;subst this;delta pickOrder.go;simp
 |fuel+1,k,left,out,h=>by
  delta pickOrder.go
  have Z:next k % left.length<left.length:=Nat.mod_lt _ ⋯
  rw[Ò Z];have Y:=Cg (Ò Z)
  have ih:=MY next fuel (k+1) _ (out.push left[next k % left.length]) (by rw[List.length_eraseIdx_of_lt Z];omega)
  refine ih.trans ?_;rw[af3,ġ];exact List.Perm.append_left _ Y
def Lh (next) (xs:Array α):(afL next xs).toList.Perm xs.toList:=by
 delta afL
 have:=MY next xs.size 0 xs.toList #[] ∅
 simpa using this
section
variable {P:ù} {w:ĩ} {A:Đ} {E:á->Û->Prop}
def UM (n):∀(xs:List α) s Q,xs.length=n->(∀ys d,ys.Perm xs->Q ys { s with drawn:=d })->ê (è P w) A (drawOrder n xs) Q E s:=by
 induction n with
 |zero =>
  intro xs s Q h Z;have:=afN.mp h;subst this;delta drawOrder;exact Å (Z _ _ (List.Perm.refl _))
 |succ n ih =>
  intro xs s Q h Z
  cases xs with
  |nil=>simp at h
  |cons x xs =>
   refine À (UJ ∅ ?_);have Y:w.draws .order (s.drawn.get .order) % (x::xs).length<(x::xs).length:=Nat.mod_lt _ ∅;rw[Ò Y];refine À (ih _ _ _ (by rw[List.length_eraseIdx_of_lt Y];omega) λys d X=>?_);refine Å (Z _ d ?_);exact(List.Perm.cons _ X).trans (Cg (Ò Y))
def Xe {s:Û} {a:ă} {u:Obj} {es} {ep:Nat} {t} {Q} (hu:s.heap.get? a=ϊ u) (hx:u.ExactSet) (hd:u.data=.set es ep t) (hf:t.fits es.size=ό) (ht:jK (gm w) t)
  (hsz:es.size<=Ô)
  (hQ:∀(h':ū) (d':Drawn) (I:ă) (fp:List ă) St (order:List á),(∀b o,s.heap.get? b=ϊ o->h'.get? b=ϊ o)->(∀b∈fp,b<h'.objs.size)->(∀b∈fp,b=a\/s.heap.objs.size<=b)->I∈fp->s.heap.objs.size<=I->order.Perm (es.toList.map (·.2)) ->
   (∀A',A'.handled=ϋ->WalksS P w A' I fp [I] (λa b=>b=a) es.size (λi v=>order[i]?=ϊ v) St)->St 0 { s with heap:=h',drawn:=d' }->Q (.ref I) { s with heap:=h',drawn:=d' }) :
  ê (è P w) A (pyIter (.ref a)) Q E s:=by
 have O:s.TypeIs (.ref a) "set":=⟨u,hu,hx.1⟩;have X:=Í hu;refine wpAny_pyIter_slot O F.slot_set_iter (ć F.slot_set_iter O SD ?_ (F.args_set_iter_1 _));delta Ŷ.«frozenset.__iter__» Builtin.Frozenset.slot0 slotArgs;simp only[List.isEmpty_nil,ĳ,Æ,↓reduceIte,bind_assoc,ē,Ĺ];refine À (Å ?_);refine À (Å ?_);refine À (À (ũ hu hd hf (Å ?_)));refine À (À (ţ hu hd hf ?_));refine À (À (agh (Å ?_)));refine Å ?_
 show ê _ _ (if (!(w.params.followText _)&&(!t.plain&&ώ _))=ό then _ else _) _ _ _
 by_cases W:(!w.params.followText "set-order"&&(!t.plain&&ώ (es.size > 1)))=ό
 ·rw[Ö W]
  refine À (UM _ _ _ _ ∅ λT d hp=>?_);refine À ?_;refine Ď ?_ (by have:=hp.length_eq;rw[List.length_range] at this;show (List.toArray _).size<=Ô;rw[ã,Ç,this];exact hsz);have L:∀x∈T,x<es.size:=λx hx=>by simpa using hp.mem_iff.mp hx
  have S:=by simpa using hp.length_eq
  refine À (wpAny_setEpoch_of (Á _ hu) hd hf ?_);refine À (Ď ?_);refine Å ⟨_,rfl,_,_,⟨_,Ë _ rfl,rfl⟩,lC.lookup,?_⟩;have Y:(s.heap.push { cls:=.type "tuple",data:=.seq (T.map λ(i:Nat)=>Ŀ i).toArray }).objs.size=s.heap.objs.size+1:=by simp[ā]
  refine hQ _ d _ _ _ _ (λb o e=>Á _ (Á _ e)) ?_ ?_ ∅ (by rw[Y];exact afq _) ?_ (λA' V=>T4 V (by rw[Y];exact ä (ĭ X)) (by rw[Y];exact ä (Ŋ _)) hd hf T S L) ⟨⟨_,Ë _ rfl,rfl,rfl⟩,Á _ (Á _ hu),⟨_,Á _ (Ë _ rfl),rfl,_,rfl⟩⟩
  ·intro b Z
   erw[Ñ,ü,or_false] at Z;rw[ā]
   rcases Z with e|e|e
   ·rw[e];exact Ŋ _
   ·rw[e,Y];exact ĭ (ĭ X)
   ·rw[e,Y];exact ĭ (Ŋ _)
  ·intro b Z
   erw[Ñ,ü,or_false] at Z
   rcases Z with e|e|e
   ·right;rw[e,Y];exact afq _
   ·exact .inl e
   ·right;rw[e];exact agW _
  ·refine(List.Perm.map _ hp).trans ?_
   have:(â es.size).map (λk=>(es.getD k (0,Value.none)).2)=es.toList.map (·.2):=by
    apply Ţ;intro i;rw[å];by_cases R:i<es.size
    ·simp[Array.getD,R]
    ·rw[Ĝ (by simpa using R),Ĝ (by simpa using R)]
     rfl
   rw[this]
 ·rw[Ý W]
  refine À (Å ?_);refine À (wpAny_setEpoch_of hu hd hf ?_);refine À (Ď ?_);refine Å ⟨_,rfl,_,_,⟨_,Ë _ rfl,rfl⟩,lC.lookup,?_⟩;have ai:∀(N:Obj),∀b∈[s.heap.objs.size,a],b<(s.heap.push N).objs.size:=λN b Z=>by
   erw[Ñ,ü,or_false] at Z;rw[ā]
   rcases Z with e|e
   ·rw[e];exact Ŋ _
   ·rw[e];exact ĭ X
  have M:∀b∈[s.heap.objs.size,a],b=a\/s.heap.objs.size<=b:=λb Z=>by
   erw[Ñ,ü,or_false] at Z
   rcases Z with e|e
   ·right;rw[e];exact agW _
   ·exact .inl e
  cases U:w.params.followText _ with
  |true =>
   have K:=by
    have:=(Lh (w.params.setOrder a ep) es).length_eq;simpa using this
   have hw:∀A',A'.handled=ϋ->WalksS P w A' _ _ _ (λa b=>b=a) es.size (λi v=>((afL _ es).toList.map (·.2))[i]?=ϊ v) _:=λA' V=>by
    have:=UK (P:=P) V (a:=a) (ä X) U hd hf K;simpa using this
   exact hQ _ s.drawn _ [_,a] _ _ (λb o e=>Á _ e) (ai _) M ∅ (agW _) (List.Perm.map _ (Lh _ _)) hw ⟨⟨_,Ë _ rfl,rfl,rfl⟩,Á _ hu⟩
  |false =>
   have hp:t.plain=ό\/es.size<=1:=by
    rw[U] at W;simp at W
    cases J:t.plain with
    |true=>exact .inl rfl
    |false=>exact .inr (W J)
   have S:t.led=ό:=by rw[ht.led];delta gm;rw[U];rfl
   have H:ng t.place.toList:=by
    rcases hp with hp|hp
    ·exact ht.rise hp
    ·erw[SetTable.fits,Â,beq_iff_eq,Ã] at hf
     have hle:t.place.toList.length<=1:=by simp[hf.1];exact hp
     match t.place.toList,hle with
     | [],_=>exact List.Pairwise.nil
     | [x],_=>exact List.pairwise_singleton _ _
   have hw:∀A':Đ,A'.handled=ϋ->WalksS P w A' _ _ _ (λa b=>b=a) es.size (λi v=>(es.toList.map (·.2))[i]?=ϊ v) _:=λA' V=>by
    have:=TZ (P:=P) (u:=u) (t:=t) V (a:=a) (ä X) U hd hf S hp H;simpa using this
   exact hQ _ s.drawn _ [_,a] _ _ (λb o e=>Á _ e) (ai _) M ∅ (agW _) (List.Perm.refl _) hw ⟨0,⟨_,Ë _ rfl,rfl,rfl⟩,Á _ hu,č _,λk G=>by omega,λk _ _=>č _⟩
end
section
variable {P:ù} {w:ĩ} {A:Đ} {E:á->Û->Prop} {s:Û}
def split_len:splitId "set.__len__"=ϊ ("set","__len__"):=nofun
def ints_of (h:ElemsOf (Ų P w) es) (hp:vs.Perm (es.map (·.2))):∃ns,agq vs ns:=by
 have Z:∀v∈vs,∃k t,v=.int k t:=λv Z=>by
  obtain⟨e,W,rfl⟩:=é.mp (hp.mem_iff.mp Z);obtain⟨⟨k,X,_⟩,_⟩:=h e W
  cases Y:e.2 with
  |int i t=>exact⟨i,t,rfl⟩
  |_=>rw[Y] at X;simp[Ų,Value.isInt] at X
 clear hp
 induction vs with
 |nil=>exact⟨_,.nil⟩
 |cons v vs ih =>
  obtain⟨k,t,rfl⟩:=Z v Ó;obtain⟨ns,V⟩:=ih λx Y=>Z x (É _ Y);exact⟨_,.cons k t V⟩
def N8 {x y:Sem α} {Q} (hc:c=ό) (h:ê (è P w) A x Q E s):ê (è P w) A (if c=ό then x else y) Q E s:=by
 rw[Ö hc];exact h
def T5 {a:ă} {u:Obj} {es:Array (Int×á)} {ep:Nat} {t:SetTable} {Q:List á->Û->Prop} (hh:A.handled=ϋ) (hu:s.heap.get? a=ϊ u) (hx:u.ExactSet) (hd:u.data=.set es ep t) (hf:t.fits es.size=ό) (ht:jK (gm w) t) (hsz:es.size<afK)
  (hQ:∀(h':ū) (d':Drawn) (tk:Nat) (vs:List á),s.heap.objs.size<=h'.objs.size->(∀b o,s.heap.get? b=ϊ o->h'.get? b=ϊ o)->vs.Perm (es.toList.map (·.2))->Q vs { s with heap:=h',drawn:=d',toks:=tk }):ê (è P w) A (collect (.ref a)) Q E s:=by
 have K:es.size<=Ô:=μ hsz;have J:a<s.heap.objs.size:=Í hu;delta collect;refine À (wpAny_runValue (ŀ F.entry_proto_collect ?_));rw[ς F.plain_proto_collect _];show ê _ A.in1 (newList [] >>= λl=>again (.builtin "list.__iadd__" ⟨[l,.ref a],[]⟩)) _ _ s;refine À (Ď ?_);refine Å ⟨plainId_quiet F.plain_list_iadd _,ŀ F.entry_list_iadd ?_⟩;rw[ς F.plain_list_iadd _];show ê _ A.in1 (ſ (.ref s.heap.objs.size) (.ref a) (.ref s.heap.objs.size)) _ _ _
 generalize U:({ s with heap:=s.heap.push { cls:=.type "list",data:=.seq ([]:List á).toArray } }:Û)=Y
 have H:Y.heap.objs.size=s.heap.objs.size+1:=by rw[<- U];simp[ā]
 have i:∀b o,s.heap.get? b=ϊ o->Y.heap.get? b=ϊ o:=λb o e=>by rw[<- U];exact Á _ e
 have T:Y.heap.get? a=ϊ u:=by rw[<- U];exact Á _ hu
 have h:Y.TypeIs (.ref a) "set":=⟨u,T,hx.1⟩;have S:Y.heap.get? s.heap.objs.size=ϊ { cls:=.type "list",data:=.seq ([]:List á).toArray }:=by rw[<- U];exact Ë _ rfl
 delta ſ;refine À (afz h ?_);have g:Builtin.List.listSameRef (.ref s.heap.objs.size) (.ref a)=ύ:=by
  simp[Builtin.List.listSameRef];exact Ř J
 have f:(η "set"==η "list")=ύ:=by decide
 have d:(η "set"==η "tuple")=ύ:=by decide
 erw[g,f,d,Bool.or_false,Æ,ñ];refine À (Xe T hx hd hf ht K λh' d' I fp St order R k2 k6 k3 G D W st=>?_)
 have O:Shared.TypeIs { Y with heap:=h',drawn:=d' } (.ref a) "set":=⟨u,R _ _ T,hx.1⟩
 have C:=R _ _ S;refine À (Č ?_);delta Builtin.List.listLengthHint;refine À (wpAny_specialOf O F.slot_set_len.lookup ?_);dsimp only;rw[split_len];dsimp only;refine À (wpAny_isInstance O sub_set_self ?_);rw[Ý (by decide)];refine N8 nofun ?_;refine À (afz O ?_);dsimp only;refine Å ?_;refine N8 nofun ?_
 ··refine À (ů ?_)
   refine À ?_;show ê _ A.in1 (updateSeq s.heap.objs.size (·.push .none) >>= λ_=>updateSeq s.heap.objs.size (·.pop)) _ _ _;refine À (wpAny_updateSeq C rfl ?_);have B:=ě (agm (·.push Value.none)) C rfl;refine wpAny_updateSeq B rfl ?_;have N:=ě (agm (·.pop)) B rfl;have y:s.heap.objs.size∉fp:=λhm=>by
    rcases k6 _ hm with e|e
    ·exact Ř J e
    ·rw[H] at e;exact Nat.not_succ_le_self _ e
   have x:∀b o,b≠s.heap.objs.size->h'.get? b=ϊ o->((h'.update s.heap.objs.size (agm (·.push Value.none))).update s.heap.objs.size (agm (·.pop))).get? b=ϊ o :=
    λb o X e=>(ŵ _ _ (ŧ X)).trans ((ŵ _ _ (ŧ X)).trans e)
   refine Å ⟨plainId_quiet F.plain_extend_loop _,codeAny_extend_loopS (W A.in1 (by simp[hh])) K _ y _ es.size 0 _ _ _ rfl (č _) ((W A.in1 (by simp[hh])).frame 0 ({ Y with heap:=h',drawn:=d' }:Û) _ Y.toks st (agW _) λb X o e=>x b o (λz=>y (z ▸ X)) e) N (ItemsOf.nil _) λv Z c m r p=>?_⟩
   show ê _ A (load s.heap.objs.size >>= _) _ _ v;refine À (wpAny_load r ?_);refine Å ?_;have M:order.length=es.size:=by simpa using D.length_eq
   have L:Z.toList=order:=by
    apply Ţ;intro j;by_cases n:j<Z.size
    ·have e1:Z[j]?=ϊ Z[j]:=by simp[n]
     rw[ĸ,e1,p.2 j _ e1]
    ·rw[Ĝ (by simpa using n),Ĝ (by rw[M,<- p.1];omega)]
   obtain⟨h2,g2,k,t2,o2⟩:=v;have eg:g2=Y.gens:=m.gens;have ed:k=d':=m.drawn;have eo:o2=Y.os:=m.os;subst eg ed eo;have q:=hQ h2 k t2 Z.toList (Nat.le_of_lt (Í r)) (λb o e=>m.heap b o (λX=>by
    erw[Ñ,ü,or_false] at X;have V:=Í e
    rcases X with z|z
    ·rw[z] at V;exact ó _ V
    ·rw[H] at G;rw[z] at V;exact ó _ (È V (Nat.le_of_succ_le G))) (x b o (λz=>by
     have V:=Í e;rw[z] at V;exact ó _ V) (R b o (i b o e)))) (by rw[L];exact D)
   rw[<- U];exact q
def UN (hh:A.handled=ϋ) (hu:s.heap.get? a=ϊ u) (hx:u.ExactSet) (hd:u.data=.set es ep t) (hf:t.fits es.size=ό) (ht:jK (gm w) t) (G3:ElemsOf (Ų P w) es.toList) (h64:es.size<64)
 (h:∀h' d' tk (p:ă) vs ns out ms e,(∀b o,s.heap.get? b=ϊ o->h'.get? b=ϊ o)->s.heap.objs.size<=p->vs.Perm (es.toList.map (·.2))->agq vs ns->h'.get? p=ϊ { cls:=.type "list",data:=.seq out.toArray e }->agq out ms->ms.Perm ns->ms.Pairwise (·<=·)->Q (.ref p) { s with heap:=h',drawn:=d',toks:=tk }) :
  ê (è P w) A (call (.builtin "sorted") [.ref a]) Q E s:=by
 refine Calls.call_function_entry kind_sorted plain_sorted entry_sorted (args_sorted1 _) ?_;refine À (Å ?_);refine À (T5 (by simp[hh]) hu hx hd hf ht (by delta afK;omega) λh' d' tk vs U T Z=>?_);obtain⟨ns,X⟩:=ints_of G3 Z;have S:vs.length<64:=by have:=Z.length_eq;simp at this;omega
 refine À (wpAny_newList ?_);have Y:(h'.push _).get? _=ϊ (seqObj "list" vs.toArray 0):=Ë _ rfl;refine À (Č (ć slot_list_sort ⟨_,Y,rfl⟩ entry_list_sort (list_sort_tree Y X S λout ms a1 a2 R=>⟨_,rfl,?_⟩) (args_list_sort _)));obtain⟨e,O⟩:=sortedHeap_at Y;refine Å ⟨_,rfl,h _ d' tk _ vs ns _ ms e (λb o N=>?_) ?_ Z X (by simpa  using O) a1 a2 R⟩
 ·have W:=T b o N
  have V:=Í W;rw[sortedHeap_old (ä V) (by rw[size_push'];exact ĭ V)];exact Á _ W
 ·exact U
end
end TS
namespace L2
open PySem PySem.Spec PyProof.Rows
def rR (P:ù) (w:ĩ) (p:ă) (ns:List Int):ū->Prop:=λh=>∃(S:Int->Bool) (n:Nat),TS.iD P w (TS.gm w) h p S n/\(∀k,S k=ό↔k∈ns)/\n<=ns.length/\n=(ns.foldl step_dedup []).length
section
variable {X:Cx}
def zM (l:List Int) (k):(l.any (·==k))=ό↔k∈l:=by
 rw[Ŭ];exact⟨λ⟨x,Z,Y⟩=>by rw[<- beq_iff_eq.mp Y];exact Z,λh=>⟨k,h,by simp⟩⟩
def Y8 (hm:m=ns.length) (hS:TS.iD X.prog X.w (TS.gm X.w) h p (λk'=>(ō (λi=>ns.getD i 0) m).any (·==k')) (ō (λi=>ns.getD i 0) m).length):rR X.prog X.w p ns h:=by
 subst hm;refine⟨_,_,hS,λk=>?_,firstMet_length_le ..,?_⟩
 ·rw[firstMet_any,map_getD]
  exact zM ns k
 ·delta ō
  rw[map_getD]
def Y9 (hx:rR X.prog X.w p ns h):gF X.prog X.w (upd H p (.ext (rR X.prog X.w p ns))) h p (.ext (rR X.prog X.w p ns)):=by
 refine⟨hx,?_,λY W q k=>?_⟩
 ·obtain⟨_,_,⟨o,_,_,_,Z,_⟩,_⟩:=hx
  exact⟨o,Z⟩
 ·obtain⟨S,n,T,r⟩:=q
  exact⟨S,n,T.at k,r⟩
def UO (hc:X.calm=ό):dh X (.type "set") (λxs H Q=>∃(a:ă) (ns:List Int),xs=[.ref a]/\cf X.K H a (ns.map V.int)/\(ns.foldl step_dedup []).length<4000/\∀p,H p=ϋ->Q (.ref p) (upd H p (.ext (rR X.prog X.w p ns)))):=by
 intro R s σ H xs P Q I r h;obtain⟨a,ns,rfl,W,O,q⟩:=h;obtain⟨u,rfl,U⟩:=vals1 r;cases U;obtain⟨aj,Z,p,_⟩:=I.list W;have Y:aj.toArray.size=ns.length:=by
  have e:=Z.length;simpa using e.symm
 refine TS.UL (I.ok.hd hc) p.isList (by simpa using intsAre_of Z) (by rw[Y];delta ō;rw[map_getD];show _ + 1<4096;omega) λN M T S=>?_;exact⟨.ref _,_,I.laid (λb o e=>S b o (Í e) e) (agW _) (Y9 (Y8 Y T)),rfl,q _ (I.aQ.fresh (agW _))⟩
theorem JX:∀{out} {ms},agq out ms->Vals (ms.map V.int) out
 |_,_,.nil=>.nil
 |_,_,.cons n t h=>.cons ⟨t,rfl⟩ (JX h)
theorem B5:∀(ns acc:List Int),acc.Nodup->(ns.foldl step_dedup acc).Nodup
 | [],acc,h=>h
 |n::ns,acc,h=>by
  refine B5 ns _ ?_;delta step_dedup;split
  ·exact h
  ·rename_i Z
   rw[ŭ] at Z;refine af5.mpr ⟨h,by simp,λa Y b X=>?_⟩;have:=by simpa using X
   subst this;intro e;subst e;rw[(zM acc a).mpr Y] at Z;cases Z
theorem LR:∀{vs} {ns},agq vs ns->∀k,k∈ns↔∃t,Value.int k t∈vs
 |_,_,.nil,k=>by simp
 |_,_,.cons n t h,k=>by
  rw[Ñ,LR h k];constructor
  ·rintro (e | ⟨Z,h'⟩)
   ·subst e;exact⟨t,Ó⟩
   ·exact⟨Z,É _ h'⟩
  ·rintro ⟨Z,h'⟩
   rcases Ñ.mp h' with e|h'
   ·injection e with e _;exact .inl e
   ·exact .inr ⟨Z,h'⟩
theorem sub_len:∀{m l:List Int},m.Nodup->(∀k,k∈m->k∈l)->m.length<=l.length
 | [],l,_,_=>č _
 |x::m,l,h,Z=>by
  obtain⟨W,V⟩:=Ż.mp h;have Y:=Z x Ó;have ih:=sub_len V λk X=>(List.mem_erase_of_ne (λ(e:k=x)=>W (by rw[<- e];exact X))).mpr (Z k (É _ X));rw[List.length_erase_of_mem Y] at ih;have:=List.length_pos_of_mem Y;rw[æ];omega
theorem JY:∀{l m:List Int},m.Nodup->(∀k,k∈m↔k∈l)->l.length<=m.length->l.Nodup
 | [],m,_,_,_=>List.nodup_nil
 |a::r,m,Z,Y,W=>by
  have V:a∉r:=λh=>by
   have:=sub_len Z λk U=>(Ñ.mp ((Y k).mp U)).elim (λe=>e ▸ h) id;rw[æ] at W;omega
  have X:=(Y a).mpr Ó;refine Ż.mpr ⟨V,JY (Z.erase a) (λk=>?_) ?_⟩
  ·rw[Z.mem_erase_iff,Y k,Ñ]
   constructor
   ·rintro ⟨T,h2|h2⟩
    ·exact absurd h2 T
    ·exact h2
   ·intro h
    exact⟨λe=>V (e ▸ h),.inr h⟩
  ·rw[List.length_erase_of_mem X]
   rw[æ] at W;omega
def Li (ns:List Int) (k):k∈ns.foldl step_dedup []↔k∈ns:=by
 have:=firstMet_any (λi=>ns.getD i 0) ns.length k;delta ō at this;rw[map_getD] at this;rw[<- zM,<- zM,this]
def Tn (hc:X.calm=ό):dh X (.builtin "sorted") (λxs H Q=>∃(p:ă) (ns:List Int),xs=[.ref p]/\H p=ϊ (.ext (rR X.prog X.w p ns))/\(ns.foldl step_dedup []).length<64 /\
  ∀l (ms:List Int),H l=ϋ->ms.Pairwise (· < ·)->(∀k,k∈ms↔k∈ns)->Q (.ref l) (upd H l (.lst (ms.map V.int)))):=by
 intro π s σ H xs us Q I r h;obtain⟨p,ns,rfl,G,hl,q⟩:=h;obtain⟨v,rfl,F⟩:=vals1 r;cases F;obtain⟨⟨S,n,⟨u,es,ep,t,E,D,hd,C,W,N,B,hn,A⟩,z,G4,Rq⟩,_⟩:=I.aQ p _ G;refine TS.UN (I.ok.hd hc) E D hd B A C ⋯ λh' d' y l vs ks out ms e m M Y U j g T k8=>?_;have L:∀k,k∈ms↔k∈ns:=λk=>by
  rw[T.mem_iff,LR U k,<- z k,W k];constructor
  ·rintro ⟨t',f⟩
   obtain⟨x,R,Z⟩:=é.mp (Y.mem_iff.mp f);exact⟨x,R,by rw[Z];exact intKind_is ..⟩
  ·rintro ⟨x,R,Z⟩
   obtain⟨i,t',K⟩:∃i t',x.2=.int i t':=by
    cases d:x.2 with
    |int i t'=>exact⟨i,t',rfl⟩
    |_=>rw[d] at Z;simp[Ų,Value.isInt] at Z
   have c:=(Ų _ _).inj _ k i (by rw[<- K];exact Z) (intKind_is ..);subst c;exact⟨t',Y.mem_iff.mpr (é.mpr ⟨x,R,K⟩)⟩
 have P:ms.Nodup:=by
  have lq:=B5 ns _ List.nodup_nil;refine JY lq (λk=>?_) ?_
  ·rw[L k,Li]
  ·have e1:=T.length_eq
   have e2:=U.length;have O:=Y.length_eq;simp at O;omega
 have bO:ms.Pairwise (· < ·):=by
  have:=List.pairwise_and_iff.mpr ⟨k8,P⟩;exact this.imp λ⟨a,b⟩=>by omega
 have J:=I.laid (t':=y) (o:=.lst _) m M ⟨by
  rw[Ç,afW];have e1:=T.length_eq;have e2:=U.length;have O:=Y.length_eq;simp at O;omega,out,e,JX g,j⟩
 exact⟨.ref l,_,J.wX (ch:=[]) rfl Un.refl J.aQ J.bare (λb N=>by cases N),rfl,q l ms (I.aQ.fresh M) bO L⟩
end
end L2
namespace HZ
open PySem PySem.Spec PyProof.Rows
open AutoSeq1 (wpAny_loadPart')
end HZ
namespace L2
open PySem PySem.Spec PyProof.Rows
end L2
namespace HZ
open PySem PySem.Spec PyProof.Rows
def Sm:fillsNumberSlot (.type "tuple") "mul"=pure ύ:=by
 first|rfl | (kernel_rfl)|kernel_rfl
def To:seqRepeat? (.type "tuple")=pure (ϊ (.builtin "tuple.__mul__")):=by
 first|rfl|kernel_rfl
def UP (a:Int) (t:Tok) (l) (items) (n:Nat) (d) (sl) :
  Meets (Ŷ.«int.__rmul__» ⟨[.int a t,.ref l],[]⟩) (λ_ R s=>s.heap.get? l=ϊ { cls:=.type "tuple",dict:=d,data:=.seq items n,slots:=sl }/\R (.ok (.ret Value.notImplemented)) s) :=
 .of_wp λprog w A R s h=>by
  obtain⟨Z,h⟩:=h;wp_walk;exact⟨_,rfl,h⟩
section
variable {P:ù} {w:ĩ} {A:Đ} {E:á->Û->Prop} {s:Û}
def Za (ht:IsTup s.heap t vs.toArray) (hv:vs≠[]) (hk:1<=k) (hz:vs.length*k.toNat<=Ô)
 (h1:k=1->Q (.ref t) s) (h2:k≠1->Q (.ref s.heap.objs.size) { s with heap:=s.heap.push { cls:=.type "tuple",data:=.seq (Õ k.toNat vs).flatten.toArray } }) :
  ê (è P w) A (Ľ .Mult (.ref t) (.int k tk)) Q E s:=by
 obtain⟨⟨cls,Y,data,sl⟩,Z,X,n,W⟩:=id ht;subst X W;have S:k<=16777216:=by
  have V:1<=vs.length:=by
   cases vs with
   |nil=>exact absurd rfl hv
   |cons a r=>simp
  have R:vs.length*k.toNat<=16777216:=by exact hz
  have:1*k.toNat<=vs.length*k.toNat:=Nat.mul_le_mul_right _ V;omega
 refine wpAny_binaryOp_repeat_ref (by decide) ⟨_,Z,rfl⟩ (λU=>typeIs_int U k tk) Sm F.fills_int_mul ags To F.slot_int_index.lookup
  (Ű ags (typeIs_int s k tk) F.entry_int_rmul (F.args_int_rmul_2 ..) (UP k tk t _ n Y sl) ⟨Z,rfl,⟨_,Z,rfl⟩,?_⟩)
 refine ć F.slot_tuple_mul ⟨_,Z,rfl⟩ F.entry_tuple_mul ?_ (F.args_tuple_mul_2 ..);refine À ?_
 refine aft (by first|rfl | (rfl)) ?_
 rw[Ý (by simp;omega)];refine À (À (ļ Z rfl ?_));refine Å ?_;have ne:vs.toArray.isEmpty=ύ:=by
  cases vs with
  |nil=>exact absurd rfl hv
  |cons a r=>simp
 by_cases h:k=1
 ·rw[Ö (by rw[h];simp)]
  refine À (À (afz ⟨_,Z,rfl⟩ (Å ?_)));exact À (ů (Å ⟨_,rfl,h1 h⟩))
 ·rw[Ý (by rw[ne];simp[h])]
  rw[Ý (by rw[ne];simp;omega)];have O:(vs.toArray.size)*k=((vs.length*k.toNat:Nat)):=by
   rw[Int.natCast_mul];congr 1;omega
  have T:vs.length*k.toNat<=16777216:=by exact hz
  rw[Ý ⋯];rw[Ý (by
   delta Builtin.Tuple.tupleTooMany;rw[Ã];omega)]
  have e:=by
   have:=L2.foldl_rep vs k.toNat [];rw[Ĩ] at this;exact this
  rw[e];refine À (Ď ?_ (by
   show (List.toArray _).size<=Ô;rw[ã,L2.len_rep,Nat.mul_comm];exact hz))
  exact Å ⟨_,rfl,h2 h⟩
end
end HZ
namespace L2
open PySem PySem.Spec PyProof.Rows
section
variable {X:Cx}
def ac0 (K:Ň):R2:=λx y H Q=>∃a Z k,x=.ref a/\y=.int k/\cb K H a Z/\Z≠[]/\1<=k/\Z.length*k.toNat<=Ô/\qa K H (Õ k.toNat Z).flatten Q
def Zb:bP X (Ľ .Mult) (ac0 X.K):=by
 intro O s σ H x y v u Q I U T h;obtain⟨a,Z,k,rfl,rfl,W,S,R,V,q⟩:=h;cases U;obtain⟨t,rfl⟩:=T;obtain⟨aj,r,p,z⟩:=I.tuple W;have Y:=r.length;refine HZ.Za p (λe=>S (by rw[e] at Y;exact afN.mp Y)) R (by rw[<- Y];exact V) (λe=>?_) (λ_=>?_)
 ·have e1:(Õ k.toNat Z).flatten=Z:=by rw[e];simp
  rw[e1] at q;exact⟨.ref a,H,I,rfl,q.here W⟩
 ·have P:(Õ k.toNat Z).flatten.length<=Ô:=by rw[len_rep,Nat.mul_comm];exact V
  exact⟨.ref _,_,I.laid (o:=.tup _) (λb o e=>Á _ e) (agW _) ⟨P,_,r.rep _,⟨_,Ë _ rfl,rfl,_,rfl⟩⟩,rfl,q.new (I.aQ.fresh (agW _))⟩
end
end L2
namespace HZ
open PySem PySem.Spec PyProof.Rows
def MZ:mroOf (.type "reversed")=pure [.type "reversed",.type "object"]:=by kernel_rfl
def SE:typeLookup (.type "reversed") "__new__"=pure (ϊ (.builtin "reversed.__new__")):=by kernel_rfl
def Xf:Bind.madeBy (.type "reversed")=pure (ϊ "reversed.__new__"):=madeBy_type MZ SE nofun
def SO:entryFor table "reversed.__new__"=ϊ Ŷ.«reversed.__new__»:=entryFor_of_tree (by kernel_rfl)
def SQ:plainId "reversed.__new__"=ό:=nofun
def Tp (a):checkTypeCall "reversed" ⟨[a],[]⟩=pure ():=by kernel_rfl
def T6 (a:á):agi "reversed.__new__" ⟨[.type "reversed",a],[]⟩=pure ():=by kernel_rfl
def Zc:isSubtype (.type "reversed") (.type "reversed")=pure ό:=by kernel_rfl
def UQ:isSubtype (.type "range_iterator") (.type "reversed")=pure ύ:=by kernel_rfl
def Tq:(η "reversed"==η "type")=ύ:=nofun
def Zd:((Manifest.find? "reversed").bind (·.mro.findSome? λt=>(Manifest.find? t).bind λb=>if b.noNew then ϊ ό else if b.attrs.any (·.1=="__new__") then ϊ ύ else ϋ)).getD ύ=ύ:=nofun
section
variable {P:ù} {w:ĩ} {A:Đ} {E:á->Û->Prop} {s:Û}
def Tr (hr:s.heap.get? r=ϊ { cls:=.type "range",data:=.fields #[.int a t1,.int b t2,.int c t3] }) (h:Q (a,b,c) s):ê (è P w) A (Builtin.Range.rangeFields (.ref r)) Q E s:=by
 refine À (ħ hr rfl rfl ?_);refine À (aft (by rfl) ?_);refine À (ħ hr rfl rfl ?_);refine À (aft (by rfl) ?_);refine À (ħ hr rfl rfl ?_);exact Å h
def Ze {n:Nat} {Q:á->Û->Prop} (hr:s.heap.get? r=ϊ { cls:=.type "range",data:=.fields #[.int 0 t1,.int n t2,.int 1 t3] }) (hn:n<2 ^ 62)
 (h:Q (.ref s.heap.objs.size) { s with heap:=s.heap.push { cls:=.type "range_iterator",data:=.fields #[Ŀ (n-1),Ŀ n,Ŀ (-1)] } }) :
  ê (è P w) A (Ŷ.«reversed.__new__» ⟨[.type "reversed",.ref r],[]⟩) (λfin s'=>∃v,fin=.done (.ret v)/\Q v s') E s:=by
 have X:s.TypeIs (.ref r) "range":=⟨_,hr,rfl⟩;have ss:=Zc;delta Ŷ.«reversed.__new__» Builtin.SmallTypes.newClass Builtin.SmallTypes.refuseKeywords;have V:=δ.lookup;have U:=δ.bind (.ref r)
 wp_walk
 refine Ł (ş (R:=wants (λv s'=>v=.ref s.heap.objs.size/\s'={ s with heap:=s.heap.push { cls:=.type "range_iterator",data:=.fields #[Ŀ (n-1),Ŀ n,Ŀ (-1)] } }) E) δ.plain F.entry_range_reversed (δ.check _ _ _ _ _ _ _ _ X (F.args_range_reversed_1 _) ?_)) λW T Z=>?_
 ·delta Ŷ.«range.__reversed__»
  refine À (aft (a:=.ref r) (by rfl) ?_);refine À (Tr hr ?_);dsimp only;have sz:ŋ 0 n 1=n:=by
   delta ŋ;rw[Ö (by decide)]
   split<;>omega
  rw[sz];have Y:(Ċ 0&&Ċ n&&Ċ 1&&Ċ (-1)&&Ċ (0-1)&&Ċ n)=ό:=by
   have S:(n:Int)<2 ^ 62:=by omega
   delta Ċ;erw[Â,Ã];refine⟨⟨⟨⟨⟨⟨by decide,by decide⟩,by omega,by omega⟩,by decide,by decide⟩,by decide,by decide⟩,by decide,by decide⟩,by omega,by omega⟩
  rw[Y];rw[Ý (by decide)];refine À (Ď ?_);refine Å ?_;refine⟨rfl,?_⟩;have e:(0:Int)+((n:Int)-1)*1=n-1:=by omega
  simp[Ŀ]
 ·cases W with
  |error e=>exact Z
  |ok Y =>
   cases Y with
   |ret v =>
    obtain⟨rfl,rfl⟩:=Z;exact Å ⟨_,rfl,h⟩
   |_=>exact Z
def Xg {n:Nat} {Q:á->Û->Prop} (hr:s.heap.get? r=ϊ { cls:=.type "range",data:=.fields #[.int 0 t1,.int n t2,.int 1 t3] }) (hn:n<2 ^ 62)
 (h:Q (.ref s.heap.objs.size) { s with heap:=s.heap.push { cls:=.type "range_iterator",data:=.fields #[Ŀ (n-1),Ŀ n,Ŀ (-1)] } }):ê (è P w) A (call (.type "reversed") [.ref r]) Q E s:=by
 have T:=MZ;have S:=Xf;have O:=UQ;have m4:=Tq;have N:=Zd;have M:=Tp (.ref r);refine afw (agw ?_);show ê _ _ (callAny (.type "reversed") _) _ _ _;refine Å ⟨afM _ nofun,ŀ F.entry_type_call ?_⟩;rw[Around.under_plain (weight_type_call_type "reversed" [.ref r] []) rfl]
 repeat (any_goals (first|assumption|wp_step))
 refine Ł (ş (R:=wants (λv Z=>v=.ref s.heap.objs.size/\Z={ s with heap:=s.heap.push { cls:=.type "range_iterator",data:=.fields #[Ŀ (n-1),Ŀ n,Ŀ (-1)] } }) E) SQ SO (aft (T6 _) ?_)) λX L Y=>?_
 ·refine Ė (Ze (Q:=λv Z=>v=.ref s.heap.objs.size/\Z={ s with heap:=s.heap.push { cls:=.type "range_iterator",data:=.fields #[Ŀ (n-1),Ŀ n,Ŀ (-1)] } }) hr hn ⟨rfl,rfl⟩) (λf Z W=>?_) λ_ _ e=>e
  obtain⟨v,rfl,V⟩:=W;exact V
 ·cases X with
  |error e=>exact Y
  |ok U =>
   cases U with
   |ret v =>
    obtain⟨rfl,rfl⟩:=Y
    have K:Shared.TypeIs { s with heap:=s.heap.push { cls:=.type "range_iterator",data:=.fields #[Ŀ (n-1),Ŀ n,Ŀ (-1)] } } (.ref s.heap.objs.size) "range_iterator":=⟨_,Ë _ rfl,rfl⟩
    repeat (any_goals (first|assumption|wp_step))
   |_=>exact Y.elim
end
end HZ
namespace L2
open PySem PySem.Spec PyProof.Rows
noncomputable def AV (n:Nat):It:=⟨λi _=>i<n,λi H x Z=>Z=H/\x=.int ((n)-1-i),λi _=>n<=i⟩
def LS {K} {tg} (it) (n):Turn P w K tg (AV n) [it] it (λi h=>IsRangeIter h it (((n)-1)+(i)*(-1)) ((n)-(i)) (-1)) where
 mem:=by simp
 obj:=λi h Z b Y=>by
  have e:=by simpa using Y
  subst e;exact⟨_,Z,λv z=>by
   have J:=z;cases J⟩
 keep:=λi h U Z k=>k it ∅ _ Z
 item:=by
  intro X O hw N T i M s σ H E I V Z S;subst O hw N;obtain⟨f0,f1,f2,R,f4,Q⟩:=V it ∅;have W:=Walks.range (prog:=X.prog) (w:=X.w) (I.ok.hd T) it ((n)-1) (-1) n;refine W.item i s _ _ S Z λv U G F L D=>?_;obtain⟨t,rfl⟩:=F
  have C:Inv X M σ H { s with heap:=U,toks:=G }:=I.turned (λb o Y e=>D b o (by simpa using Y) e) f0 f1 R f4 Q
  refine⟨_,rfl,wY L rfl rfl (by decide) ⟨.int _,H,C,⟨t,?_⟩,⟨rfl,rfl⟩,L,λb Y=>(V b Y).1⟩⟩;rw[Int.mul_neg_one];rfl
 done:=by
  intro X O hw N T i M s σ H E I V Z S;obtain⟨f0,f1,f2,R,f4,Q⟩:=V it ∅;exact wpAny_pyNext_range_end (I.ok.hd T) Z (by have:n<=i:=S;omega) λU B=>⟨rfl,I.turned (λb o Y e=>B b o Y e) f0 f1 R f4 Q⟩
 self:=λ_ _ _ _ _ Z h=>afS Z h
section
variable {X:Cx} {tg:Ő}
def Xh:ý "reversed"=ϊ (.type "reversed"):=nofun
def T7:dh X (.type "range") (λxs H Q=>∃j,xs=[.int j]/\∀p,H p=ϋ->Q (.ref p) (upd H p (.dU 0 j))):=by
 intro Y s σ H xs W Q I r h;obtain⟨j,rfl,q⟩:=h;obtain⟨u,rfl,Z⟩:=vals1 r;obtain⟨t,rfl⟩:=Z;exact call_range_1 ⟨.ref _,_,I.laid (o:=.dU 0 j) (λb o e=>Á _ e) (agW _) ⟨_,_,_,Ë _ rfl⟩,rfl,q _ (I.aQ.fresh (agW _))⟩
def aeP (ta:TA):TI:=fun σ H R=>ta σ H λY Z=>∃(p:ă) (n:Nat),Y=[.ref p]/\Z p=ϊ (.dU 0 n)/\n<2 ^ 62/\R (AV n) Z
def aa0 {p pos} (hg:Gl X "reversed") (hm:X.mg "reversed"=ϋ) (ha:PA X [a] ta) (hs:Ì [a] X.env=[(ύ,į a X.env)]:=by rfl):PI X tg (.Call (.Name "reversed" p) [a] [] pos) (aeP ta):=by
 intro V s σ H R I h;refine Call_ (pL I hg hm Xh (Ħ (aW (ha pos V s σ H _ I h) λL Y ⟨K,U,Z,T,S⟩=>?_) hs rfl));obtain⟨c,n,e,Q,P,q⟩:=S;subst e;obtain⟨u,rfl,O⟩:=vals1 T;cases O;obtain⟨t1,J,t3,N⟩:=Z.aQ c _ Q;refine HZ.Xg N P ?_;have W:IsRangeIter (Y.heap.push { cls:=.type "range_iterator",data:=.fields #[Ŀ ((n)-1),Ŀ n,Ŀ (-1)] }) Y.heap.objs.size (((n)-1)+((0:Nat))*(-1)) ((n)-((0:Nat))) (-1):=by
  have e1:((n)-1)+((0:Nat):Int)*(-1)=n-1:=by simp
  have e2:(n)-((0:Nat):Int)=n:=by simp
  rw[e1];exact Ë _ rfl
 refine afS W ?_;refine⟨_,_,_,_,U,rfl,Z.kept λb o e=>Á _ e,LS _ n,W,λb M=>?_,q⟩;have e:=by simpa using M
 subst e;exact Z.rN (agW _) (Z.aQ.fresh (agW _))
end
end L2
namespace HZ
open PySem PySem.Spec PyProof.Rows
end HZ
namespace L2
open PySem PySem.Spec PyProof.Rows
end L2
namespace DI
open PySem L2
set_option genInjectivity true in
inductive D where
 |az|bl (b:Bool)|int (i:Int)|str (x:Str)|tup (ds:List D)|lst (ds:List D)|cL (bx:List (Key×Int))|au (k:Nat)|ty (n:String)|cS (ns:List Int)|exc (c:Str) (m:Option Int)|dR (a:ă) (vs:List V) (ds:List D)
set_option genInjectivity true in
inductive Cell where
 |dead|lst (ds:List D)|dK (bx:List (Key×D))|dT (bx:List (D×Int))|tb (x:Str)|ins (c:Str) (fs:List (Str×D))
abbrev ag:=List Cell
abbrev Env:=List (Option D)
structure bE where
 c:Str
 many:Option Int
abbrev Res (α:Type):=Option (Except bE α×ag)
abbrev agS (α:Type):=Env->ag->Res α
noncomputable abbrev ok (a:α) (s:ag):Res α:=ϊ (.ok a,s)
def ai (r:Res α) (k:α->ag->Res β):Res β:=match r with
 |some (.ok a,s)=>k a s
 |some (.error x,s)=>ϊ (.error x,s)
 |none=>ϋ
@[simp] theorem cZ {s} {k:α->ag->Res β}:ai (ϊ (.ok a,s)) k=k a s:=rfl
structure Wd where
 ρ:List ă
 aY:ag
 H:Hp
def Wd.Z (w:Wd) (a:ă):Prop:=∃(k:Nat) (c:Cell),w.ρ[k]?=ϊ a/\w.aY[k]?=ϊ c/\c≠.dead
def LstAt (w:Wd) (a:ă) (xs:List V):Prop:=¬ w.Z a/\w.H a=ϊ (.lst xs)
def LstAt.sq (h:LstAt w a xs):cf K w.H a xs:=cf.of h.2
def xa (K:Ň) (w:Wd) (a:ă) (xs:List V):Prop:=(¬ w.Z a/\Rd w.H a (.lst xs)) \/
 ∃(o:Obj) (aj:Array á) (n:Nat),K.lookup a=ϊ o/\o.cls=.type "list"/\o.dict=ϋ/\o.data=.seq aj n/\aj.size<=Ô/\Vals xs aj.toList
def xa.sq (h:xa K w a xs):cf K w.H a xs:=by
 rcases h with ⟨_,h⟩|h
 ·exact .inl h
 ·exact .inr h
mutual
def DV (K:Ň) (w:Wd):D->V->Prop
 | .az,v=>v=.az
 | .bl b,v=>v=.bl b
 | .int i,v=>v=.int i
 | .str x,v=>v=.str x
 | .tup Y,v=>∃a X,v=.ref a/\cb K w.H a X/\aC K w Y X
 | .lst Y,v=>∃a X,v=.ref a/\LstAt w a X/\aC K w Y X
 | .cL S,v=>∃a,v=.ref a/\¬ w.Z a/\w.H a=ϊ (.dK (S.map λp=>(p.1,V.int p.2)))
 | .au k,v=>∃a,w.ρ[k]?=ϊ a/\v=.ref a
 | .ty n,v=>v=.ty n
 | .cS R,v=>∃a,v=.ref a/\xa K w a (R.map V.int)
 | .exc c m,v=>∃a o C,v=.ref a/\(¬ w.Z a/\w.H a=ϊ (.bH o (.own a)))/\(o.cls=.ref C/\ë K Ð c=ϊ (ϊ (.ref C)))/\∀i,m=ϊ i->PySem.W.notCls o=ό/\∃U T t,o.dict=ϊ U/\(¬ w.Z U/\w.H U=ϊ (.bH T (.own U)))/\υ "many" T=ϊ (ϊ (.int i t))
 | .dR a Q Y,v=>v=.ref a/\aC K w Y Q
def aC (K:Ň) (w:Wd):List D->List V->Prop
 | [],Z=>Z=[]
 |d::Y,Z=>∃v r,Z=v::r/\DV K w d v/\aC K w Y r
end
structure Fw (K) (w w':Wd):Prop where
 G6:∀(k:Nat) a,w.ρ[k]?=ϊ a->w'.ρ[k]?=ϊ a
 tup:∀a xs,cb K w.H a xs->cb K w'.H a xs
 lst:∀a xs,¬ w.Z a->w.H a=ϊ (.lst xs)->¬ w'.Z a/\w'.H a=ϊ (.lst xs)
 bH:∀a o u,¬ w.Z a->w.H a=ϊ (.bH o u)->¬ w'.Z a/\w'.H a=ϊ (.bH o u)
 cL:∀a es,¬ w.Z a->w.H a=ϊ (.dK es)->¬ w'.Z a/\w'.H a=ϊ (.dK es)
def Fw.Pb (S:Fw K w w') (h:LstAt w a xs):LstAt w' a xs:=S.lst a xs h.1 h.2
def Fw.ac1 (S:Fw K w w') (h:xa K w a xs):xa K w' a xs:=by
 rcases h with ⟨Y,Z | ⟨o,Z⟩⟩|h
 ·have q:=S.lst a xs Y Z
  exact .inl ⟨q.1,.inl q.2⟩
 ·have q:=S.bH a o _ Y Z
  exact .inl ⟨q.1,.inr ⟨o,q.2⟩⟩
 ·exact .inr h
mutual
theorem DV.fw (S:Fw K w w'):∀{d} {v},DV K w d v->DV K w' d v
 | .az,_,h=>h
 | .bl _,_,h=>h
 | .int _,_,h=>h
 | .str _,_,h=>h
 | .tup X,v,h=>by
  obtain⟨a,Y,e,Z,r⟩:=h;exact⟨a,Y,e,S.tup a Y Z,aC.fw S r⟩
 | .lst X,v,h=>by
  obtain⟨a,Y,e,Z,r⟩:=h;exact⟨a,Y,e,S.Pb Z,aC.fw S r⟩
 | .cL L,v,h=>by
  obtain⟨a,e,T,Z⟩:=h;obtain⟨R,Q⟩:=S.cL a _ T Z;exact⟨a,e,R,Q⟩
 | .au k,v,h=>by
  obtain⟨a,e,e2⟩:=h;exact⟨a,S.G6 k a e,e2⟩
 | .ty _,_,h=>h
 | .cS J,v,h=>by
  obtain⟨a,e,Z⟩:=h;exact⟨a,e,S.ac1 Z⟩
 | .exc c m,v,h=>by
  obtain⟨a,o,C,e,Z,r,k⟩:=h;refine⟨a,o,C,e,S.bH a o _ Z.1 Z.2,r,λi P=>?_⟩;obtain⟨O,W,V,t,N,U,M⟩:=k i P;exact⟨O,W,V,t,N,S.bH W V _ U.1 U.2,M⟩
 | .dR a I X,v,h=>by
  erw[DV] at h |-;exact⟨h.1,aC.fw S h.2⟩
theorem aC.fw (S:Fw K w w'):∀{ds} {vs},aC K w ds vs->aC K w' ds vs
 | [],_,h=>h
 |d::ds,vs,h=>by
  erw[aC] at h |-;obtain⟨v,r,e,Z,Y⟩:=h;exact⟨v,r,e,DV.fw S Z,aC.fw S Y⟩
end
structure Le (K) (w w'):Prop where
 dv:∀d v,DV K w d v->DV K w' d v
 lst:∀a xs,LstAt w a xs->LstAt w' a xs
 tup:∀a xs,cb K w.H a xs->cb K w'.H a xs
 bH:∀a o u,¬ w.Z a->w.H a=ϊ (.bH o u)->¬ w'.Z a/\w'.H a=ϊ (.bH o u)
noncomputable instance:CoeFun (Le K w w') (λ_=>∀d v,DV K w d v->DV K w' d v):=⟨Le.dv⟩
def Le.refl (w):Le K w w:=⟨λ_ _ h=>h,λ_ _ h=>h,λ_ _ h=>h,λ_ _ _ h g=>⟨h,g⟩⟩
def Le.trans (h:Le K a b) (g:Le K b c):Le K a c:=⟨λd v x=>g.dv d v (h.dv d v x),λp Z x=>g.lst p Z (h.lst p Z x),λp Z x=>g.tup p Z (h.tup p Z x),λp o u z x=>let q:=h.bH p o u z x;g.bH p o u q.1 q.2⟩
def Fw.le (S:Fw K w w'):Le K w w':=⟨λ_ _ h=>h.fw S,λ_ _ h=>S.Pb h,S.tup,S.bH⟩
theorem Le.all (h:Le K w w'):∀{ds} {vs},aC K w ds vs->aC K w' ds vs
 | [],_,x=>x
 |d::ds,vs,x=>by
  obtain⟨v,r,e,Z,Y⟩:=x;exact⟨v,r,e,h d v Z,Le.all h Y⟩
theorem aC.length:∀{ds} {vs},aC K w ds vs->ds.length=vs.length
 | [],vs,h=>by
  have e:=h;subst e;rfl
 |d::ds,vs,h=>by
  obtain⟨v,r,e,_,Z⟩:=h;subst e;simp[aC.length Z]
theorem aC.get':∀{ds} {vs},aC K w ds vs->∀(i:Nat) d,ds[i]?=ϊ d->∃v,vs[i]?=ϊ v/\DV K w d v
 | [],vs,h,i,d,e=>by simp at e
 |d::ds,vs,h,i,Z,e=>by
  obtain⟨u,r,Y,X,W⟩:=h;subst Y
  cases i with
  |zero =>
   have:=by simpa using e
   subst this;exact⟨u,rfl,X⟩
  |succ i=>exact aC.get' W i Z (by simpa using e)
theorem aC.append:∀{ds es} {vs ws},aC K w ds vs->aC K w es ws->aC K w (ds++es) (vs++ws)
 | [],es,vs,ws,h,Z=>by
  have e:=h;subst e;exact Z
 |d::ds,es,vs,ws,h,Z=>by
  obtain⟨v,r,e,Y,X⟩:=h;subst e;exact⟨v,_,rfl,Y,aC.append X Z⟩
theorem aC.take:∀{ds} {vs} n,aC K w ds vs->aC K w (ds.take n) (vs.take n)
 | [],vs,n,h=>by
  have e:=h;subst e;simp[aC]
 |d::ds,vs,0,h=>by simp[aC]
 |d::ds,vs,n+1,h=>by
  obtain⟨v,r,e,Z,Y⟩:=h;subst e;exact⟨v,_,rfl,Z,aC.take n Y⟩
theorem aC.drop:∀{ds} {vs} n,aC K w ds vs->aC K w (ds.drop n) (vs.drop n)
 | [],vs,n,h=>by
  have e:=h;subst e;simp[aC]
 |d::ds,vs,0,h=>h
 |d::ds,vs,n+1,h=>by
  obtain⟨v,r,e,Y,Z⟩:=h;subst e;exact aC.drop n Z
theorem aC.set (hd:DV K w d v):∀{ds} {vs} i,aC K w ds vs->aC K w (ds.set i d) (vs.set i v)
 | [],vs,i,h=>by
  have e:=h;subst e;simp[aC]
 |d'::ds,vs,0,h=>by
  obtain⟨u,r,e,Y,Z⟩:=h;subst e;exact⟨v,r,rfl,hd,Z⟩
 |d'::ds,vs,i+1,h=>by
  obtain⟨u,r,e,Y,Z⟩:=h;subst e;exact⟨u,_,rfl,Y,aC.set hd i Z⟩
def aC.one (h:DV K w d v):aC K w [d] [v]:=⟨v,_,rfl,h,rfl⟩
def aC.two (h:DV K w d v) (h':DV K w d' v'):aC K w [d,d'] [v,v']:=⟨v,_,rfl,h,aC.one h'⟩
theorem aC.ints:∀(ns:List Int),aC K w (ns.map D.int) (ns.map V.int)
 | []=>rfl
 |n::ns=>⟨_,_,rfl,rfl,aC.ints ns⟩
theorem aC.LU:∀{ns:List Int} {vs},aC K w (ns.map D.int) vs->vs=ns.map V.int
 | [],_,h=>h
 |n::ns,vs,h=>by
  obtain⟨v,r,e,Z,Y⟩:=h;have e1:=Z;rw[e,e1,aC.LU Y];rfl
theorem aC.wq:∀{bs:List Bool} {vs},aC K w (bs.map D.bl) vs->vs=bs.map V.bl
 | [],_,h=>h
 |n::X,vs,h=>by
  obtain⟨v,r,e,Z,Y⟩:=h;have e1:=Z;rw[e,e1,aC.wq Y];rfl
def DX (a:ă) (es:List (Int×ă)) (h:ū):Prop:=(a==sysModules)=ύ/\∃(o:Obj) (Z:Array DictEntry) (Y:Nat),h.get? a=ϊ o/\o.ExactDict/\o.data=.dict Z Y/\Z.toList=es.map λp=>(⟨p.1,.ref p.2,.bool ό⟩)
def ac2 (w:Wd) (q:Str) (cv:á):Prop:=∃Y X W t,cv=.ref Y/\(¬ w.Z Y/\w.H Y=ϊ (.bH X (.own Y)))/\X.data=.fields W/\W[1]?=ϊ (.str q t)
def aeQ (K:Ň) (w:Wd) (a:ă) (x:Str):Prop:=∃c Z,agN K x=ϊ (c,a)/\w.H a=ϊ (.cG Z)/\PySem.TriplesOk Z.toList/\∀pos Y,PySem.codeAmong pos Z.toList=ϊ Y->ac2 w (x++".<locals>."++"<lambda>") Y
def t6 (K:Ň) (w:Wd) (a:ă):Cell->Prop
 | .dead=>True
 | .lst U=>∃W,w.H a=ϊ (.lst W)/\aC K w U W
 | .dK Z=>∃Y,w.H a=ϊ (.dK Y)/\Y.map (·.1)=Z.map (·.1)/\aC K w (Z.map (·.2)) (Y.map (·.2))
 | .dT Z=>∃as,w.H a=ϊ (.ext (DX a ((Z.map (·.2)).zip as)))/\aC K w (Z.map (·.1)) (as.map V.ref)/\(Z.map (·.1)).Nodup
 | .tb x=>aeQ K w a x
 | .ins c fs=>∃(C T:ă) (X:List _),ë K Ð c=ϊ (ϊ (.ref C))/\w.H a=ϊ (.ins C T X)/\X.map (·.1)=fs.map (·.1)/\aC K w (fs.map (·.2)) (X.map (·.2))
structure bg (K) (w:Wd):Prop where
 len:w.ρ.length=w.aY.length
 nd:w.ρ.Nodup
 there:∀(k:Nat) a,w.ρ[k]?=ϊ a->w.H a≠ϋ
 cell:∀(k:Nat) a c,w.ρ[k]?=ϊ a->w.aY[k]?=ϊ c->t6 K w a c
theorem t6.le (h:t6 K w a c) (le:Le K w w') (e:c≠.dead->w'.H a=w.H a):t6 K w' a c:=by
 cases c with
 |dead=>trivial
 |lst I =>
  obtain⟨R,Z,Y⟩:=h;exact⟨R,(e (by intro z;cases z)).trans Z,le.all Y⟩
 |dK Q =>
  obtain⟨P,Z,Y,X⟩:=h;exact⟨P,(e (by intro z;cases z)).trans Z,Y,le.all X⟩
 |dT Q =>
  obtain⟨as,Z,Y,X⟩:=h;exact⟨as,(e (by intro z;cases z)).trans Z,le.all Y,X⟩
 |tb x =>
  obtain⟨c,O,Z,Y,X,W⟩:=h
  exact⟨c,O,Z,(e (by intro z;cases z)).trans Y,X,λpos N q=>let ⟨U,T,V,t,M,S,L⟩:=W pos N q;⟨U,T,V,t,M,le.bH U T _ S.1 S.2,L⟩⟩
 |ins c fs =>
  obtain⟨C,J,V,Z,Y,X,W⟩:=h;exact⟨C,J,V,Z,(e (by intro z;cases z)).trans Y,X,le.all W⟩
section
variable {K:Ň} {w:Wd}
def Wd.grow (w:Wd) (p:ă) (o:HO):Wd:={ w with H:=upd w.H p o }
def Rd.grow (hp:H p=ϋ) (h:Rd H a u):Rd (upd H p o) a u:=by
 rcases h with h | ⟨Z,h⟩
 ·exact .inl (by rw[bI (dW h hp)];exact h)
 ·exact .inr ⟨Z,by rw[bI (dW h hp)];exact h⟩
theorem cb.grow (hp:H p=ϋ) (h:cb K H a xs):cb K (upd H p o) a xs:=by
 rcases h with h|h
 ·exact .inl (Rd.grow hp h)
 ·exact .inr h
theorem Fw.grow (hp:w.H p=ϋ):Fw K w (w.grow p o) where
 G6:=λ_ _ e=>e
 tup:=λa Y h=>cb.grow hp h
 lst:=λa Y Z h=>⟨Z,by show upd _ p o a=_;rw[bI (dW h hp)];exact h⟩
 bH:=λa X Y Z h=>⟨Z,by show upd _ p o a=_;rw[bI (dW h hp)];exact h⟩
 cL:=λa W Z h=>⟨Z,by show upd _ p o a=_;rw[bI (dW h hp)];exact h⟩
theorem bg.grow (S:bg K w) (hp:w.H p=ϋ):bg K (w.grow p o) where
 len:=S.len
 nd:=S.nd
 there:=λk a e=>by
  have h:=S.there k a e;show upd _ p o a≠ϋ;delta upd;split
  ·intro z;cases z
  ·exact h
 cell:=λk a c e1 e2=>(S.cell k a c e1 e2).le (Fw.grow hp).le λ_=>by
  have h:=S.there k a e1;show upd _ p o a=w.H a;rw[bI];intro z;rw[z] at h;exact h hp
def Wd.cell (w:Wd) (p:ă) (o:HO) (c:Cell):Wd:=⟨w.ρ++[p],w.aY++[c],upd w.H p o⟩
def Wd.Ej (S:bg K w) (h:(w.cell p o c).Z a):w.Z a\/a=p:=by
 obtain⟨k,Y,e1,e2,V⟩:=h;have e1:(w.ρ++[p])[k]?=ϊ a:=e1;have e2:(w.aY++[c])[k]?=ϊ Y:=e2;by_cases X:k<w.ρ.length
 ·rw[ç X] at e1
  rw[ç (by rw[<- S.len];exact X)] at e2;exact .inl ⟨k,Y,e1,e2,V⟩
 ·rw[ô ⋯] at e1
  right
  cases W:k-w.ρ.length with
  |zero=>rw[W] at e1;exact(agX e1).symm
  |succ j=>rw[W] at e1;cases e1
theorem Fw.cell (S:bg K w) (hp:w.H p=ϋ):Fw K w (w.cell p o c) where
 G6:=λk a e=>by
  show (w.ρ++[p])[k]?=ϊ a;rw[ç (Ï.mp e).1];exact e
 tup:=λa Y h=>cb.grow hp h
 lst:=λa Y Z h=>⟨λz=>(Wd.Ej S z).elim Z (λe=>by (subst e;rw[hp] at h;cases h)),by show upd _ p o a=_;rw[bI (dW h hp)];exact h⟩
 bH:=λa X Y Z h=>⟨λz=>(Wd.Ej S z).elim Z (λe=>by (subst e;rw[hp] at h;cases h)),by show upd _ p o a=_;rw[bI (dW h hp)];exact h⟩
 cL:=λa W Z h=>⟨λz=>(Wd.Ej S z).elim Z (λe=>by (subst e;rw[hp] at h;cases h)),by show upd _ p o a=_;rw[bI (dW h hp)];exact h⟩
def bg.Pc (S:bg K w) (hp:w.H p=ϋ) (hc:t6 K (w.cell p o c) p c):bg K (w.cell p o c) where
 len:=by show (w.ρ++[p]).length=(w.aY++[c]).length;simp[S.len]
 nd:=by
  show (w.ρ++[p]).Nodup;rw[af5];refine⟨S.nd,by simp,λa W b V=>?_⟩;obtain⟨k,e⟩:=List.getElem?_of_mem W;have h:=S.there k a e;have U:=by simpa using V
  rw[U];intro z;rw[z] at h;exact h hp
 there:=λk a e=>by
  have e:(w.ρ++[p])[k]?=ϊ a:=e;show upd _ p o a≠ϋ;delta upd;split
  ·intro z;cases z
  ·rename_i T
   by_cases Y:k<w.ρ.length
   ·rw[ç Y] at e
    exact S.there k a e
   ·rw[ô ⋯] at e
    cases Z:k-w.ρ.length with
    |zero=>rw[Z] at e;exact absurd (agX e).symm T
    |succ j=>rw[Z] at e;cases e
 cell:=λk a X e1 e2=>by
  have e1:(w.ρ++[p])[k]?=ϊ a:=e1;have e2:(w.aY++[c])[k]?=ϊ X:=e2;by_cases Y:k<w.ρ.length
  ·rw[ç Y] at e1
   rw[ç (by rw[<- S.len];exact Y)] at e2;refine(S.cell k a X e1 e2).le (Fw.cell S hp).le λ_=>?_;have h:=S.there k a e1;show upd _ p o a=w.H a;rw[bI];intro z;rw[z] at h;exact h hp
  ·rw[ô ⋯] at e1
   rw[ô (by rw[<- S.len];omega)] at e2;rw[<- S.len] at e2
   cases Z:k-w.ρ.length with
   |zero =>
    rw[Z] at e1 e2;have e1:=agX e1;have e2:=agX e2;subst e1 e2;exact hc
   |succ j=>rw[Z] at e1;cases e1
noncomputable def Wd.same (w:Wd) (H':Hp):Wd:={ w with H:=H' }
theorem Fw.same (e:lU w.H H'):Fw K w (w.same H') :=
 ⟨λ_ _ e=>e,λa Y h=>e.sqT h,λa Y Z h=>⟨Z,e _ _ h⟩,λa o Y Z h=>⟨Z,e _ _ h⟩,λa X Z h=>⟨Z,e _ _ h⟩⟩
theorem bg.same (S:bg K w) (e:lU w.H H'):bg K (w.same H') where
 len:=S.len
 nd:=S.nd
 there:=λk a q=>by
  have h:=S.there k a q;show H' a≠ϋ
  cases Z:w.H a with
  |none=>exact absurd Z h
  |some o=>rw[e _ _ Z];intro z;cases z
 cell:=λk a c e1 e2=>(S.cell k a c e1 e2).le (Fw.same e).le λ_=>by
  have h:=S.there k a e1
  cases Z:w.H a with
  |none=>exact absurd Z h
  |some o=>exact e _ _ Z
def Wd.put (w:Wd) (k:Nat) (a:ă) (o:HO) (c:Cell):Wd:=⟨w.ρ,w.aY.set k c,upd w.H a o⟩
def JZ {α:Type} {l:List α} (nd:l.Nodup) {i j:Nat} {a} (h1:l[i]?=ϊ a) (h2:l[j]?=ϊ a):i=j:=by
 exact(List.getElem?_inj (Ï.mp h1).1 nd).mp (h1.trans h2.symm)
def Wd.EY (h0:w.ρ[k]?=ϊ a) (h1:w.aY[k]?=ϊ c0) (h2:c0≠.dead) (h:(w.put k a o c).Z b):w.Z b:=by
 obtain⟨j,Y,e1,e2,W⟩:=h;have e2:(w.aY.set k c)[j]?=ϊ Y:=e2;by_cases X:k=j
 ·subst X
  exact⟨k,c0,e1,h1,h2⟩
 ·rw[ð X] at e2
  exact⟨j,Y,e1,e2,W⟩
theorem Fw.put (S:bg K w) (h0:w.ρ[k]?=ϊ a) (h1:w.aY[k]?=ϊ c0) (h2:c0≠.dead):Fw K w (w.put k a o c):=by
 have W:w.Z a:=⟨k,c0,h0,h1,h2⟩;have T:∀X,¬ Rd w.H a (.tup X):=λX h=>by
  have q:=S.cell k a c0 h0 h1
  cases c0 with
  |dead=>exact h2 rfl
  |lst Q=>obtain⟨V,e,_⟩:=q;rcases h with h | ⟨_,h⟩<;>(rw[e] at h;cases h)
  |dK R=>obtain⟨V,e,_⟩:=q;rcases h with h | ⟨_,h⟩<;>(rw[e] at h;cases h)
  |dT R=>obtain⟨V,e,_⟩:=q;rcases h with h | ⟨_,h⟩<;>(rw[e] at h;cases h)
  |tb x=>obtain⟨_,V,_,e,_⟩:=q;rcases h with h | ⟨_,h⟩<;>(rw[e] at h;cases h)
  |ins c fs=>obtain⟨_,_,_,_,e,_⟩:=q;rcases h with h | ⟨_,h⟩<;>(rw[e] at h;cases h)
 refine⟨λ_ _ e=>e,λb X h=>?_,λb X Y h=>⟨λz=>Y (Wd.EY h0 h1 h2 z),?_⟩,λb U X Y h=>⟨λz=>Y (Wd.EY h0 h1 h2 z),?_⟩,λb P Y h=>⟨λz=>Y (Wd.EY h0 h1 h2 z),?_⟩⟩
 ·rcases h with h|h
  ·have ne:b≠a:=λe=>by subst e;exact T X h
   refine .inl ?_
   rcases h with h | ⟨U,h⟩
   ·exact .inl (by show upd _ a o b=_;rw[bI ne];exact h)
   ·exact .inr ⟨U,by show upd _ a o b=_;rw[bI ne];exact h⟩
  ·exact .inr h
 ·have ne:b≠a:=λe=>by subst e;exact Y W
  show upd _ a o b=_;rw[bI ne];exact h
 ·have ne:b≠a:=λe=>by subst e;exact Y W
  show upd _ a o b=_;rw[bI ne];exact h
 ·have ne:b≠a:=λe=>by subst e;exact Y W
  show upd _ a o b=_;rw[bI ne];exact h
def bg.xF {a} {o} {c c0} (S:bg K w) (h0:w.ρ[k]?=ϊ a) (h1:w.aY[k]?=ϊ c0) (h2:c0≠.dead) (hc:t6 K (w.put k a o c) a c):bg K (w.put k a o c) where
 len:=by show w.ρ.length=(w.aY.set k c).length;rw[Ă];exact S.len
 nd:=S.nd
 there:=λj b e=>by
  show upd _ a o b≠ϋ;delta upd;split
  ·intro z;cases z
  ·exact S.there j b e
 cell:=λj b Y e1 e2=>by
  have e1:w.ρ[j]?=ϊ b:=e1;have e2:(w.aY.set k c)[j]?=ϊ Y:=e2;by_cases Z:k=j
  ·subst Z
   rw[h0] at e1;have e1:=agX e1;rw[í (Ï.mp h1).1] at e2;have e2:=agX e2;subst e1 e2;exact hc
  ·rw[ð Z] at e2
   refine(S.cell j b Y e1 e2).le (Fw.put S h0 h1 h2).le λ_=>?_;show upd _ a o b=w.H b;rw[bI];intro z;subst z;exact Z (JZ S.nd h0 e1)
noncomputable def Wd.freeze (w:Wd) (k:Nat):Wd:={ w with aY:=w.aY.set k .dead }
def Wd.CP (h:(w.freeze k).Z b):w.Z b:=by
 obtain⟨j,Y,e1,e2,X⟩:=h;have e2:(w.aY.set k _)[j]?=ϊ Y:=e2;by_cases W:k=j
 ·subst W
  have V:=(Ï.mp e2).1;rw[Ă] at V;rw[í V] at e2;exact absurd (agX e2).symm X
 ·rw[ð W] at e2
  exact⟨j,Y,e1,e2,X⟩
theorem Fw.freeze:Fw K w (w.freeze k) :=
 ⟨λ_ _ e=>e,λ_ _ h=>h,λ_ _ Z h=>⟨λz=>Z (Wd.CP z),h⟩,λ_ _ _ Z h=>⟨λz=>Z (Wd.CP z),h⟩,λ_ _ Z h=>⟨λz=>Z (Wd.CP z),h⟩⟩
theorem bg.freeze (S:bg K w):bg K (w.freeze k) where
 len:=by show w.ρ.length=(w.aY.set k _).length;rw[Ă];exact S.len
 nd:=S.nd
 there:=S.there
 cell:=λj b Z e1 e2=>by
  have e2:(w.aY.set k _)[j]?=ϊ Z:=e2;by_cases Y:k=j
  ·subst Y
   have X:=(Ï.mp e2).1;rw[Ă] at X;rw[í X] at e2;rw[<- agX e2];trivial
  ·rw[ð Y] at e2
   exact(S.cell j b Z e1 e2).le Fw.freeze.le λ_=>rfl
def Wd.VM {a} (S:bg K w) (h:w.ρ[k]?=ϊ a):¬ (w.freeze k).Z a:=by
 intro zzz;obtain⟨j,X,e1,e2,W⟩:=zzz;have e2:(w.aY.set k _)[j]?=ϊ X:=e2;have V:=JZ S.nd h e1;subst V;have Y:=(Ï.mp e2).1;rw[Ă] at Y;rw[í Y] at e2;exact W (agX e2).symm
end
structure cg (K) (w) (env:Env) (σ:St):Prop where
 len:env.length=σ.length
 val:∀(i:Nat) d,env[i]?=ϊ (ϊ d)->∃v,σ[i]?=ϊ (ϊ v)/\DV K w d v
theorem cg.le (h:cg K w env σ) (le:Le K w w'):cg K w' env σ :=
 ⟨h.len,λi d e=>by obtain⟨v,e1,e2⟩:=h.val i d e;exact⟨v,e1,le d v e2⟩⟩
theorem cg.set (h:cg K w env σ) (hd:DV K w d v) (i):cg K w (env.set i (ϊ d)) (σ.set i (ϊ v)):=by
 refine⟨by rw[Ă,Ă];exact h.len,λj X e=>?_⟩;by_cases Z:i=j
 ·subst Z
  have Y:=(Ï.mp e).1;rw[Ă] at Y;rw[í Y] at e;have e:=agX (agX e);subst e;exact⟨v,by rw[í (by rw[<- h.len];exact Y)],hd⟩
 ·rw[ð Z] at e
  rw[ð Z];exact h.val j X e
def Out (K:Ň) (Ξ:Wd->bE->Prop) (w:Wd) {α} (r:Res α) (k:Wd->α->Prop):Prop:=match r with
 |none=>False
 |some (.ok a,s)=>∀Z,Le K w Z->bg K Z->Z.aY=s->k Z a
 |some (.error x,s)=>∀Z,Le K w Z->bg K Z->Z.aY=s->Ξ Z x
section
variable {K:Ň} {Ξ:Wd->bE->Prop} {w w':Wd} {α β:Type} {r:Res α} {k k':Wd->α->Prop}
def Out.from (h:Out K Ξ w r k) (le:Le K w w'):Out K Ξ w' r k:=by
 delta Out at h |-
 split<;>simp only at h
 ·exact λZ Y X e2=>h Z (le.trans Y) X e2
 ·exact λZ Y X e2=>h Z (le.trans Y) X e2
def Out.mono (h:Out K Ξ w r k) (hk:∀w2 a,Le K w w2->bg K w2->k w2 a->k' w2 a):Out K Ξ w r k':=by
 delta Out at h |-
 split<;>simp only at h
 ·exact λw2 Z Y e2=>hk w2 _ Z Y (h w2 Z Y e2)
 ·exact h
theorem Out.ai {q:Wd->β->Prop} (h:Out K Ξ w (DI.ai r g) q):Out K Ξ w r (λw2 a=>Out K Ξ w2 (g a w2.aY) q):=by
 match r,h with
 |some (.ok a,s),h =>
  intro w2 Z Y e2;rw[e2];exact Out.from h Z
 |some (.error x,s),h=>exact h
end
end DI
namespace DI
open PySem L2
def tE (K:Ň) (Ξ:Wd->bE->Prop) (f:agS D):TE:=fun σ H Q=>∃w env,w.H=H/\bg K w/\cg K w env σ/\Out K Ξ w (f env w.aY) λZ d=>∀v,DV K Z d v->Q v Z.H
def tT (K:Ň) (Ξ:Wd->bE->Prop) (f:agS Bool):TT:=fun σ H Q=>∃w env,w.H=H/\bg K w/\cg K w env σ/\Out K Ξ w (f env w.aY) λZ b=>Q b Z.H
def tA (K:Ň) (Ξ:Wd->bE->Prop) (f:agS (List D)):TA:=fun σ H Q=>∃w env,w.H=H/\bg K w/\cg K w env σ/\Out K Ξ w (f env w.aY) λZ X=>∀Y,aC K Z X Y->Q Y Z.H
def rO (K:Ň) (Ξ:Wd->bE->Prop) (o:D->D->ag->Res D):R2:=λx y H Q=>∃w Z Y,w.H=H/\bg K w/\DV K w Z x/\DV K w Y y/\Out K Ξ w (o Z Y w.aY) λX d=>∀v,DV K X d v->Q v X.H
def rU (K:Ň) (Ξ:Wd->bE->Prop) (o:D->ag->Res D):V->Hp->VK->Prop:=λx H Q=>∃w Z,w.H=H/\bg K w/\DV K w Z x/\Out K Ξ w (o Z w.aY) λY d=>∀v,DV K Y d v->Q v Y.H
def rC (K:Ň) (Ξ:Wd->bE->Prop) (o:List D->ag->Res D):List V->Hp->VK->Prop:=λX H Q=>∃w Z,w.H=H/\bg K w/\aC K w Z X/\Out K Ξ w (o Z w.aY) λY d=>∀v,DV K Y d v->Q v Y.H
def aa (i:Nat):agS D:=λenv s=>match env[i]? with
 |some (ϊ d)=>ok d s
 |_=>ϋ
def eC (d:D):agS D:=λ_ s=>ok d s
def e1 (o:D->ag->Res D) (f:agS D):agS D:=λenv s=>ai (f env s) λx s=>o x s
def e2 (o:D->D->ag->Res D) (f g:agS D):agS D:=λenv s=>ai (f env s) λx s=>ai (g env s) λy s=>o x y s
def ah:agS (List D):=λ_ s=>ok [] s
def ae (f:agS D) (g:agS (List D)):agS (List D):=λenv s=>ai (f env s) λx s=>ai (g env s) λZ s=>ok (x::Z) s
def eB (o:List D->ag->Res D) (f:agS (List D)):agS D:=λenv s=>ai (f env s) λZ s=>o Z s
noncomputable def lP (ds:List D) (r:Res α):Res α:=if ds.length<=Ô then r else ϋ
def bc (f:agS (List D)):agS D:=λenv s=>ai (f env s) λZ s=>lP Z (ok (.tup Z) s)
def cy (f:agS (List D)):agS D:=λenv s=>ai (f env s) λZ s=>lP Z (ok (.lst Z) s)
def eNew (f:agS (List D)):agS D:=λenv s=>ai (f env s) λZ s=>lP Z (ok (.au s.length) (s++[.lst Z]))
def bH:D->ag->Res D:=λd s=>match d with
 | .au k=>match s[k]? with
  |some (.lst Z)=>ok (.lst Z) (s.set k .dead)
  |_=>ϋ
 |_=>ϋ
def oK (f:agS D):agS D:=λenv s=>ai (f env s) bH
def jn (d:D) (s:ag):Res Bool:=match d with
 | .bl b=>ok b s
 |_=>ϋ
def aJ (f:agS D):agS Bool:=λenv s=>ai (f env s) jn
def truth (d:D) (s:ag):Res Bool:=match d with
 | .az=>ok ύ s
 | .bl b=>ok b s
 | .int i=>ok (i != 0) s
 | .str x=>if x.length<=Ô then ok ((x.length:Int) != 0) s else ϋ
 | .tup Z=>ok (!Z.isEmpty) s
 | .lst Z=>ok (!Z.isEmpty) s
 | .cL Y=>ok (!Y.isEmpty) s
 | .au k=>match s[k]? with
  |some (.lst Z)=>ok (!Z.isEmpty) s
  |some (.dK Y)=>ok (!Y.isEmpty) s
  |_=>ϋ
 | .ty _=>ϋ
 | .cS _=>ϋ
 | .exc ..=>ϋ
 | .dR ..=>ϋ
def cD (f:agS D):agS Bool:=λenv s=>ai (f env s) truth
def eI (f g:agS Bool):agS Bool:=λenv s=>ai (f env s) λb s=>if b=ό then g env s else ok ύ s
def fU (f g:agS Bool):agS Bool:=λenv s=>ai (f env s) λb s=>if b=ό then ok ό s else g env s
def dM (f:agS Bool):agS Bool:=λenv s=>ai (f env s) λb s=>ok (!b) s
def dw (f g:agS D):agS D:=λenv s=>ai (f env s) λx s=>ai (jn x s) λb s=>if b=ό then g env s else ok (.bl ύ) s
def iZ (f g:agS D):agS D:=λenv s=>ai (f env s) λx s=>ai (jn x s) λb s=>if b=ό then ok (.bl ό) s else g env s
def xG (f:agS D):agS D:=λenv s=>ai (f env s) λx s=>ai (jn x s) λb s=>ok (.bl (!b)) s
def jz (c:agS Bool) (f g:agS D):agS D:=λenv s=>ai (c env s) λb s=>if b=ό then f env s else g env s
def vq (o o':D->D->ag->Res D) (f g h:agS D):agS D:=λenv s=>ai (f env s) λx s=>ai (g env s) λy s=>ai (o x y s) λz s=>ai (jn z s) λb s =>
 if b=ό then ai (h env s) λu s=>o' y u s else ok (.bl ύ) s
section
variable {X:Cx} {Ξ:Wd->bE->Prop} {e a b c:Ő} {es rest:List Ő} {pos:Pos} {f g h:agS D} {fa:agS (List D)} {ft gt:agS Bool}
def cN (h:PE X e t) (i:∀ σ H Q,t' σ H Q->t σ H Q):PE X e t':=λZ s σ H Q I Y=>h Z s σ H Q I (i σ H Q Y)
def Ek (h:PT X e t) (i:∀ σ H Q,t' σ H Q->t σ H Q):PT X e t':=λZ s σ H Q I Y=>h Z s σ H Q I (i σ H Q Y)
def N9 (h:PW X e t) (i:∀ σ H Q,t' σ H Q->t σ H Q):PW X e t':=λZ Y s σ H Q I W=>h Z Y s σ H Q I (i σ H Q W)
def Oa (h:PA X es t) (i:∀ σ H Q,t' σ H Q->t σ H Q):PA X es t':=λp Z s σ H Q I Y=>h p Z s σ H Q I (i σ H Q Y)
def kG (h:PS X st t) (i:∀D σ H,t' D σ H->t D σ H):PS X st t':=λY s σ H D I Z=>h s σ H D I (i D σ H Z)
def M0 (h:dP X st t) (i:∀D σ H,t' D σ H->t D σ H):dP X st t':=λY s σ H D I Z=>h s σ H D I (i D σ H Z)
def aK {K} {w} {a:α} {k} (S:bg K w) (h:Out K Ξ w (ok a w.aY) k):k w a:=h w (Le.refl w) S rfl
def af (i) {x} (hN:X.N[i]?=ϊ x:=by rfl) (hv:se X.env.scope x:=by first|exact ŷ rfl|exact Or.inr (ŷ rfl)|exact Or.inr (Or.inr rfl)) (hd:(x==("__debug__"))=ύ:=by decide)
  (ff:(x==("__classdict__"))=ύ:=by decide):PE X (.Name x pos) (tE X.K Ξ (aa i)):=cN (NZ hN hv hd ff) fun σ H Q Z=>by
 obtain⟨w,env,Y,S,W,h⟩:=Z;delta aa at h;split at h
 ·rename_i d V
  obtain⟨v,e1,e2⟩:=W.val i d V;subst Y;exact⟨v,e1,aK S h v e2⟩
 ·exact h.elim
def rA {v} (h:PE X e (tC v)) (hd:∀w,DV X.K w d v):PE X e (tE X.K Ξ (eC d)):=cN h fun σ H Q Z=>by
 obtain⟨w,env,Y,S,W,h⟩:=Z;subst Y;exact aK S h v (hd w)
def ao:PE X (.Constant (.int i) j pos) (tE X.K Ξ (eC (.int i))):=rA aam λ_=>rfl
def fR {b j}:PE X (.Constant (.bool b) j pos) (tE X.K Ξ (eC (.bl b))):=rA ET λ_=>rfl
def ox:PE X (.Constant .none j pos) (tE X.K Ξ (eC .az)):=rA aan λ_=>rfl
def aI:PE X (.Constant (.str x) j pos) (tE X.K Ξ (eC (.str x))):=rA aao λ_=>rfl
def zN (σ) (H) (Q):tE K Ξ (e2 o f g) σ H Q->yn (rO K Ξ o) (tE K Ξ f) (tE K Ξ g) σ H Q:=by
 intro zzz;obtain⟨w,env,rfl,S,Z,h⟩:=zzz;exact⟨w,env,rfl,S,Z,(Out.ai h).mono λY x X W V v1 U=>⟨Y,env,rfl,W,Z.le X,(Out.ai V).mono λT y R P O v2 N=>⟨T,x,y,rfl,P,R _ _ U,N,O⟩⟩⟩
def bu (ho:bP X (Ľ op) (rO X.K Ξ o)) (ha:PE X a (tE X.K Ξ f)) (hb:PE X b (tE X.K Ξ g)):PE X (.BinOp a op b pos) (tE X.K Ξ (e2 o f g)):=cN (acE ho ha hb) zN
def c9 (ho:bP X (đ op) (rO X.K Ξ o)) (ha:PE X a (tE X.K Ξ f)) (hb:PE X b (tE X.K Ξ g)) (hm:afD op b=ύ):PE X (.Compare a [op] [b] pos) (tE X.K Ξ (e2 o f g)):=cN (YK ho ha hb hm) zN
def aa1 (σ) (H) (Q):tT K Ξ (aJ f) σ H Q->Aw (tE K Ξ f) σ H Q:=by
 intro zzz;obtain⟨w,env,rfl,S,Y,h⟩:=zzz;refine⟨w,env,rfl,S,Y,(Out.ai h).mono λV x U X Z v1 W=>?_⟩
 cases x with
 |bl b =>
  have e:=W;exact⟨b,e,aK X Z⟩
 |_=>exact Z.elim
def UR (i:∀ σ H Q,t' σ H Q->t σ H Q) (σ) (H) (Q):Aw t' σ H Q->Aw t σ H Q:=λh=>i _ _ _ h
def aZ (ho:bP X (đ op) (rO X.K Ξ o)) (ha:PE X a (tE X.K Ξ f)) (hb:PE X b (tE X.K Ξ g)) (hm:afD op b=ύ):PT X (.Compare a [op] [b] pos) (tT X.K Ξ (aJ (e2 o f g))) :=
 Ek (YL ho ha hb hm) fun σ H Q h=>UR zN σ H Q (aa1 σ H Q h)
def aa2 {o o'} (σ) (H) (Q):tE K Ξ (vq o o' f g h) σ H Q->N2 (rO K Ξ o) (rO K Ξ o') (tE K Ξ f) (tE K Ξ g) (tE K Ξ h) σ H Q:=by
 intro zzz;obtain⟨w,env,rfl,S,Z,h⟩:=zzz;refine⟨w,env,rfl,S,Z,(Out.ai h).mono λP x X O N v1 M=>⟨P,env,rfl,O,Z.le X,(Out.ai N).mono λL y W J I v2 V=>⟨L,x,y,rfl,J,W _ _ M,V,(Out.ai I).mono λG z U Y F t E=>?_⟩⟩⟩;have T:=Out.ai F
 cases z with
 |bl b =>
  have e:=E;have R:=aK Y T;refine⟨b,e,?_⟩
  cases b with
  |true =>
   exact⟨G,env,rfl,Y,Z.le (X.trans (W.trans U)),(Out.ai R).mono λD u C B A v4 v=>⟨D,y,u,rfl,B,(U.trans C) _ _ V,v,A⟩⟩
  |false =>
   exact aK Y R _ rfl
 |_=>exact T.elim
def M6 (ho:bP X (đ op) (rO X.K Ξ o)) (iJ:bP X (đ yo) (rO X.K Ξ o')) (ha:PE X a (tE X.K Ξ f)) (hb:PE X b (tE X.K Ξ g)) (hc:PE X c (tE X.K Ξ h))
 (hm:lastMarks [op,yo] [b,c]=ύ:=by with_unfolding_all rfl):PE X (.Compare a [op,yo] [b,c] pos) (tE X.K Ξ (vq o o' f g h)):=cN (WO ho iJ ha hb hc hm) aa2
def nh (ho:ym X (unaryOp op) (rU X.K Ξ o)) (ha:PE X a (tE X.K Ξ f)):PE X (.UnaryOp op a pos) (tE X.K Ξ (e1 o f)):=cN (acF ho ha) fun σ H Q Z=>by
 obtain⟨w,env,Y,S,W,h⟩:=Z;subst Y;exact⟨w,env,rfl,S,W,(Out.ai h).mono λV x P U T v1 R=>⟨V,x,rfl,U,R,T⟩⟩
def bX:PA X [] (tA X.K Ξ ah):=Oa mF fun σ H Q Z=>by
 obtain⟨w,env,Y,S,W,h⟩:=Z;subst Y;exact aK S h _ rfl
def bj (ha:PE X e (tE X.K Ξ f)) (hr:PA X es (tA X.K Ξ fa)) (hs:Ì (e::es) X.env=(ύ,į e X.env)::Ì es X.env:=by rfl):PA X (e::es) (tA X.K Ξ (ae f fa)):=Oa (lD ha hr hs) fun σ H Q Y=>by
 obtain⟨w,env,W,S,Z,h⟩:=Y;subst W;exact⟨w,env,rfl,S,Z,(Out.ai h).mono λV x U T R v1 P=>⟨V,env,rfl,T,Z.le U,(Out.ai R).mono λI G O N M L J=>aK N M _ ⟨v1,L,rfl,O _ _ P,J⟩⟩⟩
def v8 {K} {w} {ds} {r:Res α} {k} (h:Out K Ξ w (lP ds r) k):ds.length<=Ô/\Out K Ξ w r k:=by
 delta lP at h;split at h
 ·exact⟨by assumption,h⟩
 ·exact h.elim
def bo (ha:PA X es (tA X.K Ξ fa)):PE X (.Tuple es x1 pos) (tE X.K Ξ (bc fa)):=cN (aaK ha) fun σ H Q W=>by
 obtain⟨w,env,V,S,U,h⟩:=W;subst V;refine⟨w,env,rfl,S,U,(Out.ai h).mono λM L J T R P Y=>?_⟩;obtain⟨O,N⟩:=v8 R;refine⟨by rw[<- Y.length];exact O,λp Z=>?_⟩;exact N _ (Fw.grow Z).le (T.grow Z) rfl _ ⟨p,P,rfl,cb.of dC,(Fw.grow Z).le.all Y⟩
def oh {p} (S:bg K w) (hp:w.H p=ϋ):¬ w.Z p:=λ⟨k,c,e1,_,_⟩=>S.there k p e1 hp
def cO (ha:PA X es (tA X.K Ξ fa)):PE X (.List es pos) (tE X.K Ξ (cy fa)):=cN (N3 ha) fun σ H Q U=>by
 obtain⟨w,env,T,S,R,h⟩:=U;subst T;refine⟨w,env,rfl,S,R,(Out.ai h).mono λP J I W O N V=>?_⟩;obtain⟨M,L⟩:=v8 O;refine⟨by rw[<- V.length];exact M,λp Y=>?_⟩;exact L _ (Fw.grow Y).le (W.grow Y) rfl _ ⟨p,N,rfl,⟨(show ¬ P.Z p from oh W Y),dC⟩,(Fw.grow Y).le.all V⟩
def oy (ha:PA X es (tA X.K Ξ fa)):PE X (.List es pos) (tE X.K Ξ (eNew fa)):=cN (N3 ha) fun σ H Q T=>by
 obtain⟨w,env,R,S,P,h⟩:=T;subst R;refine⟨w,env,rfl,S,P,(Out.ai h).mono λY O J Z N W V=>?_⟩;obtain⟨M,L⟩:=v8 N;refine⟨by rw[<- V.length];exact M,λp U=>?_⟩;have le:=(Fw.cell (o:=.lst W) (c:=.lst O) Z U).le;refine L _ le (Z.Pc U ⟨W,dC,le.all V⟩) rfl _ ⟨p,?_,rfl⟩;show (Y.ρ++[p])[Y.aY.length]?=ϊ p;rw[<- Z.len];simp
def Ay (ha:PE X a (tE X.K Ξ f)):PE X a (tE X.K Ξ (oK f)):=cN ha fun σ H Q W=>by
 obtain⟨w,env,V,S,U,h⟩:=W;subst V;refine⟨w,env,rfl,S,U,(Out.ai h).mono λM x L Y Z v1 T=>?_⟩;delta bH at Z;split at Z
 ·rename_i k
  split at Z
  ·rename_i J R
   obtain⟨p,e1,e2⟩:=T;obtain⟨P,O,N⟩:=Y.cell k p _ e1 R;exact Z _ Fw.freeze.le Y.freeze rfl v1 ⟨p,P,e2,⟨Wd.VM Y e1,O⟩,Fw.freeze.le.all N⟩
  ·exact Z.elim
 ·exact Z.elim
theorem rP.of {k} (S:bg K w) (hd:DV K w d v) (h:Out K Ξ w (truth d w.aY) k):∃b,rP K v w.H b/\k w b:=by
 cases d with
 |az=>have e:=hd;subst e;exact⟨_,rfl,aK S h⟩
 |bl b=>have e:=hd;subst e;exact⟨_,rfl,aK S h⟩
 |int i=>have e:=hd;subst e;exact⟨_,rfl,aK S h⟩
 |str x =>
  have e:=hd;subst e;delta truth at h
  split at h<;>first|contradiction|skip
  all_goals (rename_i e;cases e)
  split at h
  ·exact⟨_,⟨by assumption,rfl⟩,aK S h⟩
  ·exact h.elim
 |tup Y =>
  obtain⟨a,Z,rfl,X,r⟩:=hd;refine⟨_,.inr (.inl ⟨Z,X,?_⟩),aK S h⟩;have e:=r.length
  cases Y<;>cases Z<;>first|rfl|cases e
 |lst Y =>
  obtain⟨a,Z,rfl,X,r⟩:=hd;refine⟨_,.inl ⟨Z,X.sq,?_⟩,aK S h⟩;have e:=r.length
  cases Y<;>cases Z<;>first|rfl|cases e
 |cL W =>
  obtain⟨a,rfl,_,X⟩:=hd;refine⟨_,.inr (.inr ⟨_,X,?_⟩),aK S h⟩
  cases W<;>rfl
 |au j =>
  obtain⟨a,e1,rfl⟩:=hd;erw[truth] at h;split at h
  ·rename_i Y V
   obtain⟨Z,U,T⟩:=S.cell j a _ e1 V;refine⟨_,.inl ⟨Z,cf.of U,?_⟩,aK S h⟩;have e:=T.length
   cases Y<;>cases Z<;>first|rfl|cases e
  ·rename_i W V
   obtain⟨es,U,T,R⟩:=S.cell j a _ e1 V;refine⟨_,.inr (.inr ⟨es,U,?_⟩),aK S h⟩;have e:=ı List.length T
   cases W<;>cases es<;>first|rfl|simp at e
  ·exact h.elim
 |ty n=>exact h.elim
 |cS Q=>exact h.elim
 |exc o _=>exact h.elim
 |dR o _ _=>exact h.elim
def eG (ha:PE X a (tE X.K Ξ f)) (he:∀whole,isTrue a X.env whole=(do let v <- whole;age a.pos;afA [v] (truthy v)):=by intro _;rfl):PT X a (tT X.K Ξ (cD f)):=Ek (WQ ha he) fun σ H Q Z=>by
 obtain⟨w,env,Y,S,W,h⟩:=Z;subst Y;exact⟨w,env,rfl,S,W,(Out.ai h).mono λR x P V U v1 T=>rP.of V T U⟩
def ig (ha:PT X a (tT X.K Ξ ft)):PT X (.UnaryOp .Not a pos) (tT X.K Ξ (dM ft)):=Ek (aar ha) fun σ H Q Z=>by
 obtain⟨w,env,Y,S,W,h⟩:=Z;subst Y;exact⟨w,env,rfl,S,W,(Out.ai h).mono λT b R V U=>aK V U⟩
def jH (ha:PT X a (tT X.K Ξ ft)):PW X (.BoolOp .And [a] pos) (tT X.K Ξ ft):=YD ha
def kL (ha:PT X a (tT X.K Ξ ft)):PW X (.BoolOp .Or [a] pos) (tT X.K Ξ ft):=aap ha
def w_and (ha:PT X a (tT X.K Ξ ft)) (hb:PW X (.BoolOp .And (b::rest) pos) (tT X.K Ξ gt)):PW X (.BoolOp .And (a::b::rest) pos) (tT X.K Ξ (eI ft gt)):=N9 (aaq ha hb) fun σ H Q V=>by
 obtain⟨w,env,U,S,Z,h⟩:=V;subst U;refine⟨w,env,rfl,S,Z,(Out.ai h).mono λT b R Y W=>?_⟩
 cases b with
 |true=>exact⟨T,env,rfl,Y,Z.le R,W⟩
 |false=>exact aK Y W
def w_or (ha:PT X a (tT X.K Ξ ft)) (hb:PW X (.BoolOp .Or (b::rest) pos) (tT X.K Ξ gt)):PW X (.BoolOp .Or (a::b::rest) pos) (tT X.K Ξ (fU ft gt)):=N9 (acv ha hb) fun σ H Q V=>by
 obtain⟨w,env,U,S,Z,h⟩:=V;subst U;refine⟨w,env,rfl,S,Z,(Out.ai h).mono λT b R Y W=>?_⟩
 cases b with
 |false=>exact⟨T,env,rfl,Y,Z.le R,W⟩
 |true=>exact aK Y W
def dJ (ha:PE X a (tE X.K Ξ f)):PE X (.BoolOp op [a] pos) (tE X.K Ξ f):=aas ha
def DH {k} (S:bg K w) (hd:DV K w d v) (h:Out K Ξ w (jn d w.aY) k):∃b,v=.bl b/\k w b:=by
 cases d with
 |bl b=>exact⟨b,hd,aK S h⟩
 |_=>exact h.elim
def fu (ha:PE X a (tE X.K Ξ f)) (hb:PE X (.BoolOp .And (b::rest) pos) (tE X.K Ξ g)):PE X (.BoolOp .And (a::b::rest) pos) (tE X.K Ξ (dw f g)):=cN (aat ha hb) fun σ H Q V=>by
 obtain⟨w,env,U,S,Y,h⟩:=V;subst U;refine⟨w,env,rfl,S,Y,(Out.ai h).mono λT x R Z P v1 O=>?_⟩;obtain⟨b,e,W⟩:=DH Z O (Out.ai P);refine⟨b,e,?_⟩
 cases b with
 |true=>exact⟨T,env,rfl,Z,Y.le R,W⟩
 |false=>exact aK Z W _ rfl
def qb (ha:PE X a (tE X.K Ξ f)) (hb:PE X (.BoolOp .Or (b::rest) pos) (tE X.K Ξ g)):PE X (.BoolOp .Or (a::b::rest) pos) (tE X.K Ξ (iZ f g)):=cN (acy ha hb) fun σ H Q V=>by
 obtain⟨w,env,U,S,Y,h⟩:=V;subst U;refine⟨w,env,rfl,S,Y,(Out.ai h).mono λT x R Z P v1 O=>?_⟩;obtain⟨b,e,W⟩:=DH Z O (Out.ai P);refine⟨b,e,?_⟩
 cases b with
 |false=>exact⟨T,env,rfl,Z,Y.le R,W⟩
 |true=>exact aK Z W _ rfl
def Pd (ha:PE X a (tE X.K Ξ f)):PE X (.UnaryOp .Not a pos) (tE X.K Ξ (xG f)):=cN (aau ha) fun σ H Q Y=>by
 obtain⟨w,env,W,S,V,h⟩:=Y;subst W;refine⟨w,env,rfl,S,V,(Out.ai h).mono λP x O Z U v1 T=>?_⟩;obtain⟨b,e,R⟩:=DH Z T (Out.ai U);exact⟨b,e,aK Z R _ rfl⟩
def ni (hc:PT X c (tT X.K Ξ ft)) (ha:PE X a (tE X.K Ξ f)) (hb:PE X b (tE X.K Ξ g)):PE X (.IfExp c a b pos) (tE X.K Ξ (jz ft f g)):=cN (WM hc ha hb) fun σ H Q T=>by
 obtain⟨w,env,R,S,Z,h⟩:=T;subst R;refine⟨w,env,rfl,S,Z,(Out.ai h).mono λY b W V U=>?_⟩
 cases b with
 |true=>exact⟨Y,env,rfl,V,Z.le W,U⟩
 |false=>exact⟨Y,env,rfl,V,Z.le W,U⟩
def Ob (σ) (H) (Q):tE K Ξ (eB o fa) σ H Q->GH (rC K Ξ o) (tA K Ξ fa) σ H Q:=by
 intro zzz;obtain⟨w,env,rfl,S,Z,h⟩:=zzz;exact⟨w,env,rfl,S,Z,(Out.ai h).mono λY X T W V R U=>⟨Y,X,rfl,W,U,V⟩⟩
def cY {p} {id} {o} (hc:dh X (.builtin id) (rC X.K Ξ o)) (hg:Gl X x) (hm:X.mg x=ϋ) (hv:ý x=ϊ (.builtin id)) (ha:PA X (e::es) (tA X.K Ξ fa)) (hn:x≠"__name__":=by decide) (eQ:(x==("__debug__"))=ύ:=by decide)
  (he:Ì (e::es) X.env=(ύ,į e X.env)::Ì es X.env:=by rfl) (bY:(İ pos (Ì es X.env)).any (·.1)=ύ:=by rfl):PE X (.Call (.Name x p) (e::es) [] pos) (tE X.K Ξ (eB o fa)):=cN (CN hc hg hm hv ha hn eQ he bY) Ob
def df {p} {T} {o} (hc:dh X (.type T) (rC X.K Ξ o)) (hg:Gl X x) (hm:X.mg x=ϋ) (hv:ý x=ϊ (.type T)) (ha:PA X (e::es) (tA X.K Ξ fa)) (hn:x≠"__name__":=by decide) (eQ:(x==("__debug__"))=ύ:=by decide)
  (he:Ì (e::es) X.env=(ύ,į e X.env)::Ì es X.env:=by rfl) (bY:(İ pos (Ì es X.env)).any (·.1)=ύ:=by rfl):PE X (.Call (.Name x p) (e::es) [] pos) (tE X.K Ξ (eB o fa)):=cN (Cp hc hg hm hv ha hn eQ he bY) Ob
end
set_option genInjectivity true in
inductive Fl where
 |nx (env:Env)|rt (d:D)|bk (env:Env)|ct (env:Env)
def Qv (K:Ň) (D:Ends) (w:Wd):Fl->Prop
 | .nx env=>∀ σ,cg K w env σ->D.nx σ w.H
 | .rt d=>∀v,DV K w d v->D.rt v w.H
 | .bk env=>∀ σ,cg K w env σ->D.bk σ w.H
 | .ct env=>∀ σ,cg K w env σ->D.ct σ w.H
def tS (K:Ň) (Ξ:Wd->bE->Prop) (f:agS Fl):TS:=λD σ H=>∃w env,w.H=H/\bg K w/\cg K w env σ/\Out K Ξ w (f env w.aY) (Qv K D)
def bz:agS Fl:=λenv s=>ok (.nx env) s
def aw (f g:agS Fl):agS Fl:=λenv s=>ai (f env s) λfl s=>match fl with
 | .nx env=>g env s
 |fl=>ok fl s
def aH (f:agS D):agS Fl:=λenv s=>ai (f env s) λd s=>ok (.rt d) s
def cP (f:agS D):agS Fl:=λenv s=>ai (f env s) λ_ s=>ok (.nx env) s
def aU (c:agS Bool) (f g:agS Fl):agS Fl:=λenv s=>ai (c env s) λb s=>if b=ό then f env s else g env s
def Pe:agS Fl:=λenv s=>ok (.ct env) s
def aR (f:agS D) (g:D->Env->Option Env):agS Fl:=λenv s=>ai (f env s) λd s=>match g d env with
 |some Z=>ok (.nx Z) s
 |none=>ϋ
noncomputable def gN (i:Nat):D->Env->Option Env:=λd env=>ϊ (env.set i (ϊ d))
noncomputable def iE:List (D->Env->Option Env)->List D->Env->Option Env
 | [],[],env=>ϊ env
 |g::Z,d::Y,env=>match g d env with
  |some X=>iE Z Y X
  |none=>ϋ
 |_,_,_=>ϋ
def gT (gs:List (D->Env->Option Env)):D->Env->Option Env:=λd env=>match d with
 | .tup Z=>iE gs Z env
 |_=>ϋ
def oz (g:D->Env->Option Env) (b:agS Fl):List D->agS Fl
 | [],env,s=>ok (.nx env) s
 |d::Z,env,s=>match g d env with
  |none=>ϋ
  |some Y=>ai (b Y s) λX s=>match X with
   | .nx e=>oz g b Z e s
   | .ct e=>oz g b Z e s
   | .bk e=>ok (.nx e) s
   | .rt d=>ok (.rt d) s
def gn (it:agS (List D)) (g:D->Env->Option Env) (b:agS Fl):agS Fl:=λenv s=>ai (it env s) λZ s=>oz g b Z env s
def ne (r:Res α):Res α:=match r with
 |some (.ok a,s)=>ϊ (.ok a,s)
 |_=>ϋ
@[simp] theorem rB {s}:ne (ϊ (.ok a,s))=ϊ (.ok a,s):=rfl
noncomputable def lQ (cap:List Nat) (env:Env):Env:=cap.map λj=>(env[j]?).getD ϋ
def gE (nt:Nat) (caps:Env) (g:D->Env->Option Env) (t:agS Bool) (f:agS D):List D->ag->Res (List D)
 | [],s=>ok [] s
 |d::Z,s=>match g d (Õ nt ϋ++caps) with
  |none=>ϋ
  |some env=>ai (ne (t env s)) λb s=>if b=ό then ai (ne (f env s)) λx s=>ai (gE nt caps g t f Z s) λY s=>ok (x::Y) s
   else gE nt caps g t f Z s
def b9 (nt:Nat) (cap:List Nat) (it:agS (List D)) (g:D->Env->Option Env) (t:agS Bool) (f:agS D):agS D:=λenv s =>
 ai (it env s) λZ s=>lP Z (ai (gE nt (lQ cap env) g t f Z s) λY s=>ok (.lst Y) s)
def cB:agS Bool:=λ_ s=>ok ό s
def aO (np ns:Nat) (b:agS Fl):List D->ag->Res D:=λZ s=>if Z.length=np then ai (b (Z.map ϊ++Õ (ns-np) ϋ) s) λY s=>match Y with
 | .rt d=>ok d s
 | .nx _=>ok .az s
 |_=>ϋ else ϋ
abbrev cM:Wd->bE->Prop:=λ_ _=>False
def mh (K:Ň) (f:List D->ag->Res D):Sp:=λX H Q _=>∃w Z,w.H=H/\bg K w/\aC K w Z X/\Out K cM w (f Z w.aY) λY d=>∀v,DV K Y d v->Q v Y.H
section
variable {X:Cx} {Ξ:Wd->bE->Prop} {e a b c tg:Ő} {es rest:List Ő} {pos:Pos} {f g h:agS D} {fa:agS (List D)} {ft gt:agS Bool} {st:Stmt} {sy F5:List Stmt} {fs gs:agS Fl}
def bJ:dP X [] (tS X.K Ξ bz):=M0 YE λD σ H Z=>by
 obtain⟨w,env,Y,S,W,h⟩:=Z;subst Y;exact aK S h σ W
def aA (h1:PS X st (tS X.K Ξ fs)) (h2:dP X sy (tS X.K Ξ gs)):dP X (st::sy) (tS X.K Ξ (aw fs gs)):=M0 (WN h1 h2) λD σ H W=>by
 obtain⟨w,env,V,S,U,h⟩:=W;subst V;refine⟨w,env,rfl,S,U,(Out.ai h).mono λT R P Z h1=>?_⟩
 cases R with
 |nx Y=>exact fun O Q=>⟨T,Y,rfl,Z,Q,h1⟩
 |rt d=>have q:=aK Z h1;exact q
 |bk Y=>have q:=aK Z h1;exact q
 |ct Y=>have q:=aK Z h1;exact q
def ax (h1:PS X st (tS X.K Ξ fs)):dP X [st] (tS X.K Ξ fs):=YF h1
def aT (he:PE X e (tE X.K Ξ f)):PS X (.Return (ϊ e) pos) (tS X.K Ξ (aH f)):=kG (aav he) λD σ H Z=>by
 obtain⟨w,env,Y,S,W,h⟩:=Z;subst Y;exact⟨w,env,rfl,S,W,(Out.ai h).mono λT d R V U=>aK V U⟩
def gb (he:PE X e (tE X.K Ξ f)) (hs:agn e ϋ pos.line X.env=pure ύ:=by rfl):PS X (.Expr e pos) (tS X.K Ξ (cP f)):=kG (YG he hs) λD σ H Y=>by
 obtain⟨w,env,W,S,Z,h⟩:=Y;subst W;exact⟨w,env,rfl,S,Z,(Out.ai h).mono λR d V U T _ _=>aK U T σ (Z.le V)⟩
def bG (hc:PT X c (tT X.K Ξ ft)) (ha:dP X sy (tS X.K Ξ fs)) (hb:dP X F5 (tS X.K Ξ gs)):PS X (.If c sy F5 pos) (tS X.K Ξ (aU ft fs gs)):=kG (acB hc ha hb) λD σ H T=>by
 obtain⟨w,env,R,S,Z,h⟩:=T;subst R;refine⟨w,env,rfl,S,Z,(Out.ai h).mono λY b W V U=>?_⟩
 cases b with
 |true=>exact⟨Y,env,rfl,V,Z.le W,U⟩
 |false=>exact⟨Y,env,rfl,V,Z.le W,U⟩
def gD (K:Ň) (g:D->Env->Option Env):TG:=λv σ H Q=>∃w env d Z,w.H=H/\bg K w/\cg K w env σ/\DV K w d v/\g d env=ϊ Z/\∀ Y,cg K w Z Y->Q Y H
def vt (K:Ň) (g:List D->Env->Option Env):qj:=λW σ H Q=>∃w env Z Y,w.H=H/\bg K w/\cg K w env σ/\aC K w Z W/\g Z env=ϊ Y/\∀ X,cg K w Y X->Q X H
def El (h:PG X e t) (i:∀v σ H Q,t' v σ H Q->t v σ H Q):PG X e t':=λZ s σ H v u Q I r Y=>h Z s σ H v u Q I r (i v σ H Q Y)
def M7 (h:kX X es t) (i:∀v σ H Q,t' v σ H Q->t v σ H Q):kX X es t':=λZ s σ H v u Q I r Y=>h Z s σ H v u Q I r (i v σ H Q Y)
def bR (i) {x} (hN:X.N.Nodup) (hi:X.N[i]?=ϊ x:=by rfl) (hx:Loc X.env.scope x:=by first|exact ŷ rfl|exact Or.inr rfl) (hf:X.fn x=ό\/X.env.scope.names.lookup x=ϊ .local:=by first|exact .inl rfl|exact .inr rfl):PG X (.Name x pos) (gD X.K (gN i)) :=
 El (ix hN hi hx hf) λv σ H Q Z=>by
  obtain⟨w,env,d,U,T,S,Y,W,V,k⟩:=Z;have e:=agX V;subst e;exact k _ (Y.set W i)
def jI:kX X [] (vt X.K (iE [])):=M7 wo λT σ H Q W=>by
 obtain⟨w,env,Z,R,P,S,V,U,Y,k⟩:=W
 cases Z with
 |nil =>
  have e:=agX Y;subst e;exact⟨U,k _ V⟩
 |cons d Z=>cases Y
def cJ {g} {gl} (h1:PG X e (gD X.K g)) (h2:kX X es (vt X.K (iE gl)))
  (hs:(Ń (e::es) X.env).map (·.2)=agP e X.env::(Ń es X.env).map (·.2):=by rfl):kX X (e::es) (vt X.K (iE (g::gl))):=M7 (mB h1 h2 hs) λI σ H Q T=>by
 obtain⟨w,env,Y,R,V,S,P,O,Z,k⟩:=T
 cases Y with
 |nil=>cases Z
 |cons d Y =>
  obtain⟨v,r,rfl,N,M⟩:=O;erw[iE] at Z
  cases W:g d env with
  |none=>rw[W] at Z;cases Z
  |some U =>
   rw[W] at Z;refine⟨v,r,rfl,w,env,d,U,V,S,P,N,W,fun L J=>⟨w,U,Y,R,V,S,J,M,Z,k⟩⟩
theorem zy:∀{gl} {ds} {env aV},iE gl ds env=ϊ aV->ds.length=gl.length
 | [],[],_,_,_=>rfl
 |g::gl,d::ds,env,aV,h=>by
  erw[iE] at h
  cases Z:g d env with
  |none=>rw[Z] at h;cases h
  |some e1=>rw[Z] at h;simp[zy h]
 | [],_::_,_,_,h=>by cases h
 |_::_,[],_,_,h=>by cases h
def lR {k} (hc:X.calm=ό) (h:kX X es (vt X.K (iE gl))) (hn:(Ń es X.env).length=gl.length:=by rfl) (gr:(Ń es X.env).findIdx? (·.1)=ϋ:=by rfl):PG X (.Tuple es k pos) (gD X.K (gT gl)) :=
 El (wD hc h hn gr) λv σ H Q W=>by
  obtain⟨w,env,d,V,U,S,T,R,Z,k⟩:=W
  cases d with
  |tup P =>
   obtain⟨p,O,e1,N,Y⟩:=R;subst U;exact⟨p,O,e1,N,by rw[<- Y.length];exact zy Z,w,env,P,V,rfl,S,T,Y,Z,k⟩
  |_=>cases Z
def DJ {g} (D) (σ) (H):tS K Ξ (aR f g) D σ H->uJ (tE K Ξ f) (gD K g) D σ H:=by
 intro zzz;obtain⟨w,env,rfl,S,X,h⟩:=zzz;refine⟨w,env,rfl,S,X,(Out.ai h).mono λV d U W Z v T=>?_⟩
 cases Y:g d env with
 |none=>rw[Y] at Z;exact Z.elim
 |some R =>
  rw[Y] at Z;exact⟨V,env,d,R,rfl,W,X.le U,T,Y,aK W Z⟩
def j8 {g} (he:PE X e (tE X.K Ξ f)) (hg:PG X tg (gD X.K g)) (hs:θ [tg] e pos.line X.env=pure ύ:=by rfl) (hw:ι [tg] e X.env=pure ϋ:=by rfl)
  (h1:(Ń [tg] X.env).map (·.2)=[agP tg X.env]:=by rfl):PS X (.Assign [tg] e pos) (tS X.K Ξ (aR f g)):=kG (N0 he hg hs hw h1) DJ
def Lj {te:TE} {i} (D) (σ) (H):uJ (tE K Ξ f) (gD K (gN i)) D σ H->uJ (tE K Ξ f) (ow i) D σ H:=by
 intro zzz;obtain⟨w,env,rfl,S,Z,h⟩:=zzz;refine⟨w,env,rfl,S,Z,h.mono λT d R Q Y v X=>?_⟩;obtain⟨P,O,N,M,L,J,W,V,U,k⟩:=Y v X;have e:=agX U;subst e;exact k _ (W.set V i)
def bA (i) {x} {pos'} (hN:X.N.Nodup) (he:PE X e (tE X.K Ξ f)) (hi:X.N[i]?=ϊ x:=by rfl) (hx:Loc X.env.scope x:=by first|exact ŷ rfl|exact Or.inr rfl) (hs:agn e (ϊ (.Name x pos')) pos.line X.env=pure ύ:=by rfl) (hf:X.fn x=ό\/X.env.scope.names.lookup x=ϊ .local:=by first|exact .inl rfl|exact .inr rfl) :
  PS X (.Assign [.Name x pos'] e pos) (tS X.K Ξ (aR f (gN i))):=kG (aax hN hi hx he hs hf) λD σ H h=>Lj (te:=tE X.K Ξ f) D σ H (DJ D σ H h)
def qu (K:Ň) (w:Wd) (J:It) (ds:List D):Prop:=∀Z,Le K w Z->bg K Z->∀i,
 (∀d,ds[i]?=ϊ d->J.go i Z.H/\∀x X,J.vc i Z.H x X->∃Y,Y.H=X/\Le K Z Y/\bg K Y/\Y.aY=Z.aY/\DV K Y d x)/\(ds.length<=i->J.stop i Z.H)
def fH (K:Ň) (Ξ:Wd->bE->Prop) (f:agS (List D)):TI:=fun σ H R=>∃w env,w.H=H/\bg K w/\cg K w env σ/\Out K Ξ w (f env w.aY) λZ Y=>∀J,qu K Z J Y->R J Z.H
def rb (h:PI X tg e t) (i:∀ σ H R,t' σ H R->t σ H R):PI X tg e t':=λZ s σ H R I Y=>h Z s σ H R I (i σ H R Y)
def Zf {it} {g} (D0) (σ) (H):tS K Ξ (gn it g fs) D0 σ H->Qn (fH K Ξ it) (gD K g) (tS K Ξ fs) D0 σ H:=by
 intro zzz;obtain⟨w,env,rfl,S,E,h⟩:=zzz;refine⟨w,env,rfl,S,E,(Out.ai h).mono λN W r p o J D=>?_⟩;refine⟨λi m C B=>m=W.length-i/\i<=W.length/\∃Y V,Y.H=B/\Le K N Y/\bg K Y/\cg K Y V C/\Out K Ξ Y (oz g fs (W.drop i) V Y.aY) _,
  ⟨_,rfl,č _,N,env,rfl,Le.refl _,p,E.le r,o⟩,?_⟩
 intro i m C B zzz;obtain⟨rfl,b,Y,V,rfl,U,M,A,X⟩:=zzz;by_cases L:i<W.length
 ·right
  obtain⟨n,l⟩:=(D Y U M i).1 _ (Ò L);rw[ŝ L] at X;erw[oz] at X
  cases I:g _ V with
  |none=>rw[I] at X;exact X.elim
  |some z =>
   rw[I] at X;refine⟨n,fun v T=>∃Z G,Z.H=T/\Le K N Z/\bg K Z/\cg K Z G _/\Out K Ξ Z _ _,fun v T ⟨Z,G,q⟩=>⟨_,by omega,rfl,L,Z,G,q⟩,λx T y=>?_⟩;obtain⟨Z,rfl,R,u,es,k⟩:=l x T y;refine⟨Z,V,_,z,rfl,u,A.le R,k,I,fun v j=>⟨Z,z,rfl,u,j,?_⟩⟩;rw[<- es] at X;refine(Out.ai (X.from R)).mono λt f s Q P=>?_
   cases f with
   |nx O=>exact fun c F=>⟨t,O,rfl,U.trans (R.trans s),Q,F,P⟩
   |ct O=>exact fun c F=>⟨t,O,rfl,U.trans (R.trans s),Q,F,P⟩
   |bk O=>have q:=aK Q P;exact q
   |rt d=>have q:=aK Q P;exact q
 ·left
  have e:i=W.length:=by omega
  subst e;rw[List.drop_length] at X;exact⟨(D Y U M _).2 (agW _),aK M X _ A⟩
def iR {it} {g} (hp:PassesOwn (è X.prog X.w) X.A X.env X.xe) (hc:X.calm=ό) (hi:PI X tg iter (fH X.K Ξ it)) (hg:PG X tg (gD X.K g)) (hb:dP X sy (tS X.K Ξ fs))
  (hs:∀x,Ā iter X.env x=pure x:=by intro _;rfl):PS X (.For tg iter sy [] pos) (tS X.K Ξ (gn it g fs)):=kG (aaA hp hc hi hg hb hs) Zf
theorem Out.ne {K} {w} {r:Res α} {k} (h:Out K Ξ w (DI.ne r) k):Out K cM w r k:=by
 match r,h with
 |some (.ok a,s),h=>exact h
def cg.block {env} {σ} (h:cg K w env σ) (nt) (cap) (o) (ho:o.length=nt):cg K w (Õ nt ϋ++lQ cap env) (o++pS cap σ):=by
 refine⟨by simp[lQ,pS,ho],λi d e=>?_⟩;by_cases Z:i<nt
 ·rw[ç (by simpa using Z),Ī,Ö Z] at e
  cases e
 ·rw[ô (by simpa using adL Z)] at e
  rw[ô ⋯,ho];erw[ż] at e;delta lQ at e;delta pS;rw[å] at e |-
  cases Y:cap[i-nt]? with
  |none=>rw[Y] at e;cases e
  |some j =>
   rw[Y] at e;have ev:(env[j]?).getD ϋ=ϊ d:=agX e;have X:env[j]?=ϊ (ϊ d):=by
    cases q:env[j]? with
    |none=>rw[q] at ev;cases ev
    |some z=>rw[q] at ev;exact ı ϊ ev
   obtain⟨v,e1,e2⟩:=h.val j d X;exact⟨v,by rw[Ž,e1];rfl,e2⟩
def VN {cap} {it} {g} {fin} (σ) (H) (Q)
  (F8:∀w2 xs vs,bg K w2->aC K w2 xs vs->Out K Ξ w2 (fin xs w2.aY) (λw' d=>∀v,DV K w' d v->Q v w'.H)->∀p,w2.H p=ϋ->Q (.ref p) (upd w2.H p (.lst vs))) :
  tE K Ξ (λenv s=>ai (it env s) λds s=>lP ds (ai (gE nt (lQ cap env) g ft f ds s) fin)) σ H Q->rz (fH K Ξ it) nt cap (gD K g) (tT K cM ft) (tE K cM f) σ H Q:=by
 intro zzz;obtain⟨w,env,rfl,S,C,h⟩:=zzz;refine⟨w,env,rfl,S,C,(Out.ai h).mono λO ds k j N J B=>?_⟩;obtain⟨hz,N⟩:=v8 N;refine⟨λi m Y A=>m=ds.length-i/\i<=ds.length/\Y.length<=i/\∃w' Z,w'.H=A/\Le K O w'/\bg K w'/\aC K w' Z Y/\Out K Ξ w' (gE nt _ g ft f (ds.drop i) w'.aY) λw2 xs=>∀vs,aC K w2 (Z++xs) vs->∀p,w2.H p=ϋ->Q (.ref p) (upd w2.H p (.lst vs)),
  ⟨_,rfl,č _,č _,O,[],rfl,Le.refl _,j,rfl,(Out.ai N).mono λw2 xs W R c vs P p V=>?_⟩,?_⟩
 ·exact F8 w2 xs vs R P c p V
 intro i m Y A zzz;obtain⟨rfl,hi,ha,w',Z,rfl,U,M,L,X⟩:=zzz;by_cases I:i<ds.length
 ·right
  obtain⟨a,hy⟩:=(B w' U M i).1 _ (Ò I);rw[ŝ I] at X;erw[gE] at X
  cases G:g _ _ with
  |none=>rw[G] at X;exact X.elim
  |some F =>
   rw[G] at X;refine⟨a,by omega,λE z=>E.length<=i+1/\∃w' Z,w'.H=z/\Le K O w'/\bg K w'/\aC K w' Z E/\Out K Ξ w' _ λw2 xs=>∀vs,aC K w2 _ vs->∀p,w2.H p=ϋ->Q _ _,
    λE z ⟨D,q⟩=>⟨_,by omega,rfl,I,D,q⟩,λo x H3 ho y=>?_⟩
   obtain⟨w2,rfl,W,R,es,dv⟩:=hy x H3 y;refine⟨w2,_,_,F,rfl,R,(C.le (k.trans (U.trans W))).block nt cap o ho,dv,G,fun vd u=>?_⟩;rw[<- es] at X;refine⟨w2,F,rfl,R,u,(Out.ai (X.from W)).ne.mono λt b T r n=>?_⟩
   cases b with
   |true =>
    refine⟨t,F,rfl,r,u.le T,(Out.ai n).ne.mono λw4 d l S4 h4 v G7=>⟨by simp;omega,w4,_,rfl,U.trans (W.trans (T.trans l)),S4,aC.append ((W.trans (T.trans l)).all L) (aC.one G7),(Out.ai h4).mono λw5 xs l5 S5 h5 vs P p V=>?_⟩⟩;exact aK S5 h5 vs (by rw[ġ] at P;exact P) p V
   |false =>
    exact⟨by omega,t,Z,rfl,U.trans (W.trans T),r,(W.trans T).all L,n⟩
 ·left
  have e:i=ds.length:=by omega
  subst e;rw[List.drop_length] at X;refine⟨(B w' U M _).2 (agW _),by omega,λp V=>aK M X Y (by rw[ú];exact L) p V⟩
def LV {cap} {it} {g} (σ) (H) (Q) :
  tE K Ξ (b9 nt cap it g ft f) σ H Q->rz (fH K Ξ it) nt cap (gD K g) (tT K cM ft) (tE K cM f) σ H Q :=
 VN σ H Q λW S V X U T p Y=>T _ (Fw.grow Y).le (X.grow Y) rfl _ ⟨p,V,rfl,⟨(show ¬ W.Z p from oh X Y),dC⟩,(Fw.grow Y).le.all U⟩
end
def M8 {o caps:St} {v} {i nt} (ho:o.length=nt) (hi:i<nt):(o++caps).set i (ϊ v)=o.set i (ϊ v)++caps:=by
 rw[List.set_append_left _ _ ⋯]
def VO (hi:i<nt):oY (ow i) nt:=by
 intro x o Z H R Y h;exact⟨⟨_,by rw[Ă];exact Y,M8 Y hi⟩,h⟩
def xH (g:qj) (nt:Nat):Prop:=∀Y o Z H R,o.length=nt->g Y (o++Z) H R->g Y (o++Z) H fun X V=>(∃W,W.length=nt/\X=W++Z)/\R X V
def Xi:xH FT nt:=λX o Z H R Y h=>⟨h.1,⟨o,Y,rfl⟩,h.2⟩
def VP (hi:i<nt) (hg:xH g nt):xH (EU (ow i) g) nt:=by
 intro X o Z H R Y zzz;obtain⟨v,r,e,h⟩:=zzz;refine⟨v,r,e,?_⟩;have h:g r _ H R:=h;show g r _ H _;rw[M8 Y hi] at h |-;exact hg r _ Z H R (by rw[Ă];exact Y) h
def Xj (hg:xH g nt):oY (FU K n g) nt:=by
 intro x o Z H R X zzz;obtain⟨a,Y,e,W,V,h⟩:=zzz;exact⟨a,Y,e,W,V,hg Y o Z H R X h⟩
structure Tg (K) (g0) (g) (nt):Prop where
 nL:oY g0 nt
 imp:∀v σ H Q,gD K g v σ H Q->g0 v σ H Q
structure Br (K) (g0) (g) (nt):Prop where
 nL:xH g0 nt
 imp:∀v σ H Q,vt K (iE g) v σ H Q->g0 v σ H Q
def qV (i) (hi:i<nt:=by decide):Tg K (ow i) (gN i) nt:=⟨VO hi,λv σ H Q Z=>by
 obtain⟨w,env,d,V,U,S,Y,X,W,k⟩:=Z;have e:=agX W;subst e;exact k _ (Y.set X i)⟩
def zO:Br K FT [] nt:=⟨Xi,λU σ H Q X=>by
 obtain⟨w,env,Z,T,R,S,W,V,Y,k⟩:=X
 cases Z with
 |nil =>
  have e:=agX Y;subst e;exact⟨V,k _ W⟩
 |cons d Z=>cases Y⟩
def nX (i) (h:Br K g0 gl nt) (hi:i<nt:=by decide):Br K (EU (ow i) g0) (gN i::gl) nt:=⟨VP hi h.nL,λO σ H Q X=>by
 obtain⟨w,env,Z,W,V,S,U,T,Y,k⟩:=X
 cases Z with
 |nil=>cases Y
 |cons d Z =>
  obtain⟨v,r,rfl,R,P⟩:=T;exact⟨v,r,rfl,h.imp _ _ _ _ ⟨w,_,Z,W,V,S,U.set R i,P,Y,k⟩⟩⟩
def Af (h:Br K g0 gl nt) (hn:gl.length=n:=by rfl):Tg K (FU K n g0) (gT gl) nt:=⟨Xj h.nL,λv σ H Q X=>by
 obtain⟨w,env,d,W,V,S,U,T,Z,k⟩:=X
 cases d with
 |tup R =>
  obtain⟨p,P,e1,O,Y⟩:=T;subst V;exact⟨p,P,e1,O,by rw[<- Y.length,zy Z];exact hn,h.imp _ _ _ _ ⟨w,env,R,W,rfl,S,U,Y,Z,k⟩⟩
 |_=>cases Z⟩
section
variable {X:Cx} {Ξ:Wd->bE->Prop} {e a b c tg el src:Ő} {es rest tests:List Ő} {pos:Pos} {f g h:agS D} {fa:agS (List D)} {ft gt:agS Bool} {st:Stmt} {sy F5:List Stmt} {fs gs:agS Fl}
def aa3 (h:PF X tests t) (i:∀ σ H Q,t' σ H Q->t σ H Q):PF X tests t':=λZ s σ H Q I Y=>h Z s σ H Q I (i σ H Q Y)
def ee:PF X [] (tT K Ξ cB):=aa3 aaT fun σ H Q Z=>by
 obtain⟨w,env,Y,S,W,h⟩:=Z;subst Y;exact aK S h
def mQ (h:PT X c (tT K Ξ ft)):PF X [c] (tT K Ξ ft):=aaU h
def KD (i_:∀v σ H Q,g1 v σ H Q->g0 v σ H Q) (wm:∀R R',(∀J H',R J H'->R' J H')->wi σ H R->wi σ H R') (h:rz wi nt cap g1 tf te σ H Q):rz wi nt cap g0 tf te σ H Q:=by
 refine wm _ _ (λJ H' Y=>?_) h;obtain⟨W,X,step⟩:=Y;refine⟨W,X,λi m Z V hw=>?_⟩
 rcases step i m Z V hw with q | ⟨U,T,N,S,P⟩
 ·exact .inl q
 ·exact .inr ⟨U,T,N,S,λo x O M y=>i_ _ _ _ _ (P o x O M y)⟩
def LW (R R') (i:∀J H',R J H'->R' J H') (h:fH K Ξ it σ H R):fH K Ξ it σ H R':=by
 obtain⟨w,env,Z,S,Y,h⟩:=h;exact⟨w,env,Z,S,Y,h.mono λV U _ _ X J W=>i J _ (X J W)⟩
def cA (f:agS D):agS (List D):=λenv s=>ai (f env s) λd s=>match d with
 | .lst Z=>ok Z s
 | .tup Z=>ok Z s
 |_=>ϋ
def Xk {a} {ds} (h:DV K w (.lst ds) (.ref a)):qu K w (GC K a) ds:=λW V U i=>by
 have T:=V _ _ h;obtain⟨p,Z,e,Y,X⟩:=T;cases e;refine⟨λd S=>?_,λR=>⟨Z,Y.sq,by rw[<- X.length];exact R⟩⟩;obtain⟨v,ev,Q⟩:=X.get' i d S;exact⟨⟨Z,v,Y.sq,ev⟩,λx P ⟨e1,e2⟩=>⟨W,e1.symm,Le.refl _,U,rfl,by
  have q:=e2 Z Y.sq;rw[ev] at q;cases q;exact Q⟩⟩
def Zg {a} {ds} (h:DV K w (.tup ds) (.ref a)):qu K w (GD K a) ds:=λW V U i=>by
 have T:=V _ _ h;obtain⟨p,Z,e,Y,X⟩:=T;cases e;refine⟨λd S=>?_,λR=>⟨Z,Y,by rw[<- X.length];exact R⟩⟩;obtain⟨v,ev,Q⟩:=X.get' i d S;exact⟨⟨Z,v,Y,ev⟩,λx P ⟨e1,e2⟩=>⟨W,e1.symm,Le.refl _,U,rfl,by
  have q:=e2 Z Y;rw[ev] at q;cases q;exact Q⟩⟩
def fC (hl:PE X a (tE X.K Ξ f)):PI X tg a (fH X.K Ξ (cA f)):=by
 have both:PI X tg a (fun σ H R=>O5 _ _ σ H R\/Qm _ _ σ H R):=λN s σ H R I h=>h.elim (YH hl N s σ H R I) (aaz hl N s σ H R I);refine rb both fun σ H R ⟨w,env,M,S,W,h⟩=>?_;subst M;erw[cA] at h
 cases Z:f env _ with
 |none=>rw[Z] at h;exact h.elim
 |some r =>
  obtain⟨r,s⟩:=r;rw[Z] at h
  cases r with
  |error x=>exact .inl ⟨w,env,rfl,S,W,by rw[Z];exact h⟩
  |ok d =>
   cases d with
   |lst L =>
    refine .inl ⟨w,env,rfl,S,W,?_⟩;rw[Z];intro V U T e1 v Y;have Q:=Y;obtain⟨p,P,rfl,O,J⟩:=Y;exact⟨p,rfl,⟨P,O.sq⟩,h V U T e1 _ (Xk Q)⟩
   |tup L =>
    refine .inr ⟨w,env,rfl,S,W,?_⟩;rw[Z];intro V U T e1 v Y;have Q:=Y;obtain⟨p,P,rfl,O,J⟩:=Y;exact⟨p,rfl,⟨P,O⟩,h V U T e1 _ (Zg Q)⟩
   |_=>exact h.elim
noncomputable def dU (lo:Int) (n:Nat):List D:=(â n).map λ(i:Nat)=>D.int (lo+(i))
def jE:(dU lo n)[i]?=if i<n then ϊ (.int (lo+i)) else ϋ:=by
 delta dU;rw[å];by_cases h:i<n
 ·rw[Ķ h,Ö h];rfl
 ·rw[Ĝ (by simp;omega),Ý h];rfl
def n5:(dU lo n).length=n:=by simp[dU]
def M9:qu K w (yj lo n) (dU lo n):=λX V W i=>by
 refine⟨λd Z=>?_,λY=>by rw[n5] at Y;exact Y⟩;rw[jE] at Z;split at Z
 ·cases Z
  exact⟨by assumption,λx U ⟨e1,e2⟩=>⟨X,e1.symm,Le.refl _,W,rfl,e2⟩⟩
 ·cases Z
noncomputable def kM (j:Int):Bool:=ώ (-(2 ^ 62)<=j)&&ώ (j<2 ^ 62)
def dH (fa:agS (List D)):agS (List D):=λenv s=>ai (fa env s) λZ s=>match Z with
 | [.int j]=>if kM j=ό then ok (dU 0 j.toNat) s else ϋ
 |_=>ϋ
def Bs (fa:agS (List D)):agS (List D):=λenv s=>ai (fa env s) λZ s=>match Z with
 | [.int i,.int j]=>if (kM i&&kM j)=ό then ok (dU i (j-i).toNat) s else ϋ
 |_=>ϋ
def eY (hg:Gl X "range") (hm:X.mg "range"=ϋ) (ha:PA X [a] (tA X.K Ξ fa)) (hs:Ì [a] X.env=[(ύ,į a X.env)]:=by rfl):PI X tg (.Call (.Name "range" p) [a] [] pos) (fH X.K Ξ (dH fa)) :=
 rb (Vs hg hm ha hs) fun σ H R W=>by
  obtain⟨w,env,V,S,U,h⟩:=W;subst V;refine⟨w,env,rfl,S,U,(Out.ai h).mono λN M L T Z J Q=>?_⟩;split at Z
  ·rename_i j
   split at Z
   ·rename_i Y
    erw[kM,Â,Ã] at Y;obtain⟨v,r,rfl,P,O⟩:=Q;have e1:=P;have e2:=O;subst e1 e2;exact⟨j,rfl,Y.1,Y.2,aK T Z _ M9⟩
   ·exact Z.elim
  ·exact Z.elim
def aa4 {p} (hg:Gl X "range") (hm:X.mg "range"=ϋ) (ha:PA X [a,b] (tA X.K Ξ fa)) (hs:Ì [a,b] X.env=[(ύ,į a X.env),(ύ,į b X.env)]:=by rfl) (de:Ì [b] X.env=[(ύ,į b X.env)]:=by rfl):PI X tg (.Call (.Name "range" p) [a,b] [] pos) (fH X.K Ξ (Bs fa)) :=
 rb (Vt hg hm ha hs de) fun σ H R W=>by
  obtain⟨w,env,V,S,U,h⟩:=W;subst V;refine⟨w,env,rfl,S,U,(Out.ai h).mono λL J I T Z G Q=>?_⟩;split at Z
  ·rename_i i j
   split at Z
   ·rename_i Y
    erw[kM,Â,Ã] at Y;obtain⟨v,r,rfl,P,v2,F,rfl,O,N⟩:=Q;have e1:=P;have e2:=O;have M:=N;subst e1 e2 M;exact⟨i,j,rfl,⟨Y.1.1,Y.1.2,Y.2.1,Y.2.2⟩,aK T Z _ M9⟩
   ·exact Z.elim
  ·exact Z.elim
noncomputable def jN (xs ys:List D):List D:=(xs.zip ys).map λp=>.tup [p.1,p.2]
def Xl {i:Nat} (h:(jN xs ys)[i]?=ϊ d):∃x y,xs[i]?=ϊ x/\ys[i]?=ϊ y/\d=.tup [x,y]:=by
 delta jN at h;rw[å] at h
 cases Z:(xs.zip ys)[i]? with
 |none=>rw[Z] at h;cases h
 |some p =>
  rw[Z] at h;obtain⟨Y,X⟩:=List.getElem?_zip_eq_some.mp Z;exact⟨_,_,Y,X,(agX h).symm⟩
def CQ:(jN xs ys).length=min xs.length ys.length:=by simp[jN]
def VQ (S':bg K w') (hp:w'.H p=ϋ) (h1:DV K w' d x) (h2:DV K w' d2 y) :
  ∃w2,w2.H=upd w'.H p (.tup [x,y])/\Le K w' w2/\bg K w2/\w2.aY=w'.aY/\DV K w2 (.tup [d,d2]) (.ref p) :=
 ⟨_,rfl,(Fw.grow hp).le,S'.grow hp,rfl,p,_,rfl,cb.of dC,(Fw.grow hp).le.all (aC.two h1 h2)⟩
@[reducible] noncomputable def Ha:Bool->List D->D
 |true=>.tup
 |false=>.lst
def Pf {a} {ds}:∀{k},DV K w (Ha k ds) (.ref a)->∃xs,kq k K w.H a xs/\aC K w ds xs
 |true,h=>by
  obtain⟨p,xs,e,Z,Y⟩:=h;cases e;exact⟨xs,Z,Y⟩
 |false,h=>by
  obtain⟨p,xs,e,Z,Y⟩:=h;cases e;exact⟨xs,Z.sq,Y⟩
def Xm {K} {w} {a b} {ds es} (h:DV K w (Ha k ds) (.ref a)) (g:DV K w (Ha l es) (.ref b)):qu K w (AS k l K a b) (jN ds es):=λF U O i=>by
 obtain⟨Z,Y,T⟩:=Pf (U _ _ h);obtain⟨X,W,S⟩:=Pf (U _ _ g);refine⟨λd N=>?_,λM=>⟨Z,X,Y,W,?_⟩⟩
 ·obtain⟨x,y,e1,e2,rfl⟩:=Xl N
  obtain⟨v,ev,L⟩:=T.get' i x e1;obtain⟨u,R,J⟩:=S.get' i y e2;refine⟨⟨Z,X,v,u,Y,W,ev,R⟩,λz E ⟨r,D,y1,I,H,G,V⟩=>?_⟩;obtain⟨Q,P⟩:=V Z X Y W;rw[ev] at Q;rw[R] at P;cases Q;cases P;subst H G;exact VQ O I L J
 ·rw[CQ] at M
  have:=T.length;have:=S.length;omega
def Xn {a b} {ds es} (h:DV K w (.tup ds) (.ref a)) (g:DV K w (.tup es) (.ref b)):qu K w (aeJ K a b) (jN ds es):=Xm h g
def uP (fa:agS (List D)):agS (List D):=λenv s=>ai (fa env s) λZ s=>match Z with
 | [.tup Y,.tup X]=>ok (jN Y X) s
 |_=>ϋ
def ac3 {p} {elts} {kk} {xA} (hg:Gl X "zip") (hm:X.mg "zip"=ϋ) (ha:PA X [a,b] (tA X.K Ξ fa)) (hs:Ì [a,b] X.env=[(ύ,į a X.env),(ύ,į b X.env)]:=by rfl) (de:Ì [b] X.env=[(ύ,į b X.env)]:=by rfl) :
  PI X (.Tuple elts kk xA) (.Call (.Name "zip" p) [a,b] [] pos) (fH X.K Ξ (uP fa)):=by
 refine rb (Y5 hg hm ha hs de) fun σ H R W=>?_;obtain⟨w,env,V,S,U,h⟩:=W;subst V;refine⟨w,env,rfl,S,U,(Out.ai h).mono λF E D T h C Q=>?_⟩;split at h
 ·obtain⟨v,r,rfl,Z,v2,B,rfl,Y,P⟩:=Q
  have O:=P;subst O;have N:=Z;have M:=Y;obtain⟨p,L,rfl,J,_⟩:=N;obtain⟨q,I,rfl,G,_⟩:=M;exact⟨p,q,L,I,rfl,J,G,aK T h _ (Xn Z Y)⟩
 ·exact h.elim
def aB (fn:List D->ag->Res D) (fa:agS (List D)):agS D:=λenv s=>ai (fa env s) λZ s=>ne (fn Z s)
def aa5 {fA} {fd} {yC} {fn} {x} {p} (F:dD X.prog X.w X.K X.mg X.base fg k fA fd yC (mh X.K fn)) (hr:bV k X.A) (hg:Gl X x) (hm:X.mg x=ϊ (.ref fA)) (hk:Ņ X.K (.ref fA)=ό) (hb:Binds X.K fd yC [])
  (ha:PA X (e::es) (tA X.K Ξ fa)) (eQ:(x==("__debug__"))=ύ:=by decide) (he:Ì (e::es) X.env=(ύ,į e X.env)::Ì es X.env:=by rfl) (bY:(İ pos (Ì es X.env)).any (·.1)=ύ:=by rfl) :
  PE X (.Call (.Name x p) (e::es) [] pos) (tE X.K Ξ (aB fn fa)):=cN (MR F hr hg hm hk hb .nil acU ha eQ he bY) fun σ H Q Z=>by
 obtain⟨w,env,Y,S,W,h⟩:=Z;subst Y;refine⟨w,env,rfl,S,W,(Out.ai h).mono λV U O T R N P=>?_⟩;show mh _ fn _ _ Q E0;rw[ú];exact⟨V,U,rfl,T,P,R.ne⟩
def aC.env (h:aC K w ds vs) (n):cg K w (ds.map ϊ++Õ (n-ds.length) ϋ) (vs.map ϊ++Õ (n-vs.length) ϋ):=by
 have X:=h.length;refine⟨by simp[X],λi d e=>?_⟩;by_cases Y:i<ds.length
 ·rw[ç (by simpa using Y),å] at e
  rw[ç (by simp;omega),å]
  cases Z:ds[i]? with
  |none=>rw[Z] at e;cases e
  |some V =>
   rw[Z] at e;cases e;obtain⟨v,ev,W⟩:=h.get' i d Z;exact⟨v,by rw[ev];rfl,W⟩
 ·rw[ô (by simpa using adL Y),Ī] at e
  split at e<;>cases e
end
def ac4 (F:qo K x qual st f fd) (S:tV N ps (cI st))
 (hb:∀bw A outer s H E,bV k (A.deeper (ķ qual (cI st) s.heap.objs.size f bw))->dP (iC fg P w K mg base N qual (cI st) f bw A outer s H E).oX (gS st) (tS K cM b)) :
  dD P w K mg base fg (k+1) f fd ps (mh K (aO ps.length N.length b)):=by
 refine F.ok S (λW H Q E h=>?_) (λbw A outer s H W Q E V h=>?_)
 ·obtain⟨w,U,rfl,S,Y,h⟩:=h
  rw[<- Y.length];delta aO at h;split at h
  ·assumption
  ·exact h.elim
 ·obtain⟨w,U,rfl,S,Y,h⟩:=h
  refine⟨_,hb bw A outer s _ E V,?_⟩;delta aO at h;split at h
  ·rename_i T
   rw[<- T] at h;refine⟨w,_,rfl,S,Y.env _,(Out.ai h).mono λO R M X Z=>?_⟩
   cases R with
   |nx env=>intro L _;exact aK X Z _ rfl
   |rt d=>have q:=aK X Z;exact q
   |bk env=>exact Z.elim
   |ct env=>exact Z.elim
  ·exact h.elim
mutual
noncomputable def py:D->PyData
 | .az=>.none
 | .bl b=>.bool b
 | .int i=>.int i
 | .str x=>.str x
 | .tup Z=>.tuple (iL Z)
 | .lst Z=>.list (iL Z)
 | .cL Y=>.dict (Y.map λp=>(xD p.1,PyData.int p.2))
 | .au _=>.none
 | .ty _=>.none
 | .cS _=>.none
 | .exc ..=>.none
 | .dR ..=>.none
noncomputable def iL:List D->List PyData
 | []=>[]
 |d::Z=>py d::iL Z
end
mutual
noncomputable def plain:D->Bool
 | .az=>ό
 | .bl _=>ό
 | .int _=>ό
 | .str _=>ό
 | .tup Z=>rf Z
 | .lst Z=>rf Z
 | .cL _=>ό
 | .au _=>ύ
 | .ty _=>ύ
 | .cS _=>ύ
 | .exc ..=>ύ
 | .dR ..=>ύ
noncomputable def rf:List D->Bool
 | []=>ό
 |d::Z=>plain d&&rf Z
end
mutual
noncomputable def lay:D->Bool
 | .az=>ό
 | .bl _=>ό
 | .int _=>ό
 | .str x=>à x
 | .tup Z=>dA Z
 | .lst Z=>dA Z
 | .cL _=>ύ
 | .au _=>ύ
 | .ty _=>ύ
 | .cS _=>ύ
 | .exc ..=>ύ
 | .dR ..=>ύ
noncomputable def dA:List D->Bool
 | []=>ό
 |d::Z=>lay d&&dA Z
end
mutual
noncomputable def dep:D->Nat
 | .tup Z=>fE Z+1
 | .lst Z=>fE Z+1
 | .cL Y=>1
 | .az=>0
 | .bl _=>0
 | .int _=>0
 | .str _=>0
 | .au _=>0
 | .ty _=>0
 | .cS _=>0
 | .exc ..=>0
 | .dR ..=>0
noncomputable def fE:List D->Nat
 | []=>0
 |d::Z=>max (dep d) (fE Z)
end
mutual
noncomputable def beq:D->D->Bool
 | .az,.az=>ό
 | .bl a,.bl b=>a==b
 | .bl a,.int j=>(if a then 1 else 0)==j
 | .int i,.bl b=>i==(if b then 1 else 0)
 | .int i,.int j=>i==j
 | .str x,.str y=>x==y
 | .tup Z,.tup Y=>jo Z Y
 | .lst Z,.lst Y=>jo Z Y
 |_,_=>ύ
noncomputable def jo:List D->List D->Bool
 | [],[]=>ό
 |x::Z,y::Y=>beq x y&&jo Z Y
 |_,_=>ύ
end
mutual
theorem qL:∀d,lay d=ό->plain d=ό
 | .az,_=>rfl
 | .bl _,_=>rfl
 | .int _,_=>rfl
 | .str _,_=>rfl
 | .tup Z,h=>by exact qH Z h
 | .lst Z,h=>by erw[lay,plain] at h |-;exact qH Z h
 | .cL _,h=>by simp[lay] at h
 | .au _,h=>by simp[lay] at h
 | .ty _,h=>by simp[lay] at h
 | .cS _,h=>by simp[lay] at h
 | .exc ..,h=>by simp[lay] at h
 | .dR ..,h=>by simp[lay] at h
theorem qH:∀ds,dA ds=ό->rf ds=ό
 | [],_=>rfl
 |d::ds,h=>by
  erw[dA,rf,Â] at h |-;exact⟨qL d h.1,qH ds h.2⟩
end
mutual
theorem oi:∀d,lay d=ό->(py d).canLay0=ό/\(py d).depth=dep d
 | .az,_=>⟨rfl,by simp[py,dep,PyData.depth]⟩
 | .bl _,_=>⟨rfl,by simp[py,dep,PyData.depth]⟩
 | .int _,_=>⟨rfl,by simp[py,dep,PyData.depth]⟩
 | .str _,h=>⟨h,by simp[py,dep,PyData.depth]⟩
 | .tup Z,h=>by
  obtain⟨Y,X⟩:=v9 Z (by simpa [lay] using h);erw[py,dep,PyData.depth,PyData.canLay0];exact⟨Y,by rw[X]⟩
 | .lst Z,h=>by
  obtain⟨Y,X⟩:=v9 Z (by simpa [lay] using h);erw[py,dep,PyData.depth,PyData.canLay0];exact⟨Y,by rw[X]⟩
 | .cL _,h=>by simp[lay] at h
 | .au _,h=>by simp[lay] at h
 | .ty _,h=>by simp[lay] at h
 | .cS _,h=>by simp[lay] at h
 | .exc ..,h=>by simp[lay] at h
 | .dR ..,h=>by simp[lay] at h
theorem v9:∀ds,dA ds=ό->PyData.canLayAll0 (iL ds)=ό/\agx (iL ds)=fE ds
 | [],_=>⟨rfl,rfl⟩
 |d::ds,h=>by
  erw[dA,Â] at h;obtain⟨a1,a2⟩:=oi d h.1;obtain⟨Z,Y⟩:=v9 ds h.2;erw[iL,fE,PyData.canLayAll0,agx,a1,Z,a2,Y,Ĥ,Ğ]
end
mutual
theorem wK:∀d e,lay d=ό->lay e=ό->ī (py d) (py e)=beq d e
 | .tup Z,.tup Y,h,g=>by
  exact CS Z Y (by simpa [lay] using h) (by simpa [lay] using g)
 | .lst Z,.lst Y,h,g=>by
  exact CS Z Y (by simpa [lay] using h) (by simpa [lay] using g)
 | .az,e,_,g=>by cases e<;>simp_all [py,beq,ī,lay]
 | .bl _,e,_,g=>by cases e<;>simp_all [py,beq,ī,lay]
 | .int _,e,_,g=>by cases e<;>simp_all [py,beq,ī,lay]
 | .str _,e,_,g=>by cases e<;>simp_all [py,beq,ī,lay]
 | .tup _,.az,_,_=>by simp[py,beq,ī]
 | .tup _,.bl _,_,_=>by simp[py,beq,ī]
 | .tup _,.int _,_,_=>by simp[py,beq,ī]
 | .tup _,.str _,_,_=>by simp[py,beq,ī]
 | .tup _,.lst _,_,_=>by simp[py,beq,ī]
 | .lst _,.az,_,_=>by simp[py,beq,ī]
 | .lst _,.bl _,_,_=>by simp[py,beq,ī]
 | .lst _,.int _,_,_=>by simp[py,beq,ī]
 | .lst _,.str _,_,_=>by simp[py,beq,ī]
 | .lst _,.tup _,_,_=>by simp[py,beq,ī]
 | .cL _,_,h,_=>by simp[lay] at h
 | .au _,_,h,_=>by simp[lay] at h
 | .ty _,_,h,_=>by simp[lay] at h
 | .cS _,_,h,_=>by simp[lay] at h
 | .exc ..,_,h,_=>by simp[lay] at h
 | .dR ..,_,h,_=>by simp[lay] at h
 |_,.cL _,_,h=>by simp[lay] at h
 |_,.au _,_,h=>by simp[lay] at h
 |_,.ty _,_,h=>by simp[lay] at h
 |_,.cS _,_,h=>by simp[lay] at h
 |_,.exc ..,_,h=>by simp[lay] at h
 |_,.dR ..,_,h=>by simp[lay] at h
theorem CS:∀ds es,dA ds=ό->dA es=ό->PyData.eqvAll (iL ds) (iL es)=jo ds es
 | [],[],_,_=>rfl
 | [],_::_,_,_=>rfl
 |_::_,[],_,_=>rfl
 |d::ds,e::es,h,g=>by
  erw[dA,Â] at h g;erw[iL,jo,PyData.eqvAll,wK d e h.1 g.1,CS ds es h.2 g.2]
end
mutual
theorem DV.py:∀{d} {v},DV K w d v->plain d=ό->L2.DV K (λ_=>False) w.H (DI.py d) v
 | .az,_,h,_=>h
 | .bl _,_,h,_=>h
 | .int _,_,h,_=>h
 | .str _,_,h,_=>h
 | .tup X,v,h,p=>by
  obtain⟨a,Y,e,Z,r⟩:=h;exact⟨a,Y,e,Z,aC.py r (by simpa [plain] using p)⟩
 | .lst X,v,h,p=>by
  obtain⟨a,Y,e,Z,r⟩:=h;exact⟨a,Y,e,not_false,Z.2,aC.py r (by simpa [plain] using p)⟩
 | .cL W,v,h,p=>by
  obtain⟨a,e,V,Z⟩:=h;exact⟨a,_,e,not_false,Z,W,rfl,rfl⟩
 | .au _,_,_,p=>by simp[plain] at p
 | .ty _,_,_,p=>by simp[plain] at p
 | .cS _,_,_,p=>by simp[plain] at p
 | .exc ..,_,_,p=>by simp[plain] at p
 | .dR ..,_,_,p=>by simp[plain] at p
theorem aC.py:∀{ds} {vs},aC K w ds vs->rf ds=ό->L2.aC K (λ_=>False) w.H (DI.iL ds) vs
 | [],_,h,_=>h
 |d::ds,vs,h,p=>by
  obtain⟨v,r,e,Z,Y⟩:=h;erw[rf,Â] at p;exact⟨v,r,e,DV.py Z p.1,aC.py Y p.2⟩
end
noncomputable def res (d:D) (s:ag):D:=match d with
 | .au k=>match s[k]? with
  |some (.lst Z)=>.lst Z
  |_=>d
 |_=>d
theorem DV.res (S:bg K w) (h:DV K w d v) (p:plain (DI.res d w.aY)=ό):L2.DV K (λ_=>False) w.H (DI.py (DI.res d w.aY)) v:=by
 cases d with
 |au k =>
  delta DI.res at p |-;simp only at p |-
  split at p<;>rename_i Z
  ·obtain⟨a,e1,rfl⟩:=h
   obtain⟨Y,X,W⟩:=S.cell k a _ e1 Z;exact⟨a,Y,rfl,not_false,X,W.py (by simpa [plain] using p)⟩
  ·simp[plain] at p
 |_=>exact h.py p
noncomputable def nM:D->Bool
 | .str _=>ό
 |_=>ύ
def aa6 (h:nM d=ό):∃x,d=.str x:=by cases d<;>first|exact⟨_,rfl⟩|cases h
def jf (x y:D):Option Bool:=if (nM x&&nM y)=ό then ϊ (beq x y) else if (lay x&&lay y&&ώ (min (dep x) (dep y)<=100))=ό then ϊ (beq x y) else ϋ
def aX (x y:D) (s:ag):Res D:=match jf (res x s) (res y s) with
 |some b=>ok (.bl b) s
 |none=>ϋ
def cX (x y:D) (s:ag):Res D:=match jf (res x s) (res y s) with
 |some b=>ok (.bl (!b)) s
 |none=>ϋ
def Na (S:bg K w) (hx:DV K w x v) (hy:DV K w y u) (h:jf (res x w.aY) (res y w.aY)=ϊ b) :
  (FX v u=ό/\ώ (v=u)=b)\/∃(d e:PyData),L2.DV K (λ_=>False) w.H d v/\L2.DV K (λ_=>False) w.H e u/\d.canLay0=ό/\e.canLay0=ό/\min d.depth e.depth<=100/\ī d e=b:=by
 have str:∀{d} {v},nM (res d w.aY)=ό->DV K w d v->∃x,res d w.aY=.str x/\v=.str x:=λ{d v} Z V=>by
  obtain⟨x,e⟩:=aa6 Z
  cases d with
  |str y=>cases e;exact⟨x,rfl,V⟩
  |au k =>
   delta res at e;simp only at e
   split at e<;>cases e
  |_=>cases e
 delta jf at h;split at h
 ·rename_i Z
  rw[Â] at Z;obtain⟨a,U,rfl⟩:=str Z.1 hx;obtain⟨c,T,rfl⟩:=str Z.2 hy;rw[U,T] at h;exact .inl ⟨rfl,by rw[<- agX h];exact Dy⟩
 split at h
 ·rename_i W
  right;erw[Â,Ã] at W;obtain⟨⟨Y,X⟩,R⟩:=W;obtain⟨Q,P⟩:=oi _ Y;obtain⟨O,N⟩:=oi _ X;exact⟨_,_,hx.res S (qL _ Y),hy.res S (qL _ X),Q,O,by rw[P,N];exact R,by rw[wK _ _ Y X];exact agX h⟩
 ·cases h
section
variable {X:Cx} {Ξ:Wd->bE->Prop}
def bL (hr:bV k X.A):bP X (đ .Eq) (rO X.K Ξ aX):=by
 intro W s σ H x y v u Q I V U zzz;obtain⟨w,J,G,rfl,S,T,R,h⟩:=zzz;delta aX at h;split at h
 ·rename_i b P
  rcases Na S T R P with ⟨Z,Y⟩ | ⟨d,e,Z,Y,O,N,M,L⟩
  ·exact acG W s σ _ x y v u Q I V U ⟨Z,by rw[Y];exact aK S h _ rfl⟩
  exact aaV hr W s σ _ x y v u Q I V U ⟨d,e,_,Z,Y,O,N,M,by rw[L];exact aK S h _ rfl⟩
 ·exact h.elim
def jO (hr:bV k X.A):bP X (đ .NotEq) (rO X.K Ξ cX):=by
 intro W s σ H x y v u Q I V U zzz;obtain⟨w,J,G,rfl,S,T,R,h⟩:=zzz;delta cX at h;split at h
 ·rename_i b P
  rcases Na S T R P with ⟨Z,Y⟩ | ⟨d,e,Z,Y,O,N,M,L⟩
  ·exact O6 W s σ _ x y v u Q I V U ⟨Z,by rw[Y];exact aK S h _ rfl⟩
  exact aaW hr W s σ _ x y v u Q I V U ⟨d,e,_,Z,Y,O,N,M,by rw[L];exact aK S h _ rfl⟩
 ·exact h.elim
end
end DI
namespace DI
open PySem L2
def bW (r:Option D) (s:ag):Res D:=match r with
 |some d=>ok d s
 |none=>ϋ
def gU (h:Out K Ξ w (bW r w.aY) k):∃d,r=ϊ d/\Out K Ξ w (ok d w.aY) k:=by
 delta bW at h;split at h
 ·exact⟨_,rfl,h⟩
 ·exact h.elim
noncomputable def uQ (xs ys:List D):Bool:=ώ (xs.length+ys.length<=Ô)
def AX:D->D->Option D
 | .int i,.int j=>ϊ (.int (i+j))
 | .tup Z,.tup Y=>if uQ Z Y=ό then ϊ (.tup (Z++Y)) else ϋ
 | .lst Z,.lst Y=>if uQ Z Y=ό then ϊ (.lst (Z++Y)) else ϋ
 | .str x,.str y=>if ώ (x.length+y.length<=Ô)=ό then ϊ (.str (x++y)) else ϋ
 |_,_=>ϋ
def bK (x y:D) (s:ag):Res D:=bW (AX (res x s) (res y s)) s
noncomputable def Qw:D->D->Option D
 | .int i,.int j=>ϊ (.int (i-j))
 |_,_=>ϋ
def uw (x y:D) (s:ag):Res D:=bW (Qw x y) s
noncomputable def xb (i j:Int):Bool:=(ώ (-(2 ^ 64)<i)&&ώ (i<2 ^ 64))||(ώ (-(2 ^ 64)<j)&&ώ (j<2 ^ 64))
def F9:D->D->Option D
 | .int i,.int j=>if xb i j=ό then ϊ (.int (i*j)) else ϋ
 | .tup Z,.int k=>if (!Z.isEmpty&&ώ (1<=k)&&ώ (Z.length*k.toNat<=Ô))=ό then ϊ (.tup (Õ k.toNat Z).flatten) else ϋ
 | .lst Z,.int k=>if (ώ (-(2 ^ 63)<=k)&&ώ (k<2 ^ 63)&&ώ (Z.length*k.toNat<=Ô))=ό then ϊ (.lst (Õ k.toNat Z).flatten) else ϋ
 |_,_=>ϋ
def gg (x y:D) (s:ag):Res D:=bW (F9 x y) s
noncomputable def Ga:D->D->Option D
 | .int i,.int j=>if ώ (0<j)=ό then ϊ (.int (i % j)) else ϋ
 |_,_=>ϋ
def oA (x y:D) (s:ag):Res D:=bW (Ga x y) s
noncomputable def Gb:D->D->Option D
 | .int i,.int j=>if (ώ (0<j)&&ώ (j<1073741824))=ό then ϊ (.int (i / j)) else ϋ
 |_,_=>ϋ
def oB (x y:D) (s:ag):Res D:=bW (Gb x y) s
noncomputable def AY:D->D->Option D
 | .int i,.int j=>if (ώ (0<=j)&&ώ (j<=1000000)&&ώ (i.natAbs<2 ^ 64))=ό then ϊ (.int (i ^ j.toNat)) else ϋ
 |_,_=>ϋ
def pU (x y:D) (s:ag):Res D:=bW (AY x y) s
noncomputable def Qx:D->Option D
 | .int i=>ϊ (.int (-i))
 |_=>ϋ
def jg (x:D) (s:ag):Res D:=bW (Qx x) s
theorem aC.flat (h:aC K w ds vs):∀n,aC K w (Õ n ds).flatten (Õ n vs).flatten
 |0=>rfl
 |n+1=>by
  exact aC.append h (aC.flat h n)
def lG (S:bg K w) (h:DV K w d v) (e:res d w.aY=.lst ds):∃a xs,v=.ref a/\w.H a=ϊ (.lst xs)/\aC K w ds xs:=by
 delta res at e;split at e
 ·rename_i k
  split at e
  ·rename_i V Z
   cases e;obtain⟨a,e1,rfl⟩:=h;obtain⟨xs,Y,X⟩:=S.cell k a _ e1 Z;exact⟨a,xs,rfl,Y,X⟩
  ·cases e
 ·subst e
  obtain⟨a,xs,e,W,r⟩:=h;exact⟨a,xs,e,W.2,r⟩
def fZ (h:res d s=e) (hl:∀ds,e≠.lst ds):d=e:=by
 delta res at h;split at h
 ·split at h
  ·exact absurd h.symm (hl _)
  ·exact h
 ·exact h
section
variable {X:Cx} {Ξ:Wd->bE->Prop}
def xE (S:bg K w) (ak:aC K w ds vs) (h:Out K Ξ w (ok (D.tup ds) w.aY) λw' d=>∀v,DV K w' d v->Q v w'.H):qa K w.H vs Q:=λa Y e Z =>
 h _ (Fw.same e).le (S.same e) rfl _ ⟨a,vs,rfl,Z,(Fw.same e).le.all ak⟩
def AZ {ds} {vs} {Q:VK} (S:bg K w) (ak:aC K w ds vs) (h:Out K Ξ w (ok (D.lst ds) w.aY) λw' d=>∀v,DV K w' d v->Q v w'.H):∀p,w.H p=ϋ->Q (.ref p) (upd w.H p (.lst vs)):=λp Y =>
 h _ (Fw.grow Y).le (S.grow Y) rfl _ ⟨p,vs,rfl,⟨(show ¬ w.Z p from oh S Y),dC⟩,(Fw.grow Y).le.all ak⟩
def aa7 {ds} {vs} {Q:VK} (S:bg K w) (ak:aC K w ds vs) (h:Out K Ξ w (ok (D.tup ds) w.aY) λw' d=>∀v,DV K w' d v->Q v w'.H):∀p,w.H p=ϋ->Q (.ref p) (upd w.H p (.tup vs)):=λp Z =>
 h _ (Fw.grow Z).le (S.grow Z) rfl _ ⟨p,vs,rfl,cb.of dC,(Fw.grow Z).le.all ak⟩
def cu:bP X (Ľ .Add) (rO X.K Ξ bK):=by
 intro T s σ H x y v u Q I R P zzz;obtain⟨w,J,G,rfl,S,Z,Y,h⟩:=zzz;obtain⟨d,e,h⟩:=gU h;delta AX at e;split at e
 ·rename_i i j e1 e2
  rw[fZ e1 (by intro _ z;cases z)] at Z;rw[fZ e2 (by intro _ z;cases z)] at Y;cases e;cases Z;cases Y;exact aaB T s σ _ _ _ v u Q I R P ⟨i,j,rfl,rfl,aK S h _ rfl⟩
 ·rename_i M L e1 e2
  rw[fZ e1 (by intro _ z;cases z)] at Z;rw[fZ e2 (by intro _ z;cases z)] at Y;split at e
  ·rename_i W
   cases e;obtain⟨a,as,rfl,O,V⟩:=Z;obtain⟨b,bs,rfl,N,U⟩:=Y;exact YZ T s σ _ _ _ v u Q I R P ⟨a,b,as,bs,rfl,rfl,O,N,by rw[<- V.length,<- U.length];exact ß W,xE S (V.append U) h⟩
  ·cases e
 ·rename_i M L e1 e2
  split at e
  ·rename_i W
   cases e;obtain⟨a,as,rfl,O,V⟩:=lG S Z e1;obtain⟨b,bs,rfl,N,U⟩:=lG S Y e2;exact aaR T s σ _ _ _ v u Q I R P ⟨a,b,as,bs,rfl,rfl,O,N,by rw[<- V.length,<- U.length];exact ß W,AZ S (V.append U) h⟩
  ·cases e
 ·rename_i i j e1 e2
  rw[fZ e1 (by intro _ z;cases z)] at Z;rw[fZ e2 (by intro _ z;cases z)] at Y;split at e
  ·rename_i W
   cases e;cases Z;cases Y;exact Ux T s σ _ _ _ v u Q I R P ⟨i,j,rfl,rfl,ß W,aK S h _ rfl⟩
  ·cases e
 ·cases e
def EZ:bP X (Ľ .Sub) (rO X.K Ξ uw):=by
 intro Z s σ H x y v u Q I Y W zzz;obtain⟨w,T,R,rfl,S,V,U,h⟩:=zzz;obtain⟨d,e,h⟩:=gU h;delta Qw at e;split at e
 ·rename_i i j
  cases V;cases U;exact aaC Z s σ _ _ _ v u Q I Y W ⟨i,j,rfl,rfl,aK S h _ rfl⟩
 ·cases e
def kN:bP X (Ľ .Mult) (rO X.K Ξ gg):=by
 intro W s σ H x y v u Q I V U zzz;obtain⟨w,M,L,rfl,S,T,R,h⟩:=zzz;obtain⟨d,e,h⟩:=gU h;delta F9 at e;split at e
 ·rename_i i j
  split at e
  ·rename_i Z
   cases e;cases T;cases R;refine aaD W s σ _ _ _ v u Q I V U ⟨i,j,rfl,rfl,?_,aK S h _ rfl⟩;delta AO;simpa [xb] using Z
  ·cases e
 ·rename_i O k
  split at e
  ·rename_i Z
   cases e;cases R;erw[Â,Ã] at Z;obtain⟨a,as,rfl,P,Y⟩:=T;have N:=Y.length;refine Zb W s σ _ _ _ v u Q I V U ⟨a,as,k,rfl,rfl,P,?_,Z.1.2,by rw[<- N];exact Z.2,xE S (Y.flat _) h⟩;intro z;subst z
   cases O with
   |nil=>simp at Z
   |cons _ _=>cases N
  ·cases e
 ·rename_i O k
  split at e
  ·rename_i Z
   cases e;cases R;erw[Â,Ã] at Z;obtain⟨a,as,rfl,P,Y⟩:=T;exact aaS W s σ _ _ _ v u Q I V U ⟨a,k,as,rfl,rfl,P.2,Z.1.1,Z.1.2,by rw[<- Y.length];exact Z.2,AZ S (Y.flat _) h⟩
  ·cases e
 ·cases e
def ux:bP X (Ľ .Mod) (rO X.K Ξ oA):=by
 intro Z s σ H x y v u Q I Y W zzz;obtain⟨w,R,P,rfl,S,V,U,h⟩:=zzz;obtain⟨d,e,h⟩:=gU h;delta Ga at e;split at e
 ·rename_i i j
  split at e
  ·rename_i T
   cases e;cases V;cases U;exact aaE Z s σ _ _ _ v u Q I Y W ⟨i,j,rfl,rfl,ß T,aK S h _ rfl⟩
  ·cases e
 ·cases e
def Az:bP X (Ľ .FloorDiv) (rO X.K Ξ oB):=by
 intro Y s σ H x y v u Q I W V zzz;obtain⟨w,R,P,rfl,S,U,T,h⟩:=zzz;obtain⟨d,e,h⟩:=gU h;delta Gb at e;split at e
 ·rename_i i j
  split at e
  ·rename_i Z
   erw[Â,Ã] at Z;cases e;cases U;cases T;exact YI Y s σ _ _ _ v u Q I W V ⟨i,j,rfl,rfl,Z,aK S h _ rfl⟩
  ·cases e
 ·cases e
def E1:bP X (Ľ .Pow) (rO X.K Ξ pU):=by
 intro Y s σ H x y v u Q I W V zzz;obtain⟨w,R,P,rfl,S,U,T,h⟩:=zzz;obtain⟨d,e,h⟩:=gU h;delta AY at e;split at e
 ·rename_i i j
  split at e
  ·rename_i Z
   erw[Â,Ã] at Z;cases e;cases U;cases T;exact aaF Y s σ _ _ _ v u Q I W V ⟨i,j,rfl,rfl,⟨Z.1.1,Z.1.2,Z.2⟩,aK S h _ rfl⟩
  ·cases e
 ·cases e
def mR:ym X (unaryOp .USub) (rU X.K Ξ jg):=by
 intro Z s σ H x v Q I Y zzz;obtain⟨w,V,rfl,S,W,h⟩:=zzz;obtain⟨d,e,h⟩:=gU h;delta Qx at e;split at e
 ·rename_i i
  cases W;exact aaG Z s σ _ _ v Q I Y ⟨i,rfl,aK S h _ rfl⟩
 ·cases e
noncomputable def uR (p:Int->Int->Bool):D->D->Option D
 | .int i,.int j=>ϊ (.bl (p i j))
 |_,_=>ϋ
def rS (x y:D) (s:ag):Res D:=bW (uR (λi j=>ώ (i<=j)) x y) s
def kR (x y:D) (s:ag):Res D:=bW (uR (λi j=>ώ (j<i)) x y) s
def xI (x y:D) (s:ag):Res D:=bW (uR (λi j=>ώ (j<=i)) x y) s
def A0:bP X (đ .LtE) (rO X.K Ξ rS):=by
 intro Z s σ H x y v u Q I Y W zzz;obtain⟨w,T,R,rfl,S,V,U,h⟩:=zzz;obtain⟨d,e,h⟩:=gU h;delta uR at e;split at e
 ·rename_i i j
  cases V;cases U;exact acH Z s σ _ _ _ v u Q I Y W ⟨i,j,rfl,rfl,aK S h _ rfl⟩
 ·cases e
def rT:bP X (đ .Gt) (rO X.K Ξ kR):=by
 intro Z s σ H x y v u Q I Y W zzz;obtain⟨w,T,R,rfl,S,V,U,h⟩:=zzz;obtain⟨d,e,h⟩:=gU h;delta uR at e;split at e
 ·rename_i i j
  cases V;cases U;exact acI Z s σ _ _ _ v u Q I Y W ⟨i,j,rfl,rfl,aK S h _ rfl⟩
 ·cases e
def Qy:bP X (đ .GtE) (rO X.K Ξ xI):=by
 intro Z s σ H x y v u Q I Y W zzz;obtain⟨w,T,R,rfl,S,V,U,h⟩:=zzz;obtain⟨d,e,h⟩:=gU h;delta uR at e;split at e
 ·rename_i i j
  cases V;cases U;exact acJ Z s σ _ _ _ v u Q I Y W ⟨i,j,rfl,rfl,aK S h _ rfl⟩
 ·cases e
noncomputable def Hb:D->Bool
 | .az=>ό
 |_=>ύ
def E2 (x y:D) (s:ag):Res D:=match y with
 | .az=>ok (.bl (Hb x)) s
 |_=>ϋ
def Em (x y:D) (s:ag):Res D:=match y with
 | .az=>ok (.bl (!Hb x)) s
 |_=>ϋ
def Oc (h:DV K w d v):ώ (v=.az)=Hb d:=by
 cases d with
 |az=>cases h;rfl
 |bl b=>cases h;rfl
 |int b=>cases h;rfl
 |str b=>cases h;rfl
 |ty b=>cases h;rfl
 |tup Z=>obtain⟨a,Y,rfl,_⟩:=h;rfl
 |lst Z=>obtain⟨a,Y,rfl,_⟩:=h;rfl
 |cL Z=>obtain⟨a,rfl,_⟩:=h;rfl
 |au k=>obtain⟨a,_,rfl⟩:=h;rfl
 |cS k=>obtain⟨a,rfl,_⟩:=h;rfl
 |exc o _=>obtain⟨a,_,_,rfl,_⟩:=h;rfl
 |dR o _ _=>obtain⟨rfl,_⟩:=h;rfl
def ac5:bP X (đ .Is) (rO X.K Ξ E2):=by
 intro Z s σ H x y v u Q I Y W zzz;obtain⟨w,T,R,rfl,S,V,U,h⟩:=zzz;delta E2 at h;split at h
 ·cases U
  exact aaH Z s σ _ _ _ v u Q I Y W ⟨rfl,by rw[Oc V];exact aK S h _ rfl⟩
 ·exact h.elim
def aa8:bP X (đ .IsNot) (rO X.K Ξ Em):=by
 intro Z s σ H x y v u Q I Y W zzz;obtain⟨w,T,R,rfl,S,V,U,h⟩:=zzz;delta Em at h;split at h
 ·cases U
  exact YJ Z s σ _ _ _ v u Q I Y W ⟨rfl,by rw[Oc V];exact aK S h _ rfl⟩
 ·exact h.elim
def jY (d i:D) (s:ag):Option D:=match res d s,i with
 | .lst Z,.int i=>cR Z i
 | .tup Z,.int i=>cR Z i
 | .cS Y,.int i=>(cR Y i).map D.int
 | .str x,.int i=>if ώ (x.length<=Ô)=ό then (cR x.cps.toList i).map λc=>.str ⟨#[c]⟩ else ϋ
 |_,_=>ϋ
def ar (x y:D) (s:ag):Res D:=bW (jY x y s) s
theorem aC.at (h:aC K w ds vs) (e:cR ds i=ϊ d):∃v,cR vs i=ϊ v/\DV K w d v:=by
 delta cR at e |-;rw[h.length] at e
 cases Z:fW _ i with
 |none=>rw[Z] at e;cases e
 |some j =>
  rw[Z] at e;exact h.get' j d e
def aeR:yr X (rO X.K Ξ ar):=by
 rintro value slice V s σ H x y v u Q I U T ⟨w,B,A,rfl,S,Z,R,h⟩ P;obtain⟨d,e,O⟩:=gU h;delta jY at e;split at e
 ·rename_i D i e1
  cases R;obtain⟨a,N,rfl,W,M⟩:=lG S Z e1;obtain⟨z,L,J⟩:=M.at e;exact MV value slice V s σ _ _ _ v u Q I U T ⟨a,N,i,z,rfl,rfl,cf.of W,L,aK S O _ J⟩ P
 ·rename_i D i e1
  cases R;rw[fZ e1 (by intro _ z;cases z)] at Z;obtain⟨a,N,rfl,W,M⟩:=Z;obtain⟨z,L,J⟩:=M.at e;exact aaM value slice V s σ _ _ _ v u Q I U T ⟨a,N,i,z,rfl,rfl,W,L,aK S O _ J⟩ P
 ·rename_i G i e1
  cases R;rw[fZ e1 (by intro _ z;cases z)] at Z;obtain⟨a,rfl,W⟩:=Z
  cases Y:cR G i with
  |none=>rw[Y] at e;cases e
  |some n =>
   rw[Y] at e;cases e;refine MV value slice V s σ _ _ _ v u Q I U T ⟨a,_,i,_,rfl,rfl,W.sq,?_,aK S O _ rfl⟩ P;delta cR at Y |-;rw[Ç]
   cases E:fW _ i with
   |none=>rw[E] at Y;cases Y
   |some j =>
    rw[E] at Y;show (G.map _)[j]?=ϊ _;rw[å,show G[j]?=ϊ n from Y];rfl
 ·rename_i z i e1
  cases R;rw[fZ e1 (by intro _ z;cases z)] at Z;cases Z;split at e
  ·rename_i C
   cases F:cR _ i with
   |none=>rw[F] at e;cases e
   |some c =>
    rw[F] at e;cases e;exact aaN value slice V s σ _ _ _ v u Q I U T ⟨z,i,c,rfl,rfl,ß C,F,aK S O _ rfl⟩ P
  ·cases e
 ·cases e
def aS (ha:PE X a (tE X.K Ξ f)) (hb:PE X b (tE X.K Ξ g)) (hs:MU b:=by intro _ _;rfl):PE X (.Subscript a b pos) (tE X.K Ξ (e2 ar f g)):=cN (acR aeR ha hb hs) zN
def uT (d:D) (s:ag):Option D:=match res d s with
 | .lst Z=>ϊ (.int Z.length)
 | .tup Z=>ϊ (.int Z.length)
 | .cS Y=>ϊ (.int Y.length)
 | .str x=>if ώ (x.length<=Ô)=ό then ϊ (.int x.length) else ϋ
 |_=>ϋ
def eJ (ds:List D) (s:ag):Res D:=match ds with
 | [d]=>bW (uT d s) s
 |_=>ϋ
def oj (h:aC K w [d] vs):∃v,vs=[v]/\DV K w d v:=by
 obtain⟨v,r,rfl,Z,Y⟩:=h;have e:=Y;subst e;exact⟨v,rfl,Z⟩
def wL (h:aC K w [d,e] vs):∃v u,vs=[v,u]/\DV K w d v/\DV K w e u:=by
 obtain⟨v,r,rfl,Z,h⟩:=h;obtain⟨u,rfl,Y⟩:=oj h;exact⟨v,u,rfl,Z,Y⟩
def jh:dh X (.builtin "len") (rC X.K Ξ eJ):=by
 intro V s σ H U T Q I r zzz;obtain⟨w,O,rfl,S,Y,h⟩:=zzz;delta eJ at h;split at h
 ·obtain⟨v,rfl,Z⟩:=oj Y
  obtain⟨d,e,h⟩:=gU h;delta uT at e;split at e
  ·rename_i R e1
   cases e;obtain⟨a,U,rfl,W,Y⟩:=lG S Z e1;exact BU V s σ _ _ T Q I r ⟨a,U,rfl,.inl (cf.of W),by rw[<- Y.length];exact aK S h _ rfl⟩
  ·rename_i R e1
   cases e;rw[fZ e1 (by intro _ z;cases z)] at Z;obtain⟨a,U,rfl,W,Y⟩:=Z;exact BU V s σ _ _ T Q I r ⟨a,U,rfl,.inr W,by rw[<- Y.length];exact aK S h _ rfl⟩
  ·rename_i N e1
   cases e;rw[fZ e1 (by intro _ z;cases z)] at Z;obtain⟨a,rfl,W⟩:=Z;exact BU V s σ _ _ T Q I r ⟨a,_,rfl,.inl W.sq,by rw[Ç];exact aK S h _ rfl⟩
  ·rename_i z e1
   rw[fZ e1 (by intro _ z;cases z)] at Z;cases Z;split at e
   ·rename_i P
    cases e;exact Te V s σ _ _ T Q I r ⟨z,rfl,ß P,aK S h _ rfl⟩
   ·cases e
  ·cases e
 ·exact h.elim
noncomputable def i3:List D->Option (List Bool)
 | []=>ϊ []
 | .bl b::Z=>(i3 Z).map λr=>b::r
 |_::_=>ϋ
theorem wM:∀{ds} {bs},i3 ds=ϊ bs->ds=bs.map D.bl
 | [],bs,h=>by cases h;rfl
 | .bl b::ds,bs,h=>by
  erw[i3] at h
  cases Z:i3 ds with
  |none=>rw[Z] at h;cases h
  |some r=>rw[Z] at h;cases h;rw[wM Z];rfl
 | .az::_,_,h=>by cases h
 | .int _::_,_,h=>by cases h
 | .str _::_,_,h=>by cases h
 | .tup _::_,_,h=>by cases h
 | .lst _::_,_,h=>by cases h
 | .cL _::_,_,h=>by cases h
 | .au _::_,_,h=>by cases h
 | .ty _::_,_,h=>by cases h
 | .cS _::_,_,h=>by cases h
 | .exc ..::_,_,h=>by cases h
 | .dR ..::_,_,h=>by cases h
def Zh:i3 (bs.map D.bl)=ϊ bs:=by
 induction bs with
 |nil=>rfl
 |cons b bs ih=>erw[Þ,i3,ih,Ž]
def nk (ds:List D) (s:ag):Res D:=match ds with
 | [d]=>match res d s with
  | .lst Z=>bW ((i3 Z).map λbs=>.bl (bs.all id)) s
  |_=>ϋ
 |_=>ϋ
def uU (ds:List D) (s:ag):Res D:=match ds with
 | [d]=>match res d s with
  | .lst Z=>bW ((i3 Z).map λbs=>.bl (bs.any id)) s
  |_=>ϋ
 |_=>ϋ
def uy (hc:X.calm=ό):dh X (.builtin "all") (rC X.K Ξ nk):=by
 intro V s σ H U T Q I r zzz;obtain⟨w,O,rfl,S,Z,h⟩:=zzz;delta nk at h;split at h
 ·obtain⟨v,rfl,R⟩:=oj Z
  split at h
  ·rename_i P e1
   obtain⟨d,e,h⟩:=gU h
   cases Y:i3 P with
   |none=>rw[Y] at e;cases e
   |some bs =>
    rw[Y] at e;cases e;obtain⟨a,U,rfl,W,Z⟩:=lG S R e1;rw[wM Y] at Z;rw[Z.wq] at W;exact WZ hc V s σ _ _ T Q I r ⟨a,bs,rfl,cf.of W,aK S h _ rfl⟩
  ·exact h.elim
 ·exact h.elim
def Ph (hc:X.calm=ό):dh X (.builtin "any") (rC X.K Ξ uU):=by
 intro V s σ H U T Q I r zzz;obtain⟨w,O,rfl,S,Z,h⟩:=zzz;delta uU at h;split at h
 ·obtain⟨v,rfl,R⟩:=oj Z
  split at h
  ·rename_i P e1
   obtain⟨d,e,h⟩:=gU h
   cases Y:i3 P with
   |none=>rw[Y] at e;cases e
   |some bs =>
    rw[Y] at e;cases e;obtain⟨a,U,rfl,W,Z⟩:=lG S R e1;rw[wM Y] at Z;rw[Z.wq] at W;exact W0 hc V s σ _ _ T Q I r ⟨a,bs,rfl,cf.of W,aK S h _ rfl⟩
  ·exact h.elim
 ·exact h.elim
def xc (ds:List D) (s:ag):Res D:=match ds with
 | [.int i,.int j]=>ok (.int (if j > i then j else i)) s
 |_=>ϋ
def xg (ds:List D) (s:ag):Res D:=match ds with
 | [.int i,.int j]=>ok (.int (if j<i then j else i)) s
 |_=>ϋ
def aa9 (hc:X.calm=ό):dh X (.builtin "max") (rC X.K Ξ xc):=by
 intro Z s σ H T Y Q I r zzz;obtain⟨w,R,rfl,S,W,h⟩:=zzz;delta xc at h;split at h
 ·rename_i i j
  obtain⟨v,u,rfl,V,U⟩:=wL W;cases V;cases U;exact Vv hc Z s σ _ _ Y Q I r ⟨i,j,rfl,aK S h _ rfl⟩
 ·exact h.elim
def aba (hc:X.calm=ό):dh X (.builtin "min") (rC X.K Ξ xg):=by
 intro Z s σ H T Y Q I r zzz;obtain⟨w,R,rfl,S,W,h⟩:=zzz;delta xg at h;split at h
 ·rename_i i j
  obtain⟨v,u,rfl,V,U⟩:=wL W;cases V;cases U;exact Vw hc Z s σ _ _ Y Q I r ⟨i,j,rfl,aK S h _ rfl⟩
 ·exact h.elim
def i9 (ds:List D) (s:ag):Res D:=match ds with
 | [d]=>match res d s with
  | .lst Z=>ok (.tup Z) s
  | .tup Z=>ok (.tup Z) s
  |_=>ϋ
 |_=>ϋ
def mC:dh X (.type "tuple") (rC X.K Ξ i9):=by
 intro U s σ H Z T Q I r zzz;obtain⟨w,O,rfl,S,Y,h⟩:=zzz;delta i9 at h;split at h
 ·obtain⟨v,rfl,W⟩:=oj Y
  split at h
  ·rename_i R e1
   obtain⟨a,Z,rfl,V,Y⟩:=lG S W e1;exact JM U s σ _ _ T Q I r ⟨a,Z,rfl,.inl ⟨cf.of V,aa7 S Y h⟩⟩
  ·rename_i R e1
   rw[fZ e1 (by intro _ z;cases z)] at W;have P:=W;obtain⟨a,Z,rfl,V,Y⟩:=W;exact JM U s σ _ _ T Q I r ⟨a,Z,rfl,.inr ⟨V,aK S h _ P⟩⟩
  ·exact h.elim
 ·exact h.elim
end
def mS (n:Nat) (x:D) (ds:List D):Bool:=lay x&&dA ds&&ώ (dep x<=n)
def inD (x:D) (ds:List D):Option Bool:=if mS 100 x ds=ό then ϊ (ds.any λy=>beq y x) else ϋ
def lS (d:D) (s:ag):Option (List D):=match res d s with
 | .lst Z=>ϊ Z
 | .tup Z=>ϊ Z
 |_=>ϋ
def cz (x y:D) (s:ag):Res D:=match lS y s with
 |some Z=>bW ((inD x Z).map D.bl) s
 |none=>ϋ
def gC (x y:D) (s:ag):Res D:=match lS y s with
 |some Z=>bW ((inD x Z).map λb=>D.bl (!b)) s
 |none=>ϋ
def LX (S:bg K w) (h:DV K w d v) (e:lS d w.aY=ϊ ds):∃a xs,v=.ref a/\(w.H a=ϊ (.lst xs)\/cb K w.H a xs)/\aC K w ds xs:=by
 delta lS at e;split at e
 ·rename_i X e1
  cases e;obtain⟨a,xs,rfl,Z,Y⟩:=lG S h e1;exact⟨a,xs,rfl,.inl Z,Y⟩
 ·rename_i X e1
  cases e;rw[fZ e1 (by intro _ z;cases z)] at h;obtain⟨a,xs,rfl,Z,Y⟩:=h;exact⟨a,xs,rfl,.inr Z,Y⟩
 ·cases e
section
variable {X:Cx} {Ξ:Wd->bE->Prop} {π:List (ă×Obj)} {σ:St} {s:Û}
theorem En (lx:lay x=ό):∀{ds},dA ds=ό->((iL ds).any λy=>ī y (py x))=ds.any λy=>beq y x
 | [],_=>rfl
 |d::ds,h=>by
  erw[dA,Â] at h;erw[iL,List.any_cons,wK d x h.1 lx,En lx h.2]
def Od (h:inD x ds=ϊ b):lay x=ό/\dA ds=ό/\dep x<=100/\(ds.any λy=>beq y x)=b:=by
 delta inD mS at h;split at h
 ·rename_i Z
  erw[Â,Ã] at Z;exact⟨Z.1.1,Z.1.2,Z.2,agX h⟩
 ·cases h
def eO (hr:bV k X.A):bP X (đ .In) (rO X.K Ξ cz):=by
 intro π s σ H x y v u Q I J U zzz;obtain⟨w,T,C,rfl,S,G,F,h⟩:=zzz;delta cz at h;split at h
 ·rename_i Y E
  obtain⟨d,e,h⟩:=gU h
  cases W:inD T Y with
  |none=>rw[W] at e;cases e
  |some b =>
   rw[W] at e;cases e;obtain⟨V,Z,B,D⟩:=Od W;obtain⟨R,z⟩:=oi _ V;obtain⟨P,t⟩:=v9 _ Z;obtain⟨bs,O⟩:=(G.py (qL _ V)).reads I J;have N:X.A.units+1+min (agx (iL Y)) (py T).depth<cLine:=by
    have:=hr.un;omega
   obtain⟨a,M,rfl,ha,L⟩:=LX S F E;have fin:EP X π σ Q (.bool ((iL Y).any λy=>ī y _)) s:=⟨_,_,I,by rw[En V Z,D];rfl,aK S h _ rfl⟩
   rcases ha with ha|ha
   ·obtain⟨cs,rc⟩:=(show L2.DV _ (λ_=>False) _ (.list _) _ by exact⟨a,M,rfl,not_false,ha,L.py (qH _ Z)⟩).reads I U
    exact SeqAt.in_list_reads rc O P R N fin
   ·obtain⟨cs,rc⟩:=(show L2.DV _ (λ_=>False) _ (.tuple _) _ by exact⟨a,M,rfl,ha,L.py (qH _ Z)⟩).reads I U
    exact SeqAt.in_tuple_reads rc O P R N fin
 ·exact h.elim
def qW (hr:bV k X.A):bP X (đ .NotIn) (rO X.K Ξ gC):=by
 intro π s σ H x y v u Q I J U zzz;obtain⟨w,T,B,rfl,S,G,F,h⟩:=zzz;delta gC at h;split at h
 ·rename_i Y E
  obtain⟨d,e,h⟩:=gU h
  cases W:inD T Y with
  |none=>rw[W] at e;cases e
  |some b =>
   rw[W] at e;cases e;obtain⟨V,Z,z,D⟩:=Od W;obtain⟨R,C⟩:=oi _ V;obtain⟨P,t⟩:=v9 _ Z;obtain⟨bs,O⟩:=(G.py (qL _ V)).reads I J;have N:X.A.units+1+min (agx (iL Y)) (py T).depth<cLine:=by
    have:=hr.un;rw[C];omega
   obtain⟨a,M,rfl,ha,L⟩:=LX S F E;have fin:EP X π σ Q (.bool (!(iL Y).any λy=>ī y _)) s:=⟨_,_,I,by rw[En V Z,D];rfl,aK S h _ rfl⟩
   rcases ha with ha|ha
   ·obtain⟨cs,rc⟩:=(show L2.DV _ (λ_=>False) _ (.list _) _ by exact⟨a,M,rfl,not_false,ha,L.py (qH _ Z)⟩).reads I U
    exact SeqAt.notIn_list_reads rc O P R N fin
   ·obtain⟨cs,rc⟩:=(show L2.DV _ (λ_=>False) _ (.tuple _) _ by exact⟨a,M,rfl,ha,L.py (qH _ Z)⟩).reads I U
    exact SeqAt.notIn_tuple_reads rc O P R N fin
 ·exact h.elim
def tP (K:Ň) (Ξ:Wd->bE->Prop) (f:agS (Option Int)):TO:=fun σ H Q=>∃w env,w.H=H/\bg K w/\cg K w env σ/\Out K Ξ w (f env w.aY) λZ i=>Q i Z.H
def mi:agS (Option Int):=λ_ s=>ok ϋ s
def lV (f:agS D):agS (Option Int):=λenv s=>ai (f env s) λd s=>match d with
 | .int i=>ok (ϊ i) s
 |_=>ϋ
variable {e a b:Ő} {lo hi:Option Ő} {pos p2 p3 p4:Pos} {f g:agS D}
def Oe (h:PO X lo t) (i:∀ σ H Q,t' σ H Q->t σ H Q):PO X lo t':=λπ s σ H Q I Z=>h π s σ H Q I (i σ H Q Z)
def xJ:PO X ϋ (tP X.K Ξ mi):=Oe YS fun σ H Q Z=>by
 obtain⟨w,env,Y,S,W,h⟩:=Z;subst Y;exact aK S h
def xh (he:PE X e (tE X.K Ξ f)):PO X (ϊ e) (tP X.K Ξ (lV f)):=Oe (YT he) fun σ H Q Y=>by
 obtain⟨w,env,W,S,V,h⟩:=Y;subst W;refine⟨w,env,rfl,S,V,(Out.ai h).mono λR d P U Z v T=>?_⟩
 cases d with
 |int i=>exact⟨i,T,aK U Z⟩
 |_=>exact Z.elim
noncomputable def cutD (xs:List D) (lo hi:Option Int):List D:=(xs.drop (HT.bT xs.length 0 lo)).take (HT.bT xs.length xs.length hi-HT.bT xs.length 0 lo)
def t9 (d:D) (lo hi:Option Int) (s:ag):Res D:=match res d s with
 | .tup Z=>ok (.tup (cutD Z lo hi)) s
 | .lst Z=>ok (.lst (cutD Z lo hi)) s
 |_=>ϋ
def pd (f:agS D) (l h:agS (Option Int)):agS D:=λenv s=>ai (f env s) λd s=>ai (l env s) λlo s=>ai (h env s) λhi s=>t9 d lo hi s
def rSl (K:Ň) (Ξ:Wd->bE->Prop):V->Option Int->Option Int->Hp->VK->Prop:=λx lo hi H Q=>∃w Z,w.H=H/\bg K w/\DV K w Z x/\Out K Ξ w (t9 Z lo hi w.aY) λY d=>∀v,DV K Y d v->Q v Y.H
def abb:so X (rSl X.K Ξ):=by
 intro π s σ H x v U T lo hi sl Q I R P O pu zzz;obtain⟨w,M,rfl,S,Y,h⟩:=zzz;delta t9 at h;split at h
 ·rename_i N e1
  rw[fZ e1 (by intro _ z;cases z)] at Y;obtain⟨a,W,rfl,V,Z⟩:=Y;refine YY π s σ _ _ v U T lo hi sl Q I R P O pu ⟨a,W,rfl,V,xE S ?_ h⟩;delta cutD oJ;rw[Z.length];exact(Z.drop _).take _
 ·rename_i N e1
  obtain⟨a,W,rfl,V,Z⟩:=lG S Y e1;refine YW π s σ _ _ v U T lo hi sl Q I R P O pu ⟨a,W,rfl,cf.of V,AZ S ?_ h⟩;delta cutD oJ;rw[Z.length];exact(Z.drop _).take _
 ·exact h.elim
def A1 (he:PE X e (tE X.K Ξ f)) (hl:PO X lo (tP X.K Ξ fl)) (hu:PO X hi (tP X.K Ξ fh)):PE X (.Subscript e (.Slice lo hi ϋ p2) pos) (tE X.K Ξ (pd f fl fh)) :=
 cN (LN abb he hl hu) fun σ H Q V=>by
  obtain⟨w,env,U,S,Z,h⟩:=V;subst U;exact⟨w,env,rfl,S,Z,(Out.ai h).mono λT d Y R P v O=>⟨T,env,rfl,R,Z.le Y,(Out.ai P).mono λN i W M L=>⟨N,env,rfl,M,Z.le (Y.trans W),(Out.ai L).mono λJ j I G F=>⟨J,d,rfl,G,(W.trans I) _ _ O,F⟩⟩⟩⟩
def lW (d x:D) (s:ag):Res D:=match d with
 | .au k=>match s[k]? with
  |some (.lst Z)=>if ώ (Z.length<Ô)=ό then ok .az (s.set k (.lst (Z++[x]))) else ϋ
  |_=>ϋ
 |_=>ϋ
noncomputable def lX (d:D) (s:ag):Bool:=match d with
 | .au k=>match s[k]? with
  |some (.lst _)=>ό
  |_=>ύ
 |_=>ύ
def ki (f g:agS D):agS D:=λenv s=>ai (f env s) λd s=>if lX d s=ό then ai (g env s) λx s=>lW d x s else ϋ
def Zi (S:bg K w) (dv:DV K w d v) (h:lX d w.aY=ό):∃k a ds xs,d=.au k/\v=.ref a/\w.ρ[k]?=ϊ a/\w.aY[k]?=ϊ (.lst ds)/\w.H a=ϊ (.lst xs)/\aC K w ds xs:=by
 delta lX at h;split at h
 ·rename_i k
  split at h
  ·rename_i ds Z
   obtain⟨a,e1,rfl⟩:=dv;obtain⟨xs,Y,X⟩:=S.cell k a _ e1 Z;exact⟨k,a,ds,xs,rfl,rfl,e1,Z,Y,X⟩
  ·cases h
 ·cases h
def abc (S:bg K w) (dv:DV K w d v) (du:DV K w y u) (h:Out K Ξ w (lW d y w.aY) q):∃a xs,v=.ref a/\w.H a=ϊ (.lst xs)/\xs.length<Ô/\∃w',w'.H=upd w.H a (.lst (xs++[u]))/\q w' .az:=by
 delta lW at h;split at h
 ·rename_i k
  split at h
  ·rename_i Z Y
   split at h
   ·rename_i V
    obtain⟨a,e1,rfl⟩:=dv;obtain⟨xs,U,X⟩:=S.cell k a _ e1 Y;have W:(Cell.lst Z)≠.dead:=by intro z;cases z
    have le:=(Fw.put (o:=.lst (xs++[u])) (c:=.lst (Z++[y])) S e1 Y W).le;refine⟨a,xs,rfl,U,by rw[<- X.length];exact ß V,w.put k a _ (.lst (Z++[y])),rfl,?_⟩;exact h _ le (S.xF e1 Y W ⟨_,dC,le.all (X.append (aC.one du))⟩) rfl
   ·exact h.elim
  ·exact h.elim
 ·exact h.elim
def rD {apos bB} (ho:PE X o (tE X.K Ξ f)) (ha:PE X a (tE X.K Ξ g))
  (jd:Ĳ o "append" X.env (į o X.env)=į o X.env:=by rfl)
  (lT:((İ bB (Ì [a] X.env)).all (λx=>!x.1)&&(afH bB (Œ [] X.env)).all (λx=>x.1.isSome)
   && ώ (([a]).length+([]:List ξ).length+(if ([]:List ξ).isEmpty then 0 else 1)<30))=ό:=by rfl)
  (je:(apos.endLine==bB.line)=ό:=by rfl) (hs:Ì [a] X.env=(ύ,į a X.env)::Ì [] X.env:=by rfl) (i8:(İ bB (Ì [] X.env)).any (·.1)=ύ:=by rfl) :
  PE X (.Call (.Attribute o "append" apos) [a] [] bB) (tE X.K Ξ (ki f g)) :=
 cN (wZ Ū PySem.F.slot_list_append PySem.F.type_list_append Vz ho (lD ha mF hs) jd lT je hs i8) fun σ H Q T=>by
  obtain⟨w,env,Z,S,W,h⟩:=T;subst Z;refine⟨w,env,rfl,S,W,(Out.ai h).mono λR d P V Y v U=>?_⟩;split at Y
  ·rename_i O
   obtain⟨k,p,t,N,rfl,rfl,e1,e2,M,s⟩:=Zi V U O;refine⟨.inl ⟨rfl,N,cf.of M⟩,R,env,rfl,V,W.le P,(Out.ai Y).mono λr y L J I u G=>?_⟩;obtain⟨E,D,C,B,A,q,Z,z⟩:=abc J (L _ _ U) G I;refine⟨E,D,u,C,rfl,B,A,?_⟩;rw[<- Z];exact z _ rfl
  ·exact Y.elim
def nq (d i x:D) (s:ag):Option ag:=match d,i with
 | .au k,.int n=>match s[k]? with
  |some (.lst Z)=>(fW Z.length n).map λj=>s.set k (.lst (Z.set j x))
  |_=>ϋ
 |_,_=>ϋ
def qc (f o i:agS D):agS Fl:=λenv s=>ai (f env s) λx s=>ai (o env s) λd s=>ai (i env s) λn s=>match nq d n x s with
 |some Z=>ok (.nx env) Z
 |none=>ϋ
def abd (S:bg K w) (dv:DV K w d v) (dn:DV K w i n) (du:DV K w x u) (h:nq d i x w.aY=ϊ s'):∃a xs k j,v=.ref a/\n=.int k/\w.H a=ϊ (.lst xs)/\fW xs.length k=ϊ j/\∃w',w'.H=upd w.H a (.lst (xs.set j u))/\w'.aY=s'/\Le K w w'/\bg K w':=by
 delta nq at h;split at h
 ·rename_i k m
  split at h
  ·rename_i X Z
   cases Y:fW _ m with
   |none=>rw[Y] at h;cases h
   |some j =>
    rw[Y] at h;cases h;obtain⟨a,e1,rfl⟩:=dv;obtain⟨xs,U,W⟩:=S.cell k a _ e1 Z;have V:(Cell.lst X)≠.dead:=by intro z;cases z
    have le:=(Fw.put (o:=.lst (xs.set j u)) (c:=.lst (X.set j x)) S e1 Z V).le;exact⟨a,xs,m,j,rfl,dn,U,by rw[<- W.length];exact Y,_,rfl,rfl,le,S.xF e1 Z V ⟨_,dC,le.all (W.set du j)⟩⟩
  ·cases h
 ·cases h
def E3 (he:PE X e (tE X.K Ξ f)) (ho:PE X o (tE X.K Ξ fo)) (hi:PE X i (tE X.K Ξ fi))
 (ha:∀v,agP (.Subscript o i qd) X.env v=(do
   let ov <- afA [v] (į o X.env)
   let iv <- afA [v,ov] (į i X.env)
   age qd
   afA [v,ov,iv] (setItem ov iv v)
   release [v,ov,iv] []):=by intro _;rfl)
 (hs:θ [.Subscript o i qd] e pos.line X.env=pure ύ:=by rfl) (hw:ι [.Subscript o i qd] e X.env=pure ϋ:=by rfl)
 (h1:(Ń [.Subscript o i qd] X.env).map (·.2)=[agP (.Subscript o i qd) X.env]:=by rfl):PS X (.Assign [.Subscript o i qd] e pos) (tS X.K Ξ (qc f fo fi)) :=
 kG (N0 he (aaw ho hi set_list ha) hs hw h1) λy σ H Q=>by
  obtain⟨w,env,W,S,Z,h⟩:=Q;subst W;refine⟨w,env,rfl,S,Z,(Out.ai h).mono λP x V O h1 u N=>?_⟩;refine⟨P,env,rfl,O,Z.le V,(Out.ai h1).mono λM d U L J v I=>?_⟩;refine⟨M,env,rfl,L,Z.le (V.trans U),(Out.ai J).mono λt n T G Y m F=>?_⟩
  cases R:nq d n x _ with
  |none=>rw[R] at Y;exact Y.elim
  |some s =>
   rw[R] at Y;obtain⟨a,E,k,j,e1,e2,D,C,B,W,A,le,z⟩:=abd G (T _ _ I) F ((U.trans T) _ _ N) R;refine⟨a,E,k,j,e1,e2,D,C,?_⟩;rw[<- W];exact Y B le z A σ (Z.le (V.trans (U.trans (T.trans le))))
end
def kd (d:D) (s:ag):Option Kn:=match res d s with
 | .az=>ϊ .az
 | .bl _=>ϊ .bl
 | .int _=>ϊ .int
 | .str _=>ϊ .str
 | .tup _=>ϊ .tup
 | .lst _=>ϊ .lst
 | .cL _=>ϊ .cL
 |_=>ϋ
def ac6 (S:bg K w) (h:DV K w d v) (e:kd d w.aY=ϊ k):vi K w.H v k:=by
 delta kd at e
 split at e<;>rename_i e1<;>first | (done) | (try cases e)
 ·rw[fZ e1 (by intro _ z;cases z)] at h;cases h;trivial
 ·rw[fZ e1 (by intro _ z;cases z)] at h;cases h;trivial
 ·rw[fZ e1 (by intro _ z;cases z)] at h;cases h;trivial
 ·rw[fZ e1 (by intro _ z;cases z)] at h;cases h;trivial
 ·rw[fZ e1 (by intro _ z;cases z)] at h
  obtain⟨a,Y,rfl,Z,_⟩:=h;exact⟨Y,Z⟩
 ·obtain⟨a,Y,rfl,Z,_⟩:=lG S h e1
  exact⟨Y,cf.of Z⟩
 ·rw[fZ e1 (by intro _ z;cases z)] at h
  obtain⟨a,rfl,_,Z⟩:=h;exact⟨_,Z⟩
noncomputable def Pj (T:String):Bool:=T=="int"||T=="bool"||T=="str"||T=="tuple"||T=="list"
def nr (ds:List D) (s:ag):Res D:=match ds with
 | [d,.ty T]=>if Pj T=ό then bW ((kd d s).map λk=>.bl (uM k T)) s else ϋ
 |_=>ϋ
section
variable {X:Cx} {Ξ:Wd->bE->Prop} {e a b:Ő} {es:List Ő} {pos:Pos} {f g:agS D} {fa:agS (List D)}
def rE:dh X (.builtin "isinstance") (rC X.K Ξ nr):=by
 intro Z s σ H M Y Q I r zzz;obtain⟨w,L,rfl,S,R,h⟩:=zzz;delta nr at h;split at h
 ·rename_i d T
  obtain⟨v,u,rfl,P,O⟩:=wL R;have N:=O;subst N;split at h
  ·rename_i U
   obtain⟨J,e,h⟩:=gU h
   cases V:kd d _ with
   |none=>rw[V] at e;cases e
   |some k =>
    rw[V] at e;cases e;have W:=ac6 S P V;erw[Pj,Ť,beq_iff_eq] at U
    rcases U with (((rfl|rfl)|rfl)|rfl)|rfl
    ·exact Tf Z s σ _ _ Y Q I r ⟨v,k,rfl,W,aK S h _ rfl⟩
    ·exact SK Z s σ _ _ Y Q I r ⟨v,k,rfl,W,aK S h _ rfl⟩
    ·exact Ti Z s σ _ _ Y Q I r ⟨v,k,rfl,W,aK S h _ rfl⟩
    ·exact Sy Z s σ _ _ Y Q I r ⟨v,k,rfl,W,aK S h _ rfl⟩
    ·exact SM Z s σ _ _ Y Q I r ⟨v,k,rfl,W,aK S h _ rfl⟩
  ·exact h.elim
 ·exact h.elim
def rV (hv:ý x=ϊ (.type T)) (hg:Gl X x) (hm:X.mg x=ϋ) (hn:x≠"__name__":=by decide) (hd:(x==("__debug__"))=ύ:=by decide):PE X (.Name x pos) (tE X.K Ξ (eC (.ty T))):=rA (v:=.ty T) (MO hg hm hv rfl hn hd) λ_=>rfl
def fF (g:∃t,X.mg x=ϊ (.int i t)) (hg:Gl X x) (hd:(x==("__debug__"))=ύ:=by decide):PE X (.Name x pos) (tE X.K Ξ (eC (.int i))):=by
 obtain⟨t,e⟩:=g;exact rA (v:=.int i) (Dx hg e ⟨t,rfl⟩ hd) λ_=>rfl
noncomputable def rF:List D->Option (List Int)
 | []=>ϊ []
 | .int i::Z=>(rF Z).map λr=>i::r
 |_::_=>ϋ
theorem LY:∀{ds} {ns},rF ds=ϊ ns->ds=ns.map D.int
 | [],ns,h=>by cases h;rfl
 | .int b::ds,ns,h=>by
  erw[rF] at h
  cases Z:rF ds with
  |none=>rw[Z] at h;cases h
  |some r=>rw[Z] at h;cases h;rw[LY Z];rfl
 | .az::_,_,h=>by cases h
 | .bl _::_,_,h=>by cases h
 | .str _::_,_,h=>by cases h
 | .tup _::_,_,h=>by cases h
 | .lst _::_,_,h=>by cases h
 | .cL _::_,_,h=>by cases h
 | .au _::_,_,h=>by cases h
 | .ty _::_,_,h=>by cases h
 | .cS _::_,_,h=>by cases h
 | .exc ..::_,_,h=>by cases h
 | .dR ..::_,_,h=>by cases h
def VR:rF (ns.map D.int)=ϊ ns:=by
 induction ns with
 |nil=>rfl
 |cons b bs ih=>erw[Þ,rF,ih,Ž]
noncomputable def nu (i:Int):List Int->List Int
 | []=>[i]
 |j::r=>if i<j then i::j::r else if i=j then j::r else j::nu i r
def ji:List Int->List Int
 | []=>[]
 |i::r=>nu i (ji r)
theorem CU:∀{l},k∈nu i l↔k=i\/k∈l
 | []=>by simp[nu]
 |j::r=>by
  delta nu;split
  ·simp
  ·split
   ·rename_i h;subst h;simp
   ·rw[Ñ,CU,Ñ]
    constructor
    ·rintro (h|h|h)
     ·exact .inr (.inl h)
     ·exact .inl h
     ·exact .inr (.inr h)
    ·rintro (h|h|h)
     ·exact .inr (.inl h)
     ·exact .inl h
     ·exact .inr (.inr h)
theorem Kc:∀{l},l.Pairwise (· < ·)->(nu i l).Pairwise (· < ·)
 | [],_=>by simp[nu]
 |j::r,h=>by
  obtain⟨Z,Y⟩:=ò.mp h;delta nu;split
  ·rename_i X
   refine ò.mpr ⟨λk hk=>?_,h⟩
   rcases Ñ.mp hk with rfl|hk
   ·exact X
   ·have:=Z k hk;omega
  ·split
   ·exact h
   ·refine ò.mpr ⟨λk hk=>?_,Kc Y⟩
    rcases CU.mp hk with rfl|hk
    ·omega
    ·exact Z k hk
theorem qM:∀{l},k∈ji l↔k∈l
 | []=>by simp[ji]
 |i::r=>by simp[ji,CU,qM]
theorem J0:∀l,(ji l).Pairwise (· < ·)
 | []=>List.Pairwise.nil
 |i::r=>Kc (J0 r)
theorem JN:∀{l m:List Int},l.Pairwise (· < ·)->m.Pairwise (· < ·)->(∀k,k∈l↔k∈m)->l=m
 | [],[],_,_,_=>rfl
 | [],j::m,_,_,h=>by have:=(h j).mpr Ó;cases this
 |i::l,[],_,_,h=>by have:=(h i).mp Ó;cases this
 |i::l,j::m,W,V,h=>by
  obtain⟨Y,U⟩:=ò.mp W;obtain⟨X,T⟩:=ò.mp V;have e:i=j:=by
   rcases Ñ.mp ((h i).mp Ó) with e|e
   ·exact e
   ·rcases Ñ.mp ((h j).mpr Ó) with e'|e'
    ·exact e'.symm
    ·have:=X i e;have:=Y j e';omega
  subst e;congr 1;refine JN U T λk=>?_;constructor
  ·intro Z
   rcases Ñ.mp ((h k).mp (É _ Z)) with e|e
   ·subst e;have:=Y k Z;omega
   ·exact e
  ·intro Z
   rcases Ñ.mp ((h k).mpr (É _ Z)) with e|e
   ·subst e;have:=X k Z;omega
   ·exact e
def Cr (l):(ji l).length<=l.length:=by
 induction l with
 |nil=>exact agW _
 |cons x l ih =>
  have:(ji (x::l)).length<=(ji l).length+1:=by
   show (nu x _).length<=_;generalize ji l=m
   induction m with
   |nil=>exact agW _
   |cons y m Z =>
    delta nu;split
    ·simp
    ·split
     ·simp
     ·erw[æ];omega
  erw[æ];omega
def Xo (ns):(ns.foldl PyProof.Rows.step_dedup []).length<=(ji ns).length:=sub_len (B5 ns _ List.nodup_nil) λk Z=>qM.mpr ((Li ns k).mp Z)
def wa (d:D) (s:ag):Res D:=match d with
 | .lst Y=>match rF Y with
  |some Z=>if ώ ((ji Z).length<64)=ό then ok (.lst ((ji Z).map D.int)) s else ϋ
  |none=>ϋ
 |_=>ϋ
def US {p p2 lY} (ha:PE X a (tE X.K Ξ f)) (hc:X.calm=ό) (hg:Gl X "sorted") (hm:X.mg "sorted"=ϋ) (hv:ý "sorted"=ϊ (.builtin "sorted")) (Hc:Gl X "set") (Hd:X.mg "set"=ϋ) (hv2:ý "set"=ϊ (.type "set"))
  (he:Ì [a] X.env=(ύ,į a X.env)::Ì [] X.env:=by rfl) (bY:(İ lY (Ì [] X.env)).any (·.1)=ύ:=by rfl)
  (Bt:Ì [.Call (.Name "set" p2) [a] [] lY] X.env=(ύ,į (.Call (.Name "set" p2) [a] [] lY) X.env)::Ì [] X.env:=by rfl) (aeS:(İ pos (Ì [] X.env)).any (·.1)=ύ:=by rfl) :
  PE X (.Call (.Name "sorted" p) [.Call (.Name "set" p2) [a] [] lY] [] pos) (tE X.K Ξ (e1 wa f)) :=
 cN (CN (Tn hc) hg hm hv (lD (Cp (UO hc) Hc Hd hv2 (lD ha mF he) (by decide) (by decide) he bY) mF Bt) (by decide) (by decide) Bt aeS) fun σ H Q N=>by
  obtain⟨w,env,M,S,L,h⟩:=N;subst M;refine⟨w,env,rfl,S,L,(Out.ai h).mono λJ d A I Y v G=>?_⟩;delta wa at Y;split at Y
  ·split at Y
   ·rename_i W F
    split at Y
    ·rename_i V
     have V:=ß V;obtain⟨p,z,rfl,T,R⟩:=G;rw[LY F] at R;rw[R.LU] at T;have E:=Ÿ (Xo W) V;refine⟨p,W,rfl,T.sq,by omega,λq P=>?_⟩;refine⟨q,W,rfl,dC,E,λl y D C B=>?_⟩;have e:=JN C (J0 W) λk=>(B k).trans qM.symm;subst e;have U:=D;have O:=I.grow (o:=.ext (rR X.prog X.w q W)) P;exact Y _ ((Fw.grow P).le.trans (Fw.grow U).le) (O.grow U) rfl _ ⟨l,_,rfl,⟨(show ¬ (J.grow q _).Z l from oh O U),dC⟩,aC.ints _⟩
    ·exact Y.elim
   ·exact Y.elim
  ·exact Y.elim
def qe (i j:Nat) (fa:agS (List D)):agS Fl:=λenv s=>ai (fa env s) λZ s=>match Z with
 | [x,y]=>ok (.nx ((env.set i (ϊ x)).set j (ϊ y))) s
 |_=>ϋ
def Eo (i j) {x y} {px py pt} {kt k2 jw} (hc:X.calm=ό) (hN:X.N.Nodup) (ha:PA X [a,b] (tA X.K Ξ fa)) (hi:X.N[i]?=ϊ x:=by rfl) (hj:X.N[j]?=ϊ y:=by rfl) (fV:i≠j:=by decide)
  (hx:X.env.scope.names.lookup x=ϊ .local:=by rfl) (hy:X.env.scope.names.lookup y=ϊ .local:=by rfl)
  (hw:ι [.Tuple [.Name x px,.Name y py] kt pt] (.Tuple [a,b] k2 jw) X.env=pure (ϊ [x,y]):=by rfl)
  (hs:θ [.Tuple [.Name x px,.Name y py] kt pt] (.Tuple [a,b] k2 jw) pos.line X.env=pure ύ:=by rfl) :
  PS X (.Assign [.Tuple [.Name x px,.Name y py] kt pt] (.Tuple [a,b] k2 jw) pos) (tS X.K Ξ (qe i j fa)):=kG (aay hc hN hi hj fV hx hy ha hw hs) λO σ H W=>by
 obtain⟨w,env,V,S,Y,h⟩:=W;subst V;refine⟨w,env,rfl,S,Y,(Out.ai h).mono λM L U T Z J R=>?_⟩;split at Z
 ·obtain⟨v,u,rfl,Q,P⟩:=wL R
  exact⟨v,u,rfl,aK T Z _ (((Y.le U).set Q i).set P j)⟩
 ·exact Z.elim
end
end DI
namespace L2
open PySem PySem.Spec PyProof.Rows
structure DS (Y:Cx) (D) (π):Prop where
 loc:D≠Y.env.locals
 fs:D∉Y.fs
 new:Y.dS.heap.objs.size<=D
 cell:∀x c,Y.env.cells.lookup x=ϊ c->c≠D
 pin:∀p∈Y.pn++π,p.1≠D
structure sA (Y) (D) (nt) (caps:St) (π) (o:St) (H) (s) (acc):Prop where
 inv:Inv Y π (o++caps) H s
 len:o.length=nt
 lst:∃ys,s.heap.PlainList D ys/\Vals acc ys.toList
 free:H D=ϋ
 nG:acc.length<=Ô
abbrev rW:=St->Hp->List V->(St->List V->Hp->Prop)->Prop
def xK (Y:Cx) (D:ă) (nt:Nat) (caps:St) (c:Code) (m:Sem PySem.Fin) (ta:rW):Prop :=
 ∀X o H s Z Q,DS Y D X->sA Y D nt caps X o H s Z->ta (o++caps) H Z Q ->
  ê (è Y.prog Y.w) Y.A m (λfn T=>fn=.again c/\∃W V U,sA Y D nt caps X W V T U/\Q (W++caps) U V) (λ_ _=>False) s
def CA (J:It) (g:TG) (tf:TT) (ta:rW) (τ:St) (acc:List V) (H:Hp) (Q:St->List V->Hp->Prop):Prop:=∃W:Nat->Nat->St->List V->Hp->Prop,(∃m,W 0 m τ acc H) /\
 ∀i m τ acc Z,W i m τ acc Z->(J.stop i Z/\Q τ acc Z) \/
  (J.go i Z/\∃N,(∀ X U T,N X U T->∃S,S < m/\W (i+1) S X U T) /\
   ∀x R,J.vc i Z x R->g x τ R fun Y O=>tf Y O λb P=>if b=ό then ta Y P acc N else N Y acc P)
def Pk (te:TE):rW:=fun Y H Z Q=>Z.length+1<=Ô/\te Y H λv X=>Q Y (Z++[v]) X
def Pl (wi:TI) (g:TG) (tf:TT) (ta:rW):rW:=fun Y H Z Q=>wi Y H λJ X=>CA J g tf ta Y Z X Q
section
variable {Y:Cx} {D:ă} {nt:Nat} {caps:St}
def DS.obj (ds:DS Y D π) (B:sA Y D nt caps π o H s acc):∃oD ys nn,s.heap.get? D=ϊ oD/\oD={ cls:=.type "list",data:=.seq ys nn }/\Vals acc ys.toList/\Inv Y (π++[(D,oD)]) (o++caps) H s:=by
 obtain⟨ys,⟨nn,Z⟩,X⟩:=B.lst;refine⟨_,ys,nn,Z,rfl,X,B.inv.nZ λp W=>?_⟩
 rcases þ.mp W with z|z
 ·exact B.inv.pin p (Î _ z)
 ·have e:=by simpa using z
  subst e;exact⟨Z,B.free,ds.loc,ds.fs,λv z=>by cases z⟩
def LZ (hx:Y.xe=λ_ _=>False) (hE:PE Y el te):xK Y D nt caps c ((do let _ <- call (.builtin "list.append") [.ref D,<- į el Y.env]) >>= λ_=>again c) (Pk te):=by
 intro R o H s P Q Z B h;obtain⟨O,h⟩:=h;obtain⟨N,V,nn,u,M,U,I⟩:=Z.obj B;have q:=hE _ s _ H _ I h;rw[hx] at q;refine À (À (aW q λy X L=>?_));obtain⟨v,T,S,K,J⟩:=L;have W:=S.pin (D,N) (Î _ (Î _ ∅));have G:X.heap.PlainList D V:=⟨nn,by rw[<- M];exact W.1⟩;have F:V.size<=Ô:=by
  have e:=U.length;erw[Ą] at e;omega
 refine À (wpAny_list_append_plain G λE C A=>Å (Å ⟨rfl,?_⟩));have z:=S.nW
 have x:Inv Y R _ T { X with heap:=E,toks:=X.toks }:=z.turned (λb o w e=>(A.2 b w).trans e) W.2.1 Z.loc (.inr Z.new) Z.cell Z.pin
 refine⟨o,T,_,⟨x,B.len,⟨_,C,?_⟩,W.2.1,by simpa using O⟩,J⟩;rw[af3];exact Vals.append U (.cons K .nil)
def KG (hx:Y.xe=λ_ _=>False) (hc:Y.calm=ό)
 (T:Turn Y.prog Y.w Y.K tg J fp it tn) (st0:tn 0 s.heap) (hf:∀b∈fp,gk Y π H b) (pf:D∉fp) (hG:PG Y tg g) (iK:oY g nt) (hF:PF Y tests tf) (hA:xK Y D nt caps (.compLoop e d (.ref it) (.ref D) Y.env) act ta) (ds:DS Y D π) (B:sA Y D nt caps π o H s acc) (hq:(Code.compLoop e d (.ref it) (.ref D) Y.env).quiet=ό)
 (aeT:∀(M:Model) A Q' E' s',ê (è Y.prog Y.w) A (compTurn e d (.ref it) (.ref D) Y.env) Q' (λ_ _=>False) s'->ê (è Y.prog Y.w) (A.under (.compLoop e d (.ref it) (.ref D) Y.env)) ((è Y.prog Y.w).den (.compLoop e d (.ref it) (.ref D) Y.env)) Q' E' s')
 (ht:compTurn e d (.ref it) (.ref D) Y.env=(do
   age p0
   match <- agQ (.ref it) with
   |none=>pure (.done .next)
   |some v =>
    ő tg (.ref it) v
    agP tg Y.env v
    let mut ok:=ό
    for c in tests do
     if ok then ok <- isTrue c Y.env (į c Y.env)
    if ok then act else again (.compLoop e d (.ref it) (.ref D) Y.env)))
 (h:CA J g tf ta (o++caps) acc H Q) :
  ų (è Y.prog Y.w) Y.A (.compLoop e d (.ref it) (.ref D) Y.env) (λr s'=>r=.ok .next/\∃o' H' kg,sA Y D nt caps π o' H' s' kg/\Q (o'++caps) kg H') s:=by
 obtain⟨W,⟨m0,w0⟩,turn⟩:=h;have G:∀{H'} {P},(∀b∈fp,H' b=ϋ)->(∀p∈P,p.1∉fp)->∀b∈fp,gk Y (π++P) H' b:=λhn X b Z=>by
  obtain⟨_,f1,sC,f3,f4,f5⟩:=hf b Z;refine⟨hn b Z,f1,sC,f3,f4,λp yF=>?_⟩
  rcases þ.mp yF with z|z
  ·exact f5 p (ï _ z)
  ·rcases þ.mp z with z|z
   ·exact f5 p (Î _ z)
   ·exact λe=>X p z (e ▸ Z)
 refine codeAny_loop hq (λn s'=>∃i acc o H',sA Y D nt caps π o H' s' acc/\tn i s'.heap/\(∀b∈fp,H' b=ϋ)/\W i n (o++caps) acc H') (λn s3 hJ=>?_) m0 ⟨0,acc,o,H,B,st0,λb Z=>(hf b Z).1,w0⟩;obtain⟨i,acc,o3,O,V,kZ,qk,w3⟩:=hJ;refine aeT (è Y.prog Y.w) _ _ _ _ ?_;rw[ht];obtain⟨F,N,nn,ho,eo,E,yG⟩:=ds.obj V;have C:∀p∈[(D,F)],p.1∉fp:=λp X=>by
  have e:=by simpa using X
  subst e;exact pf
 have vw:∀{P} {y} {H'} {s'},Inv Y (π++[(D,F)]++P) y H' s'->s'.heap.PlainList D N/\H' D=ϋ:=λL=>by
  have q:=L.pin (D,F) (Î _ (ï _ (Î _ ∅)));exact⟨⟨nn,by rw[<- eo];exact q.1⟩,q.2.1⟩
 refine À (ŗ (À ?_))
 rcases turn i n _ acc O w3 with ⟨stop,q⟩ | ⟨go,N',hN,step⟩
 ·have t:=T.done Y rfl rfl rfl hc i _ s3 _ O (λ_ _=>False) yG (G qk C) kZ stop
  refine aW t λr s4 S=>?_;obtain⟨m,I4⟩:=S;subst m;obtain⟨Hj,n4⟩:=vw (by simpa using I4);exact Å ⟨rfl,o3,O,acc,⟨I4.nW,V.len,⟨N,Hj,E⟩,n4,V.nG⟩,q⟩
 ·have t:=T.item Y rfl rfl rfl hc i _ s3 _ O (λ_ _=>False) yG (G qk C) kZ go
  refine aW t λr s4 S=>?_;obtain⟨u,m,S⟩:=S;subst m;refine À (aW S λ_ s5 h5=>?_);obtain⟨x,l,I5,r5,y5,k,yk⟩:=h5;have yl:=I5.pinned (G yk C) (T.obj _ _ k);have q5:=hG _ s5 _ l x u _ yl r5 (iK x o3 _ l _ V.len (step x l y5));rw[hx] at q5;refine À (aW q5 λ_ s6 h6=>?_);obtain⟨yH,H6,I6,⟨o6,yI,A2⟩,q6⟩:=h6;have R:=hF _ s6 _ H6 _ I6 q6;rw[hx] at R;refine À (aW R λb s7 h7=>?_);obtain⟨H7,I,R⟩:=h7;subst A2;obtain⟨Bv,n7⟩:=vw I;have j:=I.nZ λp X=>by
   rcases þ.mp X with z|z
   ·exact I.pin p (Î _ (ï _ (ï _ z)))
   ·exact I.pin p (Î _ (Î _ z))
  have xM:∀{y} {H'} {s'},Inv Y (π++t5 fp _) y H' s'->tn _ _/\∀b∈fp,H' b=ϋ:=λL=>by
   refine⟨T.keep _ _ _ k λb Z o e=>(L.pin _ (Î _ (Î _ (sY Z e)))).1,λb Z=>?_⟩;obtain⟨o,e,_⟩:=T.obj _ _ k b Z;exact(L.pin _ (Î _ (Î _ (sY Z e)))).2.1
  cases b with
  |false =>
   obtain⟨f,a,w7⟩:=hN _ _ _ R;obtain⟨t7,f7⟩:=xM j;exact Å ⟨rfl,f,a,_,acc,o6,H7,⟨j.nW,yI,⟨N,Bv,E⟩,n7,V.nG⟩,t7,f7,w7⟩
  |true =>
   have Rt:DS Y D (π++t5 fp s5.heap):=⟨ds.loc,ds.fs,ds.new,ds.cell,λp X=>by
    rcases þ.mp X with z|z
    ·exact ds.pin p (ï _ z)
    ·rcases þ.mp z with z|z
     ·exact ds.pin p (Î _ z)
     ·exact λe=>pf (e ▸ (K5 z).1)⟩
   refine aW (hA _ o6 H7 s7 acc N' Rt ⟨j,yI,⟨N,Bv,E⟩,n7,V.nG⟩ R) λfn s8 h8=>?_;obtain⟨efn,o8,H8,aeU,U,q8⟩:=h8;subst efn;obtain⟨f,a,w8⟩:=hN _ _ _ q8;obtain⟨t8,f8⟩:=xM U.inv;exact⟨rfl,f,a,_,aeU,o8,H8,⟨U.inv.nW,U.len,U.lst,U.free,U.nG⟩,t8,f8,w8⟩
end
def Of (A) (Q') (E') (s')
 (h:ê (è P w) A (compTurn (.ListComp el gens sc ps) d iW av ce) Q' (λ_ _=>False) s'):ê (è P w) (A.under (.compLoop (.ListComp el gens sc ps) d iW av ce)) ((è P w).den (.compLoop (.ListComp el gens sc ps) d iW av ce)) Q' E' s':=by
 exact wpAny_noted (Ė h (λ_ _ q=>q) λ_ _ z=>z.elim)
def Xp (hd:gens[d]?=ϊ ⟨target,iter,ifs,0⟩)
 (h0:ų (è P w) A (.compLoop (.ListComp el gens sc ps) d it acc env) R s)
 (h:ê (è P w) A (pyIter it) (λvz s'=>ų (è P w) A (.compLoop (.ListComp el gens sc ps) d vz acc env) R s') (λ_ _=>False) s) :
  ų (è P w) A (.compStart (.ListComp el gens sc ps) d it acc env) R s:=by
 refine agw ?_;refine wpAny_notedAt ?_;have Z:(clausesOf (.ListComp el gens sc ps))[d]?=ϊ _:=hd;delta compStart;rw[Z];refine À (agh (wpAny_ite ?_));split
 ·first
   |exact À (Å (Å (ì rfl h0)))
   |exact Å _
 ·refine À (ů ?_)
  exact À (ŗ (À (Ė h (λvz s' Y=>Å (ì rfl Y)) λ_ _ x=>x.elim)))
section
variable {Y:Cx} {D:ă} {nt:Nat} {caps:St}
def CV {el tg src} {gens} {sc} {ps} {tests} {d} {wi} {g} {tf} {ta} {act:ă->Sem _} {c} (hx:Y.xe=λ_ _=>False) (hc:Y.calm=ό) (hd:gens[d]?=ϊ ⟨tg,src,tests,0⟩)
  (hi:PI Y tg src wi) (hG:PG Y tg g) (iK:oY g nt) (hF:PF Y tests tf) (hA:∀it,xK Y D nt caps (.compLoop (.ListComp el gens sc ps) d (.ref it) (.ref D) Y.env) (act it) ta)
  (ht:∀it,compTurn (.ListComp el gens sc ps) d (.ref it) (.ref D) Y.env=(do
   age src.pos
   match <- agQ (.ref it) with
   |none=>pure (.done .next)
   |some v =>
    ő tg (.ref it) v
    agP tg Y.env v
    let mut ok:=ό
    for c in tests do
     if ok then ok <- isTrue c Y.env (į c Y.env)
    if ok then act it else again (.compLoop (.ListComp el gens sc ps) d (.ref it) (.ref D) Y.env)))
  (hs:∀x,Ā src Y.env x=pure x) :
  xK Y D nt caps c (do
   let x <- į src Y.env
   age src.pos
   let x <- Ā src Y.env x
   let _ <- runOwn (.compStart (.ListComp el gens sc ps) d (<- afA [x] (pyIter x)) (.ref D) Y.env) Y.env
   again c) (Pl wi g tf ta):=by
 intro X o H s Z Q W B h;obtain⟨V,N,nn,a,M,L,I⟩:=W.obj B;have q:=hi _ s _ H _ I h;rw[hx] at q;refine À (aW q λv s1 K=>À (ŗ ?_));rw[hs];refine À (Å (À (Č (aW K λiW G F=>?_))));obtain⟨it,E,tn,J,U,e,S,T,R,f2,ca⟩:=F;subst e;have P:=S.pin (D,V) (Î _ (Î _ ∅));have C:=λz=>(f2 D z).2.2.2.2.2 (D,V) (Î _ (Î _ ∅)) rfl;have y:∀b∈E,gk Y X U b:=λb w=>by
  obtain⟨a1,a2,u,t,n,m⟩:=f2 b w;refine⟨a1,a2,u,t,n,λp l=>m p ?_⟩
  rcases þ.mp l with z|z
  ·exact ï _ z
  ·exact Î _ (ï _ z)
 have k:sA Y D nt caps X o U G Z:=⟨S.nW,B.len,⟨N,⟨nn,by rw[<- M];exact P.1⟩,L⟩,P.2.1,B.nG⟩;have loop:=KG hx hc T R y C hG iK hF (hA it) W k rfl (λ_ A j i O h=>Of A j i O h) (ht it) ca;refine À (wpAny_runOwn ?_);refine Ł (Xp hd loop (T.self _ _ _ _ _ R loop)) λr O f=>?_;obtain⟨e,q⟩:=f;subst e;exact Å ⟨rfl,q⟩
end
def Og (wi:TI) (nt:Nat) (cap:List Nat) (g:TG) (tf:TT) (ta:rW):TE:=fun σ H Q=>wi σ H λJ X=>CA J g tf ta (Õ nt ϋ++pS cap σ) [] X λ_ Z Y=>∀D,Y D=ϋ->Q (.ref D) (upd Y D (.lst Z))
section
variable {X:Cx}
def L0 {el tg src} {tests} {rest} {sc} {ps} {N} {nt} {cap} {wi} {g} {tf} {ta} {act:Env->ă->ă->Sem _} (hc:X.calm=ό) (S:wF X sc N nt cap) (iK:oY g nt) (hi:PI X tg src wi)
  (hY:∀cl C s H ex pn,PG (fy X N sc cl C s H ex pn) tg g/\PF (fy X N sc cl C s H ex pn) tests tf/\∀D caps it,xK (fy X N sc cl C s H ex pn) D nt caps (.compLoop (.ListComp el (⟨tg,src,tests,0⟩::rest) sc ps) 0 (.ref it) (.ref D) (compEnvC sc cl C X.env)) (act (compEnvC sc cl C X.env) D it) ta)
  (ht:∀it D ce,compTurn (.ListComp el (⟨tg,src,tests,0⟩::rest) sc ps) 0 (.ref it) (.ref D) ce=(do
   age src.pos
   match <- agQ (.ref it) with
   |none=>pure (.done .next)
   |some v =>
    ő tg (.ref it) v
    agP tg ce v
    let mut ok:=ό
    for c in tests do
     if ok then ok <- isTrue c ce (į c ce)
    if ok then act ce D it else again (.compLoop (.ListComp el (⟨tg,src,tests,0⟩::rest) sc ps) 0 (.ref it) (.ref D) ce)))
  (hs:∀x,Ā src X.env x=pure x:=by intro _;rfl):PE X (.ListComp el (⟨tg,src,tests,0⟩::rest) sc ps) (Og wi nt cap g tf ta):=by
 intro K s σ H Q I h;obtain⟨cl,E4,i⟩:=N5 λn F=>I.ok.has n (S.frees _ F rfl).2;refine wpAny_comprehension_free rfl hs E4 S.kind S.names (aW (hi K s σ H _ I h) λxv s1 h1=>aW h1 λiW W h2=>?_);obtain⟨it,O,tn,J,E,e,V,T,f,f2,ca⟩:=h2;subst e;refine Ď (wpAny_newFunctionEnv S.wG (by intro y hy;simp at hy) (λh3 l B=>?_) S.kind);generalize d:W.heap.objs.size=D at l B |-;generalize a:W.heap.push _=G at l B |-;generalize Hl:G.objs.size=C at l B |-;have hC:C=D+1:=by rw[<- Hl,<- a,ā,d]
 have sE:D≠C:=by omega
 have U:=agF d;have k:W.heap.objs.size<=C:=by omega
 have old:=λb o e=>B.extBut b o (ä (È (Í e) k)) (Á _ (a ▸ Á _ e));have uO:h3.PlainList D _:=⟨_,B.extBut _ _ sE (Á _ (a ▸ d ▸ Ë _ rfl))⟩;have hV:∀b∈O,b<W.heap.objs.size:=λb M=>by
  obtain⟨o,e,_⟩:=T.obj _ _ f b M;exact Í e
 have IB:=V.block (t':=W.toks+([]:List (Str×á)).length) S i f2 hV old k ⟨_,l⟩;have Hm:D∉dO _:=λz=>by
  rcases Ñ.mp (V.mE D z) with e|e
  ·exact absurd (È V.lt U) (by rw[e];exact ó _)
  ·exact V.AN U e
 have pf:D∉O:=λz=>absurd (È (hV D z) U) (ó _);have Ep:∀x c,cl.lookup x=ϊ c->c≠D:=λx c e z=>by
  obtain⟨v,o,ho,_⟩:=V.cell x c ((i x c).mp e).2;exact absurd (È (Í ho) (by rw[z];exact U)) (ó _)
 have E5:∀p∈X.pn++K,p.1≠D:=λp hp z=>absurd (È (Í (V.pin p hp).1) (by rw[z];exact U)) (ó _);have fin:∀R τ P Z t,Inv (fy X N sc cl C W E O (X.pn++K)) [] τ P R->R.heap.PlainList D t->Vals Z t.toList->P D=ϋ->Z.length<=Ô->(∀D,P D=ϋ->Q (.ref D) (upd P D (.lst Z))) ->
   compPost (è X.prog X.w) X.A X.xe ϋ (EP X K σ Q) (.ref D) C (.ok .next) R:=by
  intro R τ P Z t L pl rv F hz q;obtain⟨m,hm,_⟩:=id L.loc;refine⟨m,hm,λh' sb=>?_⟩;have Ge:=L.aQ.but L.free sb;obtain⟨n,ho⟩:=pl;have iJ:=(sb.2 D sE).trans ho;have new:gF X.prog X.w (upd P D (.lst Z)) h' D (.lst Z):=⟨hz,_,n,rv,by simpa using iJ⟩;have u:=(L.base.but k sb).adopt (o:=.lst Z) U F;refine⟨.ref D,_,V.wX L.os u (Ge.adopt F new) L.bare (λb M=>?_),rfl,q D F⟩;obtain⟨_,f1,_,f3,f4,f5⟩:=f2 b M;exact⟨f3,f1,f4,f5⟩
 have ph:∀b∈O,gk (fy X N sc cl C W E O (X.pn++K)) [] E b:=λb M=>by
  obtain⟨f0,f1,sC,f3,f4,f5⟩:=f2 b M;refine⟨f0,ä (È (hV b M) k),λz=>?_,.inl M,λx c e=>f4 x c ((i x c).mp e).2,λp yF=>?_⟩
  ·rcases Ñ.mp (V.mE b z) with e|e
   ·exact f1 e
   ·exact sC e
  ·exact f5 p (by simpa using yF)
 obtain⟨Hn,Ho,hA1⟩:=hY cl C W E O _;have loop:=KG (Y:=fy X N sc cl C W E O _) rfl hc T
  (T.keep _ _ _ f λb _ o e=>old b o e) ph pf Hn iK Ho (hA1 D _ it) ⟨sE,Hm,U,Ep,λp hp=>E5 p (by simpa using hp)⟩ ⟨IB,by simp,⟨_,uO,.nil⟩,V.aQ.fresh U,č _⟩ rfl (λ_ A Q' E' R h=>Of A Q' E' R h) (ht it D _) ca
 have Pn:=Ł loop λr R hr=>by
  obtain⟨e,o',P,kg,j,q'⟩:=hr;subst e;obtain⟨t,pl,rv⟩:=j.lst;exact fin R _ P kg t j.inv pl rv j.free j.nG q'
 exact codeAny_compStart_list Pn (T.self _ _ _ _ _ (T.keep _ _ _ f λb _ o e=>old b o e) Pn)
end
end L2
namespace DI
open PySem L2
def nS:ý "isinstance"=ϊ (.builtin "isinstance"):=nofun
def jj:ý "int"=ϊ (.type "int"):=nofun
def abe:ý "bool"=ϊ (.type "bool"):=nofun
def jF:ý "tuple"=ϊ (.type "tuple"):=nofun
def mT:ý "str"=ϊ (.type "str"):=nofun
def ac7:ý "set"=ϊ (.type "set"):=nofun
def uz:ý "all"=ϊ (.builtin "all"):=nofun
def Po:ý "any"=ϊ (.builtin "any"):=nofun
def jk:ý "len"=ϊ (.builtin "len"):=nofun
def ac8:ý "max"=ϊ (.builtin "max"):=nofun
def ac9:ý "min"=ϊ (.builtin "min"):=nofun
def CY:ý "sorted"=ϊ (.builtin "sorted"):=nofun
structure Gd (K) (mg:Str->Option á) (x) (st) (ps) (f) (fd):Prop where
 mg:mg x=ϊ (.ref f)
 fn:qo K x x st f fd
 b:Binds K fd ps []
def jq (g:D->Env->Option Env) (t:agS Bool) (act:agS (List D)) (kQ:Env):List D->ag->Res (List D)
 | [],s=>ok [] s
 |d::Z,s=>match g d kQ with
  |none=>ϋ
  |some env=>ai (ne (t env s)) λb s=>if b=ό then ai (ne (act env s)) λY s=>ai (jq g t act kQ Z s) λX s=>ok (Y++X) s
   else jq g t act kQ Z s
def emit (f:agS D):agS (List D):=λenv s=>ai (f env s) λx s=>ok [x] s
def more (it:agS (List D)) (g:D->Env->Option Env) (t:agS Bool) (act:agS (List D)):agS (List D):=λenv s=>ai (it env s) λZ s=>jq g t act env Z s
def wN (nt:Nat) (cap:List Nat) (it:agS (List D)) (g:D->Env->Option Env) (t:agS Bool) (act:agS (List D)):agS D:=λenv s =>
 ai (it env s) λY s=>ai (ne (jq g t act (Õ nt ϋ++lQ cap env) Y s)) λZ s=>lP Z (ok (.lst Z) s)
def Sl (g:D->Env->Option Env) (sl:List Nat):Prop:=∀d env Z,g d env=ϊ Z->Z.length=env.length/\∀i,i∉sl->Z[i]?=env[i]?
def wt (i):Sl (gN i) [i]:=λd env Y h=>by
 have e:=agX h;subst e;refine⟨Ă ..,λj Z=>?_⟩;rw[ð (λz=>Z (by simp[z]))]
theorem Pp:∀(is:List Nat) ds env aV,iE (is.map gN) ds env=ϊ aV->aV.length=env.length/\∀i,i∉is->aV[i]?=env[i]?
 | [],[],env,aV,h=>by
  have e:=agX h;rw[e];exact⟨rfl,λ_ _=>rfl⟩
 | [],_::_,_,_,h=>by cases h
 |_::_,[],_,_,h=>by cases h
 |j::is,d::ds,env,aV,h=>by
  have Y:=h;obtain⟨X,W⟩:=Pp is ds _ aV Y;refine⟨by rw[X,Ă],λi Z=>?_⟩;rw[W i (λz=>Z (É _ z)),ð (λz=>Z (by rw[z];exact Ó ..))]
def Aa (is):Sl (gT (is.map gN)) is:=λd env Z h=>by
 cases d with
 |tup Y=>exact Pp is Y env Z h
 |_=>cases h
def len_same {env aV} (hs:Sl g sl) (hg:g d env=ϊ aV):aV.length=env.length:=(hs d env aV hg).1
def jZ (sl:List Nat) (env:Env):Prop:=∀i∈sl,∀d,env[i]?≠ϊ (ϊ d)
def cg.back {env aV} {σ} {g} {sl} {d} (hs:Sl g sl) (hf:jZ sl env) (hg:g d env=ϊ aV) (hl:env.length=σ.length) (h:cg K w aV σ):cg K w env σ :=
 ⟨hl,λi x e=>by
  by_cases Z:i∈sl
  ·exact absurd e (hf i Z x)
  ·exact h.val i x (by rw[(hs d env aV hg).2 i Z];exact e)⟩
def xi (K:Ň) (Pre:Env->Prop) (ta:rW) (act:agS (List D)):Prop:=∀w env V Y Z W U Q,Pre env->bg K w->cg K w env V->aC K w Z Y ->
 act env w.aY=ϊ (.ok W,U)->Y.length+W.length<=Ô->(∀X T S,Le K w X->bg K X->X.aY=U->cg K X env T->aC K X (Z++W) S->Q T S X.H)->ta V w.H Y Q
def tK {r:Res α} {k} {b:β} {s'} (h:ai r k=ϊ (.ok b,s')):∃a s,r=ϊ (.ok a,s)/\k a s=ϊ (.ok b,s'):=by
 match r,h with
 |some (.ok a,s),h=>exact⟨a,s,rfl,h⟩
def DK {r} {a:α} {s} (h:ne r=ϊ (.ok a,s)):r=ϊ (.ok a,s):=by
 match r,h with
 |some (.ok b,Z),h=>exact h
def Kd {f}:xi K (λ_=>True) (Pk (tE K cM f)) (emit f):=by
 intro w env X W Z J I Q _ S Y V h U T;obtain⟨x,H,R,P⟩:=tK h;cases P;refine⟨by simpa using U,w,env,rfl,S,Y,?_⟩;rw[R];intro O le N M v L;exact T O X _ le N M (Y.le le) (aC.append (le.all V) (aC.one L))
def Lk {Pre} {g0} {g} {nt} {sl} {t} {act} {ta} {env} {w1} {J} {ds xs accD} {s'} {τ} {acc} {Q}
  (T:Tg K g0 g nt) (hs:Sl g sl) (hf:jZ sl env) (hp:∀d aV,g d env=ϊ aV->Pre aV) (hA:xi K Pre ta act) (hJ:qu K w1 J ds) (S1:bg K w1) (eo:cg K w1 env τ) (da:aC K w1 accD acc)
  (h:jq g t act env ds w1.aY=ϊ (.ok xs,s')) (hl:acc.length+xs.length<=Ô) (hQ:∀w' fX vs,Le K w1 w'->bg K w'->w'.aY=s'->cg K w' env fX->aC K w' (accD++xs) vs->Q fX vs w'.H) :
  CA J g0 (tT K cM t) ta τ acc w1.H Q:=by
 refine⟨λi m τ acc v=>m=ds.length-i/\i<=ds.length/\∃w' accD xs,w'.H=v/\Le K w1 w'/\bg K w'/\cg K w' env τ/\aC K w' accD acc/\jq g t act env (ds.drop i) w'.aY=ϊ (.ok xs,s')/\acc.length+xs.length<=Ô /\
   (∀Z fX vs,Le K w' Z->bg K Z->Z.aY=s'->cg K Z env fX->aC K Z (accD++xs) vs->Q fX vs Z.H),
  ⟨_,rfl,č _,w1,accD,xs,rfl,Le.refl _,S1,eo,da,h,hl,hQ⟩,?_⟩
 intro i m τ acc v zzz;obtain⟨rfl,hi,w',accD,xs,rfl,U,O,u,S,Y,N,M⟩:=zzz;by_cases L:i<ds.length
 ·right
  obtain⟨c,a⟩:=(hJ w' U O i).1 _ (Ò L);rw[ŝ L] at Y;erw[jq] at Y
  cases X:g _ env with
  |none=>rw[X] at Y;cases Y
  |some I =>
   rw[X] at Y;obtain⟨b,s2,G,s⟩:=tK Y;have G:=DK G;refine⟨c,fun τ acc r=>∃w' accD xs,w'.H=r/\Le K w1 w'/\bg K w'/\cg K w' env τ/\aC K w' accD acc/\jq g t act env _ _=ϊ _/\acc.length+xs.length<=Ô /\
    (∀Z fX vs,Le K w' Z->bg K Z->Z.aY=s'->cg K Z env _->aC K Z (accD++xs) vs->Q _ vs _),fun sr AW r q=>⟨_,by omega,rfl,L,q⟩,λx H3 y=>?_⟩
   obtain⟨Z,rfl,V,p,es,dv⟩:=a x H3 y;refine T.imp _ _ _ _ ⟨Z,env,_,I,rfl,p,u.le V,dv,X,fun vd R=>⟨Z,I,rfl,p,R,?_⟩⟩;rw[es,G];intro o W n l
   cases b with
   |true =>
    obtain⟨ys,s3,P,h3⟩:=tK s;have P:=DK P;obtain⟨zs,s4,hz,h4⟩:=tK h3;cases h4;rw[<- l] at P;refine hA o I _ acc accD ys s3 _ (hp _ _ X) n (R.le W) ((V.trans W).all S) P (by rw[Ù] at N;omega) λw4 τ4 vs k S4 e4 j f=>?_;have lv:=f.length;refine⟨w4,_,zs,rfl,U.trans (V.trans (W.trans k)),S4,j.back hs hf X ?_,f,by rw[e4];exact hz,?_,λF E D C B A z w=>M F _ D (V.trans (W.trans (k.trans C))) B A z (by rw[<- ġ];exact w)⟩
    ·rw[<- j.len]
     exact(len_same hs X).symm
    ·rw[Ù] at N lv
     have:=S.length;omega
   |false =>
    exact⟨o,accD,xs,rfl,U.trans (V.trans W),n,(R.le W).back hs hf X (by rw[<- R.len];exact(len_same hs X).symm),(V.trans W).all S,by rw[l];exact s,N,λF E D C B A z w=>M F _ D (V.trans (W.trans C)) B A z w⟩
 ·left
  have e:i=ds.length:=by omega
  subst e;rw[List.drop_length] at Y;cases Y;exact⟨(hJ w' U O _).2 (agW _),M w' τ acc (Le.refl _) O rfl u (by rw[ú];exact S)⟩
def B6 {Pre Gg} {g0} {g} {nt} {sl} {it} {t} {act} {ta} (T:Tg K g0 g nt) (hs:Sl g sl) (hA:xi K Pre ta act)
  (h1:∀env,Gg env->jZ sl env) (h2:∀d env aV,Gg env->g d env=ϊ aV->Pre aV):xi K Gg (Pl (fH K cM it) g0 (tT K cM t) ta) (more it g t act):=by
 intro w env A V Y z y Q X S W U h R P;obtain⟨x,v,O,N⟩:=tK h;refine⟨w,env,rfl,S,W,?_⟩;rw[O];intro u Z M e1 J L;exact Lk T hs (h1 env X) (λd aV I=>h2 d env aV X I) hA L M (W.le Z) (Z.all U) (by rw[e1];exact N) R λH s G F E D C B=>P H _ G (Z.trans F) E D C B
def Ll (T:Tg K g0 g nt) (hs:Sl g sl) (Rv:∀i∈sl,i<nt) (hA:xi K Pre ta act)
 (hp:∀d caps aV,g d (Õ nt ϋ++caps)=ϊ aV->Pre aV) (σ) (H) (Q) :
  tE K Ξ (wN nt cap it g t act) σ H Q->Og (fH K Ξ it) nt cap g0 (tT K cM t) ta σ H Q:=by
 intro zzz;obtain⟨w,env,rfl,S,V,h⟩:=zzz;refine⟨w,env,rfl,S,V,(Out.ai h).mono λA P O N Y J M=>?_⟩
 cases W:jq g t act _ P _ with
 |none=>rw[W] at Y;exact Y.elim
 |some r =>
  obtain⟨r,z⟩:=r;rw[W] at Y
  cases r with
  |error x=>exact Y.elim
  |ok y =>
   obtain⟨L,Y⟩:=v8 Y;have I:=(V.le O).block nt cap (Õ nt ϋ) ∅;refine Lk T hs (λi U d e=>?_) (λd aV G=>hp d _ aV G) hA M N I (accD:=[]) rfl W (by simpa using L) λF v E D R C u B p X=>?_
   ·rw[ç (by simpa using Rv i U),Ī,Ö (Rv i U)] at e
    cases e
   ·exact Y _ (D.trans (Fw.grow X).le) (R.grow X) C _ ⟨p,E,rfl,⟨(show ¬ F.Z p from oh R X),dC⟩,(Fw.grow X).le.all B⟩
def jZ.of {g} {sl dG} (hs:Sl g sl) (hd:∀i∈dG,i<nt/\i∉sl) {d} {caps aV:Env} (hg:g d (Õ nt ϋ++caps)=ϊ aV):jZ dG aV:=λi Y x e=>by
 obtain⟨Z,X⟩:=hd i Y;rw[(hs _ _ _ hg).2 i X,ç (by simpa using Z),Ī,Ö Z] at e;cases e
def jZ.on (hs:Sl g sl) (hd:∀i∈dG,i∉sl) (hf:jZ dG env) (hg:g d env=ϊ aV):jZ dG aV:=λi Z x e=>by
 rw[(hs _ _ _ hg).2 i (hd i Z)] at e;exact hf i Z x e
section
variable {X:Cx} {Ξ:Wd->bE->Prop} {el tg src sF oO Hs Gh:Ő} {tests wO Oh:List Ő} {sc:agH} {ps pos:Pos} {N:List Str} {nt:Nat} {cap:List Nat} {it jW By:agS (List D)} {gd sG Ht:D->Env->Option Env} {g0 yK Rw:TG} {sl dG qv:List Nat} {ft nI Rx:agS Bool} {f:agS D}
abbrev Er (nt:Nat) (cap:List Nat) (it:agS (List D)) (g:D->Env->Option Env) (t:agS Bool) (jW:agS (List D)) (g2:D->Env->Option Env) (t2:agS Bool) (f:agS D):agS D:=wN nt cap it g t (more jW g2 t2 (emit f))
abbrev Oi (nt:Nat) (cap:List Nat) (it:agS (List D)) (g:D->Env->Option Env) (t:agS Bool) (jW:agS (List D)) (g2:D->Env->Option Env) (t2:agS Bool) (By:agS (List D)) (g3:D->Env->Option Env) (t3:agS Bool) (f:agS D):agS D:=wN nt cap it g t (more jW g2 t2 (more By g3 t3 (emit f)))
noncomputable def apart (nt:Nat) (sl dG:List Nat):Bool:=dG.all (λi=>ώ (i<nt)&&!sl.contains i)
def tL (h:apart nt sl dG=ό):∀i∈dG,i<nt/\i∉sl:=λi Z=>by
 have:=Ü.mp h i Z;erw[Â,Ã,û,List.contains_eq_mem,decide_eq_false_iff_not] at this;exact this
noncomputable abbrev aeV (e el:Ő) (d:Nat):PySem.Env->ă->ă->Sem PySem.Fin:=λce D it=>(do let _ <- call (.builtin "list.append") [.ref D,<- į el ce]) >>= λ_=>again (.compLoop e d (.ref it) (.ref D) ce)
noncomputable abbrev QA (e src:Ő) (d:Nat):PySem.Env->ă->ă->Sem PySem.Fin:=λce D it=>do
 let x <- į src ce
 age src.pos
 let x <- Ā src ce x
 let _ <- runOwn (.compStart e (d+1) (<- afA [x] (pyIter x)) (.ref D) ce) ce
 again (.compLoop e d (.ref it) (.ref D) ce)
def Nb (hc:X.calm=ό) (S:wF X sc N nt cap) (T:Tg X.K g0 gd nt) (gM:Sl gd sl) (T2:Tg X.K yK sG nt) (de:Sl sG dG) (hi:PI X tg src (fH X.K Ξ it))
  (hY:∀cl C s H ex pn,PG (fy X N sc cl C s H ex pn) tg g0/\PF (fy X N sc cl C s H ex pn) tests (tT X.K cM ft)/\PI (fy X N sc cl C s H ex pn) sF oO (fH X.K cM jW)/\PG (fy X N sc cl C s H ex pn) sF yK/\PF (fy X N sc cl C s H ex pn) wO (tT X.K cM nI)/\PE (fy X N sc cl C s H ex pn) el (tE X.K cM f))
  (vj:apart nt sl dG=ό:=by rfl) (vn:apart nt [] sl=ό:=by rfl)
  (hs:∀x,Ā src X.env x=pure x:=by intro _;rfl) (Hu:∀ce x,Ā oO ce x=pure x:=by intro _ _;rfl):PE X (.ListComp el [⟨tg,src,tests,0⟩,⟨sF,oO,wO,0⟩] sc ps) (tE X.K Ξ (Er nt cap it gd ft jW sG nI f)) :=
 cN (L0 (act:=QA _ oO 0) hc S T.nL hi (λcl C s H ex pn=>by
   obtain⟨y1,y2,y3,y4,y5,Y⟩:=hY cl C s H ex pn;exact⟨y1,y2,λD Z it=>CV rfl hc rfl y3 y4 T2.nL y5 (λV=>LZ rfl Y) (λ_=>rfl) (Hu _)⟩) (λ_ _ _=>rfl) hs)
  (Ll T gM (λi hi=>(tL vn i hi).1) (B6 T2 de Kd (λ_ h=>h) (λ_ _ _ _ _=>trivial)) λd Z U W=>jZ.of gM (tL vj) W)
def Zj (hc:X.calm=ό) (S:wF X sc N nt cap) (T:Tg X.K g0 gd nt) (gM:Sl gd sl) (T2:Tg X.K yK sG nt) (de:Sl sG dG) (T3:Tg X.K Rw Ht nt) (hs3:Sl Ht qv) (hi:PI X tg src (fH X.K Ξ it))
  (hY:∀cl C s H ex pn,PG (fy X N sc cl C s H ex pn) tg g0/\PF (fy X N sc cl C s H ex pn) tests (tT X.K cM ft)/\PI (fy X N sc cl C s H ex pn) sF oO (fH X.K cM jW)/\PG (fy X N sc cl C s H ex pn) sF yK/\PF (fy X N sc cl C s H ex pn) wO (tT X.K cM nI) /\
   PI (fy X N sc cl C s H ex pn) Hs Gh (fH X.K cM By)/\PG (fy X N sc cl C s H ex pn) Hs Rw/\PF (fy X N sc cl C s H ex pn) Oh (tT X.K cM Rx)/\PE (fy X N sc cl C s H ex pn) el (tE X.K cM f))
  (vj:apart nt sl dG=ό:=by rfl) (h13:apart nt sl qv=ό:=by rfl) (h23:apart nt dG qv=ό:=by rfl) (vn:apart nt [] sl=ό:=by rfl)
  (hs:∀x,Ā src X.env x=pure x:=by intro _;rfl) (Hu:∀ce x,Ā oO ce x=pure x:=by intro _ _;rfl) (hf3:∀ce x,Ā Gh ce x=pure x:=by intro _ _;rfl):PE X (.ListComp el [⟨tg,src,tests,0⟩,⟨sF,oO,wO,0⟩,⟨Hs,Gh,Oh,0⟩] sc ps) (tE X.K Ξ (Oi nt cap it gd ft jW sG nI By Ht Rx f)) :=
 cN (L0 (act:=QA _ oO 0) hc S T.nL hi (λcl C s H ex pn=>by
   obtain⟨y1,y2,y3,y4,y5,W,V,U,R⟩:=hY cl C s H ex pn;exact⟨y1,y2,λD Z it=>CV rfl hc rfl y3 y4 T2.nL y5 (λP=>CV (act:=λjW=>aeV _ el 2 _ D jW) rfl hc rfl W V T3.nL U (λjW=>LZ rfl R) (λ_=>rfl) (hf3 _)) (λ_=>rfl) (Hu _)⟩) (λ_ _ _=>rfl) hs)
  (Ll (Pre:=λenv=>jZ dG env/\jZ qv env) T gM (λi hi=>(tL vn i hi).1) (B6 T2 de (B6 T3 hs3 Kd (λ_ h=>h) (λ_ _ _ _ _=>trivial)) (λ_ h=>h.1) (λd env Q h Y=>jZ.on de (λi hi=>(tL h23 i hi).2) h.2 Y)) λd Z Q Y=>⟨jZ.of gM (tL vj) Y,jZ.of gM (tL h13) Y⟩)
end
end DI
namespace L2
open PySem PySem.Spec PyProof.Rows
end L2
namespace HT
open PySem PyProof.Rows
def Gi (A:Đ) (s:Û) (y x:á) (b:Bool):Prop:=∀prog w E Q,Q (.bool b) s->ê (è prog w) A (richCompare .Lt y x) Q E s
inductive j5 (A) (s):List á->List á->Bool->Prop where
 |nn:j5 A s [] [] ύ
 |nc (y) (ys):j5 A s [] (y::ys) ό
 |cn (x) (xs):j5 A s (x::xs) [] ύ
 |eq {xs ys} {b}:SeqAt.EqAt A s x y ό->j5 A s xs ys b->j5 A s (x::xs) (y::ys) b
 |lt {xs ys} {b}:SeqAt.EqAt A s x y ύ->Gi A s x y b->j5 A s (x::xs) (y::ys) b
section
open PySem.SeqAt
open PySem.AutoSeq1 (wpAny_loadPart')
open PySem.MeetsSeq PySem.MeetsSeq2 PySem.MeetsSeq3
def UT (l b:ă) (items pN:Array á) (n n2:Nat) (dd qm:Option ă) (sl dG:Array (Option á)) (sH:Bool) :
  Meets (Ŷ.«tuple.__lt__» ⟨[.ref l,.ref b],[]⟩)
   (λA R s=>s.heap.get? l=ϊ { cls:=.type "tuple",dict:=dd,data:=.seq items n,slots:=sl }/\s.heap.get? b=ϊ { cls:=.type "tuple",dict:=qm,data:=.seq pN n2,slots:=dG } /\
    j5 A.in1 s items.toList pN.toList sH/\R (.ok (.ret (.bool sH))) s) :=
 .of_wp λprog w A R s h=>by
  obtain⟨M,g,d,L,os⟩:=s;obtain⟨J,I,H,h⟩:=h;have f2:=AutoSeq1.sub_tuple_tuple
  wp_walk using wpAny_loadPart' J,wpAny_loadPart' I,wpAny_forIn_list _ (λrest b W=>b.1=ϋ/\W=⟨M,g,d,L,os⟩/\∃(X ws:List á),rest=X.zip ws /\
   j5 A.in1 ⟨M,g,d,L,os⟩ X ws sH/\X.length+pN.size=ws.length+items.size) _
  case turn =>
   rintro ⟨y,x⟩ rest b W ⟨V,rfl,X,ws,Y,U,Z⟩
   cases U with
   |nn=>cases Y
   |nc _ _=>cases Y
   |cn _ _=>cases Y
   |eq T S =>
    rw[ň] at Y
    injection Y with Q K
    injection Q with P O
    subst P O;erw[æ] at Z;refine À (T prog w _ _ ?_)
    wp_walk
    exact⟨rfl,rfl,_,_,K,S,by omega⟩
   |lt T S =>
    rw[ň] at Y
    injection Y with Q K
    injection Q with P O
    subst P O;refine À (T prog w _ _ ?_);have N:=S prog w
    wp_walk using N
    exact⟨_,rfl,by simpa using h⟩
  case fin =>
   rintro ⟨F,E⟩ W ⟨V,rfl,X,ws,Y,U,Z⟩;simp only at V;subst V;have G:sH=ώ (items.size<pN.size):=by
    cases U with
    |nn=>erw[ē] at Z;exact(Ê ⋯).symm
    |nc _ _=>erw[ē,æ] at Z;exact(Ä ⋯).symm
    |cn _ _=>erw[ē,æ] at Z;exact(Ê ⋯).symm
    |eq _ _=>rw[ň] at Y;cases Y
    |lt _ _=>rw[ň] at Y;cases Y
   rw[G] at h
   wp_walk
   exact⟨_,rfl,by simpa [Builtin.Tuple.tupleCompareSizes] using h⟩
  case h =>
   exact⟨rfl,rfl,items.toList,pN.toList,rfl,H,by erw[Ą];omega⟩
end
open PySem.SeqAt PySem.MeetsSeq
section
variable {prog:ù} {w:ĩ} {A:Đ} {E:á->Û->Prop} {s:Û}
def Nc (hl:IsTup s.heap l items) (hb:IsTup s.heap b pN) (hA:∀A',A'.units<=A.units+4->j5 A' s items.toList pN.toList sH)
 (hu:A.units<cLine) (h:Q (.bool sH) s):ê (è prog w) A (richCompare .Lt (.ref l) (.ref b)) Q E s:=by
 obtain⟨⟨cls,X,data,sl⟩,Z,W,n,V⟩:=id hl;obtain⟨⟨P,U,data2,T⟩,Y,S,R,hd2⟩:=id hb;subst W V S hd2;refine richCompare_meets_room ⟨_,Z,rfl⟩ ⟨_,Y,rfl⟩ PySem.F.slot_tuple_lt PySem.F.entry_tuple_lt (PySem.F.args_tuple_lt_2 ..) (UT l b items pN n R X U sl T sH)
  ⟨Z,Y,hA _ ?_,⟨(λx=>nomatch x),h⟩⟩ hu
 show A.units+1<=A.units+4;omega
end
end HT
namespace DI
open PySem L2 HT
mutual
noncomputable def kz:D->D->Option Bool
 | .int i,.int j=>ϊ (ώ (i<j))
 | .str x,.str y=>ϊ (ώ (x.cps.toList<y.cps.toList))
 | .tup Z,.tup Y=>kj Z Y
 |_,_=>ϋ
noncomputable def kj:List D->List D->Option Bool
 | [],[]=>ϊ ύ
 | [],_::_=>ϊ ό
 |_::_,[]=>ϊ ύ
 |x::Z,y::Y=>if beq x y=ό then kj Z Y else kz x y
end
section
variable {X:Cx} {Ξ:Wd->bE->Prop} {π:List (ă×Obj)} {σ:St} {s:Û} {w:Wd}
def ada (I:Inv X π σ w.H s) (A) (lx:lay x=ό) (ly:lay y=ό) (hu:A.units+dep x<cLine) (hx:DV X.K w x v) (hy:DV X.K w y u) (rx:RelV v vx) (ry:RelV u vy):SeqAt.EqAt A s vx vy (beq x y):=by
 obtain⟨as,Z⟩:=(hx.py (qL _ lx)).reads I rx;obtain⟨bs,Y⟩:=(hy.py (qL _ ly)).reads I ry;obtain⟨W,U⟩:=oi _ lx;obtain⟨V,T⟩:=oi _ ly;have:=SeqAt.eqAt_reads _ _ A s vx vy as bs Z Y W V ⋯;rw[wK _ _ lx ly] at this;exact this
mutual
theorem Pt (I:Inv X π σ w.H s):∀A (x y:D) (b:Bool) (v u:V) (vx vy:á),kz x y=ϊ b->lay x=ό->lay y=ό->A.units+5*dep x+5<cLine->DV X.K w x v->DV X.K w y u->RelV v vx->RelV u vy->Gi A s vx vy b
 |A,.int i,.int j,b,v,u,vx,vy,h,_,_,_,Z,Y,W,U=>by
  cases h;cases Z;cases Y;obtain⟨t,rfl⟩:=W;obtain⟨S,rfl⟩:=U;intro prog w E Q q;exact LM A s i t j S prog w E Q q
 |A,.str i,.str j,b,v,u,vx,vy,h,_,_,R,Z,Y,W,U=>by
  cases h;cases Z;cases Y;obtain⟨t,rfl⟩:=W;obtain⟨S,rfl⟩:=U;intro prog w E Q q;exact(PyProof.Rows.lt_str q)
 |A,.tup P,.tup O,b,v,u,vx,vy,h,N,M,R,Z,Y,W,U=>by
  erw[kz] at h;erw[DV] at Z Y;obtain⟨a,as,rfl,L,J⟩:=Z;obtain⟨c,cs,rfl,G,T⟩:=Y;cases W;cases U;obtain⟨aj,F,C,_⟩:=I.tuple L;obtain⟨B,z,r,_⟩:=I.tuple G;intro prog n E Q q;erw[dep] at R;exact Nc C r (λp o=>by
   have:=Oj I p P O b as cs aj B h (by simpa [lay] using N) (by simpa [lay] using M) ⋯ J T F z;simpa using this) ⋯ q
 |_,.az,_,_,_,_,_,_,h,_,_,_,_,_,_,_=>by cases h
 |_,.bl _,_,_,_,_,_,_,h,_,_,_,_,_,_,_=>by cases h
 |_,.lst _,_,_,_,_,_,_,h,_,_,_,_,_,_,_=>by cases h
 |_,.cL _,_,_,_,_,_,_,h,_,_,_,_,_,_,_=>by cases h
 |_,.au _,_,_,_,_,_,_,h,_,_,_,_,_,_,_=>by cases h
 |_,.ty _,_,_,_,_,_,_,h,_,_,_,_,_,_,_=>by cases h
 |_,.cS _,_,_,_,_,_,_,h,_,_,_,_,_,_,_=>by cases h
 |_,.exc ..,_,_,_,_,_,_,h,_,_,_,_,_,_,_=>by cases h
 |_,.dR _ _ _,_,_,_,_,_,_,h,_,_,_,_,_,_,_=>by cases h
 |_,.int _,.az,_,_,_,_,_,h,_,_,_,_,_,_,_=>by cases h
 |_,.int _,.bl _,_,_,_,_,_,h,_,_,_,_,_,_,_=>by cases h
 |_,.int _,.str _,_,_,_,_,_,h,_,_,_,_,_,_,_=>by cases h
 |_,.int _,.tup _,_,_,_,_,_,h,_,_,_,_,_,_,_=>by cases h
 |_,.int _,.lst _,_,_,_,_,_,h,_,_,_,_,_,_,_=>by cases h
 |_,.int _,.cL _,_,_,_,_,_,h,_,_,_,_,_,_,_=>by cases h
 |_,.int _,.au _,_,_,_,_,_,h,_,_,_,_,_,_,_=>by cases h
 |_,.int _,.ty _,_,_,_,_,_,h,_,_,_,_,_,_,_=>by cases h
 |_,.int _,.cS _,_,_,_,_,_,h,_,_,_,_,_,_,_=>by cases h
 |_,.int _,.exc ..,_,_,_,_,_,h,_,_,_,_,_,_,_=>by cases h
 |_,.int _,.dR ..,_,_,_,_,_,h,_,_,_,_,_,_,_=>by cases h
 |_,.str _,.az,_,_,_,_,_,h,_,_,_,_,_,_,_=>by cases h
 |_,.str _,.bl _,_,_,_,_,_,h,_,_,_,_,_,_,_=>by cases h
 |_,.str _,.int _,_,_,_,_,_,h,_,_,_,_,_,_,_=>by cases h
 |_,.str _,.tup _,_,_,_,_,_,h,_,_,_,_,_,_,_=>by cases h
 |_,.str _,.lst _,_,_,_,_,_,h,_,_,_,_,_,_,_=>by cases h
 |_,.str _,.cL _,_,_,_,_,_,h,_,_,_,_,_,_,_=>by cases h
 |_,.str _,.au _,_,_,_,_,_,h,_,_,_,_,_,_,_=>by cases h
 |_,.str _,.ty _,_,_,_,_,_,h,_,_,_,_,_,_,_=>by cases h
 |_,.str _,.cS _,_,_,_,_,_,h,_,_,_,_,_,_,_=>by cases h
 |_,.str _,.exc _ _,_,_,_,_,_,h,_,_,_,_,_,_,_=>by cases h
 |_,.str _,.dR ..,_,_,_,_,_,h,_,_,_,_,_,_,_=>by cases h
 |_,.tup _,.az,_,_,_,_,_,h,_,_,_,_,_,_,_=>by cases h
 |_,.tup _,.bl _,_,_,_,_,_,h,_,_,_,_,_,_,_=>by cases h
 |_,.tup _,.int _,_,_,_,_,_,h,_,_,_,_,_,_,_=>by cases h
 |_,.tup _,.str _,_,_,_,_,_,h,_,_,_,_,_,_,_=>by cases h
 |_,.tup _,.lst _,_,_,_,_,_,h,_,_,_,_,_,_,_=>by cases h
 |_,.tup _,.cL _,_,_,_,_,_,h,_,_,_,_,_,_,_=>by cases h
 |_,.tup _,.au _,_,_,_,_,_,h,_,_,_,_,_,_,_=>by cases h
 |_,.tup _,.ty _,_,_,_,_,_,h,_,_,_,_,_,_,_=>by cases h
 |_,.tup _,.cS _,_,_,_,_,_,h,_,_,_,_,_,_,_=>by cases h
 |_,.tup _,.exc ..,_,_,_,_,_,h,_,_,_,_,_,_,_=>by cases h
 |_,.tup _,.dR _ _ _,_,_,_,_,_,h,_,_,_,_,_,_,_=>by cases h
theorem Oj (I:Inv X π σ w.H s):∀(A:Đ) (xs ys:List D) (b:Bool) vs us (ps qs:List á),kj xs ys=ϊ b->dA xs=ό->dA ys=ό->A.units+5*fE xs+5<cLine->aC X.K w xs vs->aC X.K w ys us->Vals vs ps->Vals us qs->j5 A s ps qs b
 |A,[],[],b,vs,us,ps,qs,h,_,_,_,W,V,Z,Y=>by
  cases h;cases W;cases V;cases Z;cases Y;exact .nn
 |A,[],y::ys,b,vs,us,ps,qs,h,_,_,_,W,V,Z,Y=>by
  cases h;cases W;cases Z;obtain⟨u,r,rfl,_,_⟩:=V;cases Y;exact .nc ..
 |A,x::xs,[],b,vs,us,ps,qs,h,_,_,_,W,V,Z,Y=>by
  cases h;cases V;cases Y;obtain⟨u,r,rfl,_,_⟩:=W;cases Z;exact .cn ..
 |A,x::xs,y::ys,b,vs,us,ps,qs,h,U,T,L,W,V,Z,Y=>by
  obtain⟨v,r,rfl,N,J⟩:=W;obtain⟨u,G,rfl,M,Q⟩:=V;erw[dA,Â] at U T;erw[fE] at L;have F:=Nat.le_max_left (dep x) (fE xs);have E:=Nat.le_max_right (dep x) (fE xs)
  cases Z with
  |cons Z P =>
   cases Y with
   |cons Y O =>
    have S:=ada I A U.1 T.1 ⋯ N M Z Y;erw[kj] at h;split at h
    ·rename_i R
     rw[R] at S;exact .eq S (Oj I A xs ys b _ _ _ _ h U.2 T.2 ⋯ J Q P O)
    ·rename_i R
     rw[ŭ] at R;rw[R] at S;exact .lt S (Pt I A x y b _ _ _ _ h U.1 T.1 ⋯ N M Z Y)
end
def kS (x y:D) (s:ag):Res D:=if (lay x&&lay y&&ώ (dep x<=30))=ό then bW ((kz x y).map D.bl) s else ϋ
def xO (hr:bV k X.A):bP X (đ .Lt) (rO X.K Ξ kS):=by
 intro O s σ H x y v u Q I U T zzz;obtain⟨w,W,V,rfl,S,R,P,h⟩:=zzz;delta kS at h;split at h
 ·rename_i Z
  erw[Â,Ã] at Z;obtain⟨d,e,h⟩:=gU h
  cases Y:kz W V with
  |none=>rw[Y] at e;cases e
  |some b =>
   rw[Y] at e;cases e;exact Pt I _ W V b x y v u Y Z.1.1 Z.1.2 (by have:=hr.un;omega) R P U T _ _ _ _ ⟨.bl b,_,I,rfl,aK S h _ rfl⟩
 ·exact h.elim
end
end DI
namespace DI
open PySem L2
def vW:List D->ag->Res D:=aO 2 2 (aw (aU (aJ (e2 kS (aa 1) (eB eJ (ae (aa 0) ah)))) (aH (e2 ar (aa 0) (aa 1))) bz) (aH (eC (.int 0))))
def qI:List D->ag->Res D:=aO 1 1 (aH (eB nk (ae (b9 2 [] (uP (ae (aa 0) (ae (pd (aa 0) (lV (eC (.int 1))) mi) ah))) (gT [gN 0,gN 1]) cB (e2 kS (aa 0) (aa 1))) ah)))
def B7:List D->ag->Res D:=aO 1 1 (aH (dw (eB nr (ae (aa 0) (ae (eC (.ty "int")) ah))) (dw (xG (eB nr (ae (aa 0) (ae (eC (.ty "bool")) ah)))) (e2 xI (aa 0) (eC (.int 0))))))
def sZ:List D->ag->Res D:=aO 2 2 (aH (dw (aB B7 (ae (aa 0) ah)) (e2 kS (aa 0) (aa 1))))
def tB:List D->ag->Res D:=aO 1 1 (aH (aB sZ (ae (aa 0) (ae (eC (.int (8))) ah))))
def vQ:List D->ag->Res D:=aO 1 1 (aH (dw (eB nr (ae (aa 0) (ae (eC (.ty "tuple")) ah))) (dw (eB nk (ae (b9 1 [] (cA (aa 0)) (gN 0) cB (aB tB (ae (aa 0) ah))) ah)) (aB qI (ae (aa 0) ah)))))
end DI
namespace ST
open PySem PySem.W PyProof.Rows
structure Ord (α:Type) where
 lt:α->α->Bool
 yL:∀a,lt a a=ύ
 tr:∀a b c,lt a b=ό->lt b c=ό->lt a c=ό
 yM:∀a b,lt a b=ύ->lt b a=ύ->a=b
section
variable {α:Type} (O:Ord α)
def Ord.le (a b:α):Prop:=O.lt b a=ύ
variable {O}
def Ord.le_refl (a):O.le a a:=O.yL a
def Ord.le_of_lt (h:O.lt a b=ό):O.le a b:=by
 delta Ord.le
 cases Z:O.lt b a with
 |false=>rfl
 |true=>have:=O.tr _ _ _ h Z;rw[O.yL] at this;cases this
def Ord.uA (h:O.le a b) (g:O.le b c):O.le a c:=by
 delta Ord.le at *
 cases Z:O.lt c a with
 |false=>rfl
 |true =>
  cases Y:O.lt a b with
  |true=>have:=O.tr _ _ _ Z Y;rw[g] at this;cases this
  |false =>
   have e:=O.yM a b Y h;subst e;rw[g] at Z;cases Z
def Ord.Pu (h:O.le a b) (g:O.le b a):a=b:=O.yM _ _ g h
end
def ok (c:Nat->Nat->Bool) (n:Nat):KasT β->(β->Prop)->Prop
 | .ret a,Q=>Q a
 | .ask i j k,Q=>i<n/\j<n/\ok c n (k (c i j)) Q
theorem lH {c} {n} {Q R}:∀{t:KasT β},ok c n t Q->(∀a,Q a->R a)->ok c n t R
 | .ret a,h,i=>i a h
 | .ask _ _ k,h,i=>⟨h.1,h.2.1,lH h.2.2 i⟩
theorem tW {β γ} {c} {n} {f} {Q:γ->Prop}:∀{t:KasT β},ok c n t (λa=>ok c n (f a) Q)->ok c n (t.bind f) Q
 | .ret _,h=>h
 | .ask _ _ k,h=>⟨h.1,h.2.1,tW h.2.2⟩
theorem Pw {β} {c} {n} {cmp} (hc:∀i j C,i<n->j<n->C (c i j) s->cmp i j C s) {Q}:∀{t:KasT β},ok c n t (λa=>Q a s)->t.kasWp cmp Q s
 | .ret _,h=>h
 | .ask _ _ k,h=>hc _ _ _ h.1 h.2.1 (Pw hc h.2.2)
section
variable {α:Type} {O:Ord α} {x:Nat->α} {n:Nat}
noncomputable def ky (x:Nat->α) (p:Array Nat) (i:Nat):α:=x (p.getD i 0)
def Pm (n:Nat) (p:Array Nat):Prop:=p.size=n/\p.toList.Perm (â n)
def Up (O:Ord α) (f:Nat->α) (k:Nat):Prop:=∀i j,i<j->j<k->O.le (f i) (f j)
def Dn (O:Ord α) (f:Nat->α) (k:Nat):Prop:=∀i j,i<j->j<k->O.le (f j) (f i)
def Up.more (h:Up O f k) (hk:1<=k) (h1:O.le (f (k-1)) (f k)):Up O f (k+1):=λi j Z X=>by
 by_cases e:j=k
 ·subst e
  by_cases Y:i=j-1
  ·subst Y;exact h1
  ·exact Ord.uA (h i _ ⋯ ⋯) h1
 ·exact h i j Z ⋯
def Dn.more (h:Dn O f k) (hk:1<=k) (h1:O.le (f k) (f (k-1))):Dn O f (k+1):=λi j Z X=>by
 by_cases e:j=k
 ·subst e
  by_cases Y:i=j-1
  ·subst Y;exact h1
  ·exact Ord.uA h1 (h i _ ⋯ ⋯)
 ·exact h i j Z ⋯
def Pm.lt (h:Pm n p) (hi:i<n):p.getD i 0<n:=by
 have Z:i<p.size:=by rw[h.1];exact hi
 have:p[i]∈p.toList:=by simp
 have e:p.getD i 0=p[i]:=by simp[Array.getD,Z]
 rw[e];exact î.mp (h.2.mem_iff.mp this)
def Pm.rev (h:Pm n p) (i j):Pm n (kas_rev p i j):=⟨by rw[kas_rev_size];exact h.1,(Array.perm_iff_toList_perm.mp (mirror_perm p i j _)).trans h.2⟩
def Pm.bub (h:Pm n p) (i j):Pm n (bubble p i j):=⟨by rw[bubble_size];exact h.1,(Array.perm_iff_toList_perm.mp (bubble_perm p i j)).trans h.2⟩
def wu {p q:Array Nat} {i j} (h:p[i]?=q[j]?):p.getD i 0=q.getD j 0:=by
 rw[Array.getD_eq_getD_getElem?,Array.getD_eq_getD_getElem?,h]
def Es {i j} (hj:j<=p.size) (k):ky x (kas_rev p i j) k=if i<=k/\k<j then ky x p (i+j-1-k) else ky x p k:=by
 have e:=getElem?_mirror_all (i:=i) hj k;delta ky kas_rev
 split<;>rename_i h
 ·rw[Ö h] at e;rw[wu e]
 ·rw[Ý h] at e;rw[wu e]
def Ol {k d} (hk:k<p.size) (hd:d<=k) (i):ky x (bubble p k d) i=if i=k-d then ky x p k else if k-d<i/\i<=k then ky x p (i-1) else ky x p i:=by
 have e:=getElem?_bubble hk d hd i;by_cases h:i=k-d
 ·rw[Ö h] at e |-;exact ı x (wu e)
 ·rw[Ý h] at e |-
  by_cases Z:k-d<i/\i<=k
  ·rw[Ö Z] at e |-;exact ı x (wu e)
  ·rw[Ý Z] at e |-;exact ı x (wu e)
def Nd (hj:j<=p.size) (he:∀k,i<=k->k<j->ky x p k=ky x p (j-1)):ky x (kas_rev p i j)=ky x p:=funext λk=>by
 rw[Es hj];split
 ·rw[he _ ⋯ ⋯,he k ⋯ ⋯]
 ·rfl
noncomputable abbrev asks (O:Ord α) (x:Nat->α) (i j:Nat):Bool:=O.lt (x i) (x j)
theorem Et (hp:Pm n p):∀f m,1<=m->m+f<=n->Up O (ky x p) m->ok (asks O x) n (kas_asc p f m) λr=>m<=r/\r<=m+f/\Up O (ky x p) r/\(r<m+f->O.lt (ky x p r) (ky x p (r-1))=ό)
 |0,m,Y,V,Z=>⟨agW _,agW _,Z,λz=>absurd z (ó _)⟩
 |f+1,m,Y,V,Z=>by
  refine⟨hp.lt ⋯,hp.lt ⋯,?_⟩
  show ok _ _ (if O.lt (ky x p m) (ky x p _)=ό then _ else _) _
  cases X:O.lt _ _ with
  |true =>
   exact⟨agW _,by omega,Z,λ_=>X⟩
  |false =>
   refine lH (Et hp f _ ⋯ ⋯ (Z.more Y X)) λr W=>⟨by omega,by omega,W.2.2.1,λz=>W.2.2.2 ⋯⟩
structure DS (O:Ord α) (x) (n) (p) (m q):Prop where
 pm:Pm n p
 q1:q+1<=m
 mn:m<=n
 dn:Dn O (ky x p) m
 bl:∀k,m-(q+1)<=k->k<m->ky x p k=ky x p (m-1)
def DS.turn (D:DS O x n p m q):Pm n (kas_rev p (m-(q+1)) m)/\ky x (kas_rev p (m-(q+1)) m)=ky x p :=
 ⟨D.pm.rev ..,Nd (by rw[D.pm.1];exact D.mn) D.bl⟩
theorem zP:∀f p m q,m+f<=n->DS O x n p m q->ok (asks O x) n (kas_desc f p m q) λr=>m<=r.2.1/\DS O x n r.1 r.2.1 r.2.2
 |0,p,m,q,_,D=>⟨agW _,D⟩
 |f+1,p,m,q,P,D=>by
  have q1:=D.q1;refine⟨D.pm.lt ⋯,D.pm.lt ⋯,?_⟩
  show ok _ _ (if O.lt (ky x p m) (ky x p _)=ό then _ else _) _
  cases X:O.lt _ _ with
  |true =>
   have one:∀Y,Pm n Y->ky x Y=ky x p->DS O x n Y (m+1) 0:=λY V U=>⟨V,by omega,by omega,by rw[U];exact D.dn.more ⋯ (Ord.le_of_lt X),λk T S=>by rw[show k=m+1-1 by omega]⟩;by_cases W:q > 0
   ·rw[Ö W]
    exact lH (zP f _ _ 0 ⋯ (one _ D.turn.1 D.turn.2)) λr Z=>⟨by omega,Z.2⟩
   ·rw[Ý W]
    exact lH (zP f _ _ 0 ⋯ (one _ D.pm rfl)) λr Z=>⟨by omega,Z.2⟩
  |false =>
   refine⟨D.pm.lt ⋯,D.pm.lt ⋯,?_⟩
   show ok _ _ (if O.lt (ky x p _) (ky x p m)=ό then _ else _) _
   cases R:O.lt _ _ with
   |true =>
    exact⟨agW _,D⟩
   |false =>
    have e:=O.yM _ _ X R;refine lH (zP f p _ _ ⋯ ⟨D.pm,by omega,by omega,D.dn.more ⋯ (by rw[e];exact Ord.le_refl _),λk T S=>?_⟩) λr Z=>⟨by omega,Z.2⟩;show _=ky x p m;by_cases Q:k=m
    ·rw[Q]
    ·rw[D.bl k ⋯ ⋯,e]
def Nf (hp:Pm n p) (h1:1<=m) (hm:m<=n) (hd:Dn O (ky x p) m):ok (asks O x) n (kas_tail3 m n p) λr=>1<=r.1/\r.1<=n/\Pm n r.2/\Up O (ky x r.2) r.1:=by
 refine tW ?_;have Z:Up O (ky x (kas_rev p 0 m)) m:=λi j W Y=>by
  rw[Es (by rw[hp.1];exact hm),Es (by rw[hp.1];exact hm),Ö ⟨by omega,by omega⟩,Ö ⟨by omega,Y⟩];exact hd _ _ ⋯ ⋯
 exact lH (Et (hp.rev 0 m) _ m h1 ⋯ Z) λr X=>⟨by omega,by omega,hp.rev 0 m,X.2.2.1⟩
def Ke (hp:Pm n p) (h1:1<=m) (hm:m+1<=n) (hd:Dn O (ky x p) (m+1)):ok (asks O x) n (kas_descPart m n p) λr=>1<=r.1/\r.1<=n/\Pm n r.2/\Up O (ky x r.2) r.1:=by
 refine tW (lH (zP _ p _ 0 ⋯ ⟨hp,by omega,hm,hd,λk Y X=>by rw[show k=m+1-1 by omega]⟩) λr Z=>?_);obtain⟨W,D⟩:=Z;split
 ·exact Nf D.turn.1 ⋯ D.mn (by rw[D.turn.2];exact D.dn)
 ·exact Nf D.pm ⋯ D.mn D.dn
def Xq (hp:Pm n p) (hn:1<=n):ok (asks O x) n (kas_count n p) λr=>1<=r.1/\r.1<=n/\Pm n r.2/\Up O (ky x r.2) r.1:=by
 refine tW (lH (Et hp _ 1 (agW _) ⋯ λi j U X=>by omega) λm R=>?_);obtain⟨Z,P,Y,Q⟩:=R;split
 ·exact⟨Z,by omega,hp,Y⟩
 ·rename_i e
  have N:m≠n:=λz=>e (by rw[z];exact ę n);have T:=Q ⋯;split
  ·refine⟨hp.lt ⋯,hp.lt ⋯,?_⟩
   show ok _ _ (if O.lt (ky x p 0) (ky x p _)=ό then _ else _) _
   cases S:O.lt _ _ with
   |true =>
    exact⟨Z,by omega,hp,Y⟩
   |false =>
    have W:∀k,0<=k->k<m->ky x p k=ky x p _:=λk _ V=>by
     have a1:O.le (ky x p k) (ky x p (m-1)):=by
      by_cases e:k=m-1
      ·rw[e];exact Ord.le_refl _
      ·exact Y k _ ⋯ ⋯
     have a2:O.le (ky x p (m-1)) (ky x p k):=by
      by_cases e:k=0
      ·rw[e];exact S
      ·exact Ord.uA S (Y 0 k ⋯ V)
     exact Ord.Pu a1 a2
    have V:=Nd (by rw[hp.1];omega) W;refine Ke (hp.rev 0 m) Z ⋯ ?_;rw[V];refine Dn.more (λi j U X=>?_) Z (Ord.le_of_lt T);rw[W i ⋯ ⋯,W j ⋯ X];exact Ord.le_refl _
  ·refine Ke hp Z ⋯ (Dn.more (λi j U X=>by omega) Z (Ord.le_of_lt T))
theorem CZ (hp:Pm n p) (hk:k<n) (hu:Up O (ky x p) k):∀f l r,r-l<=f->l<=r->r<=k->(∀i,i<l->O.le (ky x p i) (ky x p k))->(∀i,r<=i->i<k->O.le (ky x p k) (ky x p i)) ->
  ok (asks O x) n (kas_place p k f l r) λm=>m<=k/\(∀i,i<m->O.le (ky x p i) (ky x p k))/\(∀i,m<=i->i<k->O.le (ky x p k) (ky x p i))
 |0,l,r,W,V,X,a,b=>⟨by omega,a,λi Y=>b i ⋯⟩
 |f+1,l,r,W,V,X,a,b=>by
  delta kas_place;by_cases h:l ≥ r
  ·rw[Ö h]
   exact⟨by omega,a,λi Y=>b i ⋯⟩
  ·rw[Ý h]
   refine⟨hp.lt hk,hp.lt ⋯,?_⟩
   show ok _ _ (if O.lt (ky x p k) (ky x p _)=ό then _ else _) _
   cases Z:O.lt _ _ with
   |true =>
    refine CZ hp hk hu f l _ ⋯ ⋯ ⋯ a λi Y U=>?_;by_cases e:i=(l+r) / 2
    ·rw[e];exact Ord.le_of_lt Z
    ·exact Ord.uA (Ord.le_of_lt Z) (hu _ _ ⋯ U)
   |false =>
    refine CZ hp hk hu f _ r ⋯ ⋯ X (λi Y=>?_) b;by_cases e:i=(l+r) / 2
    ·rw[e];exact Z
    ·exact Ord.uA (hu _ _ ⋯ ⋯) Z
theorem Om:∀f p k,Pm n p->k+f=n->Up O (ky x p) k->ok (asks O x) n (kas_bin f p k) λq=>Pm n q/\Up O (ky x q) n
 |0,p,k,Y,X,Z=>⟨Y,by rw[<- X];exact Z⟩
 |f+1,p,k,Y,X,Z=>by
  refine tW (lH (CZ Y ⋯ Z k 0 k ⋯ (č _) (agW _) (λi K=>by omega) λi Q W=>by omega) λm P=>?_);obtain⟨Q,W,N⟩:=P;refine Om f _ _ (Y.bub ..) ⋯ λi j M J=>?_;have V:k<p.size:=by rw[Y.1];omega
  have L:k-(k-m)=m:=by omega
  rw[Ol V ⋯,Ol V ⋯,L];by_cases U:i=m
  ·rw[Ö U,Ý ⋯,Ö ⋯]
   exact N _ ⋯ ⋯
  ·rw[Ý U]
   by_cases T:m<i/\i<=k
   ·rw[Ö T,Ý ⋯,Ö ⋯]
    exact Z _ _ ⋯ ⋯
   ·rw[Ý T]
    by_cases S:j=m
    ·rw[Ö S];exact W _ ⋯
    ·rw[Ý S]
     by_cases R:m<j/\j<=k
     ·rw[Ö R]
      by_cases e:i=j-1
      ·rw[e];exact Ord.le_refl _
      ·exact Z _ _ ⋯ ⋯
     ·rw[Ý R];exact Z _ _ M ⋯
def Zk (hn:1<=n):ok (asks O x) n (kas_sort n) λq=>Pm n q/\Up O (ky x q) n:=by
 refine tW (lH (Xq ⟨by simp,by simp⟩ hn) λr X=>?_);obtain⟨W,V,Y,Z⟩:=X;split
 ·rw[Nat.max_eq_left W]
  exact Om _ _ _ Y ⋯ Z
 ·rw[show r.1=n by omega] at Z
  exact⟨Y,Z⟩
end
section
variable {α:Type} {O:Ord α} {x:Nat->α} {prog:ù} {w:ĩ} {A:Đ} {E:á->Û->Prop} {s:Û}
def Gj (prog:ù) (w:ĩ) (A:Đ) (O:Ord α) (x:Nat->α) (us:List á) (t:Û):Prop :=
 ê (è prog w) A (keyKind' us.toArray) (fun Z Y=>Y=t/\∀i j C,i<us.length->j<us.length->C (O.lt (x i) (x j)) t->ê (è prog w) A (keyLt' Z (us.getD i Value.none) (us.getD j Value.none)) C (λ_ _=>False) t) (λ_ _=>False) t
def nG (us:List á) (h:us.length<2):(us.toArray.zip us.toArray).map (·.2)=((List.toArray (â us.length)).toList.map λi=>us.getD i Value.none).toArray:=by
 rcases us with _ | ⟨u,_ | ⟨v,r⟩⟩
 ·exact Array.toList_inj.mp ∅
 ·exact Array.toList_inj.mp ∅
 ·(simp at h;omega)
def Ts (hb:s.heap.get? b=ϊ (seqObj "list" us.toArray m)) (hz:us.length<64)
 (hk:2<=us.length->∀h1,(∀c o,c≠b->s.heap.get? c=ϊ o->h1.get? c=ϊ o)->Gj prog w A O x us { s with heap:=h1 })
 (hR:∀q h' e,Pm us.length q->Up O (ky x q) us.length->(∀c o,c≠b->s.heap.get? c=ϊ o->h'.get? c=ϊ o)->h'.get? b=ϊ (seqObj "list" (q.toList.map λi=>us.getD i Value.none).toArray e)->R (.done (.ret .none)) { s with heap:=h' }) :
  ê (è prog w) A (Ŷ.«list.sort» ⟨[.ref b],[]⟩) R E s:=by
 have line:us.length<=Ô:=by rw[afW];omega
 obtain⟨e1,N⟩:∃e1,(s.heap.update b _).get? b=ϊ (seqObj _ _ e1):=⟨_,get?_update_seq hb λ_=>#[]⟩;generalize U:((s.heap.update b _).push (seqObj _ _ 0)).push (seqObj _ _ 0)=Y;have X:Y.get? b=ϊ (seqObj "list" #[] e1):=by rw[<- U];exact Á _ (Á _ N)
 have old:∀c o,c≠b->s.heap.get? c=ϊ o->Y.get? c=ϊ o:=λc o W e=>by
  rw[<- U];exact Á _ (Á _ (by rw[afu _ _ _ _ W];exact e))
 have last:=λq h1 T =>
  hR q _ _ h1 T (λc o W e=>by rw[afu _ _ _ _ W];exact old c o W e) (get?_update_seq X λ_=>(q.toList.map λi=>us.getD i _).toArray)
 rw[list_sort_plain];refine À (listItems_at hb rfl (À (listUpdate_at hb rfl ?_ (by exact line) (č _))));refine À (seqEpoch_at N rfl (À (wpAny_newTuple (À (wpAny_newList (Č ?_) (č _))) (by exact line))));rw[U];dsimp only;by_cases Z:us.toArray.size<2
 ·rw[Ö Z,Ö Z]
  refine À (Å ?_);refine À (Å ?_);have K:=by
   exact nG us (by exact Z)
  refine À (seqEpoch_at X rfl (À (listUpdate_at X rfl ?_ (č _) ?_)))
  ·erw[Ĺ,Æ,ñ]
   rw[K];refine Å (last _ ⟨by simp,by simp⟩ λi j B M=>?_);rw[ã] at Z;omega
  ·show ((us.toArray.zip _).map _).size<=Ô+1
   simp;omega
 ·rw[Ý Z,Ý Z]
  rw[ã] at Z;refine À (Ė (hk ⋯ Y old) (fun y t S=>?_) λ_ _ z=>z.elim);obtain⟨rfl,S⟩:=S
  have tree:(kas_sort _).kasWp _ (λq t=>t={ s with heap:=Y }/\Pm _ q/\Up O _ _) _ :=
   Pw (λi j C J M I=>S i j C J M I) (lH (Zk ⋯) λq L=>⟨rfl,L⟩)
  refine À (Ė (kat_run (Q:=λV t=>∃q:Array Nat,q.size=us.length/\arrOf V=q.map _/\failedOf V=ϋ/\t={ s with heap:=Y }/\Pm _ q/\Up O (ky x q) _)
   rfl ⋯ hz (λq V t a1 a2 H G=>⟨q,a1,a2,H,G⟩) tree) ?_ λ_ _ z=>z)
  rintro ⟨⟨⟩,V⟩ t ⟨q,L,P,F,rfl,T,D⟩;rw[kat_snds rfl P];refine À (seqEpoch_at X rfl (À (listUpdate_at X rfl ?_ (č _) ?_)))
  ·rw[F]
   erw[Ĺ,Æ,ñ];exact Å (last q T D)
  ·rw[ã,Ç,Ą]
   omega
end
open HT
def DL:∀a:List Int,lexLt a a=ύ:=λa=>by
 induction a with
 |nil=>rfl
 |cons i r ih=>rw[mz,Ö rfl];exact ih
def abf:∀a b c:List Int,lexLt a b=ό->lexLt b c=ό->lexLt a c=ό:=λa=>by
 induction a with
 |nil =>
  intro b c h g
  cases b with
  |nil=>cases h
  |cons j s=>cases c with
   |nil=>cases g
   |cons k t=>rfl
 |cons i r ih =>
  intro b c h g
  cases b with
  |nil=>cases h
  |cons j s =>
   cases c with
   |nil=>cases g
   |cons k t =>
    rw[mz] at h g |-;by_cases e1:i=j
    ·subst e1
     rw[Ö rfl] at h;by_cases e2:i=k
     ·rw[Ö e2] at g |-;exact ih s t h g
     ·rw[Ý e2] at g |-;exact g
    ·rw[Ý e1] at h
     have h:=ß h;by_cases e2:j=k
     ·subst e2
      rw[Ý e1];exact Ä h
     ·rw[Ý e2] at g
      have g:=ß g;rw[Ý ⋯];exact Ä ⋯
def Zl:∀a b:List Int,lexLt a b=ύ->lexLt b a=ύ->a=b:=λa=>by
 induction a with
 |nil =>
  intro b h g
  cases b with
  |nil=>rfl
  |cons j s=>cases h
 |cons i r ih =>
  intro b h g
  cases b with
  |nil=>cases g
  |cons j s =>
   rw[mz] at h g;by_cases e:i=j
   ·subst e
    rw[Ö rfl] at h g;rw[ih s h g]
   ·rw[Ý e] at h
    rw[Ý (ŧ e)] at g;have h:=of_decide_eq_false h;have g:=of_decide_eq_false g;omega
section
variable {prog:ù} {w:ĩ} {A:Đ} {E:á->Û->Prop} {s:Û}
noncomputable def ins (O:Ord α) (a:α):List α->List α
 | []=>[a]
 |b::r=>if O.lt b a=ό then b::ins O a r else a::b::r
def gj (O:Ord α):List α->List α
 | []=>[]
 |a::r=>ins O a (gj O r)
end
section
variable {α:Type} {O:Ord α}
def L3 (a) (l):(ins O a l).Perm (a::l):=by
 induction l with
 |nil=>exact .refl _
 |cons b r ih =>
  delta ins;split
  ·exact(List.Perm.cons b ih).trans (List.Perm.swap a b r)
  ·exact .refl _
def qJ (l):(gj O l).Perm l:=by
 induction l with
 |nil=>exact .refl _
 |cons a r ih=>exact(L3 a _).trans (ih.cons a)
def abg (a) (l) (h:l.Pairwise O.le):(ins O a l).Pairwise O.le:=by
 induction l with
 |nil=>exact List.pairwise_singleton ..
 |cons b r ih =>
  obtain⟨X,W⟩:=ò.mp h;delta ins
  split<;>rename_i Z
  ·refine ò.mpr ⟨λc Y=>?_,ih W⟩
   rcases Ñ.mp ((L3 a r).mem_iff.mp Y) with e|e
   ·rw[e];exact Ord.le_of_lt Z
   ·exact X c e
  ·have Z:=by rw[ŭ] at Z;exact Z
   refine ò.mpr ⟨λc Y=>?_,h⟩
   rcases Ñ.mp Y with e|e
   ·rw[e];exact Z
   ·exact Ord.uA Z (X c e)
def L4 (l):(gj O l).Pairwise O.le:=by
 induction l with
 |nil=>exact .nil
 |cons a r ih=>exact abg a _ ih
def VS:∀{l m:List α},l.Perm m->l.Pairwise O.le->m.Pairwise O.le->l=m:=by
 intro l
 induction l with
 |nil=>intro m h _ _;exact h.nil_eq
 |cons a r ih =>
  intro m h Z Y
  cases m with
  |nil=>exact absurd h.length_eq ∅
  |cons b t =>
   obtain⟨a1,a2⟩:=ò.mp Z;obtain⟨X,W⟩:=ò.mp Y;have e:a=b:=by
    rcases Ñ.mp (h.mem_iff.mp Ó) with e|e
    ·exact e
    ·rcases Ñ.mp (h.mem_iff.mpr Ó) with e'|e'
     ·exact e'.symm
     ·exact Ord.Pu (a1 b e') (X a e)
   subst e;rw[ih h.cons_inv a2 W]
def VT (hp:Pm xs.length q) (hu:Up O (ky (λi=>xs.getD i d) q) xs.length):q.toList.map (λi=>xs.getD i d)=gj O xs:=by
 refine VS ?_ ?_ (L4 xs)
 ·refine(hp.2.map _).trans ?_
  have:(â xs.length).map (λi=>xs.getD i d)=xs:=by
   apply Ţ;intro i;by_cases Z:i<xs.length
   ·simp[Z]
   ·simp[Z,adL Z]
  rw[this];exact(qJ xs).symm
 ·rw[List.pairwise_iff_getElem]
  intro i j Z V Y;have U:(q.toList.map λi=>xs.getD i d).length=xs.length:=by rw[Ç,Ą,hp.1]
  have X:j<q.size:=by rw[hp.1];omega
  have W:i<q.size:=by omega
  have:=hu i j Y ⋯;delta ky at this;simpa [W,X] using this
end
end ST
namespace DI
open PySem L2
section
variable {X:Cx} {Ξ:Wd->bE->Prop} {a e tg:Ő} {p pos:Pos} {f:agS D} {fa:agS (List D)}
noncomputable def rG (n:Nat):List D:=(â n).map λi:Nat=>D.int ((n)-1-i)
def VU (n):(rG n).length=n:=by simp[rG]
def VV (n i):(rG n)[i]?=if i<n then ϊ (.int ((n)-1-i)) else ϋ:=by
 delta rG;rw[å];split
 ·rename_i h;rw[Ķ h];rfl
 ·rw[Ĝ (by simp;omega)];rfl
def Oo:qu K w (AV n) (rG n):=λX V W i=>by
 refine⟨λd Z=>?_,λY=>by rw[VU] at Y;exact Y⟩;rw[VV] at Z;split at Z
 ·cases Z
  exact⟨by assumption,λx U ⟨e1,e2⟩=>⟨X,e1.symm,Le.refl _,W,rfl,e2⟩⟩
 ·cases Z
def Hw (fa:agS (List D)):agS (List D):=λenv s=>ai (fa env s) λZ s=>match Z with
 | [.int j]=>if (kM j&&ώ (0<=j))=ό then ok (rG j.toNat) s else ϋ
 |_=>ϋ
def adb {p2 lY} (hg:Gl X "reversed") (hm:X.mg "reversed"=ϋ) (Hc:Gl X "range") (Hd:X.mg "range"=ϋ) (ha:PA X [a] (tA X.K Ξ fa))
  (he:Ì [a] X.env=(ύ,į a X.env)::Ì [] X.env:=by rfl) (bY:(İ lY (Ì [] X.env)).any (·.1)=ύ:=by rfl)
  (hs:Ì [.Call (.Name "range" p2) [a] [] lY] X.env=[(ύ,į (.Call (.Name "range" p2) [a] [] lY) X.env)]:=by rfl)
  (Bt:Ì [.Call (.Name "range" p2) [a] [] lY] X.env=(ύ,į (.Call (.Name "range" p2) [a] [] lY) X.env)::Ì [] X.env:=by rfl) :
  PI X tg (.Call (.Name "reversed" p) [.Call (.Name "range" p2) [a] [] lY] [] pos) (fH X.K Ξ (Hw fa)) :=
 rb (aa0 hg hm (lD (Cp T7 Hc Hd nofun ha (by decide) (by decide) he bY) mF Bt) hs) fun σ H R V=>by
  obtain⟨w,env,U,S,T,h⟩:=V;subst U;refine⟨w,env,rfl,S,T,(Out.ai h).mono λM L J Q Z I P=>?_⟩;split at Z
  ·rename_i j
   split at Z
   ·rename_i Y
    erw[kM,Â,Ã] at Y;obtain⟨v,r,rfl,O,N⟩:=P;have e1:=O;have e2:=N;subst e1 e2;refine⟨j,rfl,λq W=>?_⟩;refine⟨q,j.toNat,rfl,?_,by omega,?_⟩
    ·rw[dC,Int.toNat_of_nonneg Y.2]
    ·exact Z _ (Fw.grow W).le (Q.grow W) rfl _ Oo
   ·exact Z.elim
  ·exact Z.elim
end
end DI
namespace L2
open PySem PySem.Spec PyProof.Rows
structure Oq (sc:agH) (cl gO:List (Str×ă)) (C:Nat) (h:ū):Prop where
 old:∀n c,gO.lookup n=ϊ c->(C<c/\(n,NameKind.cell)∈sc.names/\∃v,h.IsCell c v)\/cl.lookup n=ϊ c
 own:∀n,sc.names.lookup n=ϊ .cell\/(cl.lookup n).isSome=ό->∃c,gO.lookup n=ϊ c
 inj:(∀x y c,cl.lookup x=ϊ c->cl.lookup y=ϊ c->x=y)->(∀x c,cl.lookup x=ϊ c->c<C)->∀x y c,gO.lookup x=ϊ c->gO.lookup y=ϊ c->x=y
theorem Ct:∀names n acc,(afI n names acc).lookup x=ϊ c->((x,NameKind.cell)∈names/\n<=c)\/acc.lookup x=ϊ c
 | [],n,acc,h=>.inr h
 |(y,k)::r,n,acc,h=>by
  delta afI at h;split at h
  ·rename_i Z
   have Z:=by simpa using Z
   subst Z
   rcases Ct r _ _ h with ⟨h1,Y⟩|h1
   ·exact .inl ⟨É _ h1,by omega⟩
   ·rw[Ę] at h1
    split at h1
    ·rename_i e
     have e:=by simpa using e
     subst e;cases h1;exact .inl ⟨Ó,agW _⟩
    ·exact .inr h1
  ·rcases Ct r n acc h with ⟨h1,Y⟩|h1
   ·exact .inl ⟨É _ h1,Y⟩
   ·exact .inr h1
theorem Cu:∀(names) (n:Nat) (acc:List (Str×ă)),(∀x y c,acc.lookup x=ϊ c->acc.lookup y=ϊ c->x=y)->(∀x c,acc.lookup x=ϊ c->c<n)->∀x y c,(afI n names acc).lookup x=ϊ c->(afI n names acc).lookup y=ϊ c->x=y
 | [],n,acc,W,X=>W
 |(z,k)::r,n,acc,W,X=>by
  delta afI;split
  ·refine Cu r _ _ (λx y c Z Y=>?_) λx c Z=>?_
   ·rw[Ę] at Z Y
    split at Z
    ·rename_i e1
     split at Y
     ·rename_i e2
      exact(by simpa using e1:x=z).trans (by simpa using e2:y=z).symm
     ·cases Z
      exact absurd (X y _ Y) (ó _)
    ·split at Y
     ·cases Y
      exact absurd (X x _ Z) (ó _)
     ·exact W x y c Z Y
   ·rw[Ę] at Z
    split at Z
    ·cases Z;exact Ŋ _
    ·exact ĭ (X x c Z)
  ·exact Cu r n acc W X
theorem C0 {lo:Nat}:∀(names) (h) (acc:List (Str×ă)),lo<=h.objs.size->(∀x c,acc.lookup x=ϊ c->lo<=c->h.IsCell c ϋ)->(afI h.objs.size names acc).lookup x=ϊ c->lo<=c->(pushCells h names).IsCell c ϋ
 | [],h,acc,_,Z,e,Y=>Z x c e Y
 |(z,k)::r,h,acc,V,Z,e,Y=>by
  delta afI at e;delta pushCells;split at e
  ·rename_i W
   rw[Ö W];have U:(h.push { cls:=.type "cell",data:=.cell ϋ }).objs.size=h.objs.size+1:=ā ..;refine C0 r _ _ ⋯ (λy d X T=>?_) (by rw[U];exact e) Y;rw[Ę] at X;split at X
   ·cases X
    exact⟨_,Ë _ rfl,rfl⟩
   ·exact(Z y d X T).keeps λb o q=>Á _ q
  ·rename_i W
   rw[Ý W];exact C0 r h acc V Z e Y
def SR {Q:Env->Û->Prop}
 (hQ:∀gO h3,((∀x c,cl.lookup x=ϊ c->c<s.heap.objs.size)->Oq scope cl gO s.heap.objs.size h3)->h3.Ns s.heap.objs.size (λ_=>ϋ)->(∀b o,s.heap.get? b=ϊ o->h3.get? b=ϊ o)->Q (newEnv scope s.heap.objs.size globals gO qual ϋ .none (ϊ env) bi) { s with heap:=h3 }) :
  ê M A (newFunctionEnv scope globals cl [] qual ϋ .none (ϊ env) bi) Q E s:=by
 erw[newFunctionEnv,Option.isSome_some,ø];refine À (wpAny_alloc ?_)
 refine À (wpAny_layCells _ (λname kind cells=>by cases Z:kind==NameKind.cell<;>simp[Z]) _ _ _ _ ?_)
 rw[ā _];erw[List.forIn_nil];refine À (Å (Å ?_));have Y:(s.heap.push { cls:=.type "dict",data:=.dict #[] }).objs.size=s.heap.objs.size+1:=ā ..;refine hQ _ _ (λX=>⟨λn c e=>?_,λn W=>?_,λV U=>Cu _ _ _ V λx c e=>ĭ (U x c e)⟩) ((Heap.Ns.new _ _).keeps (pushCells_keeps _ _)) λb o e=>pushCells_keeps _ _ b o (Á _ e)
 ·rcases Ct _ _ _ e with ⟨h1,T⟩|h1
  ·exact .inl ⟨by omega,h1,ϋ,C0 _ _ cl ⋯ (λx d q S=>absurd (X x d q) (Nat.not_lt.mpr (Nat.le_of_succ_le S))) (by rw[Y];exact e) T⟩
  ·exact .inr h1
 ·exact afx.mp (Ŵ _ _ cl W)
abbrev eR (X:Cx) (N:List Str) (sc:agH) (cl:List (Str×ă)) (C:ă) (s:Û) (H:Hp) (ex:List ă) (pn:List (ă×Obj)):Cx:={ fy X N sc cl C s H ex pn with fn:=λx=>sc.names.lookup x==ϊ .cell }
structure rg (X:Cx) (sc:agH) (N:List Str) (nt) (cap:List Nat):Prop where
 kind:sc.kind=.function
 names:∀x∈sc.names,x.2=.local->sc.names.lookup x.1=ϊ .local
 cells:∀x∈sc.names,x.2=.cell->sc.names.lookup x.1=ϊ .cell
 frees:∀x∈sc.names,x.2=.free->sc.names.lookup x.1=ϊ .free/\(X.env.scope.names.lookup x.1=ϊ .cell\/X.env.scope.names.lookup x.1=ϊ .free)
 len:N.length=nt+cap.length
 F0:∀k j,cap[k]?=ϊ j->∃x,X.N[j]?=ϊ x/\N[nt+k]?=ϊ x/\(x,NameKind.free)∈sc.names
section
variable {X:Cx} {sc:agH} {N:List Str} {nt:Nat} {cap:List Nat} {cl gO:List (Str×ă)} {s:Û} {h1:ū} {H:Hp} {σ:St} {π:List (ă×Obj)} {fp:List ă} {C:ă} {t':Nat}
def Inv.abh (I:Inv X π σ H s) (S:rg X sc N nt cap) (dQ:∀n c,cl.lookup n=ϊ c↔((n,NameKind.free)∈sc.names/\X.env.cells.lookup n=ϊ c)) (iY:Oq sc cl gO C h1) (hf:∀b∈fp,gk X π H b) (hV:∀b∈fp,b<s.heap.objs.size)
  (hk:∀b o,s.heap.get? b=ϊ o->h1.get? b=ϊ o) (hC:s.heap.objs.size<=C) (qp:∃m,h1.Ns C m):Inv (eR X N sc gO C s H fp (X.pn++π)) [] (mG nt cap σ) H { s with heap:=h1,toks:=t' }:=by
 have M:=I.mE;have T:∀x c,cl.lookup x=ϊ c->c<s.heap.objs.size:=λx c e=>by
  obtain⟨v,o,W,_⟩:=I.cell x c ((dQ x c).mp e).2;exact Í W
 have F:∀x,(relabel sc _).names.lookup x=ϊ .cell\/(relabel sc X.env).names.lookup x=ϊ .free->(x,NameKind.free)∈sc.names\/sc.names.lookup x=ϊ _:=λx Z=>by
  rw[zh] at Z
  cases e:sc.names.lookup x with
  |none=>rw[e] at Z;rcases Z with z|z<;>cases z
  |some k =>
   have hm:(x,k)∈sc.names:=by
    obtain⟨l1,l2,e1,_⟩:=List.lookup_eq_some_iff.mp e;rw[e1];simp
   rw[e] at Z
   cases k with
   |free=>exact .inl hm
   |cell=>exact .inr rfl
   |_=>revert Z;simp
 have E:∀x,(x,NameKind.free)∈sc.names->∃c,X.env.cells.lookup x=ϊ c:=λx Z=>I.ok.has x (S.frees _ Z rfl).2;have L:∀x c,(x,NameKind.free)∈sc.names->X.env.cells.lookup x=ϊ c->gO.lookup x=ϊ c:=λx c Z R=>by
  have e:=(dQ x c).mpr ⟨Z,R⟩;obtain⟨d,hd⟩:=iY.own x (.inr (by rw[e];rfl))
  rcases iY.old x d hd with ⟨_,q,_⟩|q
  ·have Q:=S.cells _ q rfl
   have V:=(S.frees _ Z rfl).1;rw[Q] at V;cases V
  ·rw[e] at q
   cases q;exact hd
 have ok:Cx.Ok (eR X N sc gO C s H fp (X.pn++π)):=by
  refine⟨I.ok.mod,?_,I.ok.glob,I.ok.blt,hC,?_,?_,?_,I.ok.hd,I.ok.frames,.inl rfl,?_,I.bs,Ø I.ok.jv I.sz,?_,?_,I.stack,I.wj⟩
  ·exact S.kind
  ·exact iY.inj (λx y c Z D=>I.ok.inj x y c ((dQ x c).mp Z).2 ((dQ y c).mp D).2) λx c e=>È (T x c e) hC
  ·intro x Z
   rcases F x Z with hm|hm
   ·obtain⟨c,e⟩:=E x hm
    exact⟨c,L x c hm e⟩
   ·exact iY.own x (.inl hm)
  ·intro x c Z e
   rcases iY.old x c e with ⟨q,_,_⟩|q
   ·exact Ø hC (Nat.le_of_lt q)
   ·have V:=(S.frees _ ((dQ x c).mp q).1 rfl).1
    have Q:=by simpa using Z
    rw[Q] at V;cases V
  ·intro b Y
   refine⟨ä (È (hV b Y) hC),λx c e=>?_⟩
   rcases iY.old x c e with ⟨q,_,_⟩|q
   ·exact Ř (È (hV b Y) (Ø hC (Nat.le_of_lt q)))
   ·exact(hf b Y).2.2.2.2.1 x c ((dQ x c).mp q).2
  ·intro b o e Y
   rcases(hf b Y).2.2.2.1 with z|z
   ·exact I.ok.p9 b o e z
   ·exact absurd (È (Í e) (Ø I.ok.jv z)) (ó _)
  ·intro b Y z
   rcases Ñ.mp (M b z) with e|e
   ·exact(hf b Y).2.1 e
   ·exact(hf b Y).2.2.1 e
 obtain⟨m,hm⟩:=qp;obtain⟨mX,B,A⟩:=I.loc;refine⟨ok,rfl,I.bare,Un.kept hk,⟨m,hm,λi x v e1 e2 e3=>?_⟩,λx c e=>?_,I.aQ.fresh hC,λx c e=>?_,λp w=>?_,I.aQ.kept hk,?_⟩
 ·
  have K:=by
   apply adL;intro J;have:(mG nt cap σ)[i]?=ϊ ϋ:=by
    delta mG;rw[ç (by simpa using J),Ī,Ö J]
   rw[this] at e2;cases e2
  have U:(cap.map λj=>(σ[j]?).getD ϋ)[i-nt]?=ϊ (ϊ v):=by
   have e:=e2;delta mG at e;rw[ô (by simpa using K)] at e;simpa using e
  rw[å] at U
  cases P:cap[i-nt]? with
  |none=>rw[P] at U;cases U
  |some j =>
   rw[P] at U;have ev:(σ[j]?).getD ϋ=ϊ v:=agX U;have t:σ[j]?=ϊ (ϊ v):=by
    cases q:σ[j]? with
    |none=>rw[q] at ev;cases ev
    |some z=>rw[q] at ev;exact ı ϊ ev
   obtain⟨y,f1,f2,G⟩:=S.F0 _ _ P;rw[Nat.add_sub_cancel' K] at f2;have h:=agX (f2.symm.trans e1);subst h;obtain⟨g1,g2⟩:=S.frees _ G rfl;have g:se _ y:=.inr g2;obtain⟨u,r,l⟩:=A j y v f1 t g;refine⟨u,r,.inr ⟨?_,?_⟩⟩
   ·show (relabel sc _).names.lookup y=ϊ _\/(relabel sc _).names.lookup y=ϊ _
    rw[zh,g1];erw[Ž];split
    ·exact .inl rfl
    ·exact .inr rfl
   ·rcases l with ⟨k,_⟩ | ⟨_,c,R,f⟩
    ·have a:X.env.scope.names.lookup y=ϊ _:=k
     rw[a] at g2
     rcases g2 with z|z<;>cases z
    ·obtain⟨O,W,hd⟩:=f
     exact⟨c,L y c G R,O,hk _ _ W,hd⟩
 ·rcases iY.old x c e with ⟨_,_,q⟩|q
  ·exact q
  ·obtain⟨v,O,W,hd⟩:=I.cell x c ((dQ x c).mp q).2
   exact⟨v,O,hk _ _ W,hd⟩
 ·rcases iY.old x c e with ⟨q,_,_⟩|q
  ·exact I.aQ.fresh ⋯
  ·exact I.jJ x c ((dQ x c).mp q).2
 ·have su:p∈X.pn++π:=by simpa using w
  obtain⟨e,n,ne,nf,d⟩:=I.pin p su;refine⟨hk _ _ e,n,ä (È (Í e) hC),λz=>?_,d⟩
  rcases Ñ.mp (M _ z) with q|q
  ·exact ne q
  ·exact nf q
 ·delta mG
  rw[Ù,ż,Ç];exact S.len.symm
end
def T8 {A} {R} {s} {el tg src} {tests} {sc} {ps} {iW av} {ce} {XT} (hx:∀x s,XT x s->notedBy (è P w) A ce (λx s'=>R (.error x) s') x s) (J:Nat->Û->Prop)
  (turn:∀n s,J n s->ê (è P w) A (agQ iW) (λr s1=>match r with
   |none=>R (.ok .next) s1
   |some v=>ê (è P w) A (ő tg iW v) (λ_ s2=>ê (è P w) A (agP tg ce v) (λ_ s3 =>
     ê (è P w) A (forIn tests ό λc r=>if r=ό then do let ok <- isTrue c ce (į c ce);pure (ľ ok) else pure (ľ r)) (λok s4 =>
      if ok=ό then ê (è P w) A (į el ce) (λy s5=>ê (è P w) A (call (.builtin "list.append") [av,y]) (λ_ s6=>∃m,m<n/\J m s6) XT s5) XT s4
      else ∃m,m<n/\J m s4) XT s3) XT s2) XT s1) XT s)
  (n) (h:J n s):ų (è P w) A (.compLoop (.ListComp el [⟨tg,src,tests,0⟩] sc ps) 0 iW av ce) R s:=by
 refine codeAny_loop rfl J (λn s X=>?_) n h;refine wpAny_noted ?_;rw[compTurn_list];refine À (ŗ (À (Ė (turn n s X) (λr s1 Z=>?_) hx)))
 cases r with
 |none=>exact Å Z
 |some v =>
  refine À (Ė Z (λ_ s2 W=>?_) hx);refine À (Ė W (λ_ s3 V=>À (Ė V (λok s4 Y=>?_) hx)) hx)
  cases ok with
  |false=>exact Å ⟨rfl,Y⟩
  |true =>
   exact À (À (Ė Y (λy s5 U=>À (Ė U (λ_ s6 T=>Å (Å ⟨rfl,T⟩)) hx)) hx))
structure Px (P) (w) (E el tg src) (tests) (new:Sem á) (ap) (mk:ă->List V->HO) (l8:List V->Prop) where
 o0:Obj
 live:o0.isFreed=ύ
 Ac:ă->List V->ū->Prop
 clauses:clausesOf E=[⟨tg,src,tests,0⟩]
 turns:∀{R} {s} {iW av} {ce} {XT} (_:∀x s,XT x s->notedBy (è P w) A ce (λx s'=>R (.error x) s') x s) (J:Nat->Û->Prop)
  (turn:∀n s,J n s->ê (è P w) A (agQ iW) (λr s1=>match r with
   |none=>R (.ok .next) s1
   |some v=>ê (è P w) A (ő tg iW v) (λ_ s2=>ê (è P w) A (agP tg ce v) (λ_ s3 =>
     ê (è P w) A (forIn tests ό λc r=>if r=ό then do let ok <- isTrue c ce (į c ce);pure (ľ ok) else pure (ľ r)) (λok s4 =>
      if ok=ό then ê (è P w) A (į el ce) (λy s5=>ê (è P w) A (call (.builtin ap) [av,y]) (λ_ s6=>∃m,m<n/\J m s6) XT s5) XT s4
      else ∃m,m<n/\J m s4) XT s3) XT s2) XT s1) XT s)
  (n) (_:J n s),ų (è P w) A (.compLoop E 0 iW av ce) R s
 new:∀{X} {s} {Q},Q (.ref s.heap.objs.size) { s with heap:=s.heap.push o0 }->ê (è P w) A new Q X s
 start:∀{R} {s} {it acc} {env},ų (è P w) A (.compLoop E 0 it acc env) R s->ê (è P w) A (pyIter it) (λvz s'=>ų (è P w) A (.compLoop E 0 vz acc env) R s') (notedBy (è P w) A env λx s'=>R (.error x) s') s->ų (è P w) A (.compStart E 0 it acc env) R s
 init:∀{h},h.get? D=ϊ o0->Ac D [] h
 obj:∀{acc} {h},Ac D acc h->∃o,h.get? D=ϊ o/\∀v,o.data≠.cell v
 iS:∀{acc} {h h'},Ac D acc h->(∀o,h.get? D=ϊ o->h'.get? D=ϊ o)->Ac D acc h'
 Ot:∀{acc} {h} {H},l8 acc->Ac D acc h->gF P w (upd H D (mk D acc)) h D (mk D acc)
 add:∀{E} {s} {D} {acc} {v} {y} {Q},Ac D acc s.heap->RelV v y->l8 acc->l8 (acc++[v])->(∀h' tk,ĥ D s.heap h'->Ac D (acc++[v]) h'->Q .none { s with heap:=h',toks:=tk })->ê (è P w) A (call (.builtin ap) [.ref D,y]) Q E s
section
variable {X:Cx}
def KH {N} {nt:Nat} {cap} {wi:TI} {g:TG} {tf:TT} {te:TE} {p1:Pos} {use} {R} {π} {s:Û} {σ:St} {H:Hp} {Q:VK} {new} {ap:String} {mk} {l8} (B:Px X.prog X.w E el tg src tests new ap mk l8) (hc:X.calm=ό) (S:rg X sc N nt cap) (iK:oY g nt) (hi:PI X tg src wi)
  (xy:Cx->á->Û->Prop) (hY:∀cl (C:ă) (s:Û) (H:Hp) ex pn,PG ((eR X N sc cl C s H ex pn).ik (xy (eR X N sc cl C s H ex pn))) tg g/\PF ((eR X N sc cl C s H ex pn).ik (xy (eR X N sc cl C s H ex pn))) tests tf/\PE ((eR X N sc cl C s H ex pn).ik (xy (eR X N sc cl C s H ex pn))) el te)
  (hs:∀x,Ā src X.env x=pure x) (I:Inv X π σ H s) (h:wi σ H λJ H1=>Rh mk l8 J nt (pS cap σ) g tf te H1 Q)
  (hxe:∀cl (C:ă) (s2:Û) (H2:Hp) fp (D:ă) (x:á) (s':Û),Inv X π σ H2 s2->s2.heap.objs.size<=C->(∀b∈fp,gk X π H2 b)->xy (eR X N sc cl C s2 H2 fp (X.pn++π)) x s'->notedBy (è X.prog X.w) X.A (compEnvC sc cl C X.env) (λx il=>compPost (è X.prog X.w) X.A X.xe use R (.ref D) C (.error x) il) x s')
  (F8:∀(s':Û) (H1:Hp) (D C:ă) m,(∀h',ĥ C s'.heap h'->Inv X π σ H1 { s' with heap:=h' })->s'.heap.Ns C m->H1 C=ϋ->C≠X.env.locals->C∉X.fs->X.dS.heap.objs.size<=C->(∀x c,X.env.cells.lookup x=ϊ c->c≠C)->(∀p∈X.pn++π,p.1≠C)->Q (.ref D) H1->compPost (è X.prog X.w) X.A X.xe use R (.ref D) C (.ok .next) s') :
  ê (è X.prog X.w) X.A (comprehension E sc X.env p1 new ύ (į src X.env) use) R X.xe s:=by
 obtain⟨cl,E4,dQ⟩:=N5 λn f=>I.ok.has n (S.frees _ f rfl).2;refine wpAny_comprehension_free B.clauses hs E4 S.kind S.names (aW (hi π s σ H _ I h) λxv s1 h1=>aW h1 λiW s2 h2=>?_);obtain⟨it,fp,tn,J,H2,e,O,T,kY,f2,W,⟨m0,w0⟩,turn⟩:=h2;subst e;refine B.new (SR λd h3 l oM sv=>?_);generalize hD:s2.heap.objs.size=D at l oM sv |-;generalize hG:s2.heap.push B.o0=G at l oM sv |-;generalize Hl:G.objs.size=C at l oM sv |-;have hC:C=D+1:=by rw[<- Hl,<- hG,ā,hD]
 have sE:D≠C:=by omega
 have k:=agF hD;have t:s2.heap.objs.size<=C:=by omega
 have old:=λb o e=>sv b o (hG ▸ Á _ e);have uO:=B.init (sv _ _ (hG ▸ hD ▸ Ë _ B.live));have hV:∀b∈fp,b<s2.heap.objs.size:=λb U=>by
  obtain⟨o,e,_⟩:=T.obj _ _ kY b U;exact Í e
 have l:=l λx c e=>by
  obtain⟨v,o,ho,_⟩:=O.cell x c ((dQ x c).mp e).2;exact È (Í ho) t
 have IB:=O.abh (t':=s2.toks) S dQ l f2 hV old t ⟨_,oM⟩;have Hm:D∉dO X.stack:=λz=>by
  rcases Ñ.mp (O.mE D z) with e|e
  ·exact absurd (È O.lt k) (by rw[e];exact ó _)
  ·exact O.AN k e
 have pf:D∉fp:=λz=>absurd (È (hV D z) k) (ó _);have Ep:∀x c,d.lookup x=ϊ c->c≠D:=λx c e z=>by
  rcases l.old x c e with ⟨q,_,_⟩|e
  ·rw[z] at q
   exact absurd q (by rw[hC];exact Nat.not_lt.mpr (afq D))
  ·obtain⟨v,o,ho,_⟩:=O.cell x c ((dQ x c).mp e).2
   exact absurd (È (Í ho) (by rw[z];exact k)) (ó _)
 have E5:∀p∈X.pn++π,p.1≠D:=λp L z=>absurd (È (Í (O.pin p L).1) (by rw[z];exact k)) (ó _);have IB:=IB.ik (xy (eR X N sc d C s2 H2 fp (X.pn++π)));have Rz:∀x s',((eR X N sc d C s2 H2 fp (X.pn++π)).ik _).xe x s'->notedBy _ X.A _ (λx il=>compPost _ X.A X.xe use R (.ref D) C (.error x) il) x s':=λx s' z=>hxe d C s2 H2 fp D x s' O t f2 z;generalize M:(eR X N sc d C s2 H2 fp _).ik _=Y at IB Rz;have ph:∀{P:Hp} {pl},(∀b∈fp,P b=ϋ)->(∀p∈pl,p.1∉fp)->∀b∈fp,gk Y pl P b:=λ{P pl} f L b U=>by
  subst M;obtain⟨_,f1,sC,f3,f4,f5⟩:=f2 b U;refine⟨f b U,ä (È (hV b U) t),λz=>?_,.inl U,λx c e=>(l.old x c e).elim (λq z=>Ř (È (hV b U) (Ø t (Nat.le_of_lt q.1))) z) λe=>f4 x c ((dQ x c).mp e).2,λp yF=>?_⟩
  ·rcases Ñ.mp (O.mE b z) with e|e
   ·exact f1 e
   ·exact sC e
  ·rcases þ.mp yF with z|z
   ·exact f5 p z
   ·exact λe=>L p z (e ▸ U)
 have Hn:=M ▸ (hY _ _ _ _ _ _).1;have Ho:=M ▸ (hY _ _ _ _ _ _).2.1;have hE1:=M ▸ (hY _ _ _ _ _ _).2.2;have eP:Y.prog=X.prog:=M ▸ rfl;have eW:Y.w=X.w:=M ▸ rfl;have eA:Y.A=X.A:=M ▸ rfl;have eK:Y.K=X.K:=M ▸ rfl;have eE:Y.env=compEnvC sc d C X.env:=M ▸ rfl;have eC:Y.calm=ό:=M ▸ hc;have eS:Y.dS.heap.objs.size<=D:=M ▸ k;have eF:D∉Y.fs:=M ▸ Hm;have eL:D≠Y.env.locals:=M ▸ sE;have eCl:∀x c,Y.env.cells.lookup x=ϊ c->c≠D:=M ▸ Ep;have eN:∀p∈Y.pn,p.1≠D:=M ▸ E5;have fin:∀(s':Û) (j:St) (P:Hp) (Z:List V),Inv Y [] j P s'->B.Ac D Z s'.heap->P D=ϋ->l8 Z->(∀D,P D=ϋ->Q (.ref D) (upd P D (mk D Z))) ->
   compPost (è X.prog X.w) X.A X.xe use R (.ref D) C (.ok .next) s':=by
  intro s' j P Z F pl f hz q;subst M;obtain⟨m,hm,_⟩:=id F.loc;refine F8 s' _ D C m (λh' sb=>?_) hm ?_ (λz=>absurd (È O.lt t) (by rw[z];exact ó _)) (O.AN t) (Ø O.sz t) (λx c e z=>?_) (λp L z=>absurd (È (Í (O.pin p L).1) (by rw[z];exact t)) (ó _)) (q D f)
  ·have Ge:=F.aQ.but F.free sb
   have u:=(F.base.but t sb).adopt (o:=mk D Z) k f;refine O.wX (ch:=fp) F.os u (Ge.adopt f (B.Ot hz (B.iS pl λo e=>(sb.2 D sE).trans e))) F.bare (λb U=>?_);obtain⟨_,f1,_,f3,f4,f5⟩:=f2 b U;exact⟨f3,f1,f4,f5⟩
  ·rw[bI (ŧ sE)]
   exact F.free
  ·obtain⟨v,o,iX,_⟩:=O.cell x c e
   exact absurd (È (Í iX) (by rw[z];exact t)) (ó _)
 have loop:ų (è X.prog X.w) X.A (.compLoop E 0 (.ref it) (.ref D) (compEnvC sc d C X.env)) (compPost (è X.prog X.w) X.A X.xe use R (.ref D) C)
   { s2 with heap:=h3 }:=by
  refine B.turns Rz (λn s'=>∃i Z o P,Inv Y [] (o++pS cap σ) P s'/\o.length=nt/\tn i s'.heap/\(∀b∈fp,P b=ϋ)/\B.Ac D Z s'.heap/\P D=ϋ/\W i n Z P) ?_ m0
   ⟨0,[],_,H2,IB,by simp,T.keep _ _ _ kY λb _ o e=>old b o e,λb U=>(f2 b U).1,uO,O.aQ.fresh k,w0⟩
  intro n s3 zzz;obtain⟨i,Z,o3,H3,I3,RA,kZ,qk,RB,nD3,w3⟩:=zzz;generalize hτ:o3++pS cap σ=j at I3;obtain⟨a,ho,ade⟩:=B.obj RB;have yG:Inv Y [(D,a)] j H3 s3:=I3.nZ λp L=>by
   have e:=by simpa using L
   subst e;exact⟨ho,nD3,eL,eF,ade⟩
  have sD:∀p∈[(D,a)],p.1∉fp:=λp L=>by
   have e:=by simpa using L
   subst e;exact pf
  have vw:∀{pl} {fX:St} {P:Hp} {s':Û},Inv Y ([(D,a)]++pl) fX P s'->B.Ac D Z s'.heap/\P D=ϋ:=λF=>by
   have q:=F.pin (D,a) (Î _ (ï _ ∅));exact⟨B.iS RB λo e=>by rw[ho] at e;cases e;exact q.1,q.2.1⟩
  rcases turn i n Z H3 w3 with ⟨stop,hz,q⟩ | ⟨go,hz,N',hN,step⟩
  ·have hd:=T.done Y eP eW eK eC i [(D,a)] s3 j H3 Y.xe yG (ph qk sD) kZ stop
   rw[eA] at hd;refine aW hd λr s4 h4=>?_;obtain⟨hr,I4⟩:=h4;subst hr;obtain⟨Hj,n4⟩:=vw (pl:=[]) (by simpa using I4);exact fin s4 j H3 Z (Inv.nW I4) Hj n4 hz q
  ·have hd:=T.item Y eP eW eK eC i [(D,a)] s3 j H3 Y.xe yG (ph qk sD) kZ go
   rw[eA] at hd;refine aW hd λr s4 h4=>?_;obtain⟨u,hr,h4⟩:=h4;subst hr;refine aW h4 λ_ s5 h5=>?_;obtain⟨x,H5,I5,r5,y5,l7,yk⟩:=h5;have yl:=I5.pinned (ph yk sD) (T.obj _ _ l7);have q5:=Hn _ s5 j H5 x u _ yl r5 (hτ ▸ iK x o3 _ H5 _ RA (step o3 x H5 RA y5));rw[eP,eW,eA,eE] at q5;refine aW q5 λ_ s6 h6=>?_;obtain⟨yH,H6,I6,⟨o6,yI,A2⟩,q6⟩:=h6;have q7:=Ho _ s6 yH H6 _ I6 q6;rw[eP,eW,eA,eE] at q7;refine aW q7 λb s7 h7=>?_;obtain⟨H7,I7,q7⟩:=h7;have xM:∀{fX:St} {P:Hp} {s':Û},Inv Y ([(D,a)]++t5 fp s5.heap) fX P s'->tn (i+1) s'.heap/\∀b∈fp,P b=ϋ:=λF=>by
    refine⟨T.keep _ _ _ l7 λb U o e=>(F.pin (b,o) (Î _ (Î _ (sY U e)))).1,λb U=>?_⟩;obtain⟨o,e,_⟩:=T.obj _ _ l7 b U;exact(F.pin (b,o) (Î _ (Î _ (sY U e)))).2.1
   cases b with
   |false =>
    obtain⟨m',hm,w7⟩:=hN _ _ q7;obtain⟨Bv,n7⟩:=vw I7;obtain⟨t7,f7⟩:=xM I7;exact⟨m',hm,i+1,Z,o6,H7,A2 ▸ I7.nZ (λp L=>by simp at L),yI,t7,f7,Bv,n7,w7⟩
   |true =>
    have q8:=hE1 _ s7 yH H7 _ I7 q7;rw[eP,eW,eA,eE] at q8;refine aW q8 λy s8 h8=>?_;obtain⟨v,H8,I8,r8,q9⟩:=h8;obtain⟨m',hm,w8⟩:=hN _ _ q9;obtain⟨Hf,n8⟩:=vw I8;obtain⟨t8,f8⟩:=xM I8;have Bq:l8 (Z++[v]):=by
     rcases turn (i+1) m' _ H8 w8 with q|q
     ·exact q.2.1
     ·exact q.2.1
    refine B.add Hf r8 hz Bq λh9 tk9 Bu Hg=>?_;have Hh:Inv Y [] yH H8 s8:=I8.nZ (λp L=>by simp at L)
    have I9:Inv Y [] yH H8 { s8 with heap:=h9,toks:=tk9 }:=Hh.turned (it:=D) (λb o U e=>(Bu.2 b U).trans e) n8 eL (.inr eS) eCl (λp L=>eN p (by simpa using L))
    exact⟨m',hm,i+1,Z++[v],o6,H8,A2 ▸ I9,yI,T.keep _ _ _ t8 λb U o e=>(Bu.2 b (λz=>pf (z ▸ U))).trans e,f8,Hg,n8,w8⟩
 exact B.start loop (T.self _ _ _ _ _ (T.keep _ _ _ kY λb _ o e=>old b o e) loop)
def QD {el tg src} {tests} {sc} {ps}:Px P w (.ListComp el [⟨tg,src,tests,0⟩] sc ps) el tg src tests (newList []) "list.append" (λ_ acc=>.lst acc) (λacc=>acc.length<=Ô) where
 o0:={ cls:=.type _,dict:=ϋ,data:=.seq _ }
 live:=rfl
 Ac:=λD acc h=>∃Z,h.PlainList D Z/\Vals acc Z.toList
 clauses:=rfl
 turns:=T8
 new:=λh=>Ď h
 start:=codeAny_compStart_list
 init:=λe=>⟨_,⟨_,e⟩,.nil⟩
 obj:=λ⟨_,⟨_,e⟩,_⟩=>⟨_,e,λ_ z=>by cases z⟩
 iS:=λ⟨Z,⟨n,e⟩,r⟩ k=>⟨Z,⟨n,k _ e⟩,r⟩
 Ot:=λX ⟨Z,⟨n,e⟩,r⟩=>⟨X,_,n,r,by simpa using e⟩
 add:=λ{A E s D acc v y Q} ⟨Z,W,r⟩ V X _ q=>wpAny_list_append_plain (hsz:=by have e:=r.length;erw[Ą] at e;omega) W λU Y T=>q U _ T ⟨_,Y,by rw[af3];exact Vals.append r (.cons V .nil)⟩
def Xr (hc:X.calm=ό) (S:rg X sc N nt cap) (iK:oY g nt) (hi:PI X tg src wi)
 (hY:∀cl C s H ex pn,PG (eR X N sc cl C s H ex pn) tg g/\PF (eR X N sc cl C s H ex pn) tests tf/\PE (eR X N sc cl C s H ex pn) el te)
 (hs:∀x,Ā src X.env x=pure x:=by intro _;rfl):PE X (.ListComp el [⟨tg,src,tests,0⟩] sc ps) (rz wi nt cap g tf te):=by
 intro T s σ H Q I h;exact KH QD hc S iK hi (λ_ _ _=>False) hY hs I h (λ_ _ _ _ _ _ _ _ _ _ _ z=>z.elim) λR Z D C m Y W _ _ _ _ _ _ q=>⟨m,W,λV U=>⟨.ref D,Z,Y V U,rfl,q⟩⟩
def Xs {el tg src} {tests} {sc} {ps pos pos'} {N} {nt} {cap} {wi} {g} {tf} {te} {i0} {x0} (Hx:X.N.Nodup) (Hy:X.N[i0]?=ϊ x0) (Hz:Loc X.env.scope x0) (hc:X.calm=ό) (S:rg X sc N nt cap) (iK:oY g nt) (hi:PI X tg src wi)
  (hY:∀cl C s H ex pn,PG (eR X N sc cl C s H ex pn) tg g/\PF (eR X N sc cl C s H ex pn) tests tf/\PE (eR X N sc cl C s H ex pn) el te)
  (hs:∀x,Ā src X.env x=pure x:=by intro _;rfl)
  (HA:agn (.ListComp el [⟨tg,src,tests,0⟩] sc ps) (ϊ (.Name x0 pos')) pos.line X.env=pure ό:=by rfl)
  (HB:X.fn x0=ό\/X.env.scope.names.lookup x0=ϊ .local:=by first|exact .inl rfl|exact .inr rfl|assumption):PS X (.Assign [.Name x0 pos'] (.ListComp el [⟨tg,src,tests,0⟩] sc ps) pos) (uJ (rz wi nt cap g tf te) (ow i0)):=by
 intro E s σ H P I h;rw[exec_Assign_Name_used _ _ _ _ HA];refine À (ŗ (À ?_));obtain⟨Q,O⟩:∃Q,Q=λv Z=>ow i0 v σ Z P.nx:=⟨_,rfl⟩;have h:rz wi nt cap g tf te σ H Q:=by rw[O];exact h
 have B:∀v Z,Q v Z->P.nx _ Z:=λv Z q=>by rw[O] at q;exact q
 refine À (Ė ?_ (λ_ M q=>Å (Å q)) (λ_ _ z=>z));refine KH QD hc S iK hi (λ_ _ _=>False) hY hs I h (λ_ _ _ _ _ _ _ _ _ _ _ z=>z.elim) λM Z D C m A y L K Y W w V q=>?_;have J:=A _ (Heap.SameBut.refl ..);obtain⟨G,u,t,U,F,r⟩:=id y;have n:Inv X ((C,G)::E) σ Z M:=J.nZ λp T=>by
  rcases Ñ.mp T with e|e
  ·subst e
   exact⟨U,L,K,Y,λv z=>by rw[F] at z;cases z⟩
  ·exact J.pin p (Î _ e)
 refine wpAny_assign_Name (nV n Hx Hy Hz (show RelV (.ref D) _ from rfl) (λf R=>?_) HB);have l:=(R.pin _ (Î _ (Ó ..))).1;refine⟨m,⟨G,u,t,l,F,r⟩,λd k=>⟨_,Z,?_,B _ _ q⟩⟩;have j:=R.nZ λp T=>R.pin p (Î _ (É _ T));exact j.turned (λb o i e=>(k.2 b i).trans e) L K (.inr W) w V
end
noncomputable def Eu (sc:agH) (on:List (Str×NameKind)) (oN N:List Str) (nt:Nat) (cap:List Nat):Bool :=
 ώ (sc.kind=.function)&&sc.names.all (λx=>ώ (x.2=.local->sc.names.lookup x.1=ϊ .local))&&sc.names.all (λx=>ώ (x.2=.cell->sc.names.lookup x.1=ϊ .cell)) &&
 sc.names.all (λx=>ώ (x.2=.free->sc.names.lookup x.1=ϊ .free/\(on.lookup x.1=ϊ .cell\/on.lookup x.1=ϊ .free)))&&ώ (N.length=nt+cap.length) &&
 (â cap.length).all (λk=>match cap[k]? with
  |some j=>match oN[j]? with
   |some x=>ώ (N[nt+k]?=ϊ x)&&ώ ((x,NameKind.free)∈sc.names)
   |none=>ύ
  |none=>ό)
def AA (h:Eu sc X.env.scope.names X.N N nt cap=ό):rg X sc N nt cap:=by
 delta Eu at h;erw[Â,Ü,Ã] at h;obtain⟨⟨⟨⟨⟨Z,Y⟩,W⟩,V⟩,U⟩,T⟩:=h;refine⟨Z,Y,W,λx S e=>V x S e,U,λk j e=>?_⟩;have R:=(Ï.mp e).1;have:=T k (î.mpr R);rw[e] at this;dsimp only at this
 cases ex:X.N[j]? with
 |none=>rw[ex] at this;cases this
 |some x =>
  rw[ex] at this;erw[Â,Ã] at this;exact⟨x,rfl,this.1,this.2⟩
end L2
namespace DI
open PySem L2
section
variable {X:Cx} {Ξ:Wd->bE->Prop} {e a b c tg el src:Ő} {es rest tests:List Ő} {pos:Pos} {f g h:agS D} {fa:agS (List D)} {ft gt:agS Bool}
def DM (hc:X.calm=ό) (S:rg X sc N nt cap) (T:Tg X.K g0 gd nt) (hi:PI X tg src (fH X.K Ξ it))
 (hY:∀cl C s H ex pn,PG (eR X N sc cl C s H ex pn) tg g0/\PF (eR X N sc cl C s H ex pn) tests (tT X.K cM ft)/\PE (eR X N sc cl C s H ex pn) el (tE X.K cM f))
 (hs:∀x,Ā src X.env x=pure x:=by intro _;rfl):PE X (.ListComp el [⟨tg,src,tests,0⟩] sc ps) (tE X.K Ξ (b9 nt cap it gd ft f)) :=
 cN (Xr hc S T.nL hi hY hs) fun σ H Q h=>KD T.imp (λR Z i h=>LW R Z i h) (LV σ H Q h)
def Zm {ps pos'} {N} {nt} {cap} {it} {gd} {g0} (i0) {x0} (Hx:X.N.Nodup) (hc:X.calm=ό) (S:rg X sc N nt cap) (T:Tg X.K g0 gd nt) (hi:PI X tg src (fH X.K Ξ it))
  (hY:∀cl C s H ex pn,PG (eR X N sc cl C s H ex pn) tg g0/\PF (eR X N sc cl C s H ex pn) tests (tT X.K cM ft)/\PE (eR X N sc cl C s H ex pn) el (tE X.K cM f))
  (Hy:X.N[i0]?=ϊ x0:=by rfl) (Hz:Loc X.env.scope x0:=by first|exact ŷ rfl|exact Or.inr rfl)
  (hs:∀x,Ā src X.env x=pure x:=by intro _;rfl)
  (HA:agn (.ListComp el [⟨tg,src,tests,0⟩] sc ps) (ϊ (.Name x0 pos')) pos.line X.env=pure ό:=by rfl)
  (HB:X.fn x0=ό\/X.env.scope.names.lookup x0=ϊ .local:=by first|exact .inl rfl|exact .inr rfl):PS X (.Assign [.Name x0 pos'] (.ListComp el [⟨tg,src,tests,0⟩] sc ps) pos) (tS X.K Ξ (aR (b9 nt cap it gd ft f) (gN i0))) :=
 kG (Xs Hx Hy Hz hc S T.nL hi hY hs HA HB) λD σ H h=>by
  have Z:=Lj (te:=tE X.K Ξ f) D σ H (DJ D σ H h);exact KD T.imp (λR Y i h=>LW R Y i h) (LV σ H _ Z)
end
end DI
namespace L2
open PySem PySem.Spec PyProof.Rows
section
variable {X:Cx} {tg:Ő}
def Ng (h:-1<=i):ŋ i (-1) (-1)=i+1:=by
 delta ŋ;simp;omega
def adf (ta:TA):TI:=fun σ H R=>ta σ H λZ Y=>∃i,Z=[.int i,.int (-1),.int (-1)]/\-1<=i/\i<1000000/\R (AV (i+1).toNat) Y
def VW {p pos} (hg:Gl X "range") (hm:X.mg "range"=ϋ) (ha:PA X [a,b,c] ta) (hs:Ì [a,b,c] X.env=[(ύ,į a X.env),(ύ,į b X.env),(ύ,į c X.env)]:=by rfl) (de:Ì [b,c] X.env=[(ύ,į b X.env),(ύ,į c X.env)]:=by rfl) :
  PI X tg (.Call (.Name "range" p) [a,b,c] [] pos) (adf ta):=by
 intro T s σ H R I h;refine Call_ (pL I hg hm boot_range (Ħ (aW (ha pos T s σ H _ I h) λJ Y O=>?_) (by rw[hs,de]) (by rw[de];rfl)));obtain⟨G,S,N,M,W⟩:=O;obtain⟨i,e,W,F,q⟩:=W;subst e
 cases M with
 |cons r Z =>
  cases Z with
  |cons L Z =>
   cases Z with
   |cons V Z =>
    cases Z;obtain⟨t,rfl⟩:=r;obtain⟨Q,rfl⟩:=L;obtain⟨P,rfl⟩:=V;refine call_range_3 (by decide) ?_ (.inl (PyProof.noPylong_small ⋯));refine wpAny_pyIter_range (IsRange.new ..) ?_ ?_
    ·delta Builtin.Range.small
     rw[Ng W];simp only[Ċ,Â,Ť,Ã,beq_iff_eq,show ¬ (-1) > 0 by decide,ñ];omega
    ·have U:Inv X T σ S { Y with heap:=Y.heap.push { cls:=.type "range",data:=.fields #[.int i t,.int (-1) Q,.int (-1) P] },toks:=Y.toks }:=N.kept λb o e=>Á _ e
     rw[Ng W];refine⟨_,_,_,_,S,rfl,
      U.kept λb o e=>Á _ e,LS _ _,?_,λb K=>?_,q⟩
     ·have e1:(((i+1).toNat))-1+((0:Nat))*(-1)=i:=by omega
      have e2:(((i+1).toNat))-((0:Nat))=i+1:=by omega
      rw[e1,e2];exact Ë _ rfl
     ·have e:b=(Y.heap.push { cls:=.type "range",data:=.fields #[.int i t,.int (-1) Q,.int (-1) P] }).objs.size:=by simpa using K
      subst e;exact U.rN (agW _) (U.aQ.fresh (agW _))
end
end L2
namespace DI
open PySem L2
section
variable {X:Cx} {Ξ:Wd->bE->Prop} {a b c tg:Ő} {pos:Pos} {fa:agS (List D)}
def HC (fa:agS (List D)):agS (List D):=λenv s=>ai (fa env s) λZ s=>match Z with
 | [.int i,.int (-1),.int (-1)]=>if (ώ (-1<=i)&&ώ (i<1000000))=ό then ok (rG (i+1).toNat) s else ϋ
 |_=>ϋ
def abi {p} (hg:Gl X "range") (hm:X.mg "range"=ϋ) (ha:PA X [a,b,c] (tA X.K Ξ fa)) (hs:Ì [a,b,c] X.env=[(ύ,į a X.env),(ύ,į b X.env),(ύ,į c X.env)]:=by rfl) (de:Ì [b,c] X.env=[(ύ,į b X.env),(ύ,į c X.env)]:=by rfl):PI X tg (.Call (.Name "range" p) [a,b,c] [] pos) (fH X.K Ξ (HC fa)) :=
 rb (VW hg hm ha hs de) fun σ H R W=>by
  obtain⟨w,env,V,S,U,h⟩:=W;subst V;refine⟨w,env,rfl,S,U,(Out.ai h).mono λI G F T Z E Q=>?_⟩;split at Z
  ·rename_i i
   split at Z
   ·rename_i Y
    erw[Â,Ã] at Y;obtain⟨v,r,rfl,P,v2,D,rfl,O,C,B,rfl,N,M⟩:=Q;have e1:=P;have e2:=O;have L:=N;have J:=M;subst e1 e2 L J;exact⟨i,rfl,Y.1,Y.2,aK T Z _ Oo⟩
   ·exact Z.elim
  ·exact Z.elim
end
end DI
namespace L2
open PySem PySem.Spec PyProof.Rows
end L2
namespace DI
open PySem L2
open HT PyProof.Rows
section
variable {X:Cx} {Ξ:Wd->bE->Prop}
def VX (h:Vals xs us):∀{q:List Nat},(∀i∈q,i<us.length)->Vals (q.map λi=>xs.getD i .az) (q.map λi=>us.getD i Value.none):=by
 intro q
 induction q with
 |nil=>intro _;exact .nil
 |cons i q ih =>
  intro Z;refine .cons ?_ (ih λj X=>Z j (É _ X));have Y:=Z i Ó;clear ih Z
  induction h generalizing i with
  |nil=>simp at Y
  |cons a _ ih =>
   cases i with
   |zero=>exact a
   |succ i=>simpa using ih i (by simpa using Y)
def Xt {K} {w} {ds} {xs} (h:aC K w ds xs):∀{q:List Nat},(∀i∈q,i<ds.length)->aC K w (q.map λi=>ds.getD i .az) (q.map λi=>xs.getD i .az):=by
 intro q
 induction q with
 |nil=>intro _;exact rfl
 |cons i q ih =>
  intro Z;have Y:=Z i Ó;obtain⟨v,e,X⟩:=h.get' i _ (Ò Y);refine⟨_,_,rfl,?_,ih λj W=>Z j (É _ W)⟩;have e1:ds.getD i .az=ds[i]:=by simp[Y]
  have e2:xs.getD i .az=v:=by simp[e]
  show DV K w (ds.getD i _) (xs.getD i _);rw[e1,e2];exact X
def Xu {O} {ks} {f:α->D} {d} {q} (hp:ST.Pm ks.length q) (hu:ST.Up O (ST.ky (λi=>ks.getD i d) q) ks.length):q.toList.map (λi=>(ks.map f).getD i .az)=(ST.gj O ks).map f:=by
 rw[<- ST.VT hp hu,ė];refine agu λi Z=>?_;have:=î.mp (hp.2.mem_iff.mp Z);simp[this]
end
end DI
namespace TK
open PySem PySem.W PyProof.Rows DI
mutual
noncomputable def kd:D->Bool
 | .int _=>ό
 | .str x=>à x
 | .tup Z=>i5 Z
 |_=>ύ
noncomputable def i5:List D->Bool
 | []=>ό
 |k::Z=>kd k&&i5 Z
end
mutual
def KA (h:ū):D->á->Prop
 | .int i,v=>∃t,v=.int i t
 | .str x,v=>∃t,v=.str x t
 | .tup Z,v=>∃a o aj n,v=.ref a/\h.get? a=ϊ o/\o.cls=.type "tuple"/\o.data=.seq aj n/\gP h Z aj.toList
 |_,_=>False
def gP (h:ū):List D->List á->Prop
 | [],Z=>Z=[]
 |k::Y,Z=>∃v r,Z=v::r/\KA h k v/\gP h Y r
end
mutual
theorem rh:∀k,kd k=ό->lay k=ό
 | .int _,_=>rfl
 | .str _,h=>h
 | .tup Z,h=>by erw[kd] at h;exact L5 Z h
 | .az,h=>by cases h
 | .bl _,h=>by cases h
 | .lst _,h=>by cases h
 | .cL _,h=>by cases h
 | .au _,h=>by cases h
 | .ty _,h=>by cases h
 | .cS _,h=>by cases h
 | .exc ..,h=>by cases h
 | .dR ..,h=>by cases h
theorem L5:∀ks,i5 ks=ό->dA ks=ό
 | [],_=>rfl
 |k::ks,h=>by
  erw[i5,dA,Â] at h |-;exact⟨rh k h.1,L5 ks h.2⟩
end
mutual
theorem KA.reads:∀k v,KA h k v->∃as,Reads h v (py k) as
 | .int i,v,q=>by obtain⟨t,rfl⟩:=q;exact⟨_,.int i t⟩
 | .str x,v,q=>by obtain⟨t,rfl⟩:=q;exact⟨_,.str x t⟩
 | .tup Z,v,q=>by
  erw[KA] at q;obtain⟨a,o,aj,n,rfl,Y,X,W,r⟩:=q;obtain⟨as,r⟩:=gP.reads Z _ r;exact⟨as,.tuple Y X W r⟩
 | .az,_,q=>by cases q
 | .bl _,_,q=>by cases q
 | .lst _,_,q=>by cases q
 | .cL _,_,q=>by cases q
 | .au _,_,q=>by cases q
 | .ty _,_,q=>by cases q
 | .cS _,_,q=>by cases q
 | .exc ..,_,q=>by cases q
 | .dR ..,_,q=>by cases q
theorem gP.reads:∀ks vs,gP h ks vs->∃as,ReadsAll h vs (iL ks) as
 | [],vs,q=>by cases q;exact⟨_,.nil⟩
 |k::ks,vs,q=>by
  obtain⟨v,r,rfl,Z,Y⟩:=q;obtain⟨as,Z⟩:=KA.reads k v Z;obtain⟨bs,Y⟩:=gP.reads ks r Y;exact⟨_,.cons Z Y⟩
end
mutual
theorem KA.keep (hk:∀a o,h.get? a=ϊ o->o.cls=.type "tuple"->(∃aj n,o.data=.seq aj n)->h'.get? a=ϊ o):∀x v,KA h x v->KA h' x v
 | .int i,v,p=>p
 | .str i,v,p=>p
 | .tup X,v,p=>by
  obtain⟨a,o,aj,n,e,W,Z,Y,r⟩:=p;exact⟨a,o,aj,n,e,hk a o W Z ⟨aj,n,Y⟩,Z,Y,gP.keep hk X _ r⟩
 | .az,_,q=>by cases q
 | .bl _,_,q=>by cases q
 | .lst _,_,q=>by cases q
 | .cL _,_,q=>by cases q
 | .au _,_,q=>by cases q
 | .ty _,_,q=>by cases q
 | .cS _,_,q=>by cases q
 | .exc ..,_,q=>by cases q
 | .dR ..,_,q=>by cases q
theorem gP.keep (hk:∀a o,h.get? a=ϊ o->o.cls=.type "tuple"->(∃aj n,o.data=.seq aj n)->h'.get? a=ϊ o):∀xs vs,gP h xs vs->gP h' xs vs
 | [],vs,p=>p
 |x::xs,vs,p=>by
  obtain⟨v,r,e,Z,Y⟩:=p;exact⟨v,r,e,KA.keep hk x v Z,gP.keep hk xs r Y⟩
end
section
variable {prog:ù} {w:ĩ}
noncomputable instance aio:DecidableEq (List D):=λa b=>Classical.propDecidable _
end
end TK
namespace TK
open PySem PySem.W PyProof.Rows DI L2
noncomputable def aj:D->List D
 | .tup Z=>Z
 |_=>[]
section
variable {X:Cx} {π:List (ă×Obj)} {σ:L2.St} {s:Û} {w:Wd}
mutual
theorem adg (I:Inv X π σ w.H s):∀d v u,kd d=ό->DI.DV X.K w d v->RelV v u->KA s.heap d u
 | .int i,v,u,_,h,r=>by cases h;exact r
 | .str x,v,u,_,h,r=>by cases h;exact r
 | .tup Z,v,u,k,h,r=>by
  obtain⟨a,Y,rfl,W,V⟩:=h;cases r;obtain⟨aj,U,⟨o,T,S,n,R⟩,_⟩:=I.tuple W;exact⟨a,o,_,n,rfl,T,S,R,Ew I Z Y _ k V (by simpa using U)⟩
 | .az,_,_,k,_,_=>by cases k
 | .bl _,_,_,k,_,_=>by cases k
 | .lst _,_,_,k,_,_=>by cases k
 | .cL _,_,_,k,_,_=>by cases k
 | .au _,_,_,k,_,_=>by cases k
 | .ty _,_,_,k,_,_=>by cases k
 | .cS _,_,_,k,_,_=>by cases k
 | .exc ..,_,_,k,_,_=>by cases k
 | .dR ..,_,_,k,_,_=>by cases k
theorem Ew (I:Inv X π σ w.H s):∀ds vs us,i5 ds=ό->DI.aC X.K w ds vs->Vals vs us->gP s.heap ds us
 | [],vs,us,_,h,r=>by cases h;cases r;rfl
 |d::ds,vs,us,k,h,r=>by
  obtain⟨v,Z,rfl,Y,W⟩:=h;erw[i5,Â] at k
  cases r with
  |cons r V=>exact⟨_,_,rfl,adg I d v _ k.1 Y r,Ew I ds Z _ k.2 W V⟩
end
end
end TK
namespace TK
open PySem PySem.W PyProof.Rows DI L2
open HT
section
variable {s:Û}
def adh (kx:kd x=ό) (ky:kd y=ό) (hu:A.units+dep x<cLine) (hx:KA s.heap x vx) (hy:KA s.heap y vy):SeqAt.EqAt A s vx vy (beq x y):=by
 obtain⟨as,Z⟩:=KA.reads _ _ hx;obtain⟨bs,Y⟩:=KA.reads _ _ hy;obtain⟨X,V⟩:=oi _ (rh _ kx);obtain⟨W,U⟩:=oi _ (rh _ ky);have:=SeqAt.eqAt_reads _ _ A s vx vy as bs Z Y X W ⋯;rw[wK _ _ (rh _ kx) (rh _ ky)] at this;exact this
mutual
theorem adi:∀A x y b vx vy,kz x y=ϊ b->kd x=ό->kd y=ό->A.units+5*dep x+5<cLine->KA s.heap x vx->KA s.heap y vy->Gi A s vx vy b
 |A,.int i,y,b,vx,vy,h,_,_,_,Z,Y=>by
  cases y with
  |int j =>
   cases h;obtain⟨t,rfl⟩:=Z;obtain⟨X,rfl⟩:=Y;exact λprog w E Q q=>LM A s i t j X prog w E Q q
  |_=>cases h
 |A,.str i,y,b,vx,vy,h,_,_,_,Z,Y=>by
  cases y with
  |str j =>
   cases h;obtain⟨t,rfl⟩:=Z;obtain⟨X,rfl⟩:=Y;exact λprog w E Q q=>(PyProof.Rows.lt_str q)
  |_=>cases h
 |A,.tup W,y,b,vx,vy,h,V,ky,U,Z,Y=>by
  cases y with
  |tup T =>
   obtain⟨a,o,aj,n,rfl,S,R,P,r⟩:=Z;obtain⟨H,O,G,N,rfl,M,L,K,J⟩:=Y;erw[dep] at U;exact λprog w E Q q=>Nc ⟨o,S,R,n,P⟩ ⟨O,M,L,N,K⟩ (λI F=>Ey I W T b _ _ h V ky ⋯ r J) ⋯ q
  |_=>cases h
 |_,.az,_,_,_,_,_,k,_,_,_,_=>by cases k
 |_,.bl _,_,_,_,_,_,k,_,_,_,_=>by cases k
 |_,.lst _,_,_,_,_,_,k,_,_,_,_=>by cases k
 |_,.cL _,_,_,_,_,_,k,_,_,_,_=>by cases k
 |_,.au _,_,_,_,_,_,k,_,_,_,_=>by cases k
 |_,.ty _,_,_,_,_,_,k,_,_,_,_=>by cases k
 |_,.cS _,_,_,_,_,_,k,_,_,_,_=>by cases k
 |_,.exc ..,_,_,_,_,_,k,_,_,_,_=>by cases k
 |_,.dR ..,_,_,_,_,_,k,_,_,_,_=>by cases k
theorem Ey:∀A xs ys b ps qs,kj xs ys=ϊ b->i5 xs=ό->i5 ys=ό->A.units+5*fE xs+5<cLine->gP s.heap xs ps->gP s.heap ys qs->j5 A s ps qs b
 |A,[],ys,b,ps,qs,h,_,_,_,V,Z=>by
  cases V
  cases ys with
  |nil=>cases h;cases Z;exact .nn
  |cons y ys=>cases h;obtain⟨v,r,rfl,_⟩:=Z;exact .nc ..
 |A,x::xs,ys,b,ps,qs,h,Y,ky,T,V,Z=>by
  obtain⟨v,r,rfl,U,S⟩:=V
  cases ys with
  |nil=>cases h;cases Z;exact .cn ..
  |cons y ys =>
   obtain⟨u,R,rfl,g1,g2⟩:=Z;erw[i5,Â] at Y ky;erw[fE] at T;have Q:=Nat.le_max_left (dep x) (fE xs);have X:=adh (A:=A) Y.1 ky.1 ⋯ U g1;erw[kj] at h;split at h
   ·rename_i W
    rw[W] at X;exact .eq X (Ey A xs ys b _ _ h Y.2 ky.2 ⋯ S g2)
   ·rename_i W
    rw[ŭ] at W;rw[W] at X;exact .lt X (adi A x y b _ _ h Y.1 ky.1 ⋯ U g1)
end
end
section
variable {prog:ù} {w:ĩ} {A:Đ} {E:á->Û->Prop} {s:Û}
def VY (h:j5 A s xs ys b):∀i,fin=ώ (xs.length<ys.length)->Q b s->KatLex prog w A t fin Q (xs.zip ys) (i+1) s:=by
 induction h with
 |nn=>intro i Z q;rw[Z];exact q
 |nc y ys=>intro i Z q;rw[Z];exact q
 |cn x xs=>intro i Z q;rw[Z];exact q
 |eq Y _ ih =>
  intro i Z q;exact kat_cons (Y prog w _ _ (kat_yes (ih _ (by rw[Z];simp) q)))
 |lt Y X =>
  intro i Z q;refine kat_cons (Y prog w _ _ (kat_no ?_));rw[show (t&&(i+1==0))=ύ by simp];exact kat_one _ _ (X prog w _ _ q)
def VZ (hs:x=y->j5 A s xs ys b) (hf:fin=ώ (xs.length<ys.length)) (q:Q (if x=y then b else ώ (x.cps.toList<y.cps.toList)) s) :
  KatLex prog w A ό fin Q ((.str x t::xs).zip (.str y u::ys)) 0 s:=by
 refine kat_cons (wpAny_eqBool_str ?_);by_cases e:x=y
 ·rw[Ö e] at q
  rw[Ä e];exact kat_yes (VY (hs e) 0 hf q)
 ·rw[Ý e] at q
  rw[Ê e];exact kat_no (oneLt_str q)
end
inductive Pg where
 |made (m d:Int) (h l:List Int)
 |cE (m d k:Int)
noncomputable def ti (l:List Int):D:=.tup (l.map D.int)
def Pg.d:Pg->D
 | .made m d h l=>.tup [.str "made",.int m,.int d,.tup [ti h,ti l]]
 | .cE m d k=>.tup [.str "mended",.int m,.int d,.int k]
def Ou (h:ti a=ti b):a=b:=by
 injection h with h
 exact List.map_inj_right (λx y e=>by injection e) |>.mp h
def Pg.adj {p q:Pg} (h:p.d=q.d):p=q:=by
 cases p<;>cases q<;>erw[Pg.d,D.tup.injEq,œ,D.int.injEq,and_true,reduceCtorEq,and_false,false_and] at h
 ·obtain⟨_,Z,Y,X,W⟩:=h
  rw[Z,Y,Ou X,Ou W]
 ·obtain⟨_,Z,Y,X⟩:=h
  rw[Z,Y,X]
noncomputable def encL:List Int->List Int
 | []=>[0]
 |x::Z=>1::x::encL Z
def Pg.enc:Pg->List Int
 | .made m d h l=>0::m::d::(encL h++encL l)
 | .cE m d k=>[1,m,d,k]
theorem C3:∀{a b u v},encL a++u=encL b++v->a=b/\u=v
 | [],[],u,v,h=>by simpa  using h
 | [],y::b,u,v,h=>by simp[encL] at h
 |x::a,[],u,v,h=>by simp[encL] at h
 |x::a,y::b,u,v,h=>by
  erw[encL,ď,œ,true_and] at h;obtain⟨Z,Y⟩:=C3 h.2;exact⟨by rw[h.1,Z],Y⟩
def Pg.Zn {p q:Pg} (h:p.enc=q.enc):p=q:=by
 cases p<;>cases q<;>erw[Pg.enc,œ,and_true,true_and,reduceCtorEq,false_and,Int.reduceEq] at h
 ·obtain⟨Y,X,W⟩:=h
  have Z:=C3 (u:=encL _++[]) (v:=encL _++[]) (by simpa using W);have V:=C3 Z.2;rw[Y,X,Z.1,V.1]
 ·rw[h.1,h.2.1,h.2.2]
def dB:ST.Ord Pg where
 lt p q:=lexLt p.enc _
 yL p:=ST.DL _
 tr _ _ _ h g:=ST.abf _ _ _ h g
 yM _ _ h g:=Pg.Zn (ST.Zl _ _ h g)
theorem tD:∀a b:List Int,jo (a.map D.int) (b.map D.int)=ώ (a=b)
 | [],[]=>rfl
 | [],_::_=>rfl
 |_::_,[]=>rfl
 |x::a,y::b=>by
  erw[Þ,jo,beq,tD a b]
  by_cases e:x=y<;>simp[e]
theorem Lm:∀a b:List Int,kj (a.map D.int) (b.map D.int)=ϊ (lexLt a b)
 | [],[]=>rfl
 | [],_::_=>rfl
 |_::_,[]=>rfl
 |x::a,y::b=>by
  erw[Þ,kj,beq,kz,mz,Lm a b]
  by_cases e:x=y<;>simp[e]
theorem DN:∀a b u v,lexLt (encL a++u) (encL b++v)=if a=b then lexLt u v else lexLt a b
 | [],[],u,v=>by simp[encL,mz]
 | [],y::b,u,v=>by rfl
 |x::a,[],u,v=>by rfl
 |x::a,y::b,u,v=>by
  erw[encL,ď,mz,ø,DN a b u v,œ]
  by_cases e:x=y<;>simp[e]
theorem Py (p q):kz p.d q.d=ϊ (dB.lt p q):=by
 have T:¬ ((Ģ "made")=Ģ "mended"):=nofun
 have S:¬ ((Ģ "mended")=Ģ "made"):=nofun
 have R:ώ ((Ģ "made").cps.toList<(Ģ "mended").cps.toList)=ό:=nofun
 have Q:ώ ((Ģ "mended").cps.toList<(Ģ "made").cps.toList)=ύ:=nofun
 show _=ϊ (lexLt _ q.enc)
 cases p with
 |made m d h l =>
  cases q with
  |made Z Y V X =>
   erw[Pg.d,Pg.enc,kz,kj,beq,jo,ti,mz,tD,Lm,DN,ę,ø,Bool.and_true];have:=DN l X [] [];erw[ú] at this;rw[this]
   by_cases e1:m=Z<;>by_cases e2:d=Y<;>by_cases W:h=V<;>by_cases P:l=X<;>simp[e1,e2,W,P,ST.DL]
  |cE Z Y U=>erw[Pg.d,Pg.enc,kz,kj,beq,mz,beq_iff_eq,T,R,ñ];simp
 |cE m d k =>
  cases q with
  |made Z Y V X=>erw[Pg.d,Pg.enc,kz,kj,beq,mz,beq_iff_eq,S,Q,ñ];simp
  |cE Z Y U =>
   erw[Pg.d,Pg.enc,kz,kj,beq,mz,ę,ø]
   by_cases e1:m=Z<;>by_cases e2:d=Y<;>by_cases W:k=U<;>simp[e1,e2,W,ST.DL]
def Zo (l:List Int):i5 (l.map D.int)=ό:=by
 induction l with
 |nil=>rfl
 |cons x l ih=>simpa only [Þ,i5,kd,ğ] using ih
def Xv (l:List Int):fE (l.map D.int)=0:=by
 induction l with
 |nil=>rfl
 |cons x l ih=>erw[Þ,fE,dep,ih];rfl
def AB (p:Pg):kd p.d=ό:=by
 have Z:à "made"=ό:=nofun
 have Y:à "mended"=ό:=nofun
 cases p<;>erw[Pg.d,kd,i5,ti,Zo,Z,Y,Ĥ]
def wQ (p:Pg):dep p.d<=3:=by
 cases p<;>erw[Pg.d,dep,fE,ti,Xv]<;>decide
def Xw (p:Pg):∃(x:Str) (r:List D),p.d=.tup (.str x::r):=by
 cases p<;>exact⟨_,_,rfl⟩
def E6 {p:Pg} {v} (q:KA h p.d v):∃(x:Str) (r:List D) (a:ă) (o:Obj) (aj:Array á) (n:Nat) (t:Tok) (us:List á),p.d=.tup (.str x::r)/\v=.ref a/\h.get? a=ϊ o/\o.cls=.type "tuple"/\o.data=.seq aj n/\aj.toList=.str x t::us/\gP h r us/\i5 r=ό:=by
 obtain⟨x,r,e⟩:=Xw p;have k:=AB p;rw[e] at q k;obtain⟨a,o,aj,n,e1,Z,Y,X,u,us,e2,⟨t,W⟩,V⟩:=q;erw[kd,i5,Â] at k;exact⟨x,r,a,o,aj,n,t,us,e,e1,Z,Y,X,by rw[e2,W],V,k.2⟩
section
variable {prog:ù} {w:ĩ} {A:Đ} {E:á->Û->Prop} {s:Û}
def V0:∀{ps:List Pg} {us},gP s.heap (ps.map Pg.d) us->∃fs,KatTups s.heap us fs/\(∀v∈fs,∃x t,v=Value.str x t)/\fs.length=us.length:=by
 intro ps
 induction ps with
 |nil=>intro us h;cases h;exact⟨_,KatTups.nil,λv hv=>(ü hv).elim,rfl⟩
 |cons p ps ih =>
  intro us h;obtain⟨v,r,rfl,Z,Y⟩:=h;obtain⟨fs,X,W,V⟩:=ih Y;obtain⟨x,_,a,o,aj,n,t,Q,_,rfl,U,T,S,R,_⟩:=E6 Z;refine⟨_,.cons U T S (by rw[<- ĸ,R];rfl) X,λv hv=>?_,by simp[V]⟩
  rcases Ñ.mp hv with rfl|hv
  ·exact⟨x,t,rfl⟩
  ·exact W v hv
def kas_get:∀{ds} {us},gP h ds us->∀i,i<us.length->KA h (ds.getD i .az) (us.getD i Value.none):=by
 intro ds
 induction ds with
 |nil=>intro us h i Z;cases h;cases Z
 |cons d ds ih =>
  intro us h i Z;obtain⟨v,r,rfl,Y,X⟩:=h
  cases i with
  |zero=>exact Y
  |succ i=>exact ih X i (by simpa using Z)
def Zp:∀{ds} {us},gP h ds us->ds.length=us.length:=by
 intro ds
 induction ds with
 |nil=>intro us h;cases h;rfl
 |cons d ds ih=>intro us h;obtain⟨v,r,rfl,Y,Z⟩:=h;simp[ih Z]
def abj (hu:A.units+100<cLine) (h1:KA s.heap p.d v) (h2:KA s.heap q.d u) (hC:C (dB.lt p q) s):ê (è prog w) A (keyLt' (tuples' ό) v u) C E s:=by
 obtain⟨x,r,a,o,aj,n,t,M,e,rfl,V,L,U,X,T,k⟩:=E6 h1;obtain⟨Z,S,K,J,I,H,G,R,Q,rfl,P,F,O,W,Y,N⟩:=E6 h2;have dl:=wQ p;rw[e] at dl;erw[dep,fE] at dl;have lt:=Py p q;rw[e,Q] at lt;erw[kz,kj] at lt;have be:beq (.str x) (.str Z)=ό↔x=Z:=by simp[beq]
 refine kat_lt V U P O ?_;rw[X,W];refine VZ (b:=dB.lt p q) (λex=>?_) ?_ ?_
 ·rw[Ö (be.mpr ex)] at lt
  exact Ey A r S _ _ _ lt k N (by have:=Nat.le_max_right (0) (fE r);omega) T Y
 ·simp[<- Ą,X,W]
 ·by_cases ex:x=Z
  ·rw[Ö ex];exact hC
  ·rw[Ý λz=>ex (be.mp z)] at lt
   rw[Ý ex,agX lt];exact hC
def Xx {ps:List Pg} (t:gP s.heap (ps.map Pg.d) us) (h2:2<=us.length) (hu:A.units+100<cLine) (d):ST.Gj prog w A dB (λi=>ps.getD i d) us s:=by
 obtain⟨fs,Y,X,R⟩:=V0 t;have W:=Zp t;rw[Ç] at W;have at_:=λi Z=>by
  have:=kas_get t i Z;rwa [show (ps.map _).getD i _=(ps.getD i d).d by simp[agK,å,Ò (show i<ps.length by omega)]] at this
 refine kat_kind (T:=.type "str") Y ⋯ (λv V=>?_) (by decide) ⟨rfl,λi j C Z U S=>?_⟩
 ·obtain⟨x,Q,rfl⟩:=X v V
  exact .of_pure rfl
 ·exact abj hu (at_ i Z) (at_ j U) S
end
end TK
namespace TK
open PySem PySem.W PyProof.Rows DI L2
open Classical in
def AD (xs:List D):Option D:=if h:∃Z,xs=Z.map Pg.d then ϊ (.lst ((ST.gj dB (Classical.choose h)).map Pg.d)) else ϋ
def UU:∀{a b:List Pg},a.map Pg.d=b.map Pg.d->a=b:=λh=>List.map_inj_right (λ_ _ e=>Pg.adj e) |>.mp h
def C4 (ps):AD (ps.map Pg.d)=ϊ (.lst ((ST.gj dB ps).map Pg.d)):=by
 delta AD;have h:∃Z:List Pg,ps.map _=Z.map Pg.d:=⟨ps,rfl⟩;rw[dif_pos h];have:=UU (Classical.choose_spec h);rw[<- this]
section
variable {X:Cx} {Ξ:Wd->bE->Prop}
def Zq (ps:List Pg):i5 (ps.map Pg.d)=ό:=by
 induction ps with
 |nil=>rfl
 |cons p ps ih=>erw[Þ,i5,AB,ih,Ĥ]
end
def E7 (f:DI.agS D):DI.agS D:=λenv s=>ai (f env s) λx s=>ai (truth x s) λb s=>ok (.bl (!b)) s
def abk (ha:PE X a (tE X.K Ξ f)):PE X (.UnaryOp .Not a pos) (tE X.K Ξ (E7 f)):=by
 intro Y s σ H Q I zzz;obtain⟨w,env,rfl,S,U,h⟩:=zzz;refine UnaryOp_ (aW (ha Y s σ _ (λv W=>∃b,rP X.K v W b/\Q (.bl (!b)) W) I ⟨w,env,rfl,S,U,(Out.ai h).mono λE x D V T v R=>?_⟩) λv P ⟨x,O,N,M,b,L,J⟩=>?_)
 ·obtain⟨b,t,G⟩:=rP.of V R (Out.ai T)
  exact⟨b,t,aK V G _ rfl⟩
 ·refine not_of (Ė (Eh Y P σ O x v (λc Z=>Q (.bl (!c)) Z) N M ⟨b,L,J⟩) (λc C ⟨Z,F,q⟩=>⟨.bl _,Z,F,rfl,q⟩) λ_ _ z=>z)
end TK
namespace ST
open PySem PySem.Spec PyProof.Rows
end ST
namespace DI
open PySem L2
end DI
namespace L2
open PySem PySem.Spec PyProof.Rows
end L2
namespace DI
open PySem L2
end DI
namespace L2
open PySem PySem.Spec PyProof.Rows
end L2
namespace DI
open PySem L2
end DI
namespace L2
open PySem PySem.Spec PyProof.Rows
end L2
namespace DI
open PySem L2
end DI
namespace L2
open PySem PySem.Spec PyProof.Rows
end L2
namespace DI
open PySem L2
end DI
namespace L2
open PySem PySem.Spec PyProof.Rows
open AutoSeq1 (wpAny_loadPart')
end L2
namespace DI
open PySem L2
end DI
namespace L2
open PySem PySem.Spec PyProof.Rows
section
variable {X:Cx} {pos:Pos}
def adk (i j k:Nat) (ta:TA):TS:=λD σ H=>ta σ H λZ Y=>∃v w u,Z=[v,w,u]/\D.nx (((σ.set i (ϊ v)).set j (ϊ w)).set k (ϊ u)) Y
def vals3 (r:Vals [v,w,u] us):∃a b c,us=[a,b,c]/\RelV v a/\RelV w b/\RelV u c:=by
 cases r with
 |cons p q =>
  obtain⟨b,c,rfl,Z,Y⟩:=vals2 q;exact⟨_,b,c,rfl,p,Z,Y⟩
def Zr {kt k2 jw} (hc:X.calm=ό) (hN:X.N.Nodup) (hi:X.N[i]?=ϊ x) (hj:X.N[j]?=ϊ y) (hk:X.N[k]?=ϊ z) (fV:i≠j) (sx:i≠k) (HD:j≠k)
 (hx:X.env.scope.names.lookup x=ϊ .local) (hy:X.env.scope.names.lookup y=ϊ .local) (hz:X.env.scope.names.lookup z=ϊ .local) (ha:PA X [a,b,c] ta)
 (hw:ι [.Tuple [.Name x px,.Name y py,.Name z pz] kt pt] (.Tuple [a,b,c] k2 jw) X.env=pure (ϊ [x,y,z]))
 (hs:θ [.Tuple [.Name x px,.Name y py,.Name z pz] kt pt] (.Tuple [a,b,c] k2 jw) pos.line X.env=pure ύ) :
  PS X (.Assign [.Tuple [.Name x px,.Name y py,.Name z pz] kt pt] (.Tuple [a,b,c] k2 jw) pos) (adk i j k ta):=by
 intro Y s σ H D I h;refine À (ŗ ?_);refine À (Å ?_);refine À (Tuple_ (aW (ha _ Y s σ H _ I h) λB Z R=>?_));obtain⟨A,W,Q,P,v,w,u,e1,O⟩:=R;subst e1;obtain⟨V,U,T,rfl,M,L,K⟩:=vals3 P;refine Ď ?_ (by show 3<=Ô;decide)
 have J:Inv X Y σ W { Z with heap:=Z.heap.push { cls:=.type "tuple",data:=.seq [V,U,T].toArray } }:=Q.kept λb o e=>Á _ e
 rw[hw];refine À (Å ?_);refine À (ů (À (unpackItems_tuple (items:=#[V,U,T]) (I.ok.hd hc) (IsTup.new _ _) λt G=>?_)));have F:=J.kept (t':=Z.toks) λb o e=>G b o (ä (Í e)) e;refine À (Ŗ (af6 (nV F hN hk (.inl hz) K (λr E=>?_) (.inr hz))));refine Ŗ (af6 (nV E hN hj (.inl hy) L (λq C=>?_) (.inr hy)));refine Ŗ (af6 (nV C hN hi (.inl hx) M (λp S=>assignInOrder_nil (Å ?_)) (.inr hx)));rw[List.set_comm _ _ (ŧ HD),List.set_comm _ _ (ŧ sx),List.set_comm _ _ (ŧ fV)] at S;exact⟨_,W,S,O⟩
end
end L2
namespace DI
open PySem L2
section
variable {X:Cx} {Ξ:Wd->bE->Prop} {a b c:Ő} {pos:Pos} {fa:agS (List D)}
def Gk (i j k:Nat) (fa:agS (List D)):agS Fl:=λenv s=>ai (fa env s) λZ s=>match Z with
 | [x,y,z]=>ok (.nx (((env.set i (ϊ x)).set j (ϊ y)).set k (ϊ z))) s
 |_=>ϋ
def Ov (i j k) {x y z} {px py pz pt} {kt k2 jw} (hc:X.calm=ό) (hN:X.N.Nodup) (ha:PA X [a,b,c] (tA X.K Ξ fa)) (hi:X.N[i]?=ϊ x:=by rfl) (hj:X.N[j]?=ϊ y:=by rfl) (hk:X.N[k]?=ϊ z:=by rfl) (fV:i≠j:=by decide) (sx:i≠k:=by decide) (HD:j≠k:=by decide)
  (hx:X.env.scope.names.lookup x=ϊ .local:=by rfl) (hy:X.env.scope.names.lookup y=ϊ .local:=by rfl) (hz:X.env.scope.names.lookup z=ϊ .local:=by rfl)
  (hw:ι [.Tuple [.Name x px,.Name y py,.Name z pz] kt pt] (.Tuple [a,b,c] k2 jw) X.env=pure (ϊ [x,y,z]):=by rfl)
  (hs:θ [.Tuple [.Name x px,.Name y py,.Name z pz] kt pt] (.Tuple [a,b,c] k2 jw) pos.line X.env=pure ύ:=by rfl) :
  PS X (.Assign [.Tuple [.Name x px,.Name y py,.Name z pz] kt pt] (.Tuple [a,b,c] k2 jw) pos) (tS X.K Ξ (Gk i j k fa)):=kG (Zr hc hN hi hj hk fV sx HD hx hy hz ha hw hs) λL σ H W=>by
 obtain⟨w,env,V,S,Y,h⟩:=W;subst V;refine⟨w,env,rfl,S,Y,(Out.ai h).mono λJ I U T Z G R=>?_⟩;split at Z
 ·obtain⟨v,r,rfl,Q,P⟩:=R
  obtain⟨u,t,rfl,O,M⟩:=wL P;exact⟨v,u,t,rfl,aK T Z _ ((((Y.le U).set Q i).set O j).set M k)⟩
 ·exact Z.elim
end
def sV:List D->ag->Res D:=aO 2 2 (aH (xG (eB uU (ae (b9 1 [1] (cA (aa 0)) (gN 0) cB (e2 cz (aa 0) (aa 1))) ah))))
def qK:List D->ag->Res D:=aO 1 3 (aw (aU (fU (dM (cD (eB nr (ae (aa 0) (ae (eC (.ty "tuple")) ah))))) (aJ (e2 cX (eB eJ (ae (aa 0) ah)) (eC (.int 2))))) (aH (eC (.bl ύ))) bz) (aw (aR (aa 0) (gT [(gN 1),(gN 2)])) (aH (dw (aB vQ (ae (aa 1) ah)) (dw (aB vQ (ae (aa 2) ah)) (aB sV (ae (aa 1) (ae (aa 2) ah))))))))
def tj:List D->ag->Res D:=aO 1 1 (aH (aB sZ (ae (aa 0) (ae (eC (.int (4))) ah))))
def tM:List D->ag->Res D:=aO 1 1 (aH (aB sZ (ae (aa 0) (ae (eC (.int (31))) ah))))
def tF:List D->ag->Res D:=aO 1 5 (aw (aU (fU (dM (cD (eB nr (ae (aa 0) (ae (eC (.ty "tuple")) ah))))) (aJ (e2 cX (eB eJ (ae (aa 0) ah)) (eC (.int 4))))) (aH (eC (.bl ύ))) bz) (aw (aR (aa 0) (gT [(gN 1),(gN 2),(gN 3),(gN 4)])) (aw (aU (fU (dM (cD (aB tj (ae (aa 2) ah)))) (dM (cD (aB tM (ae (aa 3) ah))))) (aH (eC (.bl ύ))) bz) (aw (aU (aJ (e2 aX (aa 1) (eC (.str "made")))) (aH (aB qK (ae (aa 4) ah))) bz) (aH (dw (e2 aX (aa 1) (eC (.str "mended"))) (aB tB (ae (aa 4) ah))))))))
def zt:List D->ag->Res D:=aO 1 1 (aH (dw (eB nr (ae (aa 0) (ae (eC (.ty "tuple")) ah))) (dw (e2 rS (eB eJ (ae (aa 0) ah)) (eC (.int (24)))) (dw (eB nk (ae (b9 1 [] (cA (aa 0)) (gN 0) cB (aB tF (ae (aa 0) ah))) ah)) (aB qI (ae (aa 0) ah))))))
def my:List D->ag->Res D:=aO 4 4 (aH (b9 1 [1,2,3] (cA (aa 0)) (gN 0) (eI (aJ (e2 aX (e2 ar (aa 0) (eC (.int 0))) (eC (.str "made")))) (eI (aJ (e2 aX (e2 ar (aa 0) (eC (.int 1))) (aa 1))) (aJ (e2 cz (aa 2) (e2 ar (e2 ar (aa 0) (eC (.int 3))) (aa 3)))))) (e2 ar (aa 0) (eC (.int 2)))))
def sS:List D->ag->Res D:=aO 3 3 (aH (b9 1 [1,2] (cA (aa 0)) (gN 0) (eI (aJ (e2 aX (e2 ar (aa 0) (eC (.int 0))) (eC (.str "mended")))) (eI (aJ (e2 aX (e2 ar (aa 0) (eC (.int 1))) (aa 1))) (aJ (e2 aX (e2 ar (aa 0) (eC (.int 3))) (aa 2))))) (e2 ar (aa 0) (eC (.int 2)))))
def za:List D->ag->Res D:=aO 3 3 (aH (eB uU (ae (b9 1 [1,2] (cA (aa 0)) (gN 0) cB (vq kS rS (aa 1) (aa 0) (aa 2))) ah)))
def vZ:List D->ag->Res D:=aO 3 5 (aw (aR (aB my (ae (aa 0) (ae (aa 1) (ae (aa 2) (ae (eC (.int (1))) ah))))) (gN 3)) (aw (aR (aB sS (ae (aa 0) (ae (aa 1) (ae (aa 2) ah)))) (gN 4)) (aH (Er 2 [3,4] (cA (e1 wa (aB my (ae (aa 0) (ae (aa 1) (ae (aa 2) (ae (eC (.int (0))) ah))))))) (gN 0) cB (Bs (ae (aa 0) (ae (eC (.int (31))) ah))) (gN 1) (eI (fU (aJ (e2 cz (aa 1) (aa 2))) (eI (aJ (e2 aX (aa 1) (aa 0))) (aJ (e2 cz (aa 0) (aa 3))))) (dM (cD (aB za (ae (aa 3) (ae (aa 0) (ae (aa 1) ah))))))) (bc (ae (aa 0) (ae (aa 1) ah)))))))
def zp:List D->ag->Res D:=aO 1 1 (aH (Oi 4 [0] (dH (ae (eC (.int (4))) ah)) (gN 0) cB (dH (ae (eC (.int (8))) ah)) (gN 1) cB (cA (aB vZ (ae (aa 4) (ae (aa 0) (ae (aa 1) ah))))) (gT [gN 2,gN 3]) cB (bc (ae (aa 0) (ae (aa 1) (ae (aa 2) (ae (aa 3) ah)))))))
def tG:List D->ag->Res D:=aO 1 1 (aH (dw (aB zt (ae (aa 0) ah)) (TK.E7 (aB zp (ae (aa 0) ah)))))
def zc:List D->ag->Res D:=aO 3 8 (aw (aR (aB my (ae (aa 0) (ae (aa 1) (ae (aa 2) (ae (eC (.int (0))) ah))))) (gN 3)) (aw (aR (aB sS (ae (aa 0) (ae (aa 1) (ae (aa 2) ah)))) (gN 4)) (aw (aR (eNew ah) (gN 5)) (aw (aR (eC (.bl ύ)) (gN 6)) (aw (gn (dH (ae (eC (.int (31))) ah)) (gN 7) (aw (aR (iZ (e2 cz (aa 7) (aa 3)) (dw (aa 6) (e2 gC (aa 7) (aa 4)))) (gN 6)) (aU (cD (aa 6)) (cP (ki (aa 5) (aa 7))) bz))) (aH (oK (aa 5))))))))
def ze:List D->ag->Res D:=aO 3 8 (aw (aR (aB my (ae (aa 0) (ae (aa 1) (ae (aa 2) (ae (eC (.int (1))) ah))))) (gN 3)) (aw (aR (aB sS (ae (aa 0) (ae (aa 1) (ae (aa 2) ah)))) (gN 4)) (aw (aR (eNew ah) (gN 5)) (aw (aR (eC (.bl ύ)) (gN 6)) (aw (gn (Hw (ae (eC (.int (31))) ah)) (gN 7) (aw (aU (fU (cD (aa 6)) (fU (aJ (e2 cz (aa 7) (aa 3))) (aJ (e2 cz (aa 7) (aa 4))))) (cP (ki (aa 5) (aa 7))) bz) (aR (dw (iZ (aa 6) (e2 cz (aa 7) (aa 3))) (e2 gC (aa 7) (aa 4))) (gN 6)))) (aH (oK (aa 5))))))))
def vX:List D->ag->Res D:=aO 2 2 (aH (eB i9 (ae (b9 1 [1,0] (dH (ae (eC (.int (8))) ah)) (gN 0) (aJ (e2 cz (aa 1) (e2 ar (aa 2) (aa 0)))) (aa 0)) ah)))
def sU:List D->ag->Res D:=aO 2 4 (aw (aR (b9 1 [0,1] (dH (ae (eC (.int (8))) ah)) (gN 0) cB (aB zc (ae (aa 1) (ae (aa 2) (ae (aa 0) ah))))) (gN 2)) (aw (aR (b9 1 [0,1] (dH (ae (eC (.int (8))) ah)) (gN 0) cB (aB ze (ae (aa 1) (ae (aa 2) (ae (aa 0) ah))))) (gN 3)) (aH (b9 1 [2,3] (dH (ae (eC (.int (31))) ah)) (gN 0) cB (bc (ae (aB vX (ae (aa 1) (ae (aa 0) ah))) (ae (aB vX (ae (aa 2) (ae (aa 0) ah))) ah)))))))
end DI
namespace L2
open PySem
def dj:Sem α->Prop
 | .pure _=>True
 | .raise _=>True
 | .unsupported _=>True
 | .finish _=>True
 | .rule _ k=>dj (k ())
 | .at _ k=>dj (k ())
 | .load _ _ k=>∀o,dj (k o)
 | .update _ _ f k=>(∀o,(f o).dict=o.dict)/\dj (k ())
 | .loadIfAlive _ k=>∀o,dj (k o)
 | .point _ k=>dj (k ())
 | .register ..=>True
 | .alloc _ k=>∀a,dj (k a)
 | .fresh k=>∀t,dj (k t)
 | .ask k=>∀t,dj (k t)
 | .choose _ _ k=>∀n,dj (k n)
 | .os _ _ k=>∀r,dj (k r)
 | .call ..=>False
 | .handled _ k=>∀v,dj (k v)
 | .genState _ k=>∀v,dj (k v)
 | .newGen _ k=>∀v,dj (k v)
 | .resume ..=>False
 | .yield ..=>True
 | .stack k=>∀v,dj (k v)
 | .fork ..=>True
 | .thread k=>∀v,dj (k v)
 | .await ..=>True
def Dk (h0 h:ū):Prop:=h0.objs.size<=h.objs.size/\∀b o,h0.get? b=ϊ o->∀Z,h.get? b=ϊ Z->Z.dict=o.dict
def Dk.refl (h):Dk h h:=⟨agW _,λb o e Y Z=>by rw[e] at Z;cases Z;rfl⟩
theorem Dk.push (k:Dk h0 h) (o):Dk h0 (h.push o):=by
 refine⟨Ø k.1 (by rw[ā];exact afq _),λb p e X W=>k.2 b p e X ?_⟩;have Z:=È (Í e) k.1;obtain⟨Y,V⟩:=afO.mp W;refine afO.mpr ⟨?_,V⟩;have:(h.push o).objs[b]?=h.objs[b]?:=by
  show (h.objs.push o)[b]?=_;rw[Array.getElem?_push_lt Z,Array.getElem?_eq_getElem Z]
 rw[this] at Y;exact Y
def Dk.upd (k:Dk h0 h) {a} {f} (hf:∀o,(f o).dict=o.dict) (ha:(h.get? a).isSome):Dk h0 (h.update a f):=by
 refine⟨by rw[Heap.size_update];exact k.1,λb p e X Y=>?_⟩;by_cases W:b=a
 ·subst W
  obtain⟨V,e1⟩:=afx.mp ha;have U:=k.2 b p e V e1;obtain⟨Z,S⟩:=afO.mp Y;obtain⟨T,R⟩:=afO.mp e1;have:=by
   obtain⟨objs,l⟩:=h;have Z:(objs.modify b f)[b]?=ϊ X:=Z;rw[Array.getElem?_modify,Ö rfl,T] at Z;exact(agX Z).symm
  rw[this,hf,U]
 ·rw[afu _ _ _ _ W] at Y
  exact k.2 b p e X Y
def Xy (M) (Γ) (t:Sem α):∀{Q} {E} {p} {s},dj t->Sem.wp M Γ t Q E p s->∀{h0},Dk h0 s.heap ->
  Sem.wp M Γ t (λa p' s'=>Q a p' s'/\Dk h0 s'.heap) (λe p' s'=>E e p' s'/\Dk h0 s'.heap) p s:=by
 induction t with
 |pure a=>intro Q E p s d h h0 k;exact⟨h,k⟩
 |raise e=>intro Q E p s d h h0 k;exact⟨h,k⟩
 |unsupported w=>intro Q E p s d h h0 k;exact h.elim
 |finish w=>intro Q E p s d h h0 k;exact h.elim
 |rule t Z ih=>intro Q E p s d h h0 k;exact ih _ d h k
 | «at» t Z ih=>intro Q E p s d h h0 k;exact ih _ d h k
 |load a pt Z ih=>intro Q E p s d h h0 k;obtain⟨o,e,h⟩:=h;exact⟨o,e,ih o (d o) h k⟩
 |loadIfAlive a Z ih=>intro Q E p s d h h0 k;exact ih _ (d _) h k
 |point a Z ih=>intro Q E p s d h h0 k;exact ih _ d h k
 |register a Z ih=>intro Q E p s d h h0 k;exact h.elim
 |fresh Z ih=>intro Q E p s d h h0 k;exact ih _ (d _) h k
 |ask Z ih=>intro Q E p s d h h0 k;exact ih _ (d _) h k
 |choose a n Z ih=>intro Q E p s d h h0 k;exact⟨h.1,ih _ (d _) h.2 k⟩
 |os a n Z ih=>intro Q E p s d h h0 k;exact ih _ (d _) h k
 |call a b c n Z ih=>intro Q E p s d h h0 k;exact Ć d
 |handled a Z ih=>intro Q E p s d h h0 k;exact ih _ (d _) h k
 |genState a Z ih=>intro Q E p s d h h0 k;obtain⟨o,e,h⟩:=h;exact⟨o,e,ih _ (d _) h k⟩
 |newGen a Z ih=>intro Q E p s d h h0 k;exact ih _ (d _) h k
 |resume a b c Z ih=>intro Q E p s d h h0 k;exact Ć d
 |yield a b c Z ih=>intro Q E p s d h h0 k;exact h.elim
 |stack Z ih=>intro Q E p s d h h0 k;exact ih _ (d _) h k
 |fork a Z ih=>intro Q E p s d h h0 k;exact h.elim
 |thread Z ih=>intro Q E p s d h h0 k;exact ih _ (d _) h k
 |await a b c e Z ih=>intro Q E p s d h h0 k;exact h.elim
 |alloc o Z ih=>intro Q E p s d h h0 k;exact ih _ (d _) h (k.push o)
 |update a pt f Z ih=>intro Q E p s d h h0 k;exact⟨h.1,ih _ d.2 h.2 (k.upd d.1 h.1)⟩
def zz {A} {t:Sem α} {Q} {E} {s} (d:dj t) (h:ê M A t Q E s):ê M A t (λa s'=>Q a s'/\Dk s.heap s'.heap) (λe s'=>E e s'/\Dk s.heap s'.heap) s :=
 fun Z p i=>Xy M Z t d (h Z p i) (Dk.refl _)
def gB {f:α->Sem β} (h:dj t) (g:∀a,dj (f a)):dj (t >>= f):=by
 induction t with
 |pure a=>exact g a
 |raise e=>trivial
 |unsupported w=>trivial
 |finish w=>trivial
 |rule t k ih=>exact ih _ h
 | «at» t k ih=>exact ih _ h
 |load a p k ih=>exact λo=>ih o (h o)
 |loadIfAlive a k ih=>exact λo=>ih o (h o)
 |point a k ih=>exact ih _ h
 |register a k ih=>trivial
 |fresh k ih=>exact λo=>ih o (h o)
 |ask k ih=>exact λo=>ih o (h o)
 |choose a n k ih=>exact λo=>ih o (h o)
 |os a n k ih=>exact λo=>ih o (h o)
 |call a b c n k ih=>exact h.elim
 |handled a k ih=>exact λo=>ih o (h o)
 |genState a k ih=>exact λo=>ih o (h o)
 |newGen a k ih=>exact λo=>ih o (h o)
 |resume a b c k ih=>exact h.elim
 |yield a b c k ih=>trivial
 |stack k ih=>exact λo=>ih o (h o)
 |fork a k ih=>trivial
 |thread k ih=>exact λo=>ih o (h o)
 |await a b c e k ih=>trivial
 |alloc o k ih=>exact λo=>ih o (h o)
 |update a p f k ih=>exact⟨h.1,ih _ h.2⟩
def zA (v) (i):dj (field v i):=by
 refine gB ?_ λa=>?_
 ·cases v with
  |ref a =>
   refine gB (λo=>trivial) λo=>?_
   split<;>trivial
  |_=>trivial
 ·split<;>trivial
def Xz (g) (o):(Obj.mapFields g o).dict=o.dict:=by
 delta Obj.mapFields
 split<;>rfl
def Ez (v) (i) (x):dj (setField v i x):=by
 cases v with
 |ref a =>
  refine gB (λo=>trivial) λo=>?_;split
  ·split
   ·exact⟨Xz _,trivial⟩
   ·trivial
  ·trivial
 |_=>trivial
def abl (ty) (vs):dj (newFields ty vs):=by
 show dj (if vs.toArray.size > Ô+2 then _ else newObjAsIs _ _)
 split
 ·trivial
 ·exact λ_=>trivial
def Cv (e) (f):dj (setFlight e f):=by
 refine gB (zA ..) λa=>?_;split
 ·exact Ez ..
 ·trivial
theorem L6:∀l,dj (readyFrames l)
 | []=>trivial
 |env::outer=>by
  delta readyFrames;split
  ·refine gB (λo=>trivial) λo=>?_
   split
   ·trivial
   ·refine gB ?_ λb=>gB ?_ λv=>gB ⟨λ_=>rfl,trivial⟩ λ_=>L6 outer
    ·delta behindIsImport
     split
     ·trivial
     ·split
      ·trivial
      ·exact gB (zA ..) λ_=>trivial
    ·cases outer with
     |nil =>
      show dj (if (env.scope.isGenerator||env.scope.isCoroutine)=ό then pure _ else _)
      split
      ·trivial
      ·exact λ_=>trivial
     |cons _ _=>trivial
  ·trivial
def XA (env):dj (frameOf env):=by
 refine gB (λ_=>trivial) λl=>gB ?_ λr=>?_
 ·generalize l.dropWhile _=Z
  cases Z with
  |nil=>trivial
  |cons a r=>exact gB (L6 _) λ_=>trivial
 ·split<;>trivial
def XB (f) (b):dj (entryPlaceOf f b):=by
 refine gB (λ_=>trivial) λa=>?_
 split<;>trivial
def Nh (e) (env):dj (noteFrame e env):=by
 delta noteFrame;split
 ·refine gB (zA ..) λZ=>?_
  rename_i L _;have jp:dj (frameOf env >>= λf=>entryPlaceOf L (Z != Value.none) >>= λY=>EntryCells.newEntry Z f Value.none (Ŀ L) Value.none Y >>= λb=>setField e 1 b) :=
   gB (XA env) λf=>gB (XB _ _) λY=>gB (abl ..) λb=>Ez ..
  split
  ·refine gB (zA ..) λx=>?_
   split
   ·trivial
   ·exact gB (Ez ..) λ_=>jp
  ·exact jp
 ·trivial
def XC (env) (e):dj (leaving env e):=by
 exact gB (Nh e env) λ_=>Cv ..
open PySem.Spec PyProof.Rows
structure nN (P) (w) (outer) (H:Hp) (s:Û) (H') (B) (a) (cls a0) (h):Prop where
 fl:aga B outer a cls a0 h
 old:∀b o,s.heap.get? b=ϊ o->H b=ϋ->b∉dO outer->B.get? b=ϊ o
 there:∀b o,s.heap.get? b=ϊ o->b∉dO outer->∃o',B.get? b=ϊ o'
 slot:∀b o,s.heap.get? b=ϊ o->b∈dO outer->∃sl,h.get? b=ϊ { o with slots:=sl }
 aQ:dF P w H' B
 free:∀b o,s.heap.get? b=ϊ o->H b=ϋ->H' b=ϋ
 gI:∀b xs,H b=ϊ (.tup xs)->H' b=ϊ (.tup xs)
 fQ:∀b o u,H b=ϊ (.bH o u)->H' b=ϊ (.bH o u)
 gJ:∀b ps,H b=ϊ (.cG ps)->∃more,H' b=ϊ (.cG (ps++more))
def Dm (h:ū) (a:ă) (m:Option ă):Prop:=∀Z,m=ϊ Z->∃o,h.get? a=ϊ o/\o.dict=ϊ Z
def Dm.az (h) (a):Dm h a ϋ:=λ_ z=>by cases z
def Dm.on {a} {m} (x:Dm h a m) (k:Dk h h') (t:∃o,h'.get? a=ϊ o):Dm h' a m:=λX e=>by
 obtain⟨o,e1,e2⟩:=x X e;obtain⟨Z,Y⟩:=t;exact⟨Z,Y,(k.2 a o e1 Z Y).trans e2⟩
def fY (P:ù) (w:ĩ):ql:=λouter H s E e Z=>∃a cls X Y B m,e=.ref a/\Z.os=s.os/\agM Z.gens/\nN P w outer H s Y B a cls X Z.heap/\Dm Z.heap a m/\E cls m Y
section
variable {P:ù} {w:ĩ} {outer:List Env} {H H':Hp} {s:Û} {B h h':ū} {a:ă} {cls a0:á}
def nN.un (F:nN P w outer H s H' B a cls a0 h):Un (dO outer) [] H H' s.heap h where
 keep:=λb o e n Z _=>F.fl.1 b o (F.old b o e n Z)
 slot:=λb o e n Z _=>F.slot b o e Z
 free:=λb o e n _=>F.free b o e n
 there:=λb o e _=>by
  by_cases Z:b∈dO outer
  ·obtain⟨sl,q⟩:=F.slot b o e Z
   exact⟨_,q⟩
  ·obtain⟨Y,q⟩:=F.there b o e Z
   exact⟨Y,F.fl.1 b Y q⟩
 gI:=F.gI
 fQ:=F.fQ
 gJ:=F.gJ
def nN.held (F:nN P w outer H s H' B a cls a0 h):dF P w H' h:=F.aQ.kept λb o e=>F.fl.1 b o e
def nN.on (F:nN P w outer H s H' B a cls a0 h) (hf:aga B outer a cls a0 h') (hs:h.UpToSlots h'):nN P w outer H s H' B a cls a0 h' :=
 { F with
  fl:=hf
  slot:=λb o e Z=>by
   obtain⟨sl,q⟩:=F.slot b o e Z;obtain⟨_,U,Y,X⟩:=F.fl.2.2.1.mem Z;rw[q] at Y;cases Y;obtain⟨W,V⟩:=hs b _ q X;exact⟨W,V⟩ }
def gF.adl (x:gF P w H h a o):∃ob,h.get? a=ϊ ob:=by
 cases o with
 |lst Z=>obtain⟨_,_,_,_,e⟩:=x;exact⟨_,e⟩
 |tup Z=>obtain⟨_,_,_,ob,e,_⟩:=x;exact⟨ob,e⟩
 |dK Y=>obtain⟨_,_,_,_,o,_,_,e,_⟩:=x;exact⟨_,e⟩
 |dT Y=>obtain⟨_,_,_,_,o,_,_,e,_⟩:=x;exact⟨_,e⟩
 |set S n=>obtain⟨o,_,_,_,e,_⟩:=x;exact⟨_,e⟩
 |ins C X fs=>obtain⟨_,_,_,e,_⟩:=x;exact⟨_,e⟩
 |own y=>exact x
 |xd fs=>obtain⟨_,⟨_,_,_,e,_⟩,_⟩:=x;exact⟨_,e⟩
 |dU lo W=>obtain⟨_,_,_,e⟩:=x;exact⟨_,e⟩
 |bH ob u=>obtain⟨e,_⟩:=x;exact⟨_,e⟩
 |cG V=>exact⟨_,x⟩
 |met f y=>exact⟨_,x⟩
 |ext U=>obtain⟨_,e,_⟩:=x;exact e
def nN.new (F:nN P w outer H s H' B a cls a0 h):H' a=ϋ:=by
 cases e:H' a with
 |none=>rfl
 |some o =>
  obtain⟨Y,Z⟩:=(F.aQ a o e).adl;rw[F.fl.2.1] at Z;cases Z
end
structure Lv (X:Cx) (E):Prop where
 xe:X.xe=λe s'=>ê (è X.prog X.w) X.A (leaving X.env e) (λ_ il=>fY X.prog X.w X.outer X.m9 X.dS E e il) (λe' il=>fY X.prog X.w X.outer X.m9 X.dS E e' il) s'
 nC:X.stack=X.env::X.outer
 fr:X.env.frame=ϊ X.env.locals
 ex:X.ex=[]
section
variable {X:Cx} {E:XK} {π:List (ă×Obj)} {σ:St} {H:Hp} {s:Û}
def Inv.Ag (I:Inv X π σ H s) (L:Lv X E) {b} {o} (e:X.dS.heap.get? b=ϊ o) (hb:b∉dO X.outer):b∉dO X.stack:=λz=>by
 rcases Ñ.mp (I.mE b z) with q|q
 ·exact absurd (Í e) (by rw[q];exact Nat.not_lt.mpr I.ok.above)
 ·exact hb q
def C5 (L:Lv X E) {b} (hb:b∈dO X.outer):b∈dO X.stack:=by
 rw[L.nC];delta dO;rw[afp,L.fr];exact É _ hb
def fj (L:Lv X E):Passes (fY X.prog X.w) X E:=by
 intro π σ H s e S I h;obtain⟨a,cls,R,M,B,m,rfl,os,bare,F,K,q⟩:=h;rw[L.xe];have fl:=F.fl;rw[L.nC] at fl
 refine Ė (zz (XC ..) (wpAny_leaves_onW (E:=λ_ _=>False) (Q:=λ_ P=>∃Y,P={ S with heap:=Y }/\aga B _ a cls R Y/\S.heap.UpToSlots Y) (by rw[I.ok.frames,L.nC]) L.fr fl λY V U=>⟨Y,rfl,V,U⟩)) (λ_ P z=>?_) λ_ _ z=>z.1.elim
 obtain⟨⟨Y,rfl,V,U⟩,J⟩:=z
 refine⟨a,cls,R,M,B,m,rfl,os.trans I.os,bare,⟨V,λb o e n Z=>?_,λb o e Z=>?_,λb o e Z=>?_,F.aQ,λb o e n=>?_,λb O e=>F.gI b O (I.base.gI b O e),λb o u e=>F.fQ b o u (I.base.fQ b o u e),λb G e=>?_⟩,K.on J (let ⟨o,e,_⟩:=V.there;⟨o,e⟩),q⟩
 ·exact F.old b o (I.base.keep b o e n Z (by rw[L.ex];simp)) (I.base.free b o e n (by rw[L.ex];simp)) (I.Ag L e Z)
 ·obtain⟨T,W⟩:=I.base.there b o e (by rw[L.ex];simp)
  exact F.there b T W (I.Ag L e Z)
 ·obtain⟨sl,W⟩:=I.base.slot b o e (I.ok.lZ b Z) Z (by rw[L.ex];simp)
  obtain⟨y,e2⟩:=F.slot b _ W (C5 L Z);obtain⟨_,x,N,D⟩:=F.fl.2.2.1.mem (C5 L Z);rw[e2] at N;cases N;obtain⟨C,A⟩:=U b _ e2 D;exact⟨C,A⟩
 ·obtain⟨T,W⟩:=I.base.there b o e (by rw[L.ex];simp)
  exact F.free b T W (I.base.free b o e n (by rw[L.ex];simp))
 ·obtain⟨v,e1⟩:=I.base.gJ b G e
  obtain⟨t,e2⟩:=F.gJ b _ e1;exact⟨_,by rw[e2,Array.append_assoc]⟩
def UW (L:Lv X E) (I:Inv X π σ H s) {h1} {e} {cls} {us} (hm:Heap.MadeExcOf s.heap h1 e cls us) (q:E cls ϋ H):X.xe (.ref e) { s with heap:=h1 }:=by
 rw[L.xe];have V:=I.stack;have U:∀b u,H b=ϊ u->b∉dO _:=λb u e z=>by rw[I.wj b z] at e;cases e
 refine wpAny_leaves_madeW (by rw[I.ok.frames,L.nC]) L.fr (λb o e=>PySem.W.of_hideAll _ e) ?_ hm λJ t S _ _ R=>⟨e,cls,_,H,PySem.W.hideAll _ (dO X.stack),ϋ,rfl,I.os,I.bare,⟨S,λb o e n Z=>?_,λb o e Z=>?_,λb o e Z=>?_,λb u e=>?_,λb o e n=>I.base.free b o e n (by rw[L.ex];simp),I.base.gI,I.base.fQ,I.base.gJ⟩,Dm.az _ _,q⟩
 ·rw[<- L.nC]
  refine PySem.W.funFrames_hide V λenv Q a P=>?_;exact afB.mpr ⟨env,Q,P⟩
 ·exact adS _ (I.base.keep b o e n Z (by rw[L.ex];simp)) (I.Ag L e Z)
 ·obtain⟨O,Y⟩:=I.base.there b o e (by rw[L.ex];simp)
  exact⟨O,adS _ Y (I.Ag L e Z)⟩
 ·obtain⟨sl,Y⟩:=I.base.slot b o e (I.ok.lZ b Z) Z (by rw[L.ex];simp)
  obtain⟨_,G,T,N⟩:=V.mem (C5 L Z);rw[Y] at T;cases T;obtain⟨M,K⟩:=R b _ (hm.keeps b _ Y) N;exact⟨M,K⟩
 ·refine(I.aQ b u e).iS (λc v hc z=>adS _ z ?_) (λ_ z=>z) λ_ _ z=>z
  rcases hc with rfl|hc
  ·exact U c _ e
  ·exact U c _ hc
def abm (X:Cx) (M:Mod X.K X.mg X.base) {x} {C} {vB} {newId} (eC:ë X.K Ð x=ϊ (ϊ (.ref C))) (qC:agO X.K C vB newId=ό):OwnCls x C vB newId X.mg X.base:=by
 have KB:=M.kU;refine⟨Ĵ KB M.glob eC,?_⟩;delta agO at qC;split at qC
 case h_2=>cases qC
 rename_i S cd sl R;split at qC
 case h_2=>cases qC
 rename_i H bm Z a1 a2 Y nw V Q U;erw[Â,beq_iff_eq,û] at qC;obtain⟨⟨⟨⟨⟨P,O⟩,N⟩,L⟩,T⟩,J⟩:=qC;subst P O;cases cd;subst Q N;have I:sl=#[Z,a1,a2,Y,ϊ (.builtin nw),V]:=by cases sl;simp only at U;rw[U]
 subst I;exact⟨bm,_,_,_,_,_,_,_,_,_,S,Z,a1,a2,Y,V,_,KB _ _ R,.of_isNs (PySem.W.isNs_of_in KB T),PySem.W.nsMap_none_of_in KB T J,PySem.W.tail_of_in KB L⟩
def XD {C} {vB} {B newId Ow} {np bB pos} {oP} {rest} {t} (L:Lv X E) (eC:ë X.K Ð x=ϊ (ϊ (.ref C))) (qC:agO X.K C vB newId=ό) (FB:ExcBaseFacts B newId Ow vB) (hc:X.calm=ό) (hg:Gl X x) (ha:PA X (oP::rest) t) (hd:(x==("__debug__"))=ύ:=by decide)
  (he:Ì (oP::rest) X.env=(ύ,į oP X.env)::Ì rest X.env:=by rfl) (i8:(İ bB (Ì rest X.env)).any (·.1)=ύ:=by rfl) :
  PS X (.Raise (ϊ (.Call (.Name x np) (oP::rest) [] bB)) ϋ pos) (λ_ σ H=>t σ H λvs H1=>vs.length<=Ô/\E (.ref C) ϋ H1):=by
 intro π s σ H D I h;have O:=abm X I.ok.mod eC qC;obtain⟨Q,N,nm,q,bs,hdct,sn,sub,ab,col,dd,k0,k1,k2,k3,k5,mN,W,V,U,T⟩:=O.obj;refine wpAny_Raise_call_subT (nm:=nm) (q:=q) (N:=N) (bs:=bs) (hdct:=hdct) (sn:=sn) (sub:=sub) (ab:=ab) (col:=col) (dd:=dd) (k0:=k0) (k1:=k1) (k2:=k2) (k3:=k3) (k5:=k5)
  FB (T.hasType FB.hasBase) (I.ok.hd hc) (by rw[he];show (ύ||(İ bB _).any _)=ύ;rw[i8];rfl) U (qU I hg O.bound ⟨rfl,?_⟩ hd)
 have Y:=ha bB π s σ H _ I h;rw[he] at Y |-;refine Calls.evalArgs_plain (aW Y λP M ⟨vs,H1,Z,r,z,S⟩=>⟨rfl,by rw[<- r.length];exact z,Z.bk _ _ W,V.keeps Z.bk,T.keeps Z.bk,λJ e R=>?_⟩);exact UW L Z R S
end
end L2
namespace DI
open PySem L2
abbrev GG (K:Ň) (mg:Str->Option á) (x:Str) (st:Stmt) (ps:List Str):Prop:=∃f fd,Gd K mg x st ps f fd
abbrev bQ (P:ù) (w:ĩ) (K:Ň) (mg:Str->Option á) (base:ū) (x:Str) (st:Stmt) (ps:List Str) (k:Nat) (fn:List D->ag->Res D):Prop:=∀{f} {fd},Gd K mg x st ps f fd->dD P w K mg base fg k f fd ps (mh K fn)
noncomputable def qg (N ps:List Str) (sc:agH):Bool:=ώ (sc.kind=.function)&&!sc.isCoroutine&&!sc.isGenerator&&ώ N.Nodup&&ώ (N.take ps.length=ps)&&ps.all (λx=>ώ (sc.names.lookup x=ϊ .local\/sc.names.lookup x=ϊ .cell))&&sc.names.all (λy=>ώ (y.2≠.free))
def kH (h:qg N ps sc=ό):tV N ps sc:=by
 delta qg at h;erw[Â,û,Ã,Ü] at h;obtain⟨⟨⟨⟨⟨⟨Z,Y⟩,X⟩,W⟩,V⟩,U⟩,T⟩:=h;exact⟨Z,Y,X,W,V,U,T⟩
def bS (G:Gd K mg x st ps f fd) (N) (S:qg N ps (cI st)=ό)
 (hb:N.Nodup->∀bw A outer s H E,bV k (A.deeper (ķ x (cI st) s.heap.objs.size f bw))->dP (iC fg P w K mg base N x (cI st) f bw A outer s H E).oX (gS st) (tS K cM b)) :
  dD P w K mg base fg (k+1) f fd ps (mh K (aO ps.length N.length b)):=ac4 G.fn (kH S) (hb (kH S).nd)
section
variable {X:Cx} {Ξ:Wd->bE->Prop} {e a b c tg el src:Ő} {es rest tests:List Ő} {pos:Pos} {f g h:agS D} {fa:agS (List D)} {ft gt:agS Bool}
def aN {x} {st} {ps} {fn} {p} (G:GG X.K X.mg x st ps) (F:bQ X.prog X.w X.K X.mg X.base x st ps k fn) (hr:bV n X.A) (ha:PA X (e::es) (tA X.K Ξ fa)) (hk:k<=n:=by decide) (hg:Gl X x:=by rfl) (eQ:(x==("__debug__"))=ύ:=by decide)
  (he:Ì (e::es) X.env=(ύ,į e X.env)::Ì es X.env:=by rfl) (bY:(İ pos (Ì es X.env)).any (·.1)=ύ:=by rfl):PE X (.Call (.Name x p) (e::es) [] pos) (tE X.K Ξ (aB fn fa)):=by
 obtain⟨f,fd,G⟩:=G;exact aa5 (F G) (hr.mono hk) hg G.mg G.fn.kp G.b ha eQ he bY
def aq (ha:PE X a (tE X.K Ξ f)) (hs:Ì [a] X.env=(ύ,į a X.env)::Ì [] X.env:=by rfl):PA X [a] (tA X.K Ξ (ae f ah)):=bj ha bX hs
def aM (ha:PE X a (tE X.K Ξ f)) (hb:PE X b (tE X.K Ξ g)) (h1:Ì [a,b] X.env=(ύ,į a X.env)::Ì [b] X.env:=by rfl) (h2:Ì [b] X.env=(ύ,į b X.env)::Ì [] X.env:=by rfl):PA X [a,b] (tA X.K Ξ (ae f (ae g ah))):=bj ha (bj hb bX h2) h1
def fk (ha:PE X a (tE X.K Ξ f)) (hb:PE X b (tE X.K Ξ g)) (hc:PE X c (tE X.K Ξ h)) (h1:Ì [a,b,c] X.env=(ύ,į a X.env)::Ì [b,c] X.env:=by rfl) (h2:Ì [b,c] X.env=(ύ,į b X.env)::Ì [c] X.env:=by rfl) (h3:Ì [c] X.env=(ύ,į c X.env)::Ì [] X.env:=by rfl):PA X [a,b,c] (tA X.K Ξ (ae f (ae g (ae h ah)))):=bj ha (bj hb (bj hc bX h3) h2) h1
def ef {px} {sc} {ps} (N) {cap} {it} (hi:PI X (.Name x px) src (fH X.K Ξ it))
  (hY:∀cl C s H ex pn,PF (eR X N sc cl C s H ex pn) tests (tT X.K cM ft)/\PE (eR X N sc cl C s H ex pn) el (tE X.K cM f))
  (hc:X.calm=ό:=by rfl) (S:Eu sc X.env.scope.names X.N N 1 cap=ό:=by kernel_rfl) (nd:N.Nodup:=by decide +kernel) (h0:N[0]?=ϊ x:=by rfl) (hx:∀cl C s H ex pn,(eR X N sc cl C s H ex pn).env.scope.names.lookup x=ϊ .local:=by intros;rfl) (hs:∀x,Ā src X.env x=pure x:=by intro _;rfl) :
  PE X (.ListComp el [⟨.Name x px,src,tests,0⟩] sc ps) (tE X.K Ξ (b9 1 cap it (gN 0) ft f)) :=
 DM hc (AA S) (qV 0) hi (λcl C s H ex pn=>⟨ix nd h0 (.inl (hx cl C s H ex pn)) (.inr (hx cl C s H ex pn)),hY cl C s H ex pn⟩) hs
end
def gv (mg:Str->Option á) (E:XK):Wd->bE->Prop:=λw x=>∃C,mg x.c=ϊ (.ref C)/\match x.many with
 |none=>E (.ref C) ϋ w.H
 |some i=>∀Z Y t,w.H Z=ϋ->υ "many" Y=ϊ (ϊ (.int i t))->E (.ref C) (ϊ Z) (upd w.H Z (.bH Y (.own Z)))
def sJ (mg:Str->Option á) (K:Ň) (f:List D->ag->Res D):Sp:=λX H Q E=>∃w Z,w.H=H/\bg K w/\aC K w Z X/\Out K (gv mg E) w (f Z w.aY) λY d=>∀v,DV K Y d v->Q v Y.H
def mH (c:Str) (fa:agS (List D)):agS Fl:=λenv s=>ai (fa env s) λZ s=>if ώ (Z.length<=10)=ό then ϊ (.error ⟨c,ϋ⟩,s) else ϋ
def nv (K:Ň) (mg:Str->Option á) (x:Str):Prop:=∃C,ë K Ð x=ϊ (ϊ (.ref C))/\mg x=ϊ (.ref C)/\agO K C [.type "ValueError",.type "Exception",.type "BaseException",.type "object"] "ValueError.__new__"=ό
def dY (fn:List D->ag->Res D) (fa:agS (List D)):agS D:=λenv s=>ai (fa env s) fn
section
variable {X:Cx} {E:XK} {Ξ:Wd->bE->Prop} {e a b c:Ő} {es rest:List Ő} {pos:Pos} {f g h:agS D} {fa:agS (List D)}
def n6 {np bB} {oP} (L:Lv X E) (hO:nv X.K X.mg x) (ha:PA X (oP::rest) (tA X.K (gv X.mg E) fa)) (hc:X.calm=ό:=by rfl) (hg:Gl X x:=by rfl) (hd:(x==("__debug__"))=ύ:=by decide)
  (he:Ì (oP::rest) X.env=(ύ,į oP X.env)::Ì rest X.env:=by rfl) (i8:(İ bB (Ì rest X.env)).any (·.1)=ύ:=by rfl) :
  PS X (.Raise (ϊ (.Call (.Name x np) (oP::rest) [] bB)) ϋ pos) (tS X.K (gv X.mg E) (mH x fa)) :=
 let ⟨C,eC,V,U⟩:=hO
 kG (XD L eC U PySem.F.excBase_ValueError hc hg ha hd he i8) λN σ H T=>by
  obtain⟨w,env,R,S,Q,h⟩:=T;subst R;refine⟨w,env,rfl,S,Q,(Out.ai h).mono λW M J P Z I O=>?_⟩;split at Z
  ·rename_i Y
   have Y:=ß Y;obtain⟨G,e1,q⟩:=Z W (Le.refl W) P rfl;rw[V] at e1;cases e1;exact⟨Ø (by rw[<- O.length];exact Y) (by decide),q⟩
  ·exact Z.elim
def Zs {fA} {fd} {yC} {fn} {x} {p} (L:Passes (fY X.prog X.w) X E) (F:dD X.prog X.w X.K X.mg X.base (fY X.prog X.w) k fA fd yC (sJ X.mg X.K fn)) (hr:bV k X.A) (hg:Gl X x) (hm:X.mg x=ϊ (.ref fA)) (hk:Ņ X.K (.ref fA)=ό) (hb:Binds X.K fd yC [])
  (ha:PA X (e::es) (tA X.K (gv X.mg E) fa)) (eQ:(x==("__debug__"))=ύ:=by decide) (he:Ì (e::es) X.env=(ύ,į e X.env)::Ì es X.env:=by rfl) (bY:(İ pos (Ì es X.env)).any (·.1)=ύ:=by rfl) :
  PE X (.Call (.Name x p) (e::es) [] pos) (tE X.K (gv X.mg E) (dY fn fa)):=cN (MR F hr hg hm hk hb .nil L ha eQ he bY) fun σ H Q Z=>by
 obtain⟨w,env,Y,S,W,h⟩:=Z;subst Y;refine⟨w,env,rfl,S,W,(Out.ai h).mono λV U O T R N P=>?_⟩;show sJ _ _ fn _ _ Q E;rw[ú];exact⟨V,U,rfl,T,P,R⟩
def abn {K} {w} {r:Res α} {k} (h:Out K cM w r k):Out K Ξ w r k:=by
 match r,h with
 |some (.ok a,s),h=>exact h
 |some (.error x,s),h=>exact λZ l S e=>(h Z l S e).elim
def abo:Passes (fY X.prog X.w) X E0:=λ_ _ _ _ _ _ _ ⟨_,_,_,_,_,_,_,_,_,_,_,q⟩=>q.elim
end
def mI {K} {mg} {base} {x} {st} {f} {fd} {ps} {k} {b} (G:Gd K mg x st ps f fd) (N) (S:qg N ps (cI st)=ό)
  (hb:N.Nodup->∀bw A outer s H E,bV k (A.deeper (ķ x (cI st) s.heap.objs.size f bw))->Lv (iC (fY P w) P w K mg base N x (cI st) f bw A outer s H E) E->dP (iC (fY P w) P w K mg base N x (cI st) f bw A outer s H E) (gS st) (tS K (gv mg E) b)) :
  dD P w K mg base (fY P w) (k+1) f fd ps (sJ mg K (aO ps.length N.length b)):=by
 obtain⟨J,I,kV,doc,pm,an,bw,ct,F,rfl,lk,W⟩:=G.fn.ex;refine Ax lk W (kH S) (λV H Q E h=>?_) λA outer s H V Q E U h=>?_
 ·obtain⟨w,T,rfl,S,Y,h⟩:=h
  rw[<- Y.length];delta aO at h;split at h
  ·assumption
  ·exact h.elim
 ·obtain⟨R,T,rfl,O,Y,h⟩:=h
  refine⟨_,hb (kH S).nd bw A outer s _ E U ⟨rfl,rfl,rfl,rfl⟩,?_⟩;delta aO at h;split at h
  ·rename_i M
   rw[<- M] at h;refine⟨R,_,rfl,O,Y.env _,(Out.ai h).mono λD L C X Z=>?_⟩
   cases L with
   |nx env=>intro B _;exact aK X Z _ rfl
   |rt d=>have q:=aK X Z;exact q
   |bk env=>exact Z.elim
   |ct env=>exact Z.elim
  ·exact h.elim
end DI
namespace L2
open PySem PySem.Spec PyProof.Rows PySem.W
structure adm (env:Env) (names:List _) (cl:List _):Prop where
 xj:∀x c,cl.lookup x=ϊ c->env.cells.lookup x=ϊ c
 all:∀x,(x,NameKind.free)∈names->∃c,cl.lookup x=ϊ c
theorem C6:∀(names:List _) acc,(∀x,(x,NameKind.free)∈names->∃c,env.cells.lookup x=ϊ c)->(∀x c,acc.lookup x=ϊ c->env.cells.lookup x=ϊ c) ->
  ∃cl,(forIn names acc λp r=>(match p with | (name,kind)=>if kind==.free then (do let c <- cellOf env name;pure (ľ ((name,c)::r))) else pure (ľ r):Sem _))=pure cl /\
   (∀x c,cl.lookup x=ϊ c->env.cells.lookup x=ϊ c)/\(∀x,(x,NameKind.free)∈names->∃c,cl.lookup x=ϊ c)/\∀x c,acc.lookup x=ϊ c->∃c,cl.lookup x=ϊ c
 | [],acc,_,Y=>⟨acc,by simp,Y,λ_ h=>(ü h).elim,λx c h=>⟨c,h⟩⟩
 |(y,k)::r,acc,W,Y=>by
  by_cases V:k=.free
  ·subst V
   obtain⟨c,e⟩:=W y Ó;have U:∀x Z,((y,c)::acc).lookup x=ϊ Z->env.cells.lookup x=ϊ Z:=λx Z h=>by
    rw[Ę] at h;split at h
    ·rename_i q
     have q:=by simpa using q
     cases h;rw[q];exact e
    ·exact Y x Z h
   obtain⟨cl,T,S,R,X⟩:=C6 r _ (λx h=>W x (É _ h)) U;have Q:=X y c ∅;refine⟨cl,?_,S,λx h=>?_,λx Z h=>?_⟩
   ·rw[agt]
    erw[ę,ø,cellOf,e,pure_bind];exact T
   ·rcases Ñ.mp h with q|q
    ·cases q;exact Q
    ·exact R x q
   ·by_cases q:x=y
    ·rw[q];exact Q
    ·exact X x Z (by rw[Ę,show (x==y)=ύ by simpa using q];exact h)
  ·obtain⟨cl,T,S,R,X⟩:=C6 r acc (λx h=>W x (É _ h)) Y
   refine⟨cl,?_,S,λx h=>?_,X⟩
   ·rw[agt]
    have P:(k==NameKind.free)=ύ:=by simpa using V
    erw[P,Æ,ñ,pure_bind];exact T
   ·rcases Ñ.mp h with q|q
    ·cases q;exact absurd rfl V
    ·exact R x q
def XE {scope} (hc:∀x,(x,NameKind.free)∈scope.names->∃c,env.cells.lookup x=ϊ c):∃cl,closureFor scope env=pure cl/\adm env scope.names cl:=by
 obtain⟨cl,Z,Y,X,_⟩:=C6 _ [] hc (λx c h=>by cases h);refine⟨cl,?_,Y,X⟩;delta closureFor;erw[pure_bind,bind_pure];exact Z
noncomputable abbrev Ah (q:Str) (params:Arguments) (body:Ő) (scope:agH) (cl:List (Str×ă)) (pm:á) (c':ă) (jA:á):Obj:=kla_obj "<lambda>" q params body scope cl pm c' jA
section
variable {X:Cx} {π:List (ă×Obj)} {σ:St} {H:Hp} {s:Û}
def Inv.table {P c':ă} {ps BA} {oc} {h'} {t'} (I:Inv X π σ H s) (hP:H P=ϊ (.cG ps)) (hx:afs P s.heap h') (hc:s.heap.objs.size<=c') (oW:h'.get? c'=ϊ oc) (ht:h'.get? P=ϊ (tabObj (ps++BA))) :
  Inv X π σ (upd (upd H c' (.bH oc (.own c'))) P (.cG (ps++BA))) { s with heap:=h',toks:=t' }:=by
 have W:=I.aQ.fresh hc;have ne:∀b u,H b=u->u≠ϊ _->b≠P:=λb u e d z=>by rw[z,hP] at e;exact d e.symm
 have at_:∀b u,H b=ϊ u->b≠P->upd (upd H c' (.bH oc (.own c'))) P (.cG (ps++BA)) b=ϊ u:=λb u e n=>by rw[bI n,bI (dW e W)];exact e
 refine I.un ⟨λb o e n _ _=>hx b o (ne b _ n (by intro z;cases z)) e,λb o e n _ _=>⟨_,hx b o (ne b _ n (by intro z;cases z)) e⟩,λb o e n _=>?_,λb o e _=>?_,λb V e=>at_ b _ e (ne b _ e (by intro z;cases z)),λb o u e=>at_ b _ e (ne b _ e (by intro z;cases z)),λb U e=>?_⟩ λb u e=>?_
 ·rw[bI (ne b _ n (by intro z;cases z)),bI (ä (È (Í e) hc))];exact n
 ·by_cases Z:b=P
  ·exact⟨_,Z ▸ ht⟩
  ·exact⟨o,hx b o Z e⟩
 ·by_cases Z:b=P
  ·subst Z
   rw[hP] at e;cases e;exact⟨BA,dC⟩
  ·exact⟨#[],by rw[at_ b _ e Z];simp⟩
 ·by_cases Z:b=P
  ·subst Z
   rw[dC] at e;cases e;exact ht
  ·rw[bI Z] at e
   by_cases Y:b=c'
   ·subst Y
    rw[dC] at e;cases e;exact⟨oW,oc,oW⟩
   ·rw[bI Y] at e
    refine(I.aQ b u e).iS (λc v hc q=>hx c v ?_ q) (λc q=>at_ c _ q (ne c _ q (by intro z;cases z))) λc V q=>at_ c _ q (ne c _ q (by intro z;cases z))
    rcases hc with z|z
    ·rw[z];exact Z
    ·exact ne c _ z (by intro z;cases z)
def XF {scope} {jP} {cl} {c P} {ps} {E} {A} {Q} (I:Inv X π σ H s) (dQ:closureFor scope X.env=pure cl) (AE:X.env.code=.ref c) (C:CodeHd X.base c P) (hb:X.base.BuiltinsAt X.mg P)
  (hP:H P=ϊ (.cG ps)) (ht:TriplesOk ps.toList) (Gn:defaultsOf params X.env=([],[]))
  (aeY:∀cv,codeAmong jP ps.toList=ϊ cv->∃c' oc vs t,cv=.ref c'/\H c'=ϊ (.bH oc (.own c'))/\oc.data=.fields vs/\vs[1]?=ϊ (.str (X.env.qual++"<lambda>") t))
  (h:∀(f c':ă) jA oc vs t H1 s1,Inv X π σ H1 s1->s.heap.objs.size<=f->H1 f=ϋ->s1.heap.get? f=ϊ (Ah (X.env.qual++"<lambda>") params body scope cl ((X.mg "__name__").getD .none) c' jA)->H1 c'=ϊ (.bH oc (.own c'))->oc.data=.fields vs->vs[1]?=ϊ (.str (X.env.qual++"<lambda>") t) ->
   (H1=H\/(H c'=ϋ/\c'≠P/\H1=upd (upd H c' (.bH oc (.own c'))) P (.cG (ps++#[Ŀ jP.line,Ŀ jP.col,.ref c']))/\TriplesOk (ps++#[Ŀ jP.line,Ŀ jP.col,.ref c']).toList))->Q (.ref f) s1) :
  ê (è X.prog X.w) A (į (.Lambda params body scope jP) X.env) Q E s:=by
 have Y:=I.aQ P _ hP;have G:=C.keeps I.bk
 have F:s.heap.BuiltinsAt _ P:=let ⟨bm,o,a1,a2,y,x,v,r⟩:=hb;⟨bm,o,a1,a2,y,x,I.bk _ _ v,r⟩
 have W:=I.ok.mod.glob.keeps I.bk;have V:Ð≠P:=λq=>by
  obtain⟨o,g,d,e,U,_⟩:=W;rw[q,Y] at e;cases e;cases U
 refine kla_eval Gn ?_
 cases T:codeAmong jP _ with
 |some cv =>
  obtain⟨c',oc,vs,t,rfl,u,p,m⟩:=aeY cv T;refine kla_makeFunctionHit dQ I.ok.glob W AE G Y ht T F λjA h' S l Z=>?_
  have R:Inv X π σ H { s with heap:=h'.push (Ah (X.env.qual++"<lambda>") params body scope cl ((X.mg "__name__").getD .none) c' jA),toks:=S }:=I.kept λb o e=>Á _ (l b o e)
  exact h _ c' jA oc vs t H _ R Z (I.aQ.fresh Z) (Ë _ rfl) u p m (.inl rfl)
 |none =>
  refine kla_makeFunction dQ I.ok.glob W AE G Y ht T V F λc' jA h' S k O D N M=>?_;obtain⟨c₂,oc,vs,t,e2,j,U,i⟩:=N;cases e2;have L:=I.aQ.fresh O;have B:c'≠P:=λz=>by rw[z,hP] at L;cases L
  have R:=I.table (t':=S) hP (h':=h'.push (Ah (X.env.qual++"<lambda>") params body scope cl ((X.mg "__name__").getD .none) c' jA)) (λb o n e=>Á _ (k b o n e)) O (Á _ j) (Á _ M);have K:=Ø O (Nat.le_of_lt D);have J:h'.objs.size≠P:=λz=>by have:=Í Y;rw[<- z] at this;exact absurd (È this K) (ó _)
  refine h _ c' jA oc vs t _ _ R K ?_ (Ë _ rfl) ?_ U i (.inr ⟨L,B,rfl,?_⟩)
  ·rw[bI J,bI (Ř D)];exact I.aQ.fresh K
  ·rw[bI B,dC]
  ·rw[Array.toList_append]
   exact TriplesOk_snoc _ _ _ _ ht
end
def V1 {c cv} {a b} (l) (h:TriplesOk l) (e:codeAmong pos (l++[Ŀ a,Ŀ b,c])=ϊ cv):codeAmong pos l=ϊ cv\/cv=c:=by
 fun_induction TriplesOk l with
 |case1 =>
  erw[Ĩ,codeAmong,Ŀ] at e;split at e
  ·cases e;exact .inr rfl
  ·cases e
 |case2 a t b u x rest ih =>
  erw[ď,codeAmong] at e |-;split
  ·rename_i q;rw[Ö q] at e;exact .inl e
  ·rename_i q;rw[Ý q] at e;exact ih h e
 |case3 l Z Y=>exact h.elim
noncomputable def vC (P:ù) (w:ĩ) (K:Ň) (mg:Str->Option á) (base:ū) (N:List Str) (qual:Str) (scope:agH) (f:ă) (cd:á) (cl:List (Str×ă)) (A:Đ) (outer:List Env) (s:Û) (H:Hp) (E:XK):Cx where
 prog:=P
 w:=w
 K:=K
 mg:=mg
 base:=base
 A:=A.deeper (envX qual scope s.heap.objs.size f cd cl)
 N:=N
 dS:=s
 m9:=H
 env:=envX qual scope s.heap.objs.size f cd cl
 outer:=outer
 stack:=envX qual scope s.heap.objs.size f cd cl::outer
 ex:=[]
 calm:=ό
 fn:=λ_=>ύ
 pn:=[]
 xe:=λe Y=>ê (è P w) (A.deeper (envX qual scope s.heap.objs.size f cd cl)) (leaving (envX qual scope s.heap.objs.size f cd cl) e) (λ_ Z=>fY P w outer H s E e Z) (λX Z=>fY P w outer H s E X Z) Y
structure XG (N:List Str) (scope:agH):Prop where
 co:scope.isCoroutine=ύ
 gen:scope.isGenerator=ύ
 kind:scope.kind=.function
 wG:∀x∈scope.names,x.2≠.cell
def abp {K} {mg} {base} {k} {f c'} {N} {q} {params} {body} {scope} {cl} {pm jA} {vs:List V} {t:XK->TE} {oc} {fs} {tq}
  (S:XG N scope) (ho:base.get? f=ϊ (Ah q params body scope cl pm c' jA)) (hl:N.length=vs.length)
  (inj:∀x y c,cl.lookup x=ϊ c->cl.lookup y=ϊ c->x=y) (has:∀x,scope.names.lookup x=ϊ .free->∃c,cl.lookup x=ϊ c) (lM:∀x c,cl.lookup x=ϊ c->∃v,base.IsCell c v)
  (hv:∀(i:Nat) x v,N[i]?=ϊ x->vs[i]?=ϊ v->scope.names.lookup x=ϊ .free/\∃c u,cl.lookup x=ϊ c/\base.IsCell c (ϊ u)/\RelV v u)
  (pk:oc.data=.fields fs) (hV:fs[1]?=ϊ (.str q tq))
  (lO:∀A outer s H E,bV k (A.deeper (envX q scope s.heap.objs.size f (.ref c') cl))->Lv (vC P w K mg base N q scope f (.ref c') cl A outer s H E) E->PE (vC P w K mg base N q scope f (.ref c') cl A outer s H E) body (t E)) :
  dD P w K mg base (fY P w) (k+1) f (kla_fn "<lambda>" q params body scope cl pm (.ref c') jA) [] (λus H Q E=>us=[]/\H c'=ϊ (.bH oc (.own c'))/\t E (vs.map ϊ) H Q):=by
 refine⟨λus H Q E h=>by rw[h.1];rfl,λA outer s H args us M Q E W Z L r G=>?_⟩;obtain⟨_,F,D⟩:=G;have lim:=Z.mod.nolimit.keeps λb o e=>(Z.bs b o e).1;have bk:=λb o e=>(Z.bs b o e).1;have U:s.heap.CodeRec _ q:=⟨c',oc,fs,tq,rfl,(Z.aQ c' _ F).1,pk,hV⟩;refine kla_callFunE W.depth (bk _ _ ho) rfl S.co S.gen rfl U (L _ _ _ _ ?_);refine wpAny_newFunctionEnv S.wG (λx C=>absurd C ∅) (λB n T=>?_) S.kind;have Y:=λb o e=>T.extBut b o (ä (Í e)) (Á _ e);refine⟨lim.keeps Y,?_⟩;have m:bV k (A.deeper (envX q scope s.heap.objs.size f (.ref c') cl)):=W.deeper _;have R:∀c v,base.IsCell c v->H c=ϋ:=λc v ⟨o,e,_⟩=>(Z.bs c o e).2;have O:∀b,b∉(vC P w K mg base N q scope f (.ref c') cl A outer s H E).ex:=λb z=>absurd (show b∈([]) from z) ∅
 have I:Inv (vC P w K mg base N q scope f (.ref c') cl A outer s H E) [] (vs.map ϊ) H { s with heap:=B,toks:=s.toks+([]:List (Str×á)).length }:=by
  refine⟨⟨Z.mod,S.kind,rfl,rfl,agW _,inj,λy hy=>?_,λy c h=>absurd h Ú,λ_=>W.hd,Around.frames_deeper Z.frames,.inr ⟨rfl,rfl⟩,λb z=>absurd z (O b),Z.bs,Z.jv,λb _ _=>O b,λb z=>absurd z (O b),Z.jm,Z.lZ⟩,
   rfl,Z.bare,Un.kept Y,⟨_,n,λi y v l X h3=>?_⟩,λy c h=>?_,Z.aQ.fresh (agW _),λy c h=>?_,λp j=>absurd (show p∈([]) from j) ∅,Z.aQ.kept Y,?_⟩
  ·rcases hy with hy|hy
   ·exact absurd rfl (S.wG _ (ĵ hy))
   ·exact has y hy
  ·have g:vs[i]?=ϊ v:=by
    rw[å] at X
    cases e:vs[i]? with
    |none=>rw[e] at X;cases X
    |some a=>rw[e] at X;cases X;rfl
   obtain⟨d,c,u,e1,e2,r2⟩:=hv i y v l g;exact⟨u,r2,.inr ⟨.inr d,c,e1,(e2.keeps bk).keeps Y⟩⟩
  ·obtain⟨v,e⟩:=lM y c h
   exact⟨v,(e.keeps bk).keeps Y⟩
  ·obtain⟨v,e⟩:=lM y c h
   exact R c v e
  ·rw[Ç];exact hl.symm
 refine kla_codeExpr (Ė (lO A outer s H E m ⟨rfl,rfl,rfl,rfl⟩ _ _ _ H Q I D) (λu s' h=>?_) λe s' h=>h);obtain⟨v,H',J,rv,z⟩:=h;exact⟨v,H',J.os,J.bare,J.base,J.aQ,rv,z⟩
end L2
namespace DI
open PySem L2 PySem.W
def ado (pre:Hp->Prop):Prop:=∀H Z,(∀b o u,H b=ϊ (.bH o u)->Z b=ϊ (.bH o u))->pre H->pre Z
def BC (P:ù) (w:ĩ) (K:Ň) (mg:Str->Option á) (base:ū) (k:Nat) (pre:Hp->Prop) (f:ă) (vs:List V) (ds:List D) (th:ag->Res D):Prop :=
 ado pre/\∃fd,(∃o,base.get? f=ϊ o/\o.data=.func fd)/\Binds K fd [] [] /\
  dD P w K mg base (fY P w) k f fd [] (λX H Q E=>X=[]/\pre H/\∃Z,Z.H=H/\bg K Z/\aC K Z ds vs/\Out K (gv mg E) Z (th Z.aY) λY d=>∀v,DV K Y d v->Q v Y.H)
noncomputable def yN (cl:D) (th:ag->Res D) (i:Nat):agS D:=λenv s=>open Classical in if env[i]?=ϊ (ϊ cl) then th s else ϋ
def spT (K:Ň) (pre:Hp->Prop) (cl:D) (fn:List D->ag->Res D):Sp:=λY H Q _=>pre H/\∃w,w.H=H/\bg K w/\aC K w [cl] Y/\Out K cM w (fn [cl] w.aY) λZ d=>∀v,DV K Z d v->Q v Z.H
def adp {K} {mg} {base} {x} {st} {f} {fd} {ps} {k} {b} {pre} {cl} (G:Gd K mg x st ps f fd) (N) (S:qg N ps (cI st)=ό)
  (hb:N.Nodup->∀bw A outer s H E,pre H->bV k (A.deeper (ķ x (cI st) s.heap.objs.size f bw))->dP (iC fg P w K mg base N x (cI st) f bw A outer s H E).oX (gS st) (tS K cM b)) :
  dD P w K mg base fg (k+1) f fd ps (spT K pre cl (aO ps.length N.length b)):=by
 refine G.fn.ok (kH S) (λW H Q E h=>?_) (λbw A outer s H W Q E V h=>?_)
 ·obtain⟨_,w,rfl,S,Y,h⟩:=h
  rw[<- Y.length];delta aO at h;split at h
  ·assumption
  ·exact h.elim
 ·obtain⟨U,w,rfl,T,Y,h⟩:=h
  refine⟨_,hb (kH S).nd bw A outer s _ E U V,?_⟩;delta aO at h;split at h
  ·rename_i R
   rw[<- R] at h;refine⟨w,_,rfl,T,Y.env _,(Out.ai h).mono λM O L X Z=>?_⟩
   cases O with
   |nx env=>intro J _;exact aK X Z _ rfl
   |rt d=>have q:=aK X Z;exact q
   |bk env=>exact Z.elim
   |ct env=>exact Z.elim
  ·exact h.elim
noncomputable def mU (env:Env):List Nat->Option (List D)
 | []=>ϊ []
 |i::r=>match env[i]?,mU env r with
  |some (ϊ d),ϊ Z=>ϊ (d::Z)
  |_,_=>ϋ
theorem L7 {env} {σ} (eo:cg K w env σ):∀{caps} {ds},mU env caps=ϊ ds->∃vs,aC K w ds vs/\∀(i:Nat) j v,caps[i]?=ϊ j->vs[i]?=ϊ v->σ[j]?=ϊ (ϊ v)
 | [],ds,h=>by cases h;exact⟨_,rfl,λi j v h=>by simp at h⟩
 |j::r,ds,h=>by
  delta mU at h;split at h
  ·rename_i d R e1 e2
   cases h;obtain⟨v,X,W⟩:=eo.val j d e1;obtain⟨vs,V,U⟩:=L7 eo e2;refine⟨_,⟨v,vs,rfl,W,V⟩,λi T S Z Y=>?_⟩
   cases i with
   |zero=>cases Z;cases Y;exact X
   |succ i=>exact U i T S (by simpa using Z) (by simpa using Y)
  ·cases h
def oQ (x:Str) (caps:List Nat) (fb:agS D) (g:D->(ag->Res D)->List D->ag->Res D):agS D:=λenv s=>match (mU env caps) with
 |some Z=>match (s[0]?:Option Cell) with
  |some (.tb y)=>if ώ (y=x)=ό then ne (g .az (fb (Z.map ϊ)) [.az] s) else ϋ
  |_=>ϋ
 |none=>ϋ
noncomputable def Ox (dN N:List Str) (caps:List Nat) (RK sc:agH):Bool:=ώ (sc.kind=.function)&&!sc.isCoroutine&&!sc.isGenerator&&sc.names.all (λy=>ώ (y.2≠.cell))&&ώ (N.length=caps.length) &&
 (N.zip caps).all (λp=>ώ (dN[p.2]?=ϊ p.1)&&ώ (RK.names.lookup p.1=ϊ .cell)&&ώ (sc.names.lookup p.1=ϊ .free))&&sc.names.all (λy=>ώ (y.2≠.free)||ώ (RK.names.lookup y.1=ϊ .cell))
abbrev RL (P:ù) (w:ĩ) (K:Ň) (mg:Str->Option á) (x:Str) (st:Stmt) (ps:List Str) (k kt:Nat) (g:D->(ag->Res D)->List D->ag->Res D):Prop :=
 ∀{base} {pre} {f} {vs} {ds} {th},BC P w K mg base kt pre f vs ds th->∀{gA} {fd},Gd K mg x st ps gA fd->dD P w K mg base fg k gA fd ps (spT K pre (.dR f vs ds) (g (.dR f vs ds) th))
section
variable {X:Cx} {Ξ:Wd->bE->Prop} {pos:Pos}
def pV (X:Cx) (H:Hp) (s:Û):ū:=hideAll s.heap (dO X.stack++GA s.heap H)
def zx {s} {b} {o} (e:s.heap.get? b=ϊ o) (n:H b=ϋ) (hf:b∉dO X.stack):(pV X H s).get? b=ϊ o:=hideAll_get _ e λz=>by
 rcases þ.mp z with z|z
 ·exact hf z
 ·have:=(ĉ.mp z).2
  rw[n] at this;cases this
def L8 {s} {b} {o} (e:(pV X H s).get? b=ϊ o):s.heap.get? b=ϊ o/\H b=ϋ/\b∉dO X.stack:=by
 have e1:=of_hideAll _ e;refine⟨e1,?_,λz=>?_⟩
 ·cases q:H b with
  |none=>rfl
  |some u =>
   have:(pV X H s).get? b=ϋ:=hideAll_none _ (Î _ (ĉ.mpr ⟨î.mpr (Í e1),by rw[q];rfl⟩));rw[e] at this;cases this
 ·have:(pV X H s).get? b=ϋ:=hideAll_none _ (ï _ z)
  rw[e] at this;cases this
def _root_.L2.Inv.abq {σ:St} {H} {s} (I:Inv X π σ H s):∀b o,X.base.get? b=ϊ o->(pV X H s).get? b=ϊ o:=λb o e=>zx (I.bs b o e).1 (I.bs b o e).2 λz=>by
 have:=(I.stack.mem z).1;rw[e] at this;cases this
def _root_.L2.Inv.adq {σ:St} {H} {s} (I:Inv X π σ H s):oI X.prog X.w X.K X.mg (pV X H s) X.A X.stack s H:=by
 have k:=I.abq;refine⟨I.ok.frames,⟨I.ok.mod.kU.keeps k,I.ok.mod.glob.keeps k,?_,I.ok.mod.nolimit.keeps k⟩,λb o e=>⟨(L8 e).1,(L8 e).2.1⟩,agF (hideAll_size ..),?_,I.wj,I.aQ,I.bare⟩
 ·obtain⟨Z,Y,W⟩:=I.ok.mod.blt
  exact⟨Z,Y.keeps k,W⟩
 ·refine funFrames_hide I.stack λenv V a U=>ï _ ?_
  exact afB.mpr ⟨env,V,U⟩
def E8 {p jP} {params} {body} {sc} {c P} {RM} {RN} {k n kb} {gf} {fb} (N) {caps}
  (AE:X.env.code=.ref c) (Pz:X.env.qual=x++".<locals>.") (ht:tabIn X.K x=ϊ (c,P)) (hC:codeHdIn X.K c P=ό) (hb:X.base.BuiltinsAt X.mg P)
  (G:GG X.K X.mg g RM RN) (F:RL X.prog X.w X.K X.mg g RM RN k (kb+1) gf) (ae1:∀cl th s,gf cl th [cl] s=gf .az th [.az] s) (hr:bV n X.A)
  (lO:∀base q f cd cl A outer s H E,bV kb (A.deeper (envX q sc s.heap.objs.size f cd cl))->Lv (vC X.prog X.w X.K X.mg base N q sc f cd cl A outer s H E) E->PE (vC X.prog X.w X.K X.mg base N q sc f cd cl A outer s H E) body (tE X.K (gv X.mg E) fb))
  (hk:k<=n:=by decide) (Gp:Ox X.N N caps X.env.scope sc=ό:=by kernel_rfl) (yi:∀x,X.fn x=ό:=by intro _;rfl) (E9:∀cl pm c' jA,bindArgs (kla_fn "<lambda>" (x++".<locals>."++"<lambda>") params body sc cl pm (.ref c') jA) ⟨[],[]⟩=pure []:=by intros;rfl)
  (Gn:defaultsOf params X.env=([],[]):=by rfl) (hg:Gl X g:=by rfl) (eQ:(g==("__debug__"))=ύ:=by decide)
  (he:Ì [.Lambda params body sc jP] X.env=(ύ,į (.Lambda params body sc jP) X.env)::Ì [] X.env:=by rfl) (bY:(İ pos (Ì [] X.env)).any (·.1)=ύ:=by rfl) :
  PE X (.Call (.Name g p) [.Lambda params body sc jP] [] pos) (tE X.K Ξ (oQ x caps fb gf)):=by
 intro π s σ H Q I aD;have C:=codeHd_of_K I.ok.mod.kU hC;obtain⟨w,env,eH,S,eo,h⟩:=aD;subst eH;delta oQ at h
 cases nE:mU env caps with
 |none=>rw[nE] at h;exact h.elim
 |some W =>
 rw[nE] at h
 cases V:w.aY[0]? with
 |none=>erw[V] at h;exact h.elim
 |some c0 =>
 erw[V] at h
 cases c0 with
 |dead=>exact h.elim
 |lst _=>exact h.elim
 |dK _=>exact h.elim
 |dT _=>exact h.elim
 |ins _ _=>exact h.elim
 |tb y =>
 dsimp only at h;by_cases hy:y=x
 case neg=>rw[Ý (by simpa using hy)] at h;exact h.elim
 rw[Ö (by simpa using hy)] at h;subst hy;obtain⟨vs,ak,hvs⟩:=L7 eo nE;obtain⟨a,ha⟩:∃a,w.ρ[0]?=ϊ a:=by
  have:=S.len
  cases hρ:w.ρ with
  |nil=>rw[hρ] at this;have h0:=(Ï.mp V).1;rw[<- this] at h0;simp at h0
  |cons a r=>exact⟨a,rfl⟩
 have ae2:=S.cell 0 a _ ha V;obtain⟨c2,ps,t1,t2,t3,t4⟩:=ae2;rw[ht] at t1;cases t1;delta Ox at Gp;erw[Â,Ť,û,Ã,Ü] at Gp;obtain⟨⟨⟨⟨⟨⟨k1,k2⟩,k3⟩,k4⟩,k5⟩,k6⟩,k7⟩:=Gp;obtain⟨cl,dQ,R⟩:=XE λz hz=>by
  rcases k7 _ hz with q|q
  ·exact absurd rfl q
  ·exact I.ok.has z (.inl q)
 obtain⟨gA,fdg,G⟩:=G;refine ř (qU I hg G.mg ?_ eQ);refine afG I.ok.mod.kU G.fn.kp ?_ he bY;refine afF (XF I dQ AE C hb t2 t3 Gn (λcv q=>?_) λf c' jA O fs tq H1 D Y hf QE HH jT pk hV hH=>?_)
 ·rw[Pz]
  obtain⟨c',O,fs,t,r1,r2,r3,r4⟩:=t4 jP cv q;exact⟨c',O,fs,t,r1,r2.2,r3,r4⟩
 rw[Pz] at HH hV;refine Calls.spliced_nil ⟨Y.fT,?_⟩;have W1:∃U,U.H=H1/\bg X.K U/\Le X.K w U/\U.aY=w.aY:=by
  rcases hH with rfl | ⟨hn,HG,rfl,G5⟩
  ·exact⟨w,rfl,S,Le.refl w,rfl⟩
  ·have S2:=S.grow (o:=.bH O (.own c')) hn
   have M:=(Fw.grow (K:=X.K) (o:=.bH O (.own c')) hn).le;have l2:=(Fw.put (o:=.cG (ps++#[Ŀ jP.line,Ŀ jP.col,.ref c'])) (c:=.tb y) S2 ha V (by intro z;cases z)).le;refine⟨(w.grow c' _).put 0 P _ (.tb y),rfl,S2.xF ha V (by intro z;cases z) ⟨c,_,ht,dC,G5,λpos cv e=>?_⟩,M.trans l2,?_⟩
   ·rw[Array.toList_append] at e
    rcases V1 _ t3 e with e|e
    ·obtain⟨c3,o3,v3,t3',r1,r2,r3⟩:=t4 pos cv e
     exact⟨c3,o3,v3,t3',r1,(M.trans l2).bH c3 o3 _ r2.1 r2.2,r3⟩
    ·refine⟨c',O,fs,tq,e,?_,pk,hV⟩
     exact l2.bH c' O _ (λz=>oh S hn z) dC
   ·exact Ţ λi=>by
     show (w.aY.set 0 _)[i]?=w.aY[i]?
     cases i with
     |zero=>rw[í (Ï.mp V).1,V]
     |succ i=>rw[ð ⋯]
 obtain⟨U,rfl,S1,M,es⟩:=W1;have cells:∀z Z,cl.lookup z=ϊ Z->∀v,D.heap.IsCell Z v->(pV X _ D).IsCell Z v:=λz Z e v ⟨o,ho,hd⟩=>by
  have e2:=R.xj z Z e;refine⟨o,zx ho (Y.jJ z Z e2) λq=>?_,hd⟩
  rcases Ñ.mp (Y.mE _ q) with q|q
  ·exact Y.kW z Z e2 q
  ·obtain⟨_,o2,iX,_⟩:=Y.ok.jm.mem q
   exact absurd (Í iX) (Nat.not_lt.mpr (Y.ok.u9 z Z (yi z) e2))
 have QG:f∉dO _:=λq=>by
  obtain⟨_,o2,iX,_⟩:=I.stack.mem q;exact absurd (Í iX) (Nat.not_lt.mpr hf)
 have nl:N.length=vs.length:=by
  have e1:=ak.length;have e2:∀cs W,mU env cs=ϊ W->W.length=cs.length:=λcs=>by
   induction cs with
   |nil=>intro W h;cases h;rfl
   |cons i r ih =>
    intro W h;delta mU at h;split at h
    ·cases h;rename_i e;simp[ih _ e]
    ·cases h
  rw[k5,<- e2 caps W nE,e1]
 have T:BC X.prog X.w X.K X.mg (pV X U.H D) (kb+1) (λH=>H c'=ϊ (.bH O (.own c'))) f vs W (fb (W.map ϊ)):=by
  refine⟨λH H' st q=>st _ _ _ q,_,⟨_,zx HH QE QG,rfl⟩,Binds.all λus hl=>?_,(abp ⟨k2,k3,k1,k4⟩ (zx HH QE QG) nl (λz1 z2 Z J B=>Y.ok.inj z1 z2 Z (R.xj _ _ J) (R.xj _ _ B)) (λz hz=>R.all z (ĵ hz)) (λz Z e=>?_) (λi z v J B=>?_) pk hV
   (λA outer s H E hr L=>lO _ _ f _ cl A outer s H E hr L)).imp λus H Q E h=>?_⟩
  ·have:=List.eq_nil_of_length_eq_zero (by simpa using hl)
   subst this;exact E9 ..
  ·obtain⟨v,q⟩:=Y.cell z Z (R.xj z Z e)
   exact⟨v,cells z Z e v q⟩
  ·have hi:=by
    have:=(Ï.mp J).1;rw[k5] at this;exact this
   obtain⟨j,hj⟩:∃j,caps[i]?=ϊ j:=⟨_,Ò hi⟩;have hm:(z,j)∈N.zip caps:=by
    refine ο (i:=i) ?_;rw[List.getElem?_zip_eq_some];exact⟨J,hj⟩
   obtain⟨⟨q1,q2⟩,q3⟩:=k6 _ hm;obtain⟨m,hn,hl⟩:=Y.loc;obtain⟨u,r,lk⟩:=hl j z v q1 (hvs i j v hj B) (.inr (.inl q2));refine⟨q3,?_⟩
   rcases lk with ⟨lk,_⟩ | ⟨_,Z,e1,e2⟩
   ·rw[show X.env.kindOf z=X.env.scope.names.lookup z from rfl,q2] at lk;cases lk
   ·obtain⟨c3,e3⟩:=R.all z (ĵ q3)
    have e4:=R.xj z c3 e3;rw[e1] at e4;cases e4;exact⟨Z,u,e3,cells z Z e3 _ e2,r⟩
  ·obtain⟨J,B,w',rfl,S',nK,hh⟩:=h
   refine⟨J,B,w',_,rfl,S',⟨?_,λi d e=>?_⟩,hh⟩
   ·rw[Ç,Ç];exact nK.length
   ·rw[å] at e
    cases q:W[i]? with
    |none=>rw[q] at e;cases e
    |some d' =>
     rw[q] at e;cases e;obtain⟨v,e1,e2⟩:=nK.get' i d q;exact⟨v,by rw[å,e1];rfl,e2⟩
 have hq:=(h.from M).ne;rw[<- es,<- ae1 _] at hq;refine afw (Ł ((F T G).run X.A _ D _ _ _ [.ref f] Q (λ_ _ _=>False) (hr.mono hk) Y.adq (G.b D _ Y.fT ?_) (.cons rfl .nil) ⟨jT,U,rfl,S1,⟨_,[],rfl,⟨rfl,M.all ak⟩,rfl⟩,hq⟩) λr s' l=>?_)
 ·have:=(F T G).len _ _ Q (λ_ _ _=>False) ⟨jT,U,rfl,S1,⟨_,[],rfl,⟨rfl,M.all ak⟩,rfl⟩,hq⟩
  simpa using this
 ·cases r with
  |error e=>exact l.elim
  |ok fl =>
   cases fl with
   |ret u=>exact Y.after l
   |next=>exact Ć l
   |brk=>exact Ć l
   |cont=>exact Ć l
end
end DI
namespace L2
open PySem PySem.Spec PyProof.Rows PySem.W
section
variable {X:Cx} {π:List (ă×Obj)} {σ:St} {H:Hp} {s:Û}
def zQ {A} {E} {i} {x} {pos} {Q} (I:Inv X π σ H s) (hN:X.N.Nodup) (hi:X.N[i]?=ϊ x) (hk:X.env.scope.names.lookup x=ϊ .local) (h:∀s',Inv X π (σ.set i ϋ) H s'->Q () s') :
  ê M A (do bindName X.env x .none;unbindBehindTheSuite X.env x pos) Q E s:=by
 obtain⟨m,S,R⟩:=id I.loc;have P:(X.env.scope.kind==.class||(X.env.scope.kind==.module&&X.env.locals != X.env.globals))=ύ:=by rw[I.ok.kind];rfl
 have kW:=I.kW;refine wpAny_nameGoes_keeps hk S P λu v O Z=>?_;refine h _ ⟨I.ok,I.os,I.bare,⟨λb o e n W Y=>?_,λb o e n W Y=>?_,I.base.free,λb o e Y=>?_,I.base.gI,I.base.fQ,I.base.gJ⟩,⟨_,O,λj y L e1 e2 K=>?_⟩,λy c e=>?_,I.free,I.jJ,λp J=>?_,λb G e=>?_,by rw[Ă];exact I.len⟩
 ·exact(Z.2 b (ä (È (Í e) I.ok.above))).trans (I.base.keep b o e n W Y)
 ·obtain⟨sl,e1⟩:=I.base.slot b o e n W Y
  exact⟨sl,(Z.2 b (ä (È (Í e) I.ok.above))).trans e1⟩
 ·obtain⟨F,e1⟩:=I.base.there b o e Y
  exact⟨F,(Z.2 b (ä (È (Í e) I.ok.above))).trans e1⟩
 ·by_cases V:j=i
  ·subst V
   have U:=(Ï.mp e2).1;rw[Ă] at U;rw[í U] at e2;cases e2
  ·rw[ð (ŧ V)] at e2
   obtain⟨D,C,q⟩:=R j y L e1 e2 K;refine⟨D,C,?_⟩
   rcases q with ⟨k,e⟩ | ⟨k,c,e,z⟩
   ·refine .inl ⟨k,?_⟩
    have:y≠x:=λe=>V (CL hN e1 (e ▸ hi));simp[this,e]
   ·exact .inr ⟨k,c,e,z.sameBut Z (kW y c e)⟩
 ·obtain⟨T,z⟩:=I.cell y c e
  exact⟨T,z.sameBut Z (kW y c e)⟩
 ·obtain⟨e,n,ne,B,d⟩:=I.pin p J
  exact⟨(Z.2 _ ne).trans e,n,ne,B,d⟩
 ·refine(I.aQ b G e).iS (λc T w q=>(Z.2 c ?_).trans q) (λ_ q=>q) λ_ _ q=>q
  rintro rfl
  rcases w with z|z
  ·have:=I.free;rw[z,e] at this;cases this
  ·have:=I.free;rw[z] at this;cases this
noncomputable abbrev Cx.held (X:Cx) (a:ă):Cx:={ X with A:=X.A.mark (ϊ (.ref a)),calm:=ύ,xe:=λ_ _=>False }
theorem Inv.held (I:Inv X π σ H s) (a):Inv (X.held a) π σ H s:=by
 obtain⟨⟨a1,a2,Z,Y,W,V,U,T,w,S,R,Q,P,O,N,M,L,K⟩,J,G,F,E,D,C,B,A,y,x⟩:=I;exact⟨⟨a1,a2,Z,Y,W,V,U,T,λz=>absurd z Ú,S,R,Q,P,O,N,M,L,K⟩,J,G,F,E,D,C,B,A,y,x⟩
def Inv.Ai (ok:X.Ok) (I:Inv (X.held a) π σ H s):Inv X π σ H s:=by
 obtain⟨_,Z,Y,W,V,U,T,S,R,Q,P⟩:=I;exact⟨ok,Z,Y,W,V,U,T,S,R,Q,P⟩
def Aj (X:Cx) (π:List (ă×Obj)) (σ:St) (E:XK) (e:á) (s':Û):Prop:=∃Z Y,Inv X π σ Z Y/\fY X.prog X.w X.stack Z Y E e s'
def j6 {E'} {e} {s'} {cn n} {np uV} {xQ} {xl} {j} {CM} {D} (Th:Aj X π σ E e s') (L:X.stack=X.env::X.outer) (hf:X.env.frame=ϊ X.env.locals)
  (hN:X.N.Nodup) (hj:X.N[j]?=ϊ n) (qx:X.env.scope.names.lookup n=ϊ .local) (hg:Gl X cn) (hm:X.mg cn=ϊ (.ref CM)) (hd:(cn==("__debug__"))=ύ)
  (h:∀cls m H' ,E cls m H'->exmOne X.K cls (.ref CM)=ϊ ό/\∀a o,H' a=ϋ->o.cls=cls->(notCls o=ό/\∀dx,m=ϊ dx->o.dict=ϊ dx)->∀s5,Inv (X.held a) π (σ.set j (ϊ (.ref a))) (upd H' a (.bH o (.own a))) s5 ->
   ê (è X.prog X.w) (X.held a).A (execs (xQ::xl) X.env) (SP (X.held a) π { nx:=fun bq H'=>D.nx (bq.set j ϋ) H',rt:=D.rt,bk:=fun bq H'=>D.bk (bq.set j ϋ) H',ct:=fun bq H'=>D.ct (bq.set j ϋ) H' }) (λ_ _=>False) s5) :
  ê (è X.prog X.w) X.A (noteFrame e X.env) (λ_ uK=>ê (è X.prog X.w) X.A (setFlight e ϋ) (λ_ ae3=>ê (è X.prog X.w) X.A (handleBy e X.env [.ExceptHandler (ϊ (.Name cn np)) (ϊ n) (xQ::xl) uV]) (SP X π D) E' ae3) E' uK) E' s':=by
 obtain⟨H1,G,Y,a,cls,O,H',B,m,rfl,os,bare,F,dm,hE⟩:=Th;obtain⟨C,hh⟩:=h cls m H' hE
 refine Ė (zz (Nh ..) (wpAny_looks_onW (E:=λ_ _=>False) (Q:=λ_ s2=>∃W,s2={ s' with heap:=W }/\Heap.HeldW B _ a cls O _ W/\s'.heap.UpToSlots W) (by rw[Y.ok.frames,L]) hf (by have:=F.fl;rw[L] at this;exact this) λW x y=>⟨W,rfl,x,y⟩)) (λ_ s2 z=>?_) λ_ _ z=>z.1.elim
 obtain⟨⟨W,rfl,PB,t⟩,s⟩:=z
 refine Ė (zz (Cv ..) (wpAny_landsW (E:=λ_ _=>False) (Q:=λ_ s3=>∃Z,s3={ s' with heap:=Z }/\aga B _ a cls O Z/\W.UpToSlots Z) PB λZ x y=>⟨Z,rfl,x,y⟩)) (λ_ s3 z=>?_) λ_ _ z=>z.1.elim
 obtain⟨⟨Z,rfl,QH,p⟩,l⟩:=z
 have yP:=(dm.on s (let ⟨o,e,_⟩:=PB.there;⟨o,e⟩)).on l (let ⟨o,e,_⟩:=QH.there;⟨o,e⟩)
 have R:aga B X.stack a cls O Z:=by rw[L];exact QH
 have k:=F.on R (t.trans p);have i:G.heap.get? a=ϋ:=by
  cases q:G.heap.get? a with
  |none=>rfl
  |some o =>
   by_cases P:a∈dO X.stack
   ·obtain⟨_,o2,e2,hd2⟩:=R.2.2.1.mem P
    obtain⟨M,ws,e3,_,e4,_⟩:=R.first
    rw[e3] at e2;cases e2;exact absurd e4 (hd2 _)
   ·obtain⟨o',e1⟩:=F.there a o q P
    rw[F.fl.2.1] at e1;cases e1
 have I3:=Y.wX (s':={ s' with heap:=Z }) os k.un k.held bare (λb z=>absurd z ∅)
 refine wpAny_handleBy_cons (codeAny_handlers_test ?_) (by intro q;cases q);refine(qU (I3.held a) hg hm ?_ hd);obtain⟨ob,g,xx⟩:=R.there;have LT:Looks (è X.prog X.w) Z (typeOf (.ref a)) cls:=by subst xx;exact(Looks.ld g).andThen .now
 refine(exm_one I3.fT LT C).here ?_;refine codeAny_handlers_suite_as ?_
 refine Ė (zz (Cv ..) (lands_againW (E:=λ_ _=>False) (Q:=λ_ s4=>∃V,s4={ s' with heap:=V }/\aga B _ a cls O V/\Z.UpToSlots V) R λV x y=>⟨V,rfl,x,y⟩)) (λ_ s4 z=>?_) λ_ _ z=>z.1.elim
 obtain⟨⟨V,rfl,I,d⟩,dk4⟩:=z
 have yQ:=yP.on dk4 (let ⟨o,e,_⟩:=I.there;⟨o,e⟩)
 have F4:=k.on I d;obtain⟨M,H,ae5⟩:=I.there;have S:=F4.new
 have I4:Inv X π σ (upd H' a (.bH M (.own a))) { s' with heap:=V }:=by
  have u:=F4.un;have ip:∀b o,G.heap.get? b=ϊ o->b≠a:=λb o e z=>by rw[z,i] at e;cases e
  refine Y.wX os ⟨u.keep,u.slot,λb o e n C=>?_,u.there,λb xs e=>?_,λb o v e=>?_,λb ps e=>?_⟩ (λb v e=>?_) bare (λb z=>absurd z ∅)
  ·rw[bI (ip b o e)];exact u.free b o e n C
  ·have:=u.gI b xs e;rw[bI (dW this S)];exact this
  ·have:=u.fQ b o v e;rw[bI (dW this S)];exact this
  ·obtain⟨more,this⟩:=u.gJ b ps e;exact⟨more,by rw[bI (dW this S)];exact this⟩
  ·by_cases P:b=a
   ·subst P
    rw[dC] at e;cases e;exact⟨H,M,H⟩
   ·rw[bI P] at e
    refine(F4.held b v e).iS (λ_ _ _ q=>q) (λc q=>?_) λc xs q=>?_
    ·rw[bI (dW q S)];exact q
    ·rw[bI (dW q S)];exact q
 refine nV I4 hN hj (.inl qx) (v:=.ref a) rfl (λs5 I5=>?_) (.inr qx)
 refine Ė (hh a M S ae5 ⟨by obtain⟨o2,vs,e1,_,e2,_⟩:=I.first;rw[H] at e1;cases e1;delta notCls;rw[e2],λdx e=>by obtain⟨o,e1,e2⟩:=yQ dx e;rw[H] at e1;cases e1;exact e2⟩ s5 (I5.held a)) (λf s6 q=>?_) λ_ _ z=>z.elim
 cases f with
 |next =>
  obtain⟨bq,U,J,q⟩:=q;exact zQ (J.Ai Y.ok) hN hj qx λs7 T=>⟨_,U,T,q⟩
 |brk =>
  obtain⟨bq,U,J,q⟩:=q;exact zQ (J.Ai Y.ok) hN hj qx λs7 T=>⟨_,U,T,q⟩
 |cont =>
  obtain⟨bq,U,J,q⟩:=q;exact zQ (J.Ai Y.ok) hN hj qx λs7 T=>⟨_,U,T,q⟩
 |ret u =>
  obtain⟨v,bq,U,J,r,q⟩:=q;exact zQ (J.Ai Y.ok) hN hj qx λs7 T=>⟨v,_,U,T,r,q⟩
end
end L2
namespace DI
open PySem L2 PySem.W
def cg.unset {env} {σ} (h:cg K w env σ) (i):cg K w (env.set i ϋ) (σ.set i ϋ):=by
 refine⟨by rw[Ă,Ă];exact h.len,λj X e=>?_⟩;by_cases Z:i=j
 ·subst Z
  have Y:=(Ï.mp e).1;rw[Ă] at Y;rw[í Y] at e;cases e
 ·rw[ð Z] at e
  rw[ð Z];exact h.val j X e
section
variable {X:Cx} {E:XK} {pos:Pos}
def abr {σ:St} {s} {w} {env} {Q} {k i:Nat} {x} {p} {pre} {f} {vs} {ds} {th} (T:BC X.prog X.w X.K X.mg X.base k pre f vs ds th) (h0:pre X.m9) (hr:bV k X.A)
  (hN:X.N[i]?=ϊ x) (hv:se X.env.scope x) (hd:(x==("__debug__"))=ύ) (ff:(x==("__classdict__"))=ύ)
  (I:Inv X π σ w.H s) (S:bg X.K w) (eo:cg X.K w env σ) (he:env[i]?=ϊ (ϊ (.dR f vs ds))) (h:Out X.K (gv X.mg E) w (th w.aY) λw' d=>∀v,DV X.K w' d v->Q v w'.H) :
  ê (è X.prog X.w) X.A (į (.Call (.Name x p) [] [] pos) X.env) (EP X π σ Q) (Aj X π σ E) s:=by
 obtain⟨P,fd,⟨o,O,M⟩,L,F⟩:=T;obtain⟨v,e1,e2⟩:=eo.val i _ he;obtain⟨rfl,J⟩:=e2;refine PySem.wpAny_Call_Name_kw ?_;have V:=(NZ (X:=X.ik λe R=>Aj X π σ E e R) (pos:=p) hN hv hd ff π s σ _ (λv G=>v=.ref f/\G=w.H) (I.ik _) ⟨_,e1,rfl,rfl⟩);refine aW V λu U V=>?_;obtain⟨v,z,Z,r,rfl,rfl⟩:=V;have Z:=Z.og;subst r;have D:∀h,h.get? f=ϊ o->∃k,(k=Keeper.frame\/k=Keeper.machine\/k=Keeper.boundFrame)/\Looks (è X.prog X.w) h (keeperOf (.ref f)) k:=λh e=>by
  obtain⟨y,t,C,os⟩:=o;cases M;exact⟨_,.inl rfl,(Looks.ld e).andThen .now⟩
 refine PySem.W.callWith_of rfl D (PyProof.Rows.evalArgs_nil3 ⟨Z.bk _ _ O,?_⟩);refine afw (Ł (F.run _ _ U _ _ _ _ Q E hr Z.kQ (L U _ Z.fT rfl) .nil ⟨rfl,P _ _ (λb o u e=>Z.base.fQ b o u e) h0,w,rfl,S,J,h⟩) λr R Y=>?_)
 cases r with
 |error e=>exact⟨_,U,Z,Y⟩
 |ok B =>
  cases B with
  |ret u=>exact Z.after Y
  |next=>exact Ć Y
  |brk=>exact Ć Y
  |cont=>exact Ć Y
end
end DI
namespace L2
open PySem PySem.Spec PySem.Calls PyProof.Rows PySem.W PySem.Builtin PySem.Builtin.ObjectAttr PySem.Builtin.Getset_descriptor
section
variable {prog:ù} {w:ĩ} {A:Đ} {E:á->Û->Prop} {s:Û} {K:Ň} {x C:ă}
noncomputable def pW (K:Ň) (C:ă):Bool:=(findIn K (.ref C) "__getattribute__"==ϊ (ϊ (.builtin "BaseException.__getattribute__")))&&(findIn K (.ref C) "__getattr__"==ϊ ϋ)&&(clsIn K C).isSome&&(findIn K (.ref C) "__class__"==ϊ (ϊ (.builtin "object.__class__")))&&(specialIn K (.builtin "object.__class__") "__get__"==ϊ (ϊ (.builtin "getset_descriptor.__get__")))&&(takesIn K (.builtin "object.__class__")==ϊ ό)&&(mroIn K C (.type "object")==ϊ ό)&&(mroIn K C (.type "BaseException")==ϊ ό)
def abt {M:Model} {PC:á} {Q:Unit->Û->Prop} (LT:Looks M s.heap (typeOf (.ref x)) (.ref C)) (M5:Looks M s.heap (isSubtype (.ref C) (.type "BaseException")) ό) (hq:Q () s):ê M A (agi "BaseException.__getattribute__" ⟨[.ref x,PC],[]⟩) Q E s:=by
 have Y:builtinKind "BaseException.__getattribute__"=ϊ .slot:=nofun
 have Z:splitId "BaseException.__getattribute__"=ϊ ("BaseException","__getattribute__"):=nofun
 have X:=F.args_bexc_ga (.ref x) PC;erw[agi,Y,Z];refine À ?_;delta isInstance
 repeat (first|with_reducible refine LT.at ?_|with_reducible refine M5.at ?_|wp_step)
 exact hq
def cls_read {Q:Option á->Û->Prop} (X:K.In s.heap) (LT:Looks (è prog w) s.heap (typeOf (.ref x)) (.ref C)) (hc:pW K C=ό) (h:Q (ϊ (.ref C)) { s with toks:=s.toks+1 }) :
  ê (è prog w) A (getAttr? (.ref x) "__class__") Q E s:=by
 delta pW at hc;erw[Â,beq_iff_eq] at hc;obtain⟨⟨⟨⟨⟨⟨⟨Y,W⟩,_⟩,V⟩,U⟩,T⟩,S⟩,R⟩:=hc;obtain⟨Z,g,d,t,os⟩:=s;have M1:=looks_findIn (M:=è prog w) X Y;have M2:=looks_findIn (M:=è prog w) X W;have P:Looks (è prog w) Z (find (.ref x) (.ref C) "__class__") (.bind (.builtin "getset_descriptor.__get__") (.builtin "object.__class__")) :=
  (looks_findIn X V).andThen ((looks_specialIn X U).andThen ((show Looks (è prog w) Z (dataDescriptor? (ϊ (.builtin "object.__class__")) (ϊ (.builtin "getset_descriptor.__get__"))) (ϊ (.builtin "getset_descriptor.__get__",.builtin "object.__class__")) from (looks_takesIn X T).andThen .now).andThen (Looks.tag .now)))
 have L:=looks_mroIn (M:=è prog w) X S;have O:=looks_mroIn (M:=è prog w) X R;have N:=F.attr_ValueError.ga.bind (.ref x);delta getAttr? getAttrBy? getAttrBy;refine À (wpAny_mkText (À (Ũ (Č (À (LT.at (À (M1.at ?_))))))));show ê _ _ (getAttrByItsOwn (.ref x) _ (.ref C) (.builtin "BaseException.__getattribute__") ύ ύ) _ _ _;delta getAttrByItsOwn;refine À (M2.at (À (Ũ (Č ?_))));show ê _ _ (boundAndCalled (.builtin "BaseException.__getattribute__") (.ref x) _) _ _ _;delta boundAndCalled;rw[N];refine À (Å (afw (ş F.attr_ValueError.ga.plain F.entry_bexc_ga ?_)));refine abt LT O ?_;delta Ŷ.«object.__getattribute__»;rw[show slotArgs "__getattribute__" 1 ⟨[.ref x]++[.str "__class__" t],[]⟩=pure (.ref x,[.str "__class__" t]) from rfl];refine À (Å ?_);dsimp only;rw[show attrName (.str "__class__" t)=pure ("__class__":Str) from rfl];refine À (Å (À (LT.at (À (P.at ?_)))));show ê _ _ (afA [Value.builtin "object.__class__"] (call (.builtin "getset_descriptor.__get__") [.builtin "object.__class__",.ref x,.ref C]) >>= ret) _ _ _;refine À (Č (afw ?_));refine ş KF.slot_gs.plain KF.entry_gs (KF.slot_gs.check _ _ _ _ _ _ _ _ KF.type_class (KF.args_gs _ _ _) ?_);delta Ŷ.«getset_descriptor.__get__» descrGet;rw[dga_obj];refine À (Å ?_);delta descrGetter descrCheckInstance descrNameAndClass isInstance;erw[KF.owner_class]
 repeat lk
 refine⟨afM _ nofun,ŀ KF.entry_class ?_⟩;delta Ŷ.«object.__class__» shownTypeOf
 repeat lk
 exact h
def XH (ho:o.cls=.ref C) (hc:pW K C=ό):KitX K (.ref x) (.ref C) (λh=>h.get? x=ϊ o) where
 ty:=λM h _ e=>ho ▸ (Looks.ld e).andThen .now
 it:=λM h X _=>by
  delta pW at hc;erw[Â] at hc;have z:=hc.1.1.1.1.1.2;delta clsIn at z;split at z
  ·rename_i q
   intro Y W V U k r;exact À (wpAny_loadPart (k _ _ (X _ _ q)) (Å r))
  ·cases z
 ne:=λh T S aj n sl X Z=>by
  delta pW at hc;erw[Â] at hc;have z:=hc.1.1.1.1.1.2;refine Bool.eq_false_iff.mpr λq=>?_;have e:=Value.ref.inj (beq_iff_eq.mp q);subst e;delta clsIn at z;split at z
  ·rename_i r
   have z:=(X _ _ r).symm.trans Z;cases z
  ·cases z
 ca:=λX e k=>cls_read X (ho ▸ (Looks.ld e).andThen .now) hc k
end
end L2
namespace DI
open PySem L2 PySem.W
def eZ (cs:List Str) (yes:Str->Bool) (d:D) (s:ag):Res D:=match d with
 | .az=>ok (.bl ύ) s
 | .exc c _=>if ώ (c∈cs)=ό then ok (.bl (yes c)) s else ϋ
 |_=>ϋ
def tX (K:Ň) (cs:List Str) (T:á) (yes:Str->Bool):Prop:=kitOne K (.type "NoneType") T=ϊ ύ/\∀c∈cs,∃C,nsIn K Ð c=ϊ (ϊ (.ref C))/\pW K C=ό/\kitOne K (.ref C) T=ϊ (yes c)
section
variable {X:Cx} {Ξ:Wd->bE->Prop} {a:Ő} {pos:Pos} {f:agS D}
def abv {yes} (hc:tX X.K cs T yes) {vT} (hT:∀u,RelV vT u->u=T):dh X (.builtin "isinstance") (λxs H Q=>∃(w:Wd) (d:D) (x:V),w.H=H/\bg X.K w/\DV X.K w d x/\xs=[x,vT]/\Out X.K Ξ w (eZ cs yes d w.aY) λw' d=>∀v,DV X.K w' d v->Q v w'.H):=by
 intro A s σ H y N Q I r zzz;obtain⟨w,d,x,rfl,S,P,rfl,h⟩:=zzz;obtain⟨W,Y,U,Z⟩:∃W,RelV x W/\∃U,N=[W,U]/\RelV vT U:=by
  cases r with
  |cons Y Z=>cases Z with|cons Z M=>cases M;exact⟨_,Y,_,rfl,Z⟩
 obtain⟨rfl,Z⟩:=Z;cases hT _ Z
 cases d with
 |az =>
  have e:=P;subst e;have e:=Y;subst e;exact kia_one kitx_none I.fT trivial hc.1 (by intro z;cases z) λR=>⟨.bl ύ,_,I.tok R,rfl,aK S h _ rfl⟩
 |exc c _ =>
  obtain⟨b,o,C,rfl,L,⟨J,G⟩,_⟩:=P;have e:=Y;subst e;delta eZ at h;dsimp only at h;split at h
  ·rename_i F
   obtain⟨t,O,E,B⟩:=hc.2 c (ß F);rw[G] at O;cases O;exact kia_one (XH J E) I.fT (I.aQ b _ L.2).1 B (by intro z;cases z) λR=>⟨.bl _,_,I.tok R,rfl,aK S h _ rfl⟩
  ·exact h.elim
 |_=>exact h.elim
def Oy {yes} {vT} {cn} {p np} (hc:tX X.K cs T yes) (hT:∀u,RelV vT u->u=T) (h1:PE X (.Name cn np) (tC vT)) (ha:PE X a (tE X.K Ξ f)) (hm:X.mg "isinstance"=ϋ) (hv:ý "isinstance"=ϊ (.builtin "isinstance")) (hg:Gl X "isinstance":=by rfl)
  (hs:Ì [a,.Name cn np] X.env=(ύ,į a X.env)::Ì [.Name cn np] X.env:=by rfl) (gM:Ì [.Name cn np] X.env=(ύ,į (.Name cn np) X.env)::Ì [] X.env:=by rfl) (bY:(İ pos (Ì [.Name cn np] X.env)).any (·.1)=ύ:=by rfl) :
  PE X (.Call (.Name "isinstance" p) [a,.Name cn np] [] pos) (tE X.K Ξ (e1 (eZ cs yes) f)) :=
 cN (CN (abv hc hT) hg hm hv (lD ha (lD h1 mF gM) hs) (by decide) (by decide) hs bY) fun σ H Q Z=>by
  obtain⟨w,env,Y,S,W,h⟩:=Z;subst Y;exact⟨w,env,rfl,S,W,(Out.ai h).mono λV x P U h1 v1 R=>⟨V,x,v1,rfl,U,R,rfl,h1⟩⟩
end
open PyProof.Rows PySem.SeqAt
def Gq (d:D) (s:ag):Res D:=match d with
 | .lst Z=>match i3 Z with
  |some bs=>ok (.int (bs.count ό)) s
  |none=>ϋ
 |_=>ϋ
def HS (d:D) (s:ag):Res D:=match d with
 | .lst Z=>match i3 Z with
  |some bs=>if (ώ (bs.idxOf ό<bs.length)&&ώ (bs.length<=100))=ό then ok (.int (bs.idxOf ό)) s else ϋ
  |none=>ϋ
 |_=>ϋ
theorem PD:∀(bs:List Bool) m h,m<bs.idxOf ό->bs[m]=ύ
 | [],m,h,_=>absurd h (agy _)
 |true::r,m,h,g=>by simp at g
 |false::r,0,h,g=>rfl
 |false::r,m+1,h,g=>by
  have e:(ύ::r).idxOf ό=r.idxOf ό+1:=by rw[List.idxOf_cons];rfl
  exact PD r m (by simpa using h) ⋯
noncomputable def uW:á->Bool
 | .bool b=>b
 |_=>ύ
theorem Cw:∀{bs:List Bool} {aj},Vals (bs.map V.bl) aj->aj=bs.map afv
 | [],_,.nil=>rfl
 |b::r,_,.cons e t=>by
  rw[e,Cw t];rfl
theorem Ni:∀bs:List Bool,(bs.map afv).countP uW=bs.count ό
 | []=>rfl
 |b::r=>by
  rw[Þ,List.countP_cons,List.count_cons,Ni r]
  cases b<;>rfl
def Oz {bs:List Bool} (y) (hy:y∈(bs.map afv).toArray):EqAt A s y (.bool ό) (uW y):=by
 have hy:y∈bs.map afv:=by simpa using hy
 obtain⟨b,_,rfl⟩:=é.mp hy;have h:=EqAt.bool_bool (A:=A) (s:=s) b ό
 cases b<;>exact h
section
variable {X:Cx} {Ξ:Wd->bE->Prop} {o:Ő} {f:agS D} {p apos bB:Pos} {j:Nat}
def XI:vf X "list.count" (λx xs H Q=>∃(a:ă) (bs:List Bool),x=.ref a/\xs=[.bl ό]/\cf X.K H a (bs.map V.bl)/\Q (.int (bs.count ό)) H):=by
 intro G s σ H x xs v Y Q I W U zzz;obtain⟨a,bs,rfl,rfl,T,h⟩:=zzz;have e:=W;subst e;obtain⟨u,rfl,rfl⟩:∃u,Y=[u]/\u=afv ό:=by
  cases U with|cons S R=>cases R;exact⟨_,rfl,S⟩
 obtain⟨aj,P,O,_⟩:=I.list T;cases Cw P;obtain⟨⟨cls,N,data,sl⟩,n,Z,M,_,L⟩:=O;subst M L;refine Ű PySem.F.slot_list_count ⟨_,Z,rfl⟩ PySem.F.entry_list_count (PySem.F.args_list_count_2 ..) (list_countAt a _ n N sl _ uW) ⟨Z,λy J=>Oz y J,?_⟩;rw[Ni];exact⟨.int _,H,I.tok _,⟨_,rfl⟩,h⟩
def XJ:vf X "list.index" (λx xs H Q=>∃(a:ă) (bs:List Bool),x=.ref a/\xs=[.bl ό]/\cf X.K H a (bs.map V.bl)/\bs.idxOf ό<bs.length/\bs.length<=100/\Q (.int (bs.idxOf ό)) H):=by
 intro B s σ H x xs v W Q I U T zzz;obtain⟨a,bs,rfl,rfl,S,R,A,h⟩:=zzz;have e:=U;subst e;obtain⟨u,rfl,rfl⟩:∃u,W=[u]/\u=afv ό:=by
  cases T with|cons P O=>cases O;exact⟨_,rfl,P⟩
 obtain⟨aj,N,M,_⟩:=I.list S;cases Cw N;obtain⟨⟨cls,L,data,sl⟩,n,Z,J,_,G⟩:=M;subst J G;have sz:(bs.map afv).toArray.size=bs.length:=by simp
 refine Ű PySem.F.slot_list_index ⟨_,Z,rfl⟩ PySem.F.entry_list_index (PySem.F.args_list_index_2 ..) (list_indexAt a _ n L sl _ uW _ (by rw[sz];exact R) ⋯ ?_ ?_) ⟨Z,λy E=>Oz y E,?_⟩
 ·simp[uW,List.getElem_idxOf]
 ·intro m Y D
  have C:=PD bs m (by rw[sz] at Y;exact Y) D;simp[uW,C]
 ·exact⟨.int _,H,I.tok _,⟨_,rfl⟩,h⟩
def abw (ho:PE X o (tE X.K Ξ f))
  (jd:Ĳ o "count" X.env (į o X.env)=į o X.env:=by rfl)
  (lT:((İ bB (Ì [.Constant (.bool ό) j p] X.env)).all (λx=>!x.1)&&(afH bB (Œ [] X.env)).all (λx=>x.1.isSome)
   && ώ (([.Constant (.bool ό) j p]:List Ő).length+([]:List ξ).length+(if ([]:List ξ).isEmpty then 0 else 1)<30))=ό:=by rfl)
  (je:(apos.endLine==bB.line)=ό:=by rfl) (hs:Ì [.Constant (.bool ό) j p] X.env=(ύ,į (.Constant (.bool ό) j p) X.env)::Ì [] X.env:=by rfl) (i8:(İ bB (Ì [] X.env)).any (·.1)=ύ:=by rfl) :
  PE X (.Call (.Attribute o "count" apos) [.Constant (.bool ό) j p] [] bB) (tE X.K Ξ (e1 Gq f)) :=
 cN (wZ Ū PySem.F.slot_list_count PySem.F.type_list_count XI ho (lD ET mF hs) jd lT je hs i8) fun σ H Q W=>by
  obtain⟨w,env,V,S,U,h⟩:=W;subst V;refine⟨w,env,rfl,S,U,(Out.ai h).mono λO d N T Z v R=>?_⟩
  cases d with
  |lst M =>
   delta Gq at Z;dsimp only at Z;split at Z
   ·rename_i bs P
    obtain⟨a,L,rfl,Y,r⟩:=R;cases wM P;cases r.wq;exact⟨.inl ⟨rfl,_,Y.sq⟩,a,bs,rfl,rfl,Y.sq,aK T Z _ rfl⟩
   ·exact Z.elim
  |_=>exact Z.elim
def ads (ho:PE X o (tE X.K Ξ f))
  (jd:Ĳ o "index" X.env (į o X.env)=į o X.env:=by rfl)
  (lT:((İ bB (Ì [.Constant (.bool ό) j p] X.env)).all (λx=>!x.1)&&(afH bB (Œ [] X.env)).all (λx=>x.1.isSome)
   && ώ (([.Constant (.bool ό) j p]:List Ő).length+([]:List ξ).length+(if ([]:List ξ).isEmpty then 0 else 1)<30))=ό:=by rfl)
  (je:(apos.endLine==bB.line)=ό:=by rfl) (hs:Ì [.Constant (.bool ό) j p] X.env=(ύ,į (.Constant (.bool ό) j p) X.env)::Ì [] X.env:=by rfl) (i8:(İ bB (Ì [] X.env)).any (·.1)=ύ:=by rfl) :
  PE X (.Call (.Attribute o "index" apos) [.Constant (.bool ό) j p] [] bB) (tE X.K Ξ (e1 HS f)) :=
 cN (wZ Ū PySem.F.slot_list_index PySem.F.type_list_index XJ ho (lD ET mF hs) jd lT je hs i8) fun σ H Q V=>by
  obtain⟨w,env,U,S,T,h⟩:=V;subst U;refine⟨w,env,rfl,S,T,(Out.ai h).mono λN d M R Z v P=>?_⟩
  cases d with
  |lst L =>
   delta HS at Z;dsimp only at Z;split at Z
   ·rename_i bs O
    split at Z
    ·rename_i Y
     rw[Â,Ã,Ã] at Y;obtain⟨a,J,rfl,W,r⟩:=P;cases wM O;cases r.wq;exact⟨.inl ⟨rfl,_,W.sq⟩,a,bs,rfl,rfl,W.sq,Y.1,Y.2,aK R Z _ rfl⟩
    ·exact Z.elim
   ·exact Z.elim
  |_=>exact Z.elim
end
end DI
namespace L2
open PySem PySem.Spec PyProof.Rows PySem.W
def V2 {K} {mg mb} {CX} {k} {fa a c P} {fd} {x} {sp} {cm} {vs} {ns}
  (KX:K.In cm.heap) (qp:cm.heap.Ns Ð mg) (hb:cm.heap.Ns builtinsNs mb) (hbb:∀x:Str,x≠"__name__"->mb x=ý x) (ae6:cm.heap.NoLimit) (hg:cm.gens=#[])
  (ha:cm.heap.get? a=ϊ { cls:=.type "list",data:=.seq vs.toArray }) (hi:agq vs ns) (hl:ns.length<=Ô) (hr:bV k callerA)
  (CT:CodeHd cm.heap c P) (hP:cm.heap.get? P=ϊ (tabObj #[])) (HU:K.lookup P=ϋ) (HV:cm.heap.BuiltinsAt mg P)
  (F:∀base,K.In base->base.Ns Ð mg->base.BuiltinsAt mg P->dD Pr w K mg base CX k fa fd [x] sp) (E9:∀s u,BindsTo s fd ⟨[u],[]⟩ [(x,u)])
  (ko:∀H,H P=ϊ (.cG #[])->cf K H a (ns.map V.int)->sp [.ref a] H (λv _=>v=.bl ό) λ_ _ _=>False)
  (HW:∀H e s',CX [] H cm (λ_ _ _=>False) e s'->False) :
  ų (è Pr w) callerA (.call (.ref fa) ⟨[.ref a],[]⟩) (λr s'=>r=.ok (.ret (.bool ό))/\OldK cm.heap s'.heap/\s'.os=cm.os/\agM s'.gens) cm:=by
 have O:=Lb hi;have U:=hi.length;have N:a≠P:=λz=>by rw[z,hP] at ha;cases ha
 have core:∀H,H P=ϊ (.cG #[])->(∀b,H b=ϋ\/b=P\/(b=a/\∃o T,H b=ϊ (.bH o (.lst T))))->cf K H a (ns.map V.int)->dF Pr w H cm.heap->(H a≠ϋ->K.lookup a=ϋ) ->
   ų (è Pr w) callerA (.call (.ref fa) ⟨[.ref a],[]⟩) (λr s'=>r=.ok (.ret (.bool ό))/\OldK cm.heap s'.heap/\s'.os=cm.os/\agM s'.gens) cm:=by
  intro H M S C L B;have free:∀{b} {o},cm.heap.get? b=ϊ o->o≠tabObj _->o≠{ cls:=.type _,data:=.seq _ }->H b=ϋ:=λ{b o} e A y=>by
   rcases S b with z|z | ⟨z,_⟩
   ·exact z
   ·rw[z,hP] at e;exact absurd (agX e).symm A
   ·rw[z,ha] at e;exact absurd (agX e).symm y
  have X:∀{b} {m},cm.heap.Ns b m->(uH _ H).Ns b m:=λ⟨o,t,p,e,d,r⟩=>⟨o,t,p,CK e (free e (λz=>by rw[z] at d;cases d) λz=>by rw[z] at d;cases d),d,r⟩;have J:=λb o e=>CK (KX b o e) (by
   rcases S b with z|z | ⟨z,I,T,W⟩
   ·exact z
   ·rw[z,HU] at e;cases e
   ·subst z;rw[B (by rw[W];intro z;cases z)] at e;cases e)
  have l:Mod K mg _:=⟨J,X qp,⟨mb,X hb,hbb⟩,let ⟨j,i,g⟩:=ae6;⟨j,X i,g⟩⟩
  have f:(uH _ H).BuiltinsAt mg P:=let ⟨bm,o,b1,b2,b3,b4,G,R,r⟩:=HV;⟨bm,o,b1,b2,b3,b4,CK G (free G (λz=>by rw[z] at R;cases R) λz=>by rw[z] at r;cases r.2),R,r⟩
  have e0:oI Pr w K mg _ callerA _ _ H:=⟨rfl,l,λb o e=>YB e,agF (Vp ..),trivial,λb hb=>absurd (show b∈([]) from hb) ∅,L,.of_eq hg⟩;refine Ł ((F _ J (X qp) f).run callerA _ _ H _ [.ref a] [.ref a] _ _ hr e0 (E9 _ _) (.cons rfl .nil) (ko H M C)) λr s' h=>?_
  cases r with
  |error e=>exact(HW H e s' h).elim
  |ok fl =>
   cases fl with
   |next=>exact Ć h
   |brk=>exact Ć h
   |cont=>exact Ć h
   |ret u =>
    obtain⟨v,H',os,bare,un,E,r',q⟩:=h;have q':=q;subst q';obtain rfl:u=afv ό:=r';have keep:∀b o,cm.heap.get? b=ϊ o->b≠P->s'.heap.get? b=ϊ o:=λb o e n=>by
     rcases S b with z|z | ⟨z,I,T,W⟩
     ·exact un.keep b o e z (by intro z;exact absurd (show b∈([]) from z) ∅) ∅
     ·exact absurd z n
     ·obtain⟨e1,_⟩:=L b _ W
      obtain⟨e2,_⟩:=E b _ (un.fQ b I _ W);rw[e] at e1;cases e1;exact e2
    obtain⟨more,hm⟩:=un.gJ P _ M;have D:=E P _ hm;refine⟨rfl,⟨λb o e=>?_,λb o e=>?_⟩,os,bare⟩
    ·by_cases hb:b=P
     ·subst hb
      rw[hP] at e;cases e;exact .inr (.inl ⟨(CT.tab hP).isCodeTable,rfl,_,more,rfl,D⟩)
     ·exact .inl (keep b o e hb)
    ·by_cases hb:b=P
     ·subst hb;exact⟨_,D⟩
     ·exact⟨o,keep b o e hb⟩
 cases Q:K.lookup a with
 |some o =>
  have e:=KX a o Q;rw[ha] at e;cases e
  refine core (λb=>if b=P then ϊ _ else ϋ) (Ö rfl) (λb=>?_) (.inr ⟨_,_,_,Q,rfl,rfl,rfl,by rw[ã,U];exact hl,by simpa using O⟩) (λb u z=>?_) (λz=>absurd (Ý N) z)
  ·by_cases hb:b=P
   ·exact .inr (.inl hb)
   ·exact .inl (Ý hb)
  ·by_cases hb:b=P
   ·have Z:=(Ö hb).symm.trans z
    cases Z;subst hb;exact hP
   ·have Z:=(Ý hb).symm.trans z
    cases Z
 |none =>
  refine core (λb=>if b=P then ϊ _ else if b=a then ϊ _ else ϋ) (Ö rfl) (λb=>?_) (.inl (.inr ⟨{ cls:=.type "list",data:=.seq vs.toArray },(Ý N).trans (Ö rfl)⟩)) (λb u z=>?_) (λ_=>Q)
  ·by_cases hb:b=P
   ·exact .inr (.inl hb)
   ·by_cases Y:b=a
    ·exact .inr (.inr ⟨Y,_,_,(Ý hb).trans (Ö Y)⟩)
    ·exact .inl ((Ý hb).trans (Ý Y))
  ·by_cases hb:b=P
   ·have Z:=(Ö hb).symm.trans z
    cases Z;subst hb;exact hP
   ·by_cases Y:b=a
    ·have Z:=((Ý hb).trans (Ö Y)).symm.trans z
     cases Z;subst Y;exact⟨ha,by rw[Ç];exact hl,vs,_,O,ha⟩
    ·have Z:=((Ý hb).trans (Ý Y)).symm.trans z
     cases Z
def abx {l:OpenLaw} {n k} {q} {loose} {XP} {YP} {d} {K:Params->Ň} {CX:ĩ->ql} {sp:ĩ->ă->Sp} {x}
  (hn:l.most=ϊ n) (Bm:n<=Ô) (yt:d.params.defaults=[]) (hr:bV k callerA)
  (hY:∀w h,YP w h->(K w.params).In h) (hd:(recsOf q).find? (λe=>e.name==d.name)=ϊ d)
  (F:∀w mg fa h,(K w.params).In h->h.Ns Ð mg->mg d.name=ϊ (.ref fa) ->
   ∃(c P:ă) (fd:FuncData),tabIn (K w.params) d.name=ϊ (c,P)/\(K w.params).lookup P=ϋ/\(∀s u,BindsTo s fd ⟨[u],[]⟩ [(x,u)]) /\
    ∀base,(K w.params).In base->base.Ns Ð mg->base.BuiltinsAt mg P->dD l.prog w (K w.params) mg base (CX w) k fa fd [x] (sp w P))
  (ko:∀w P H a (ns:List Int),ns.length<=n->H P=ϊ (.cG #[])->cf (K w.params) H a (ns.map V.int)->sp w P [.ref a] H (λv _=>v=.bl ό) λ_ _ _=>False)
  (HW:∀w H s e s',CX w [] H s (λ_ _ _=>False) e s'->False) :
  WalkO q loose XP YP l.row.toRowW d [] (λf vs=>PySem.call f vs):=by
 refine Rf.TV hn yt λw m Q mg j fa o pm cd doc a vs ns G Y i lq ff O N hints Z M=>?_;have W:=hY w _ Y;obtain⟨c,P,fd,L,J,I,E⟩:=F w mg fa _ W G.T.g O;obtain⟨D,S⟩:=tab_of G.T W hd L;have C:Q.heap.BuiltinsAt mg P:=by
  obtain⟨bm,B,A,y,X,R,t,U⟩:=G.T.bmain;refine⟨bm,B,A,y,λz=>?_,λz=>?_,X,R,t,U⟩
  ·obtain⟨o,es,ep,e,hd,_⟩:=G.T.g
   rw[z,e] at X;cases X;rw[hd] at U;cases U
  ·rw[z,S] at X;cases X;cases R
 exact V2 W G.T.g G.T.b G.T.builtins G.T.nolimit M N hints (Ø Z Bm) hr D S J C E I (λH r p=>ko w P H a ns Z r p) λH e s'=>HW w H _ e s'
end L2
namespace DI
open PySem L2 PySem.W
def adt {K} {mg} {base} {x} {st} {f c T} {fd} {ps} {k} {b} (G:Gd K mg x st ps f fd) (hx:nsIn K Ð x=ϊ (ϊ (.ref f))) (ht:tabIn K x=ϊ (c,T)) (N) (S:qg N ps (cI st)=ό)
  (hb:N.Nodup->∀A outer s H E,bV k (A.deeper (ķ x (cI st) s.heap.objs.size f (.ref c)))->dP (iC fg P w K mg base N x (cI st) f (.ref c) A outer s H E).oX (gS st) (tS K cM b)) :
  dD P w K mg base fg (k+1) f fd ps (mh K (aO ps.length N.length b)):=by
 obtain⟨D,C,kV,doc,pm,an,X,ct,B,rfl,lk,V⟩:=G.fn.ex;have U:X=.ref c:=by
  delta tabIn at ht;rw[hx] at ht;dsimp only at ht;rw[lk] at ht
  cases X with
  |ref z =>
   dsimp only at ht;split at ht
   ·split at ht
    ·cases ht;rfl
    ·cases ht
   ·cases ht
  |_=>cases ht
 subst U;refine Ax lk V (kH S) (λR H Q E h=>?_) λA outer s H R Q E O h=>?_
 ·obtain⟨w,M,rfl,S,Y,h⟩:=h
  rw[<- Y.length];delta aO at h;split at h
  ·assumption
  ·exact h.elim
 ·obtain⟨L,M,rfl,J,Y,h⟩:=h
  refine⟨_,(hb (kH S).nd A outer s _ E O).oX,?_⟩;delta aO at h;split at h
  ·rename_i I
   rw[<- I] at h;refine⟨L,_,rfl,J,Y.env _,(Out.ai h).mono λy F v W Z=>?_⟩
   cases F with
   |nx env=>intro u _;exact aK W Z _ rfl
   |rt d=>have q:=aK W Z;exact q
   |bk env=>exact Z.elim
   |ct env=>exact Z.elim
  ·exact h.elim
def Ak (K:Ň) (T:ă):Sp:=λY H Q _=>∃(a:ă) (Z:List Int),Y=[.ref a]/\cf K H a (Z.map V.int)/\Z.length<=63/\H T=ϊ (.cG #[])/\∀X,Q (.bl ό) X
def Zt {K} {mg} {base} {k} {f c T} {fd} {x y} {g} (F:dD P w K mg base fg k f fd [x] (mh K g)) (ht:tabIn K y=ϊ (c,T))
  (h:∀ns,ns.length<=63->∃s,g [.cS ns] [.tb y]=ϊ (.ok (.bl ό),s)):dD P w K mg base fg k f fd [x] (Ak K T):=F.imp λR H Q E ⟨a,ns,e,hS,X,Y,q⟩=>by
 subst e;obtain⟨s,W⟩:=h ns X;have V:∀b,(⟨[T],[.tb y],H⟩:Wd).Z b->b=T:=λb ⟨k,c,e1,_,_⟩=>by
  cases k with
  |zero=>exact(agX e1).symm
  |succ k=>cases e1
 have S:bg K ⟨[T],[.tb y],H⟩:=by
  refine⟨rfl,by simp,λk a e=>?_,λk a O e1 e2=>?_⟩
  ·cases k with
   |zero=>cases e;show H T≠ϋ;rw[Y];intro z;cases z
   |succ k=>cases e
  ·cases k with
   |zero=>cases e1;cases e2;exact⟨c,_,ht,Y,trivial,λpos N z=>by cases z⟩
   |succ k=>cases e1
 refine⟨_,[.cS ns],rfl,S,aC.one ⟨a,rfl,?_⟩,?_⟩
 ·rcases hS with hS|hS
  ·refine .inl ⟨λz=>?_,hS⟩
   rw[V a z] at hS
   rcases hS with hS | ⟨_,hS⟩<;>(rw[Y] at hS;cases hS)
  ·exact .inr hS
 ·rw[W]
  intro M _ _ _ v U;have e:=U;subst e;exact q _
def Tt:ý "ValueError"=ϊ (.type "ValueError"):=nofun
noncomputable def isNm (n c:Str):Bool:=ώ (c=n)
noncomputable def anyS (_:Str):Bool:=ό
abbrev mj (P:ù) (w:ĩ) (K:Ň) (mg:Str->Option á) (base:ū) (x:Str) (st:Stmt) (ps:List Str) (k:Nat) (fn:List D->ag->Res D):Prop:=∀{f} {fd},Gd K mg x st ps f fd->dD P w K mg base (fY P w) k f fd ps (sJ mg K fn)
def gw (K:Ň) (mg:Str->Option á) (cs:List Str) (n:Str):Prop:=∃C,mg n=ϊ (.ref C)/\tX K cs (.ref C) (isNm n)
def RS (K:Ň) (mg:Str->Option á) (cs:List Str) (n:Str):Prop:=∃Z,mg n=ϊ (.ref Z)/\∀c∈cs,∃C,nsIn K Ð c=ϊ (ϊ (.ref C))/\mg c=ϊ (.ref C)/\exmOne K (.ref C) (.ref Z)=ϊ ό
section
variable {X:Cx} {E:XK} {Ξ:Wd->bE->Prop} {e a b c:Ő} {es rest:List Ő} {pos:Pos} {f g h:agS D} {fa:agS (List D)}
def j9 {x} {st} {ps} {fn} {p} (G:GG X.K X.mg x st ps) (F:mj X.prog X.w X.K X.mg X.base x st ps k fn) (L:Passes (fY X.prog X.w) X E) (hr:bV n X.A) (ha:PA X (e::es) (tA X.K (gv X.mg E) fa)) (hk:k<=n:=by decide) (hg:Gl X x:=by rfl) (eQ:(x==("__debug__"))=ύ:=by decide)
  (he:Ì (e::es) X.env=(ύ,į e X.env)::Ì es X.env:=by rfl) (bY:(İ pos (Ì es X.env)).any (·.1)=ύ:=by rfl):PE X (.Call (.Name x p) (e::es) [] pos) (tE X.K (gv X.mg E) (dY fn fa)):=by
 obtain⟨f,fd,G⟩:=G;exact Zs L (F G) (hr.mono hk) hg G.mg G.fn.kp G.b ha eQ he bY
def gW {p np} (hc:gw X.K X.mg cs cn) (ha:PE X a (tE X.K Ξ f)) (hm:X.mg "isinstance"=ϋ) (hg:Gl X "isinstance":=by rfl) (HX:Gl X cn:=by rfl) (hd:(cn==("__debug__"))=ύ:=by decide)
  (hs:Ì [a,.Name cn np] X.env=(ύ,į a X.env)::Ì [.Name cn np] X.env:=by rfl) (gM:Ì [.Name cn np] X.env=(ύ,į (.Name cn np) X.env)::Ì [] X.env:=by rfl) (bY:(İ pos (Ì [.Name cn np] X.env)).any (·.1)=ύ:=by rfl) :
  PE X (.Call (.Name "isinstance" p) [a,.Name cn np] [] pos) (tE X.K Ξ (e1 (eZ cs (isNm cn)) f)):=by
 obtain⟨C,Z,h⟩:=hc;exact Oy (vT:=.ref C) h (λu r=>r) (Dx HX Z rfl hd) ha hm nS hg hs gM bY
def aby {p np} (hc:tX X.K cs (.type "ValueError") anyS) (ha:PE X a (tE X.K Ξ f)) (hm:X.mg "isinstance"=ϋ) (hmV:X.mg "ValueError"=ϋ) (hg:Gl X "isinstance":=by rfl) (HX:Gl X "ValueError":=by rfl)
  (hs:Ì [a,.Name "ValueError" np] X.env=(ύ,į a X.env)::Ì [.Name "ValueError" np] X.env:=by rfl) (gM:Ì [.Name "ValueError" np] X.env=(ύ,į (.Name "ValueError" np) X.env)::Ì [] X.env:=by rfl) (bY:(İ pos (Ì [.Name "ValueError" np] X.env)).any (·.1)=ύ:=by rfl) :
  PE X (.Call (.Name "isinstance" p) [a,.Name "ValueError" np] [] pos) (tE X.K Ξ (e1 (eZ cs anyS) f)) :=
 Oy (vT:=.ty _) hc (λu r=>r) (MO HX hmV Tt rfl) ha hm nS hg hs gM bY
end
def mJ (K:Ň) (cs asked:List Str) (j6:Str):Bool :=
 cs.all (λc=>match nsIn K Ð c with
  |some (ϊ (.ref C))=>excIn K C [.type "ValueError",.type "Exception",.type "BaseException",.type "object"] "ValueError.__new__"&&pW K C&&(kitOne K (.ref C) (.type "ValueError")==ϊ ό) &&
   (match nsIn K Ð j6 with|some (ϊ (.ref Z))=>exmOne K (.ref C) (.ref Z)==ϊ ό | _=>ύ) &&
   asked.all (λn=>match nsIn K Ð n with|some (ϊ (.ref A))=>kitOne K (.ref C) (.ref A)==ϊ (isNm n c) | _=>ύ)
  |_=>ύ) &&
 asked.all (λn=>match nsIn K Ð n with|some (ϊ (.ref A))=>kitOne K (.type "NoneType") (.ref A)==ϊ ύ | _=>ύ)&&(kitOne K (.type "NoneType") (.type "ValueError")==ϊ ύ) &&
 (match nsIn K Ð j6 with|some (ϊ (.ref _))=>ό | _=>ύ)
noncomputable def EA (K:Ň) (x:Str):Bool:=match tabIn K x with
 |some (c,P)=>codeHdIn K c P&&(K.lookup P).isNone
 |none=>ύ
def Zu (h:EA K x=ό):∃c P,tabIn K x=ϊ (c,P)/\codeHdIn K c P=ό/\K.lookup P=ϋ:=by
 delta EA at h;split at h
 ·rename_i c P e
  rw[Â] at h;exact⟨c,P,e,h.1,Option.isNone_iff_eq_none.mp h.2⟩
 ·cases h
def wR {p:ă->Bool} (h:(match nsIn K Ð x with|some (ϊ (.ref C))=>p C | _=>ύ)=ό):∃C,nsIn K Ð x=ϊ (ϊ (.ref C))/\p C=ό:=by
 split at h
 ·rename_i C e
  exact⟨C,e,h⟩
 ·cases h
section
variable {K:Ň} {cs asked:List Str} {j6:Str} {h:ū} {mg:Str->Option á}
def x_at (f:mJ K cs asked j6=ό) {c} (hc:c∈cs):∃C,nsIn K Ð c=ϊ (ϊ (.ref C))/\excIn K C [.type "ValueError",.type "Exception",.type "BaseException",.type "object"] "ValueError.__new__"=ό/\pW K C=ό/\kitOne K (.ref C) (.type "ValueError")=ϊ ό /\
  (∃CM,nsIn K Ð j6=ϊ (ϊ (.ref CM))/\exmOne K (.ref C) (.ref CM)=ϊ ό)/\∀n∈asked,∃A,nsIn K Ð n=ϊ (ϊ (.ref A))/\kitOne K (.ref C) (.ref A)=ϊ (isNm n c):=by
 delta mJ at f;erw[Â] at f;obtain⟨C,e,q⟩:=wR (Ü.mp f.1.1.1 c hc);erw[Â,beq_iff_eq] at q;obtain⟨⟨⟨⟨X,W⟩,V⟩,Z⟩,Y⟩:=q;obtain⟨CM,U,Z⟩:=wR Z;refine⟨C,e,X,W,V,⟨CM,U,beq_iff_eq.mp Z⟩,λn T=>?_⟩;obtain⟨A,S,Y⟩:=wR (Ü.mp Y n T);exact⟨A,S,beq_iff_eq.mp Y⟩
def qh (X:K.In h) (G:h.Ns Ð mg) (f:mJ K cs asked j6=ό) {c} (hc:c∈cs):nv K mg c:=by
 obtain⟨C,e,q,_⟩:=x_at f hc;exact⟨C,e,mg_of X G e,q⟩
def ae8 (X:K.In h) (G:h.Ns Ð mg) (f:mJ K cs asked j6=ό):RS K mg cs j6:=by
 have Z:=f;delta mJ at Z;erw[Â] at Z;obtain⟨Y,e,_⟩:=wR Z.2;refine⟨Y,mg_of X G e,λc W=>?_⟩;obtain⟨C,e1,_,_,_,⟨V,e2,q⟩,_⟩:=x_at f W;rw[e] at e2;cases e2;exact⟨C,e1,mg_of X G e1,q⟩
def hU (X:K.In h) (G:h.Ns Ð mg) (f:mJ K cs asked j6=ό) {n} (hn:n∈asked):gw K mg cs n:=by
 have Z:=f;delta mJ at Z;erw[Â] at Z;obtain⟨A,e,q⟩:=wR (Ü.mp Z.1.1.2 n hn);refine⟨A,mg_of X G e,beq_iff_eq.mp q,λc Y=>?_⟩;obtain⟨C,e1,_,W,_,_,V⟩:=x_at f Y;obtain⟨T,e2,U⟩:=V n hn;rw[e] at e2;cases e2;exact⟨C,e1,W,U⟩
def adu (f:mJ K cs asked j6=ό):tX K cs (.type "ValueError") anyS:=by
 have Z:=f;delta mJ at Z;erw[Â,beq_iff_eq] at Z;refine⟨Z.1.2,λc Y=>?_⟩;obtain⟨C,e1,_,X,W,_⟩:=x_at f Y;exact⟨C,e1,X,W⟩
end
end DI
namespace L2
open PySem PySem.Spec PyProof.Rows PySem.W
structure iA (k) (A:Đ):Prop where
 dp:A.depth+3*k+5<recursionLimit
 un:A.units+16*k+200<cLine
def bV.h {A} (r:bV k A):iA k A:=⟨r.dp,r.un⟩
def iA.mono {j k} {A} (r:iA k A) (h:j<=k):iA j A:=⟨by have:=r.dp;omega,by have:=r.un;omega⟩
theorem iA.deeper {A} (r:iA (k+1) A) (env):iA k (A.deeper env) :=
 ⟨by have:=r.dp;show A.depth+1+3*k+5 < _;omega,by have:=r.un;show A.units+3+16*k+200 < _;omega⟩
theorem iA.depth {A} (r:iA k A):A.depth<recursionLimit:=by have:=r.dp;omega
def iA.held {A} (r:iA k A) (v):iA k (A.mark v):=⟨r.dp,r.un⟩
structure AF (P) (w) (K) (mg) (base) (k) (f) (fd) (ps:List Str) (sp:Sp):Prop where
 len:∀vs H Q E,sp vs H Q E->vs.length=ps.length
 run:∀A outer s H args us vs Q E,iA k A->oI P w K mg base A outer s H->BindsTo s fd args (ps.zip us)->Vals vs us->sp vs H Q E ->
  ų (è P w) A (.call (.ref f) args) (CR fg outer P w H s Q E) s
noncomputable abbrev _root_.PySem.Around.AG (A:Đ):Đ:={ A with handled:=ϋ }
noncomputable abbrev Cx.loud (X:Cx) (A:Đ):Cx:={ X with A:=A,calm:=ύ,xe:=λ_ _=>False }
theorem Inv.loud {π} {σ:St} {H} {s} (I:Inv X π σ H s) (A) (h:A.frames=X.A.frames):Inv (X.loud A) π σ H s:=by
 obtain⟨⟨a1,a2,Z,Y,W,V,U,T,v,S,R,Q,P,O,N,M,L,K⟩,J,G,F,E,D,C,B,y,x,w⟩:=I;exact⟨⟨a1,a2,Z,Y,W,V,U,T,λz=>absurd z Ú,h.trans S,R,Q,P,O,N,M,L,K⟩,J,G,F,E,D,C,B,y,x,w⟩
def abz {K} {mg} {base} {k} {f} {name qual} {params} {body} {scope} {dV kV doc pm bw ct oc} {an od}
  {jU} {N ps} {sp} (lk:K.lookup f=ϊ ⟨oc,od,.func (Ŏ name qual params body scope dV kV doc pm an bw ct),jU⟩) (ff:χ K bw qual=ό) (S:tV N ps scope)
  (len:∀vs H Q E,sp vs H Q E->vs.length=ps.length)
  (lO:∀(A:Đ) outer s H vs Q E,iA k (A.deeper (envOfC qual scope s.heap.objs.size f bw))->sp vs H Q E ->
   ∃t,dP ((iC fg P w K mg base N qual scope f bw A.AG outer s H E).loud (A.deeper (envOfC qual scope s.heap.objs.size f bw))) body t/\t { nx:=λ_ H'=>Q .az H',rt:=Q } (start N vs) H) :
  AF P w K mg base (k+1) f (Ŏ name qual params body scope dV kV doc pm an bw ct) ps sp:=by
 refine⟨len,λA outer s H args n vs Q E R Z L r O=>?_⟩;have G:=len _ _ _ _ O;have M:=Z.mod.kU.keeps λb o e=>(Z.bs b o e).1;have lim:=Z.mod.nolimit.keeps λb o e=>(Z.bs b o e).1;refine codeAny_call_function R.depth (M _ _ lk) rfl S.co S.gen rfl (PySem.W.codeRec_of M ff) (L _ _ _ _ ?_);refine wpAny_newFunctionEnv_cells S.kind (λy F=>?_) λenv D C x=>?_
 ·rcases S.par _ (agp F).1 with q|q
  ·exact .inl q
  ·exact .inr ⟨q,Ŵ _ _ _ (.inl q)⟩
 subst D;refine⟨lim.keeps x.toInCall.keep,codeAny_func ?_⟩;obtain⟨t,B,z⟩:=lO A outer s H vs Q E (R.deeper _) O;have I:=(La (CX:=fg) (A:=A.AG) (E:=E) S rfl ⟨Z.frames,Z.mod,Z.bs,Z.jv,Z.jm,Z.lZ,Z.aQ,Z.bare⟩ G r x).loud (A.deeper _) rfl;refine Ė (B C _ H _ I z) (λp U Y=>?_) λe U Y=>Y.elim;have fin:∀{X} {H'} {v} {u},Inv ((iC fg P w K mg base N qual scope f bw A.AG outer s H E).loud (A.deeper (envOfC qual scope s.heap.objs.size f bw))) [] X H' U->RelV v u->Q v H'->CE outer P w H s Q u U :=
  λ{X H' v u} J T q=>⟨v,H',J.os,J.bare,J.base,J.aQ,T,q⟩
 cases p with
 |ret u=>obtain⟨v,X,H',J,T,q⟩:=Y;exact fin J T q
 |next=>obtain⟨X,H',J,q⟩:=Y;exact fin (v:=V.az) J rfl q
 |brk=>obtain⟨_,_,_,q⟩:=Y;exact q.elim
 |cont=>obtain⟨_,_,_,q⟩:=Y;exact q.elim
section
variable {X:Cx} {k:Nat} {f:ă} {fd:FuncData} {ps:List Str} {sp:Sp} {E:XK} {x:Str} {p pos:Pos} {e:Ő} {es:List Ő} {t:TA}
def XM (F:AF X.prog X.w X.K X.mg X.base k f fd ps sp) (hr:iA k X.A) (hg:Gl X x) (hm:X.mg x=ϊ (.ref f)) (hk:Ņ X.K (.ref f)=ό) (hb:Binds X.K fd ps [])
  (ha:PA X (e::es) t) (eQ:(x==("__debug__"))=ύ:=by decide) (he:Ì (e::es) X.env=(ύ,į e X.env)::Ì es X.env:=by rfl) (bY:(İ pos (Ì es X.env)).any (·.1)=ύ:=by rfl) :
  PE X (.Call (.Name x p) (e::es) [] pos) (O7 sp [] E0 t):=by
 intro T s σ H Q I h;refine ř (qU I hg hm ?_ eQ);refine afG I.ok.mod.kU hk (aW (ha pos T s σ H _ I h) λW V ⟨O,S,Y,r,q⟩=>⟨Y.fT,?_⟩) he bY;have U:=r.append .nil;have R:(W++[]).length=ps.length:=by rw[<- U.length];exact F.len _ _ _ _ q
 refine afw (Ł (F.run _ _ V S _ _ _ Q E0 hr Y.kQ (hb V W Y.fT R) U q) λr N Z=>?_)
 cases r with
 |error e=>exact Ć Z
 |ok P =>
  cases P with
  |ret u=>exact Y.after Z
  |next=>exact Ć Z
  |brk=>exact Ć Z
  |cont=>exact Ć Z
end
end L2
namespace DI
open PySem L2 PySem.W
abbrev RT (P:ù) (w:ĩ) (K:Ň) (mg:Str->Option á) (base:ū) (x:Str) (st:Stmt) (ps:List Str) (k:Nat) (fn:List D->ag->Res D):Prop:=∀{f} {fd},Gd K mg x st ps f fd->AF P w K mg base k f fd ps (mh K fn)
def adv {K} {mg} {base} {x} {st} {f} {fd} {ps} {k} {b} (G:Gd K mg x st ps f fd) (N) (S:qg N ps (cI st)=ό)
  (hb:N.Nodup->∀bw (A:Đ) outer s H E,iA k (A.deeper (ķ x (cI st) s.heap.objs.size f bw))->dP ((iC fg P w K mg base N x (cI st) f bw A.AG outer s H E).loud (A.deeper (ķ x (cI st) s.heap.objs.size f bw))) (gS st) (tS K cM b)) :
  AF P w K mg base (k+1) f fd ps (mh K (aO ps.length N.length b)):=by
 obtain⟨L,J,kV,doc,pm,an,bw,ct,I,rfl,lk,W⟩:=G.fn.ex;refine abz lk W (kH S) (λV H Q E h=>?_) λA outer s H V Q E U h=>?_
 ·obtain⟨w,T,rfl,S,Y,h⟩:=h
  rw[<- Y.length];delta aO at h;split at h
  ·assumption
  ·exact h.elim
 ·obtain⟨w,T,rfl,R,Y,h⟩:=h
  refine⟨_,hb (kH S).nd bw A outer s _ E U,?_⟩;delta aO at h;split at h
  ·rename_i O
   rw[<- O] at h;refine⟨w,_,rfl,R,Y.env _,(Out.ai h).mono λF M D X Z=>?_⟩
   cases M with
   |nx env=>intro C _;exact aK X Z _ rfl
   |rt d=>have q:=aK X Z;exact q
   |bk env=>exact Z.elim
   |ct env=>exact Z.elim
  ·exact h.elim
def pX (cs:List Str) (told:Str) (f:agS D) (j:Nat) (b:agS Fl):agS Fl:=λenv s=>match f env s with
 |none=>ϋ
 |some (.ok d,s)=>ok (.rt (.tup [.str told,d])) s
 |some (.error x,s)=>if ώ (x.c∈cs)=ό then ai (b (env.set j (ϊ (.exc x.c x.many))) s) λZ s=>match Z with
   | .nx env=>ok (.nx (env.set j ϋ)) s
   | .rt d=>ok (.rt d) s
   |_=>ϋ else ϋ
section
variable {X:Cx} {E:XK} {Ξ:Wd->bE->Prop} {e a b c:Ő} {es rest:List Ő} {pos:Pos} {f g h:agS D} {fa:agS (List D)}
def adw {x} {st} {ps} {fn} {p} (G:GG X.K X.mg x st ps) (F:RT X.prog X.w X.K X.mg X.base x st ps k fn) (hr:iA n X.A) (ha:PA X (e::es) (tA X.K Ξ fa)) (hk:k<=n:=by decide) (hg:Gl X x:=by rfl) (eQ:(x==("__debug__"))=ύ:=by decide)
  (he:Ì (e::es) X.env=(ύ,į e X.env)::Ì es X.env:=by rfl) (bY:(İ pos (Ì es X.env)).any (·.1)=ύ:=by rfl):PE X (.Call (.Name x p) (e::es) [] pos) (tE X.K Ξ (aB fn fa)):=by
 obtain⟨f,fd,G⟩:=G;refine cN (XM (F G) (hr.mono hk) hg G.mg G.fn.kp G.b ha eQ he bY) fun σ H Q Z=>?_;obtain⟨w,env,Y,S,W,h⟩:=Z;subst Y;refine⟨w,env,rfl,S,W,(Out.ai h).mono λV U O T R N P=>?_⟩;show mh _ fn _ _ Q E0;rw[ú];exact⟨V,U,rfl,T,P,R.ne⟩
noncomputable def HY:agS D:=λ_ _=>ϋ
def QJ:PE X e (tE X.K Ξ HY):=λ_ _ _ _ _ _ ⟨_,_,_,_,_,h⟩=>h.elim
def Fb (x y:D) (s:ag):Res D:=match x,y with
 | .int i,.int j=>ok (.bl (!(i==j))) s
 |_,_=>ϋ
def adx:bP X (đ .NotEq) (rO X.K Ξ Fb):=by
 intro Z s σ H x y v u Q I Y W zzz;obtain⟨w,R,P,rfl,S,U,T,h⟩:=zzz;delta Fb at h;split at h
 ·rename_i i j
  cases U;cases T;refine O6 Z s σ _ _ _ v u Q I Y W ⟨rfl,?_⟩;have:(!ώ (V.int i=V.int j))=!(i==j):=by
   rw[Ġ];simp
  rw[this];exact aK S h _ rfl
 ·exact h.elim
def abA {k i j:Nat} {x cn n told:Str} {p bB xA ae9 np uV c0:Pos} {k0 k1} {pre:Hp->Prop} {f:ă} {vs:List V} {ds:List D} {th:ag->Res D} {xQ:Stmt} {xl:List Stmt} {b:agS Fl} {cs:List Str} (T:BC X.prog X.w X.K X.mg X.base k pre f vs ds th) (h0:pre X.m9) (hr:bV k X.A)
  (hc:∃CM,X.mg cn=ϊ (.ref CM)/\∀c∈cs,∃C,nsIn X.K Ð c=ϊ (ϊ (.ref C))/\X.mg c=ϊ (.ref C)/\exmOne X.K (.ref C) (.ref CM)=ϊ ό)
  (hs:∀a,dP (X.held a) (xQ::xl) (tS X.K cM b)) (Rq:X.N.Nodup)
  (L:X.stack=X.env::X.outer:=by rfl) (hf:X.env.frame=ϊ X.env.locals:=by rfl) (hj:X.N[j]?=ϊ n:=by rfl) (qx:X.env.scope.names.lookup n=ϊ .local:=by rfl) (hg:Gl X cn:=by rfl) (hdc:(cn==("__debug__":Str))=ύ:=by decide)
  (hN:X.N[i]?=ϊ x:=by rfl) (hv:se X.env.scope x:=by first|exact ŷ rfl|exact Or.inr (ŷ rfl)|exact Or.inr (Or.inr rfl)) (hd:(x==("__debug__":Str))=ύ:=by decide) (ff:(x==("__classdict__":Str))=ύ:=by decide)
  (h1:Ì [.Constant (.str told) k0 c0,.Call (.Name x p) [] [] bB] X.env=(ύ,į (.Constant (.str told) k0 c0) X.env)::Ì [.Call (.Name x p) [] [] bB] X.env:=by rfl) (h2:Ì [.Call (.Name x p) [] [] bB] X.env=(ύ,į (.Call (.Name x p) [] [] bB) X.env)::Ì [] X.env:=by rfl) :
  PS X (.Try [.Return (ϊ (.Tuple [.Constant (.str told) k0 c0,.Call (.Name x p) [] [] bB] k1 xA)) ae9] [.ExceptHandler (ϊ (.Name cn np)) (ϊ n) (xQ::xl) uV] [] [] pos) (tS X.K cM (pX cs told (yN (.dR f vs ds) th i) j b)):=by
 intro π s σ H D I aD;obtain⟨w,env,eH,S,eo,h⟩:=aD;subst eH;obtain⟨CM,nF,iY⟩:=hc;delta pX yN at h;by_cases he:env[i]?=ϊ (ϊ (.dR f vs ds))
 case neg=>rw[Ý he] at h;exact h.elim
 rw[Ö he] at h;refine wpAny_Try_except ?_
 let E:XK:=λcls m U=>∃(Y:Wd) (c:Str) (C:ă) (G:Option Int),Y.H=U/\bg X.K Y/\cg X.K Y env σ/\cls=.ref C/\c∈cs/\X.mg c=ϊ (.ref C)/\(∀i,G=ϊ i->∃W R t,m=ϊ W/\(¬ Y.Z W/\Y.H W=ϊ (.bH R (.own W)))/\lookIn "many" R=ϊ (ϊ (.int i t)))/\Out X.K cM Y (ai (b (env.set j (ϊ (.exc c G))) Y.aY) λF s=>match F with
   | .nx env=>ok (.nx (env.set j ϋ)) s
   | .rt d=>ok (.rt d) s
   |_=>ϋ) (Qv X.K D)
 have hth:Out X.K (gv X.mg E) w (th w.aY) λY d=>∀v,DV X.K Y d v->∀q,Y.H q=ϋ->D.rt (.ref q) (upd Y.H q (.tup [.str told,v])):=by
  cases hr:th w.aY with
  |none=>rw[hr] at h;exact h.elim
  |some q =>
   obtain⟨q,s2⟩:=q;rw[hr] at h
   cases q with
   |ok d =>
    intro Y l P e v dv q g;have l2:=(Fw.grow (K:=X.K) (o:=.tup [.str told,v]) g).le;exact h (Y.grow q (.tup [.str told,v])) (l.trans l2) (P.grow g) e (.ref q) ⟨q,_,rfl,cb.of dC,⟨.str told,[v],rfl,rfl,l2.all ⟨v,[],rfl,dv,rfl⟩⟩⟩
   |error y =>
    intro Y l P e;dsimp only at h;split at h
    ·rename_i B
     have B:=ß B;obtain⟨C,_,h2,_⟩:=iY _ B;refine⟨C,h2,?_⟩
     cases hm:y.many with
     |none =>
      refine⟨Y,y.c,C,ϋ,rfl,P,eo.le l,rfl,B,h2,(λi z=>by cases z),?_⟩;rw[hm] at h;rw[e];exact h.from l
     |some i =>
      intro W R t O hl;have le:=(Fw.grow (K:=X.K) (o:=.bH R (.own W)) O).le;refine⟨Y.grow W (.bH R (.own W)),y.c,C,ϊ i,rfl,P.grow O,(eo.le l).le le,rfl,B,h2,λi' z=>?_,?_⟩
      ·cases z
       exact⟨W,R,t,rfl,⟨λz=>oh P O z,dC⟩,hl⟩
      ·rw[hm] at h
       show Out X.K cM _ (ai (b (env.set j (ϊ (.exc y.c (ϊ i)))) Y.aY) _) _;rw[e];exact(h.from l).from le
    ·exact h.elim
 have lO:=λ{M:Û} (I:Inv X π σ w.H M)=>abr (pos:=bB) (p:=p) (Q:=λv U=>∀q,U q=ϋ->D.rt (.ref q) (upd U q (.tup [.str told,v]))) T h0 hr hN hv hd ff I S eo he hth;refine wpAny_execs_cons (Ė (wpAny_Return_some (Q:=SP X π { nx:=λ_ _=>False,rt:=D.rt }) (E:=Aj X π σ E) (wpAny_Tuple_spliced ?_)) (λF M q=>?_) λe M q=>?_)
 ·rw[h1]
  refine afF (Calls.Constant_str (k:=k0) (pos:=c0) ?_);rw[h2];refine afF (aW (lO (I.tok _)) λu M g=>Calls.spliced_nil ?_);obtain⟨v,H1,I1,r,q⟩:=g;refine⟨show 2<=Ô by decide,?_⟩;have hf:H1 M.heap.objs.size=ϋ:=I1.aQ.fresh (agW _);refine⟨.ref M.heap.objs.size,σ,upd H1 M.heap.objs.size (.tup [.str told,v]),I1.laid (t':=M.toks) (λb u e=>Á _ e) (agW _) ?_,rfl,q _ hf⟩;exact⟨show 2<=Ô by decide,_,.cons ⟨_,rfl⟩ (.cons r .nil),⟨_,Ë _ rfl,rfl,_,rfl⟩⟩
 ·cases F with
  |next=>obtain⟨_,_,_,z⟩:=q;exact Ć z
  |ret v=>exact q
  |brk=>obtain⟨_,_,_,z⟩:=q;exact Ć z
  |cont=>obtain⟨_,_,_,z⟩:=q;exact Ć z
 ·refine j6 (D:=D) q L hf Rq hj qx hg nF hdc λcls m U hE=>?_
  obtain⟨Y,c,C,G,rfl,P,jX,rfl,Bh,hmc,hmm,ho⟩:=hE;obtain⟨C2,k1,k2,k3⟩:=iY c Bh;rw[hmc] at k2;cases k2;refine⟨k3,λa o O oW pk s5 I5=>?_⟩;have le:=(Fw.grow (K:=X.K) (o:=.bH o (.own a)) O).le;have S5:=P.grow (o:=.bH o (.own a)) O;have dv:DV X.K (Y.grow a (.bH o (.own a))) (.exc c G) (.ref a):=by
   erw[DV];refine⟨a,o,C,rfl,⟨λz=>oh P O z,dC⟩,⟨oW,k1⟩,λi hi=>?_⟩;obtain⟨W,R,t,q1,q2,q3⟩:=hmm i hi;exact⟨pk.1,W,R,t,pk.2 W q1,(Fw.grow (K:=X.K) (o:=.bH o (.own a)) O).bH W R _ q2.1 q2.2,q3⟩
  have hd:=hs a s5 (σ.set j (ϊ (.ref a))) _ { nx:=fun J U=>D.nx (J.set j ϋ) U,rt:=D.rt,bk:=fun J U=>D.bk (J.set j ϋ) U,ct:=fun J U=>D.ct (J.set j ϋ) U } I5
   ⟨Y.grow a (.bH o (.own a)),env.set j (ϊ (.exc c G)),rfl,S5,(jX.le le).set dv j,(Out.ai (ho.from le)).mono λw6 F l6 S6 q=>?_⟩
  ·exact hd
  ·cases F with
   |nx aV=>exact fun J e'=>aK S6 q (J.set j ϋ) (e'.unset j)
   |rt d=>have z:=aK S6 q;exact z
   |bk aV=>exact q.elim
   |ct aV=>exact q.elim
end
end DI
namespace L2
open PySem PySem.Spec PyProof.Rows
end L2
namespace DI
open PySem L2
end DI
namespace L2
open PySem PySem.Spec PyProof.Rows
end L2
namespace DI
open PySem L2
def ny (ds:List D) (s:ag):Res D:=match ds with
 | [.bl b]=>ok (.int (if b then 1 else 0)) s
 |_=>ϋ
def pY {Ξ}:dh X (.type "int") (rC X.K Ξ ny):=by
 intro V s σ H U T Q I r zzz;obtain⟨w,R,rfl,S,Z,h⟩:=zzz;delta ny at h;split at h
 ·rename_i b
  obtain⟨v,rfl,Y⟩:=oj Z;have e:=Y;subst e;obtain⟨u,rfl,W⟩:=vals1 r;have e:=W;subst e;exact call_int_bool ⟨.int _,_,I.tok _,⟨_,rfl⟩,aK S h _ rfl⟩
 ·exact h.elim
end DI
namespace L2
open PySem PySem.Spec PySem.Calls PyProof.Rows PySem.W PySem.Builtin PySem.Builtin.ObjectAttr PySem.Builtin.Getset_descriptor
end L2
namespace DI
open PySem L2 PySem.W
end DI
namespace L2
open PySem PySem.Spec PyProof.Rows PySem.W
end L2
namespace DI
open PySem L2 PySem.W
noncomputable def uX {α:Type} (f:Str) (v:α):List (Str×α)->List (Str×α)
 | []=>[(f,v)]
 |(g,x)::r=>if g=f then (g,v)::r else (g,x)::uX f v r
def jQ (c:Str) (d:D) (s:ag):Option (Nat×List (Str×D)):=match d with
 | .au k=>(match s[k]? with
  |some (.ins Z fs)=>if ώ (Z=c)=ό then ϊ (k,fs) else ϋ
  |_=>ϋ)
 |_=>ϋ
def DO {s} {k} {fs} (h:jQ c d s=ϊ (k,fs)):d=.au k/\s[k]?=ϊ (.ins c fs):=by
 delta jQ at h;split at h
 ·split at h
  ·rename_i e
   split at h
   ·rename_i Z
    cases h;rw[ß Z] at e;exact⟨rfl,e⟩
   ·cases h
  ·cases h
 ·cases h
section
variable {K:Ň} {w:Wd}
theorem Nj:∀{fs:List _} {vs:List _} {f:Str} {d},vs.map (·.1)=fs.map (·.1)->aC K w (fs.map (·.2)) (vs.map (·.2))->fs.lookup f=ϊ d->∃v,vs.lookup f=ϊ v/\DV K w d v
 | [],vs,f,d,_,_,h=>by cases h
 |(g,x)::fs,vs,f,d,e,Y,h=>by
  cases vs with
  |nil=>cases e
  |cons p vs =>
   obtain⟨X,v⟩:=p;erw[Þ,œ] at e;obtain⟨rfl,e⟩:=e;obtain⟨U,r,e1,W,V⟩:=Y;cases e1;rw[Ę] at h |-
   cases Z:f==X with
   |true =>
    rw[Z] at h;cases h;exact⟨v,rfl,W⟩
   |false =>
    rw[Z] at h;exact Nj e V h
theorem Nk:∀{fs:List (Str×D)} {vs:List (Str×V)} {f},vs.map (·.1)=fs.map (·.1)->fs.lookup f=ϋ->vs.lookup f=ϋ
 | [],vs,f,e,_=>by
  cases vs with
  |nil=>rfl
  |cons _ _=>cases e
 |(g,x)::fs,vs,f,e,h=>by
  cases vs with
  |nil=>cases e
  |cons p vs =>
   obtain⟨Y,v⟩:=p;erw[Þ,œ] at e;obtain⟨rfl,e⟩:=e;rw[Ę] at h |-
   cases Z:f==Y with
   |true=>rw[Z] at h;cases h
   |false =>
    rw[Z] at h;exact Nk e h
theorem OA {d} {v} (dv:DV K w d v):∀{fs} {vs},vs.map (·.1)=fs.map (·.1)->aC K w (fs.map (·.2)) (vs.map (·.2))->(gZ f v vs).map (·.1)=(uX f d fs).map (·.1)/\aC K w ((uX f d fs).map (·.2)) ((gZ f v vs).map (·.2))
 | [],vs,e,_=>by
  cases vs with
  |nil=>exact⟨rfl,aC.one dv⟩
  |cons _ _=>cases e
 |(g,x)::fs,vs,e,X=>by
  cases vs with
  |nil=>cases e
  |cons p vs =>
   obtain⟨W,u⟩:=p;erw[Þ,œ] at e;obtain⟨rfl,e⟩:=e;obtain⟨S,r,e1,V,Y⟩:=X;cases e1;delta gZ uX;by_cases Z:W=f
   ·rw[Ö Z,Ö Z]
    exact⟨by erw[Þ,e],⟨v,_,rfl,dv,Y⟩⟩
   ·rw[Ý Z,Ý Z]
    obtain⟨U,T⟩:=OA dv e Y;exact⟨by erw[Þ,U],⟨u,_,rfl,V,T⟩⟩
def EB {k} {fs} {v} (S:bg K w) (dv:DV K w (.au k) v) (e:w.aY[k]?=ϊ (.ins c fs)):∃a C dx vs,w.ρ[k]?=ϊ a/\v=.ref a/\nsIn K Ð c=ϊ (ϊ (.ref C))/\w.H a=ϊ (.ins C dx vs)/\vs.map (·.1)=fs.map (·.1)/\aC K w (fs.map (·.2)) (vs.map (·.2)):=by
 obtain⟨a,e1,rfl⟩:=dv;obtain⟨C,dx,vs,Z,Y,X,W⟩:=S.cell k a _ e1 e;exact⟨a,C,dx,vs,e1,rfl,Z,Y,X,W⟩
end
def xR (K:Ň) (c f:Str):Prop:=∃C,nsIn K Ð c=ϊ (ϊ (.ref C))/\k9 K C/\pM K C f
def iG (c f:Str) (d:D) (s:ag):Res D:=match jQ c d s with
 |some (_,fs)=>(match fs.lookup f with
  |some x=>ok x s
  |none=>ϋ)
 |none=>ϋ
def rH (c f:Str) (fv fo:agS D):agS Fl:=λenv s=>ai (fv env s) λv s=>ai (fo env s) λo s=>match jQ c o s with
 |some (k,fs)=>if ώ (fs.length<1000)=ό then ok (.nx env) (s.set k (.ins c (uX f v fs))) else ϋ
 |none=>ϋ
section
variable {X:Cx} {Ξ:Wd->bE->Prop} {e o value:Ő} {pos pos':Pos} {g fo fv:agS D} {c f:Str}
def pZ (hF:xR X.K c f) (he:PE X e (tE X.K Ξ g)) (hb:Ĳ e f X.env (į e X.env)=į e X.env:=by rfl):PE X (.Attribute e f pos) (tE X.K Ξ (e1 (iG c f) g)) :=
 cN (aaI he hb) fun σ H Q V=>by
  obtain⟨w,env,U,S,T,h⟩:=V;subst U;refine⟨w,env,rfl,S,T,(Out.ai h).mono λB d A Y Z v R=>?_⟩;obtain⟨C,P,O,N⟩:=hF;delta iG at Z;split at Z
  ·rename_i k fs e1
   obtain⟨rfl,M⟩:=DO e1;split at Z
   ·rename_i x e2
    obtain⟨a,z,L,J,_,rfl,W,I,G,F⟩:=EB Y R M;rw[P] at W;cases W;obtain⟨u,E,D⟩:=Nj G F e2;exact⟨a,C,L,J,u,rfl,I,O,N,E,aK Y Z _ D⟩
   ·exact Z.elim
  ·exact Z.elim
def PH (hF:xR X.K c f) (ho:PE X o (tE X.K Ξ fo)) (hv:PE X value (tE X.K Ξ fv)) (hs:agn value (ϊ (.Attribute o f pos')) pos.line X.env=pure ύ:=by rfl):PS X (.Assign [.Attribute o f pos'] value pos) (tS X.K Ξ (rH c f fv fo)) :=
 kG (aaJ ho hv hs) λj σ H F=>by
  obtain⟨w,env,E,S,W,h⟩:=F;subst E;refine⟨w,env,rfl,S,W,(Out.ai h).mono λD y P B A u x=>?_⟩;refine⟨D,env,rfl,B,W.le P,(Out.ai A).mono λi d O V Z v t=>?_⟩;obtain⟨C,N,s,r⟩:=hF;split at Z
  ·rename_i k fs e1
   obtain⟨rfl,U⟩:=DO e1;split at Z
   ·rename_i T
    have T:=ß T;obtain⟨a,g,R,M,L,rfl,J,q,I,p⟩:=EB V t U;rw[N] at J;cases J;have Y:=by have:=ı List.length I;simpa using this
    refine⟨a,C,R,M,rfl,q,s,r,by rw[Y];exact T,?_⟩;have G:(Cell.ins c fs)≠.dead:=by intro z;cases z
    have Q:=(Fw.put (o:=.ins C R (gZ f u M)) (c:=.ins c (uX f y fs)) V L U G).le;obtain⟨n,m⟩:=OA (O _ _ x) I p;have l:=V.xF (c:=.ins c _) L U G ⟨C,R,_,N,dC,n,Q.all m⟩;exact Z _ Q l rfl σ (W.le (P.trans (O.trans Q)))
   ·exact Z.elim
  ·exact Z.elim
end
structure Gm (K) (c m q:Str) (st) (ps) (f) (fd):Prop where
 fn:qo K m q st f fd
 b:Binds K fd ps []
def GM (K:Ň) (c m q:Str) (st:Stmt) (ps:List Str):Prop:=∃C f fd,nsIn K Ð c=ϊ (ϊ (.ref C))/\k9 K C/\Meth K C m f/\Gm K c m q st ps f fd
abbrev ml (P:ù) (w:ĩ) (K:Ň) (mg:Str->Option á) (base:ū) (c m q:Str) (st:Stmt) (ps:List Str) (k:Nat) (fn:List D->ag->Res D):Prop:=∀{f} {fd},Gm K c m q st ps f fd->dD P w K mg base (fY P w) k f fd ps (sJ mg K fn)
def pO {K} {mg} {base} {c m q} {st} {f} {fd} {ps} {k} {b} (G:Gm K c m q st ps f fd) (N) (S:qg N ps (cI st)=ό)
  (hb:N.Nodup->∀bw A outer s H E,bV k (A.deeper (ķ q (cI st) s.heap.objs.size f bw))->Lv (iC (fY P w) P w K mg base N q (cI st) f bw A outer s H E) E->dP (iC (fY P w) P w K mg base N q (cI st) f bw A outer s H E) (gS st) (tS K (gv mg E) b)) :
  dD P w K mg base (fY P w) (k+1) f fd ps (sJ mg K (aO ps.length N.length b)):=by
 obtain⟨J,I,kV,doc,pm,an,bw,ct,F,rfl,lk,W⟩:=G.fn.ex;refine Ax lk W (kH S) (λV H Q E h=>?_) λA outer s H V Q E U h=>?_
 ·obtain⟨w,T,rfl,S,Y,h⟩:=h
  rw[<- Y.length];delta aO at h;split at h
  ·assumption
  ·exact h.elim
 ·obtain⟨R,T,rfl,O,Y,h⟩:=h
  refine⟨_,hb (kH S).nd bw A outer s _ E U ⟨rfl,rfl,rfl,rfl⟩,?_⟩;delta aO at h;split at h
  ·rename_i M
   rw[<- M] at h;refine⟨R,_,rfl,O,Y.env _,(Out.ai h).mono λD L C X Z=>?_⟩
   cases L with
   |nx env=>intro B _;exact aK X Z _ rfl
   |rt d=>have q:=aK X Z;exact q
   |bk env=>exact Z.elim
   |ct env=>exact Z.elim
  ·exact h.elim
def fP (c m:Str) (fn:List D->ag->Res D) (fo:agS D) (fa:agS (List D)):agS D:=λenv s=>ai (fo env s) λo s=>match jQ c o s with
 |some (_,fs)=>if (fs.lookup m).isNone=ό then ai (fa env s) λZ s=>fn (o::Z) s else ϋ
 |none=>ϋ
def rJ (c:Str) (fn:List D->ag->Res D):agS D:=λ_ s=>ai (ne (fn [.au s.length] (s++[.ins c []]))) λd Z=>match d with
 | .az=>ok (.au s.length) Z
 |_=>ϋ
def GK (K:Ň) (mg:Str->Option á) (c q:Str) (st:Stmt) (ps:List Str):Prop:=∃C f fd,nsIn K Ð c=ϊ (ϊ (.ref C))/\mg c=ϊ (.ref C)/\Mk K C f/\Gm K c "__init__" q st ps f fd
section
variable {X:Cx} {E:XK} {Ξ:Wd->bE->Prop} {e o:Ő} {es:List Ő} {pos apos:Pos} {fo:agS D} {fa:agS (List D)} {c m q:Str} {st:Stmt} {ps:List Str} {k n:Nat} {fn:List D->ag->Res D} {pl:Sem Bool}
def L9 {t} (hC:nsIn X.K Ð c=ϊ (ϊ (.ref C))) (ht:∀w' env R,bg X.K w'->cg X.K w' env σ->Out X.K (gv X.mg E) w' (fa env w'.aY) (λw1 ds=>∀vs,aC X.K w1 ds vs->R vs w1.H)->t σ w'.H R)
  (aD:tE X.K (gv X.mg E) (fP c m fn fo fa) σ H Q):EV C m (sJ X.mg X.K fn) [] E (tE X.K (gv X.mg E) fo) t σ H Q:=by
 obtain⟨w,env,P,S,W,h⟩:=aD;subst P;refine⟨w,env,rfl,S,W,(Out.ai h).mono λw1 d O V Z v U=>?_⟩;split at Z
 ·rename_i k fs e1
  obtain⟨rfl,N⟩:=DO e1;split at Z
  ·rename_i M
   obtain⟨a,A,L,vs,z,rfl,T,J,I,y⟩:=EB V U N;rw[hC] at T;cases T;refine⟨a,L,vs,rfl,J,Nk I (Option.isNone_iff_eq_none.mp M),?_⟩;refine ht w1 env _ V (W.le O) ((Out.ai Z).mono λG ds F D B x Y=>?_);rw[ú];exact⟨G,.au k::ds,rfl,D,⟨_,_,rfl,F _ _ U,Y⟩,B⟩
  ·exact Z.elim
 ·exact Z.elim
def rK (hM:GM X.K c m q st ps) (F:ml X.prog X.w X.K X.mg X.base c m q st ps k fn) (L:Passes (fY X.prog X.w) X E) (hr:bV n X.A) (ho:PE X o (tE X.K (gv X.mg E) fo)) (ha:PA X (e::es) (tA X.K (gv X.mg E) fa)) (hk:k<=n:=by decide)
  (gr:Ì (e::es) X.env=(ύ,į e X.env)::Ì es X.env:=by rfl) (bY:(İ pos (Ì es X.env)).any (·.1)=ύ:=by rfl)
  (ht:į (.Call (.Attribute o m apos) (e::es) [] pos) X.env=(do
   let ov <- į o X.env
   age apos.atName
   let (f,first) <- afA [ov] (getMethod ov m pl)
   callWith pos f first (İ pos (Ì (e::es) X.env)) (afH pos (Œ [] X.env))):=by rfl) :
  PE X (.Call (.Attribute o m apos) (e::es) [] pos) (tE X.K (gv X.mg E) (fP c m fn fo fa)):=by
 obtain⟨C,f,fd,Z,Y,W,G⟩:=hM;exact cN (YO ho Y W (F G) (hr.mono hk) G.b .nil L ha gr bY ht) fun σ H Q h=>L9 Z (λV env R U T S=>⟨V,env,rfl,U,T,S⟩) h
def Al (hM:GM X.K c m q st ps) (F:ml X.prog X.w X.K X.mg X.base c m q st ps k fn) (L:Passes (fY X.prog X.w) X E) (hr:bV n X.A) (ho:PE X o (tE X.K (gv X.mg E) fo)) (hk:k<=n:=by decide)
  (ht:į (.Call (.Attribute o m apos) [] [] pos) X.env=(do
   let ov <- į o X.env
   age apos.atName
   let (f,first) <- afA [ov] (getMethod ov m pl)
   callWith pos f first (İ pos (Ì [] X.env)) (afH pos (Œ [] X.env))):=by rfl) :
  PE X (.Call (.Attribute o m apos) [] [] pos) (tE X.K (gv X.mg E) (fP c m fn fo ah)):=by
 obtain⟨C,f,fd,Z,Y,W,G⟩:=hM;exact cN (WT ho Y W (F G) (hr.mono hk) G.b .nil L ht) fun σ H Q h=>L9 Z (λT env R V S U=>aK V (a:=([])) U _ rfl) h
def PJ {p} (hM:GK X.K X.mg c q st ps) (F:ml X.prog X.w X.K X.mg X.base c "__init__" q st ps k fn) (hr:bV n X.A) (hk:k+1<=n:=by decide) (hg:Gl X c:=by rfl) (eQ:(c==("__debug__"))=ύ:=by decide) :
  PE X (.Call (.Name c p) [] [] pos) (tE X.K Ξ (rJ c fn)):=by
 obtain⟨C,f,fd,R,P,M,G⟩:=hM;refine cN (WV M (F G) (hr.mono hk) hg P G.b .nil abo eQ) fun σ H Q O=>?_;obtain⟨w,env,N,S,u,h⟩:=O;subst N;intro x Z L Y ne;have W:(w.grow Z (.own x)).H x=ϋ:=by show upd _ Z _ x=ϋ;rw[bI (ŧ ne)];exact L
 have V:=S.grow (o:=.own x) Y;have J:=(Fw.grow (K:=X.K) (o:=.own x) Y).le;have I:=(Fw.cell (o:=.ins C Z []) (c:=.ins c []) V W).le;have E:=V.Pc (c:=.ins c []) W ⟨C,Z,[],R,dC,rfl,rfl⟩;have U:DV X.K ((w.grow Z (.own x)).cell x (.ins C Z []) (.ins c [])) (.au w.aY.length) (.ref x):=by
  refine⟨x,?_,rfl⟩;show (w.ρ++[x])[w.aY.length]?=ϊ x;rw[<- S.len];simp
 refine⟨_,_,rfl,E,aC.one U,?_⟩;have D:=(Out.ai h).from (J.trans I);refine abn (D.ne.mono λt d B z T v y=>?_)
 cases d with
 |az=>exact⟨y,aK z T _ (B _ _ U)⟩
 |_=>exact T.elim
end
end DI
namespace ST
open PySem PySem.W PyProof.Rows
section
variable {α:Type} {O:Ord α} {x:Nat->α} {prog:ù} {w:ĩ} {A:Đ} {E:á->Û->Prop} {s:Û}
def XN {us} {Q} (ht:IsTup s.heap l us.toArray) (hz:us.length<=Ô)
  (h:∀h1,s.heap.objs.size<=h1.objs.size->(∀c o,s.heap.get? c=ϊ o->h1.get? c=ϊ o)->Q us { s with heap:=h1 }):ê (è prog w) A (collect (.ref l)) Q E s:=by
 obtain⟨o,X,W,n,V⟩:=ht;have Y:(s.heap.push (seqObj "list" #[] 0)).get? l=ϊ o:=Á _ X;have Z:(s.heap.push _).get? _=ϊ (seqObj "list" #[] 0):=Ë _ rfl;refine À (wpAny_runValue (ŀ entry_proto_collect' ?_));refine À (wpAny_newList (Å ⟨afM _ nofun,ŀ entry_list_iadd' ?_⟩));show ê _ _ (ſ _ _ _) _ _ _;refine À (afz ⟨o,Y,W⟩ ?_);rw[Ö ∅];refine À (listItems_at Y V (À (listItems_at Z rfl ?_)));refine À (listUpdate_at Z rfl (Å ?_) (č _) (by erw[Array.size_append,ã,ē];omega));refine À (wpAny_load (get?_update_seq Z _) ?_);show ê _ _ (pure _) Q E _;rw[show ((#[]:Array á)++us.toArray).toList=us by simp];refine Å (h _ ?_ λc o e=>?_)
 ·rw[Heap.size_update,size_push'];exact afq _
 ·rw[afu _ _ _ _ (ä (Í e))]
  exact Á _ e
def UX {us} {Q} (hl:IsTup s.heap l us.toArray) (hz:us.length<64)
  (hk:2<=us.length->∀h1,(∀c o,s.heap.get? c=ϊ o->h1.get? c=ϊ o)->Gj prog w A.in1.in1 O x us { s with heap:=h1 })
  (hQ:∀q h' b e,Pm us.length q->Up O (ky x q) us.length->(∀c o,s.heap.get? c=ϊ o->h'.get? c=ϊ o)->s.heap.objs.size<=b->h'.get? b=ϊ (seqObj "list" (q.toList.map λi=>us.getD i Value.none).toArray e)->Q (.ref b) { s with heap:=h' }) :
  ê (è prog w) A (call (.builtin "sorted") [.ref l]) Q E s:=by
 have line:us.length<=Ô:=by rw[afW];omega
 refine Calls.call_function_entry kind_sorted plain_sorted entry_sorted (args_sorted1 _) ?_;refine À (Å (À (XN hl line λh1 W Y=>À (wpAny_newList ?_ line))));have X:(h1.push _).get? _=ϊ (seqObj "list" us.toArray 0):=Ë _ rfl;have old:∀c o,s.heap.get? c=ϊ o->c≠h1.objs.size/\(h1.push (seqObj "list" us.toArray 0)).get? c=ϊ o:=λc o e=>⟨ä (Í (Y c o e)),Á _ (Y c o e)⟩;refine À (Č (ć slot_list_sort ⟨_,X,rfl⟩ entry_list_sort (Ts X hz (λz h' Z=>hk z h' λc o e=>Z c o (old c o e).1 (old c o e).2) λq h' e V U Z T=>⟨_,rfl,?_⟩) (args_list_sort _)));exact Å ⟨_,rfl,hQ q h' _ e V U (λc o e=>Z c o (old c o e).1 (old c o e).2) W T⟩
end
end ST
namespace TK
open PySem PySem.W PyProof.Rows DI L2
def qX (ds:List D) (s:ag):Res D:=match ds with
 | [.tup Z]=>if Z.length<64 then bW (AD Z) s else ϋ
 |_=>ϋ
def Ma {Ξ} {k} (hr:bV k X.A):dh X (.builtin "sorted") (rC X.K Ξ qX):=by
 intro p s σ H L n Q I r zzz;obtain⟨w,m,rfl,S,Y,h⟩:=zzz;delta qX at h;split at h
 ·obtain⟨v,rfl,J⟩:=oj Y
  obtain⟨a,L,rfl,G,Y⟩:=J;split at h
  ·obtain⟨l,e2,h⟩:=gU h
   obtain⟨u,rfl,F⟩:=vals1 r;cases F;obtain⟨aj,W,E,D⟩:=I.tuple G;have T:=W.length.symm.trans Y.length.symm;have R:=e2;delta AD at R;split at R
   ·rename_i Z
    obtain⟨V,C⟩:=Z;subst C;rw[C4] at e2;cases e2;have O:V.length=aj.length:=by rw[T,Ç]
    refine ST.UX (x:=λi=>V.getD i (.cE 0 0 0)) E ⋯ (λB j P=>Xx (gP.keep (λb o U _ _=>P b o U) _ _ (Ew I _ _ _ (Zq V) Y W)) B (by have:=hr.un;show X.A.units+1+1+100<cLine;omega) _) λq g b e Z N P U z=>?_;have M:∀i∈q.toList,i<(V.map _).length:=λi y=>by rw[<- T];exact î.mp (Z.2.mem_iff.mp y)
    rw[<- O] at Z N;have t:=I.aQ.fresh U;refine⟨.ref b,_,I.laid (o:=.lst _) P U ⟨?_,_,e,VX W (by rw[T];exact M),z⟩,rfl,?_⟩
    ·rw[Ç,Ą,Z.1,O,W.length.symm];exact D
    ·refine AZ S ?_ h b t
     rw[<- Xu Z N];exact Xt Y M
   ·cases R
  ·exact h.elim
 ·exact h.elim
end TK
namespace DI
open PySem L2
section
variable {X:Cx} {Ξ:Wd->bE->Prop} {f:agS D}
def xS (d:D) (s:ag):Res D:=match d with
 | .au k=>match s[k]? with
  |some (.lst Z)=>match Z[Z.length-1]? with
   |some x=>ok x (s.set k (.lst Z.dropLast))
   |none=>ϋ
  |_=>ϋ
 |_=>ϋ
theorem aC.dropLast {ds} {xs} (h:aC K w ds xs):aC K w ds.dropLast xs.dropLast:=by
 rw[List.dropLast_eq_take,List.dropLast_eq_take,h.length];exact h.take _
def abB {apos bB} (ho:PE X o (tE X.K Ξ f)) (jd:Ĳ o "pop" X.env (į o X.env)=į o X.env:=by rfl) (je:(apos.endLine==bB.line)=ό:=by rfl) :
  PE X (.Call (.Attribute o "pop" apos) [] [] bB) (tE X.K Ξ (e1 xS f)) :=
 cN (aaP Ū PySem.F.slot_list_pop PySem.F.type_list_pop aaQ ho jd je) fun σ H Q N=>by
  obtain⟨w,env,M,S,L,h⟩:=N;subst M;refine⟨w,env,rfl,S,L,(Out.ai h).mono λE d D Y Z v J=>?_⟩;delta xS at Z;split at Z
  ·rename_i k
   split at Z
   ·rename_i T W
    split at Z
    ·rename_i x I
     obtain⟨a,e1,rfl⟩:=J;obtain⟨V,R,U⟩:=Y.cell k a _ e1 W;obtain⟨y,P,G⟩:=U.get' _ x I;rw[U.length] at P;refine⟨.inl ⟨rfl,V,cf.of R⟩,a,V,y,rfl,rfl,R,P,?_⟩;have O:(Cell.lst T)≠.dead:=by intro z;cases z
     have le:=(Fw.put (o:=.lst V.dropLast) (c:=.lst T.dropLast) Y e1 W O).le;exact Z _ le (Y.xF e1 W O ⟨_,dC,le.all U.dropLast⟩) rfl _ (le _ _ G)
    ·exact Z.elim
   ·exact Z.elim
  ·exact Z.elim
end
end DI
namespace L2
open PySem PySem.Spec PyProof.Rows PySem.W
end L2
namespace DI
open PySem L2 PySem.W
end DI
namespace L2
open PySem PySem.Spec PyProof.Rows
noncomputable def H0 (x:Str):It:=⟨λi _=>i<x.cps.size,λi H v Z=>Z=H/\∃c,x.cps[i]?=ϊ c/\v=.str ⟨#[c]⟩,λi _=>x.cps.size<=i⟩
def Mb {K} {tg} (it) (x) (t) (b:Bool):Turn P w K tg (H0 x) [it] it (λi h=>h.IsStrIter it (if b then "str_ascii_iterator" else "str_iterator") x t i) where
 mem:=by simp
 obj:=λi h Z c T=>by
  have e:=by simpa using T
  subst e;obtain⟨o,S,C,L⟩:=Z;exact⟨o,S,λv z=>by rw[L] at z;cases z⟩
 keep:=λi h Y Z k=>let ⟨o,S,r⟩:=Z;⟨o,k it ∅ o S,r⟩
 item:=by
  intro X B hw y T i J s σ H E I O Z G;subst B hw y;obtain⟨f0,f1,f2,N,f4,M⟩:=O it ∅;have p:i<x.cps.size:=G;have V:x.cps[i]?=ϊ x.cps[i]:=by simp[p]
  have go:∀Y,Y.IsStrIter it _ x t _->ĥ it _ Y->∃u,ϊ (Value.str _ s.toks)=ϊ u /\
    ê (è X.prog X.w) X.A (ő tg _ u) (λ_ q=>∃v F,Inv X J σ F q/\RelV v u/\(H0 x).vc i H v F/\q.heap.IsStrIter it (if b then "str_ascii_iterator" else "str_iterator") x t (i+1)/\∀b∈[it],F b=ϋ) E _:=λY U R=>by
   have n:Inv X J σ H { s with heap:=Y,toks:=s.toks+1 }:=I.turned (λb o W e=>R.extBut b o (by simpa using W) e) f0 f1 N f4 M
   obtain⟨o,S,C,L⟩:=id U
   refine⟨_,rfl,wY S C L (by cases b<;>decide) ⟨.str _,H,n,⟨_,rfl⟩,⟨rfl,_,V,rfl⟩,U,λb W=>(O b W).1⟩⟩
  cases b with
  |true=>exact wpAny_pyNext_ascii_item Z V λY U R=>go Y U R
  |false=>exact wpAny_pyNext_wide_item Z V λY U R=>go Y U R
 done:=by
  intro X B hw y T i J s σ H E I O Z G;obtain⟨f0,f1,f2,N,f4,M⟩:=O it ∅;have V:x.cps[i]?=ϋ:=by simp;exact G
  cases b with
  |true=>exact wpAny_pyNext_ascii_end (I.ok.hd T) Z V λY D=>⟨rfl,I.turned (λb o W e=>D b o W e) f0 f1 N f4 M⟩
  |false=>exact wpAny_pyNext_wide_end (I.ok.hd T) Z V λY D=>⟨rfl,I.turned (λb o W e=>D b o W e) f0 f1 N f4 M⟩
 self:=λA i s Q E Z h=>by
  cases b with
  |true=>exact wpAny_pyIter_striter_ascii Z h
  |false=>exact wpAny_pyIter_striter_wide Z h
def afa (tl:TE):TI:=fun σ H R=>tl σ H λx Z=>∃y,x=.str y/\R (H0 y) Z
def abC {tg l} {tl} (hl:PE X l tl):PI X tg l (afa tl):=by
 intro W s σ H R I h;refine aW (hl W s σ H _ I h) λv T ⟨x,Y,Z,S,Q⟩=>?_;obtain⟨y,e,q⟩:=Q;subst e;obtain⟨t,rfl⟩:=S;have V:∀b∈[T.heap.objs.size],gk X W Y b:=λb P=>by
  have e:=by simpa using P
  subst e;exact Z.rN (agW _) (Z.aQ.fresh (agW _))
 cases U:y.cps.all _ with
 |true=>exact wpAny_pyIter_ascii U ⟨_,_,_,_,Y,rfl,Z.kept λb o e=>Á _ e,Mb _ y t ό,⟨_,Ë _ rfl,rfl,rfl⟩,V,q⟩
 |false=>exact wpAny_pyIter_wide U ⟨_,_,_,_,Y,rfl,Z.kept λb o e=>Á _ e,Mb _ y t ύ,⟨_,Ë _ rfl,rfl,rfl⟩,V,q⟩
section
variable {X:Cx}
def rJoin (K:Ň):V->List V->Hp->VK->Prop:=λx Z H Q=>∃(y:Str) (a:ă) (zs:List Str),x=.str y/\Z=[.ref a]/\cf K H a (zs.map V.str)/\JoinOk y zs=ό/\Q (.str (Į y zs)) H
theorem Ln:∀{zs} {us},Vals (zs.map V.str) us->∃l,us=strValues l/\l.map (·.1)=zs
 | [],_,.nil=>⟨[],rfl,rfl⟩
 |z::zs,_,.cons r Z=>by
  obtain⟨t,rfl⟩:=r;obtain⟨l,rfl,e⟩:=Ln Z;exact⟨(z,t)::l,rfl,by simp[e]⟩
def Zv:vf X "str.join" (rJoin X.K):=by
 intro R s σ H x P v O Q I W V h;obtain⟨y,a,zs,rfl,rfl,U,Y,q⟩:=h;obtain⟨t,rfl⟩:=W;obtain⟨u,rfl,T⟩:=V.one;cases T;obtain⟨aj,r,p,N⟩:=I.list U;obtain⟨l,rfl,e⟩:=Ln r;subst e;have Z:=Y;delta JoinOk at Z;rw[û] at Z;refine Ű F.slot_str_join (agl s y t) F.entry_str_join (F.args_str_join_2 ..) (meets_str_join_list y t a l Z) ⟨p.isList,post_join l ⟨joinOk_length Y,λS k=>?_⟩⟩;refine⟨.str _,H,I.tok k,⟨S,rfl⟩,?_⟩;rw[show Txt.join y _=Į y _ from StrLaws.glued_eq_join ..];exact q
def abD:V->List V->Hp->VK->Prop:=λx Z H Q=>∃(a y:Str),x=.str a/\Z=[.str y]/\(y.length==0)=ύ/\a.length+2<=Ô/\∀p,H p=ϋ->Q (.ref p) (upd H p (.lst ((ĺ a y).map V.str)))
theorem JO:∀zs tk,Vals (zs.map V.str) (strsFrom tk zs)
 | [],_=>.nil
 |z::zs,tk=>.cons ⟨_,rfl⟩ (JO zs _)
def XO:vf X "str.split" abD:=by
 intro R s σ H x M v L Q I P O h;obtain⟨a,y,rfl,rfl,T,S,q⟩:=h;obtain⟨t,rfl⟩:=P;obtain⟨u,rfl,N⟩:=O.one;obtain⟨U,rfl⟩:=N;have fresh:=I.aQ.fresh (agW _);have fin:∀aj k,Vals _ aj->EP X R σ Q _ _:=λaj k r=>by
  have Y:((ĺ a y).map V.str).length<=Ô:=by rw[Ç];exact Ø (agb a y) S
  refine⟨.ref _,_,I.laid (o:=.lst _) (t':=k) (λb o e=>Á _ e) (agW _) ⟨Y,aj,0,r,Ë _ rfl⟩,rfl,q _ fresh⟩
 by_cases Z:(ώ (a.length<y.length)||ώ (Builtin.Str.strKind a<Builtin.Str.strKind y))=ό
 ·refine Ű F.slot_str_split (agl s a t) F.entry_str_split (F.args_str_split_2 ..) (meets_str_split_cannot_occur a y t U Z) ?_
  have e:ĺ a y=[a]:=by delta ĺ;rw[Ö Z]
  have:=fin [.str a t] s.toks (by rw[e];exact .cons ⟨_,rfl⟩ .nil);exact this
 ·by_cases W:(Ō a y 0 a.length (a.length+1)).isEmpty=ό
  ·refine Ű F.slot_str_split (agl s a t) F.entry_str_split (F.args_str_split_2 ..) (meets_str_split_not_found a y t U (by simpa using Z) T W) ?_
   have e:ĺ a y=[a]:=by delta ĺ;rw[Ý Z,Ö W]
   have:=fin [.str a t] s.toks (by rw[e];exact .cons ⟨_,rfl⟩ .nil);exact this
  ·have e:ĺ a y=Builtin.Str.partsBetween a (Ō a y 0 a.length (a.length+1)) y.length:=by delta ĺ;rw[Ý Z,Ý W]
   refine Ű F.slot_str_split (agl s a t) F.entry_str_split (F.args_str_split_2 ..) (meets_str_split_sep a y t U (by simpa using Z) T (by simpa using W) ⋯ (by rw[<- e];exact Ø (agb a y) S)) ?_;have:=fin (strsFrom s.toks _) (s.toks+(ĺ a y).length) (JO ..);rw[e] at this;exact this
def Tu:dh X (.type "int") (λxs H Q=>∃(x:Str) (n:Int),xs=[.str x]/\x.length<=640/\abI x=ϊ n/\Q (.int n) H):=by
 intro U s σ H xs T Q I r h;obtain⟨x,n,rfl,Z,Y,q⟩:=h;obtain⟨u,rfl,V⟩:=vals1 r;obtain⟨t,rfl⟩:=V;exact PySem.W.KIN.call_text Y Z ⟨.int n,H,I.tok _,⟨_,rfl⟩,q⟩
end
section
variable {prog:ù} {w:ĩ} {A:Đ} {E:á->Û->Prop} {s:Û}
theorem Lo {it l} {items} (ip:l≠it):∀n i s Q,s.heap.IsListIter it l i->s.heap.IsList l items->i+n<=items.size ->
  (∀h',h'.IsListIter it l (i+n)->ĥ it s.heap h'->Q ((items.toList.drop i).take n) { s with heap:=h' })->ê (è prog w) A (draw (.ref it) n) Q E s
 |0,i,s,Q,hit,_,_,Z=>by
  exact Å (by simpa using Z _ hit (Heap.SameBut.refl ..))
 |n+1,i,s,Q,hit,W,hle,Z=>by
  have V:i<items.size:=by omega
  have T:items.toList.drop i=items[i]::items.toList.drop (i+1):=by simp[ŝ,V]
  refine À (wpAny_pyNext_list_item hit W (x:=items[i]) (by simp[V]) λS R U=>?_)
  have P:S.IsList l items:=let ⟨o,e,r⟩:=W;⟨o,U.extBut l o ip e,r⟩
  refine À (Č (Lo ip n _ _ _ R P ⋯ λO Y X=>Å ?_));have z:=Z _ (by rw[show i+(n+1)=i+1+n by omega];exact Y) (U.trans X);rw[T] at z;exact z
def T9 {items} {targets} {Q} (hh:A.handled=ϋ) (hl:s.heap.IsList l items) (hn:targets.length=items.size) (hs:targets.findIdx? (·.1)=ϋ)
  (h:∀h',afs s.heap.objs.size s.heap h'->ê (è prog w) A (assignInOrder (targets.map (·.2)) items.toList) Q E { s with heap:=h' }):ê (è prog w) A (unpack (.ref l) targets) Q E s:=by
 have Y:l≠s.heap.objs.size:=by obtain⟨o,U,_⟩:=hl;exact ä (Í U)
 have X:∀o,(s.heap.push o).IsList l items:=λo=>let ⟨u,e,r⟩:=hl;⟨u,Á _ e,r⟩
 delta unpack;rw[hn,hs];refine À (Č ?_);refine À ?_;refine À (wpAny_specialOf hl.typeIs slot_list_iter.lookup (Å ?_));refine À (Č (Š hl (À (Č (Lo Y _ 0 _ _ ⟨_,Ë _ rfl,rfl,rfl⟩ (X _) ⋯ λT S W=>?_)))));rw[List.take_of_length_le ∅,Ý ∅]
 have R:T.IsList l items:=let ⟨o,e,r⟩:=X _;⟨o,W.extBut l o Y e,r⟩
 refine À (Č (wpAny_pyNext_list_end hh S R ∅ λP Z=>?_));exact Å (h _ λb o V e=>Z b o V (W.extBut b o V (Á _ e)))
end
section
variable {X:Cx}
def afc (K:Ň) (n:Nat) (t:qj):TG:=λv σ H Q=>∃a Z,v=.ref a/\cf K H a Z/\Z.length=n/\t Z σ H Q
def abE {k} {pos} {t} {n} (hc:X.calm=ό) (h:kX X es t)
  (hn:(Ń es X.env).length=n:=by rfl) (gr:(Ń es X.env).findIdx? (·.1)=ϋ:=by rfl):PG X (.Tuple es k pos) (afc X.K n t):=by
 intro Y s σ H v u Q I r hw;obtain⟨a,W,e1,V,U,hw⟩:=hw;subst e1;cases r;obtain⟨aj,Z,T,P⟩:=I.list V;refine À (ŗ (T9 (I.ok.hd hc) T.isList (by simp[hn,<- U,Z.length]) gr λO S=>?_));have R:=I.kept (t':=s.toks) λb o e=>S b o (ä (Í e)) e;exact h Y _ σ H W _ Q R (by simpa using Z) hw
end
end L2
namespace DI
open PySem L2
section
variable {X:Cx} {Ξ:Wd->bE->Prop} {e a b o:Ő} {es:List Ő} {pos:Pos} {f g:agS D}
def gL (gs:List (D->Env->Option Env)):D->Env->Option Env:=λd env=>match d with
 | .lst Z=>iE gs Z env
 |_=>ϋ
def Fe {k} (hc:X.calm=ό) (h:kX X es (vt X.K (iE gl))) (hn:(Ń es X.env).length=gl.length:=by rfl) (gr:(Ń es X.env).findIdx? (·.1)=ϋ:=by rfl):PG X (.Tuple es k pos) (gD X.K (gL gl)) :=
 El (abE hc h hn gr) λv σ H Q W=>by
  obtain⟨w,env,d,V,U,S,T,R,Z,k⟩:=W
  cases d with
  |lst P =>
   obtain⟨p,O,e1,N,Y⟩:=R;subst U;exact⟨p,O,e1,N.sq,by rw[<- Y.length];exact zy Z,w,env,P,V,rfl,S,T,Y,Z,k⟩
  |_=>cases Z
noncomputable def H9 (x:Str):List D:=x.cps.toList.map λc=>D.str ⟨#[c]⟩
def xo (f:agS D):agS (List D):=λenv s=>ai (f env s) λd s=>match d with
 | .str x=>ok (H9 x) s
 |_=>ϋ
def PK (hl:PE X a (tE X.K Ξ f)):PI X tg a (fH X.K Ξ (xo f)) :=
 rb (abC hl) fun σ H R V=>by
  obtain⟨w,env,U,S,T,h⟩:=V;subst U;refine⟨w,env,rfl,S,T,(Out.ai h).mono λL d J Q W v P=>?_⟩
  cases d with
  |str x =>
   have e:=P;refine⟨x,e,aK Q W _ λO I N i=>⟨λd Z=>?_,λhl=>?_⟩⟩
   ·delta H9 at Z
    rw[å] at Z;obtain⟨c,Y,rfl⟩:=afV.mp Z;rw[ĸ] at Y;refine⟨(Array.getElem?_eq_some_iff.mp Y).1,λz G ⟨e1,F,e2,M⟩=>⟨O,e1.symm,Le.refl _,N,rfl,?_⟩⟩;rw[Y] at e2;cases e2;exact M
   ·delta H9 at hl
    rw[Ç] at hl;exact hl
  |_=>exact W.elim
noncomputable def strs?:List D->Option (List Str)
 | []=>ϊ []
 | .str x::r=>(strs? r).map (x::·)
 |_=>ϋ
theorem Nl:∀{ds} {zs} {vs},strs? ds=ϊ zs->aC K w ds vs->vs=zs.map V.str
 | [],zs,vs,h,Z=>by cases h;exact Z
 |d::ds,zs,vs,h,Z=>by
  obtain⟨v,r,rfl,Y,X⟩:=Z
  cases d with
  |str x =>
   delta strs? at h;obtain⟨W,U,rfl⟩:=afV.mp h;rw[Nl U X,Y];rfl
  |_=>cases h
theorem Mc:∀zs:List Str,aC K w (zs.map D.str) (zs.map V.str)
 | []=>rfl
 |z::zs=>⟨_,_,rfl,rfl,Mc zs⟩
def fI (m:Str->D->ag->Res D) (f g:agS D):agS D:=λenv s=>ai (f env s) λd s=>match d with
 | .str y=>ai (g env s) λx s=>m y x s
 |_=>ϋ
def iB (y:Str) (x:D) (s:ag):Res D:=match res x s with
 | .lst Z=>match strs? Z with
  |some zs=>if JoinOk y zs=ό then ok (.str (Į y zs)) s else ϋ
  |none=>ϋ
 |_=>ϋ
def mK (a:Str) (x:D) (s:ag):Res D:=match x with
 | .str y=>if (!(y.length==0)&&ώ (a.length+2<=Ô))=ό then ok (.lst ((ĺ a y).map D.str)) s else ϋ
 |_=>ϋ
def rj {apos bB} (ho:PE X o (tE X.K Ξ f)) (ha:PE X a (tE X.K Ξ g))
  (jd:Ĳ o "join" X.env (į o X.env)=į o X.env:=by rfl)
  (lT:((İ bB (Ì [a] X.env)).all (λx=>!x.1)&&(afH bB (Œ [] X.env)).all (λx=>x.1.isSome)
   && ώ (([a]).length+([]:List ξ).length+(if ([]:List ξ).isEmpty then 0 else 1)<30))=ό:=by rfl)
  (je:(apos.endLine==bB.line)=ό:=by rfl) (hs:Ì [a] X.env=(ύ,į a X.env)::Ì [] X.env:=by rfl) (i8:(İ bB (Ì [] X.env)).any (·.1)=ύ:=by rfl) :
  PE X (.Call (.Attribute o "join" apos) [a] [] bB) (tE X.K Ξ (fI iB f g)) :=
 cN (wZ PySem.F.plainAttrs_str PySem.F.slot_str_join PySem.F.type_str_join Zv ho (lD ha mF hs) jd lT je hs i8) fun σ H Q T=>by
  obtain⟨w,env,R,S,Y,h⟩:=T;subst R;refine⟨w,env,rfl,S,Y,(Out.ai h).mono λP d O N W v M=>?_⟩
  cases d with
  |str y =>
   have e:=M;subst e;refine⟨rfl,P,env,rfl,N,Y.le O,(Out.ai W).mono λD x C V Z u L=>?_⟩;delta iB at Z;split at Z
   ·rename_i B J
    split at Z
    ·rename_i zs I
     split at Z
     ·rename_i G
      obtain⟨p,A,rfl,U,E⟩:=lG V L J;rw[Nl I E] at U;exact⟨y,p,zs,rfl,rfl,cf.of U,G,aK V Z _ rfl⟩
     ·exact Z.elim
    ·exact Z.elim
   ·exact Z.elim
  |_=>exact W.elim
def zR {apos bB} (ho:PE X o (tE X.K Ξ f)) (ha:PE X a (tE X.K Ξ g))
  (jd:Ĳ o "split" X.env (į o X.env)=į o X.env:=by rfl)
  (lT:((İ bB (Ì [a] X.env)).all (λx=>!x.1)&&(afH bB (Œ [] X.env)).all (λx=>x.1.isSome)
   && ώ (([a]).length+([]:List ξ).length+(if ([]:List ξ).isEmpty then 0 else 1)<30))=ό:=by rfl)
  (je:(apos.endLine==bB.line)=ό:=by rfl) (hs:Ì [a] X.env=(ύ,į a X.env)::Ì [] X.env:=by rfl) (i8:(İ bB (Ì [] X.env)).any (·.1)=ύ:=by rfl) :
  PE X (.Call (.Attribute o "split" apos) [a] [] bB) (tE X.K Ξ (fI mK f g)) :=
 cN (wZ PySem.F.plainAttrs_str PySem.F.slot_str_split PySem.F.type_str_split XO ho (lD ha mF hs) jd lT je hs i8) fun σ H Q P=>by
  obtain⟨w,env,O,S,U,h⟩:=P;subst O;refine⟨w,env,rfl,S,U,(Out.ai h).mono λN d M L T v J=>?_⟩
  cases d with
  |str y =>
   have e:=J;subst e;refine⟨rfl,N,env,rfl,L,U.le M,(Out.ai T).mono λI x E R Y u G=>?_⟩;delta mK at Y;split at Y
   ·rename_i z
    split at Y
    ·rename_i W
     rw[Â,û,Ã] at W;have e:=G;subst e;refine⟨y,z,rfl,rfl,W.1,W.2,λp V=>?_⟩;exact Y _ (Fw.grow V).le (R.grow V) rfl _ ⟨p,_,rfl,⟨(show ¬ I.Z p from oh R V),dC⟩,Mc _⟩
    ·exact Y.elim
   ·exact Y.elim
  |_=>exact T.elim
def iH (ds:List D) (s:ag):Res D:=match ds with
 | [.int i]=>if ώ (i.natAbs.log2<1920)=ό then ok (.str (toString i)) s else ϋ
 |_=>ϋ
def oE:dh X (.type "str") (rC X.K Ξ iH):=by
 intro Z s σ H T Y Q I r zzz;obtain⟨w,R,rfl,S,W,h⟩:=zzz;delta iH at h;split at h
 ·rename_i i
  split at h
  ·rename_i V
   obtain⟨v,rfl,U⟩:=oj W;have e:=U;subst e;exact Tc Z s σ _ _ Y Q I r ⟨i,rfl,ß V,aK S h _ rfl⟩
  ·exact h.elim
 ·exact h.elim
def kc (ds:List D) (s:ag):Res D:=match ds with
 | [.str x]=>if ώ (x.length<=640)=ό then (match abI x with
  |some n=>ok (.int n) s
  |none=>ϋ) else ϋ
 |_=>ϋ
def ua:dh X (.type "int") (rC X.K Ξ kc):=by
 intro Z s σ H R Y Q I r zzz;obtain⟨w,P,rfl,S,W,h⟩:=zzz;delta kc at h;split at h
 ·rename_i x
  split at h
  ·rename_i V
   split at h
   ·rename_i n U
    obtain⟨v,rfl,T⟩:=oj W;have e:=T;subst e;exact Tu Z s σ _ _ Y Q I r ⟨x,n,rfl,ß V,U,aK S h _ rfl⟩
   ·exact h.elim
  ·exact h.elim
 ·exact h.elim
def Ff (x y:D) (s:ag):Res D:=match x,y with
 | .str i,.str j=>ok (.bl (!(Ō j i 0 j.length 1).isEmpty)) s
 |_,_=>ϋ
def adB:bP X (đ .In) (rO X.K Ξ Ff):=by
 intro Z s σ H x y v u Q I Y W zzz;obtain⟨w,T,R,rfl,S,V,U,h⟩:=zzz;delta Ff at h;split at h
 ·rename_i i j
  have e1:=V;have e2:=U;subst e1 e2;exact Vu Z s σ _ _ _ v u Q I Y W ⟨i,j,rfl,rfl,aK S h _ rfl⟩
 ·exact h.elim
def qi (f g:agS D):agS D:=λenv s=>ai (f env s) λd s=>match d with
 | .str x=>if ώ (x.length<=Ô)=ό then (if (x.length==0)=ό then g env s else ok (.str x) s) else ϋ
 |_=>ϋ
def Fg {rest} (ha:PE X a (tE X.K Ξ f)) (hb:PE X (.BoolOp .Or (b::rest) pos) (tE X.K Ξ g)):PE X (.BoolOp .Or (a::b::rest) pos) (tE X.K Ξ (qi f g)):=by
 intro U s σ H Q I L;obtain⟨w,env,J,S,T,h⟩:=L;subst J
 refine PyProof.Rows.BoolOp_or (aW (ha U s σ _ (λv V=>∃x,v=.str x/\x.length<=Ô/\if (x.length==0)=ό then tE X.K Ξ g σ V Q else Q (.str x) V) I ⟨w,env,rfl,S,T,(Out.ai h).mono λR d G P Z v F=>?_⟩) λv E ⟨x,V,D,O,W⟩=>?_)
 ·cases d with
  |str x =>
   have e:=F;subst e
   have Z:Out _ Ξ R (if ώ _=ό then (if (x.length==0)=ό then g env _ else ok _ _) else ϋ) (λC d=>∀v,DV _ C d v->Q v _):=Z
   split at Z
   ·rename_i B
    refine⟨x,rfl,ß B,?_⟩;split at Z
    ·rename_i Y
     rw[Ö Y];exact⟨R,env,rfl,P,T.le G,Z⟩
    ·rename_i Y
     rw[Ý Y];exact aK P Z _ rfl
   ·exact Z.elim
  |_=>exact Z.elim
 ·obtain⟨y,rfl,A,W⟩:=W
  refine Ė (Eh U E σ V _ v (λk z=>z=V/\k=((y.length:Int) != 0)) D O ⟨_,⟨A,rfl⟩,rfl,rfl⟩) (λk u ⟨N,M,e2,t⟩=>?_) λ_ _ h=>h;subst e2 t
  cases Y:((y.length:Int) != 0) with
  |true =>
   have:(y.length==0)=ύ:=by
    cases r:(y.length==0) with
    |false=>rfl
    |true=>rw[show y.length=0 by simpa using r] at Y;simp at Y
   rw[this] at W;exact⟨_,N,M,O,W⟩
  |false =>
   have:(y.length==0)=ό:=by
    have q:=by simpa using Y
    rw[q];rfl
   rw[this] at W;exact hb U u σ N Q M W
def xT (h:∃t,X.mg x=ϊ (.str y t)) (hg:Gl X x) (hd:(x==("__debug__"))=ύ:=by decide):PE X (.Name x pos) (tE X.K Ξ (eC (.str y))):=by
 obtain⟨t,e⟩:=h;exact rA (v:=.str y) (Dx hg e ⟨t,rfl⟩ hd) λ_=>rfl
def gp (d:D) (s:ag):Res D:=match d with
 | .str x=>if ώ (x.length<=Ô)=ό then ok (.str x) s else ϋ
 | .int i=>if ώ (i.natAbs.log2<1920)=ό then ok (.str (toString i)) s else ϋ
 |_=>ϋ
def rL (ha:PE X a (tE X.K Ξ f)):PE X (.FormattedValue a (-1) ϋ pos) (tE X.K Ξ (e1 gp f)):=by
 intro P s σ H Q I O;obtain⟨w,env,N,S,M,h⟩:=O;subst N;refine wpAny_FormattedValue_plain (aW (ha P s σ _ (λv Y=>(∃x,v=.str x/\x.length<=Ô/\Q (.str x) Y)\/∃i,v=.int i/\i.natAbs.log2<1920/\Q (.str (toString i)) Y) I ⟨w,env,rfl,S,M,(Out.ai h).mono λF d E U Z v T=>?_⟩) λv D ⟨x,Y,W,R,L⟩=>?_)
 ·delta gp at Z
  split at Z
  ·rename_i x
   split at Z
   ·rename_i V
    exact .inl ⟨x,T,ß V,aK U Z _ rfl⟩
   ·exact Z.elim
  ·rename_i i
   split at Z
   ·rename_i V
    exact .inr ⟨i,T,ß V,aK U Z _ rfl⟩
   ·exact Z.elim
  ·exact Z.elim
 ·rcases L with ⟨y,rfl,J,q⟩ | ⟨i,rfl,G,q⟩
  ·obtain⟨t,rfl⟩:=R
   exact wpAny_formatField_str ⟨.str y,Y,W,⟨_,rfl⟩,q⟩ ⟨.str y,Y,W.tok _,⟨_,rfl⟩,q⟩ J
  ·obtain⟨t,rfl⟩:=R
   exact wpAny_formatField_int G ⟨.str _,Y,W.tok _,⟨_,rfl⟩,q⟩
def kB:List (agS D)->Str->agS D
 | [],Z,env,s=>if ώ (Z.length<=Ô)=ό then ok (.str Z) s else ϋ
 |f::fs,Z,env,s=>ai (f env s) λd s=>match d with
  | .str y=>if ώ ((Z++y).length<=Ô)=ό then kB fs (Z++y) env s else ϋ
  |_=>ϋ
inductive hZ (X) (Ξ):List Ő->List (agS D)->Prop
 |nil:hZ X Ξ [] []
 |cons {e es f fs} (h:PE X e (tE X.K Ξ f)) (r:hZ X Ξ es fs):hZ X Ξ (e::es) (f::fs)
def XQ {σ:St} {Q} {env}:∀{es} {fs},hZ X Ξ es fs->∀{acc} {w} {s},Inv X π σ w.H s->bg X.K w->cg X.K w env σ ->
  Out X.K Ξ w (kB fs acc env w.aY) (λw' d=>∀v,DV X.K w' d v->Q v w'.H)->Joins (è X.prog X.w) X.A X.xe (evalEach es X.env) acc (λout cm=>out.length<=Ô/\EP X π σ Q (.str out cm.toks) { cm with toks:=cm.toks+1 }) s:=by
 intro es fs P
 induction P with
 |nil =>
  intro acc w s I S W h;delta kB at h;split at h
  ·rename_i V
   exact⟨ß V,.str acc,_,I.tok _,⟨_,rfl⟩,aK S h _ rfl⟩
  ·exact h.elim
 |cons R r ih =>
  rename_i e es f fs;intro acc w s I S W h;refine aW (R π s σ _ (λv T=>∃y Z,v=.str y/\Z.H=T/\bg X.K Z/\cg X.K Z env σ/\(acc++y).length<=Ô/\Out X.K Ξ Z (kB fs (acc++y) env Z.aY) (λw' d=>∀v,DV X.K w' d v->Q v w'.H)) I ⟨w,env,rfl,S,W,(Out.ai h).mono λZ d O U Y v N=>?_⟩) λv E ⟨x,T,M,L,J⟩=>?_
  ·cases d with
   |str y =>
    have Y:Out _ Ξ Z (if ώ _=ό then kB fs _ env _ else ϋ) _:=Y
    split at Y
    ·rename_i V
     exact⟨y,Z,N,rfl,U,W.le O,ß V,Y⟩
    ·exact Y.elim
   |_=>exact Y.elim
  ·obtain⟨y,Z,rfl,rfl,U,G,F,Y⟩:=J
   obtain⟨t,rfl⟩:=L;exact⟨y,t,rfl,F,ih M U G Y⟩
def OB {fs} (h:hZ X Ξ (e::e'::es) fs):PE X (.JoinedStr (e::e'::es) pos) (tE X.K Ξ (kB fs afE)):=by
 intro U s σ H Q I Z;obtain⟨w,env,Y,S,W,V⟩:=Z;subst Y;exact wpAny_JoinedStr (XQ h I S W V)
end
end DI
namespace L2
open PySem PySem.Spec PyProof.Rows
noncomputable def oR (st:Int) (x:Str) (lo hi:Option Int):Str:=if (st==1&&(ε lo hi st x.length).length==x.length)=ό then x else ⟨((ε lo hi st x.length).filterMap λi=>x.cps[i]?).toArray⟩
section
variable {X:Cx} {e:Ő} {te:TE} {p2 p3 p4 pos:Pos}
def made_str {l u st} {i} {Q} {π} {σ:St} {H} {s} (I:Inv X π σ H s) (hi:(st.map (·.1)).getD 1=i) (hz:(oR i x (l.map (·.1)) (u.map (·.1))).length<=Ô) (q:Q (.str (oR i x (l.map (·.1)) (u.map (·.1)))) H):(sliceMade x t l u st).post (EP X π σ Q) s:=by
 subst hi;delta oR at q hz;delta sliceMade slicePicked;split
 ·rename_i h
  rw[Ö h] at q;exact⟨.str x,H,I,⟨_,rfl⟩,q⟩
 ·rename_i h
  rw[Ý h] at q hz;exact⟨hz,.str _,H,I.tok _,⟨_,rfl⟩,q⟩
def part_of (h:IsPart v o):∃l,v=partValue l/\l.map (·.1)=o:=by
 cases h with
 |none=>exact⟨ϋ,rfl,rfl⟩
 |int i t=>exact⟨ϊ (i,t),rfl,rfl⟩
def afd:V->Option Int->Option Int->Hp->VK->Prop:=λx lo Z H Q=>∃y,x=.str y/\(oR 1 y lo Z).length<=Ô/\Q (.str (oR 1 y lo Z)) H
def abF:so X afd:=by
 intro U s σ H x v T S lo R sl Q I Z Y W pu h;obtain⟨y,rfl,V,q⟩:=h;obtain⟨t,rfl⟩:=Z;obtain⟨l,rfl,rfl⟩:=part_of W;obtain⟨u,rfl,rfl⟩:=part_of pu;exact⟨_,_,F.slot_str_getitem.lookup,agl s y t,wpAny_getItem_str_slice (st:=ϋ) Y rfl (made_str I rfl V q)⟩
def adC:R2:=λx y H Q=>∃a n,x=.str a/\y=.int n/\MulOk a n/\Q (.str (Txt.mul a n)) H
def Zw:bP X (Ľ .Mult) adC:=by
 intro V s σ H x y v u Q I Z Y h;obtain⟨a,n,rfl,rfl,W,q⟩:=h;obtain⟨t,rfl⟩:=Z;obtain⟨U,rfl⟩:=Y;exact SB.mul W λT k=>⟨.str _,H,I.tok _,⟨_,rfl⟩,q⟩
end
end L2
namespace DI
open PySem L2
section
variable {X:Cx} {Ξ:Wd->bE->Prop} {e a b o:Ő} {lo hi:Option Ő} {p2 p3 p4 pos:Pos} {f g:agS D}
def yR (d:D) (lo hi:Option Int) (s:ag):Res D:=match d with
 | .str x=>if ώ ((oR 1 x lo hi).length<=Ô)=ό then ok (.str (oR 1 x lo hi)) s else ϋ
 |_=>ϋ
def A4 (f:agS D) (l h:agS (Option Int)):agS D:=λenv s=>ai (f env s) λd s=>ai (l env s) λlo s=>ai (h env s) λhi s=>yR d lo hi s
def Zx:so X (λx lo hi H Q=>∃w dx,w.H=H/\bg X.K w/\DV X.K w dx x/\Out X.K Ξ w (yR dx lo hi w.aY) λw' d=>∀v,DV X.K w' d v->Q v w'.H):=by
 intro Z s σ H x v Y W lo hi sl Q I V U T pu zzz;obtain⟨w,dx,rfl,S,R,h⟩:=zzz
 cases dx with
 |str y =>
  have e1:=R;subst e1;delta yR at h;dsimp only at h;split at h
  ·rename_i P
   exact abF Z s σ _ _ v Y W lo hi sl Q I V U T pu ⟨y,rfl,ß P,aK S h _ rfl⟩
  ·exact h.elim
 |_=>exact h.elim
def adD (he:PE X e (tE X.K Ξ f)) (hl:PO X lo (tP X.K Ξ fl)) (hu:PO X hi (tP X.K Ξ fh)):PE X (.Subscript e (.Slice lo hi ϋ p2) pos) (tE X.K Ξ (A4 f fl fh)) :=
 cN (LN (Zx) he hl hu) fun σ H Q V=>by
  obtain⟨w,env,U,S,Z,h⟩:=V;subst U;exact⟨w,env,rfl,S,Z,(Out.ai h).mono λT d Y R P v O=>⟨T,env,rfl,R,Z.le Y,(Out.ai P).mono λN i W M L=>⟨N,env,rfl,M,Z.le (Y.trans W),(Out.ai L).mono λJ j I G F=>⟨J,d,rfl,G,(W.trans I) _ _ O,F⟩⟩⟩⟩
open Classical in
def pP (x y:D) (s:ag):Res D:=match x,y with
 | .str a,.int n=>if MulOk a n then ok (.str (Txt.mul a n)) s else ϋ
 |_,_=>ϋ
def OC:bP X (Ľ .Mult) (rO X.K Ξ pP):=by
 intro Z s σ H x y v u Q I Y W zzz;obtain⟨w,R,P,rfl,S,V,U,h⟩:=zzz;delta pP at h;split at h
 ·rename_i i j
  have e1:=V;have e2:=U;subst e1 e2;split at h
  ·rename_i T
   exact Zw Z s σ _ _ _ v u Q I Y W ⟨i,j,rfl,rfl,T,aK S h _ rfl⟩
  ·exact h.elim
 ·exact h.elim
end
end DI
namespace DI.cV
open PySem L2 DI
noncomputable section
noncomputable def bZ:List Str:=["NoMould","NoDay","NoSheet","NoPage","NoBook","NoRow","NoDeed","Clash"]
def zB:List D->ag->Res D:=aO 2 3 (aw (aR (aB vW (ae (aa 0) (ae (aa 1) ah))) (gN 2)) (aw (aU (aJ (e2 xI (aa 2) (e2 pU (eC (.int 10)) (eC (.int 18))))) (aH (eNew (ae (e2 uw (aa 2) (e2 pU (eC (.int 10)) (eC (.int 18)))) (ae (eC (.bl ό)) ah)))) bz) (aH (eNew (ae (e2 oA (aa 2) (eC (.int 2147483647))) (ae (eC (.bl ύ)) ah))))))
def eD:List D->ag->Res D:=aO 2 4 (aw (aU (cD (e2 ar (aa 0) (eC (.int 1)))) (aw (aR (e2 oA (e2 ar (aa 0) (eC (.int 0))) (aa 1)) (gN 2)) (aw (qc (e2 oB (e2 ar (aa 0) (eC (.int 0))) (aa 1)) (aa 0) (eC (.int 0))) (aH (aa 2)))) bz) (aw (qc (e2 oA (e2 bK (e2 gg (e2 ar (aa 0) (eC (.int 0))) (eC (.int 48271))) (eC (.int 29))) (eC (.int 2147483647))) (aa 0) (eC (.int 0))) (aw (aR (e2 oA (e2 bK (e2 bK (e2 gg (e2 ar (aa 0) (eC (.int 0))) (e2 ar (aa 0) (eC (.int 0)))) (e2 gg (eC (.int 39373)) (e2 ar (aa 0) (eC (.int 0))))) (eC (.int 7))) (eC (.int 2147483629))) (gN 3)) (aw (aR (e2 oA (e2 bK (e2 gg (aa 3) (aa 3)) (e2 gg (eC (.int 16807)) (aa 3))) (eC (.int 2147483587))) (gN 3)) (aH (e2 oA (e2 oB (aa 3) (eC (.int 8))) (aa 1)))))))
def wb:List D->ag->Res D:=aO 1 4 (aw (aR (e2 ar (cy (ae (eC (.int 2)) (ae (eC (.int 4)) (ae (eC (.int 8)) ah)))) (aB eD (ae (aa 0) (ae (eC (.int 3)) ah)))) (gN 1)) (aw (aR (b9 1 [0] (dH (ae (aa 1) ah)) (gN 0) cB (aB eD (ae (aa 1) (ae (eC (.int 3)) ah)))) (gN 2)) (aw (aR (eB i9 (ae (b9 1 [2] (dH (ae (aa 1) ah)) (gN 0) (aJ (e2 aX (e2 ar (aa 1) (aa 0)) (eC (.int 1)))) (aa 0)) ah)) (gN 3)) (aH (bc (ae (aa 3) (ae (eB i9 (ae (b9 1 [2] (dH (ae (aa 1) ah)) (gN 0) (aJ (e2 aX (e2 ar (aa 1) (aa 0)) (eC (.int 2)))) (aa 0)) ah)) ah)))))))
def DP:List D->ag->Res D:=aO 2 4 (aw (qe 2 3 (ae (e2 ar (cy (ae (eC (.int 0)) (ae (aB eD (ae (aa 0) (ae (eC (.int 4)) ah))) ah))) (aB eD (ae (aa 0) (ae (eC (.int 2)) ah)))) (ae (aB eD (ae (aa 0) (ae (aa 1) ah))) ah))) (aw (aU (aJ (e2 aX (aB eD (ae (aa 0) (ae (eC (.int 3)) ah))) (eC (.int 0)))) (aH (bc (ae (eC (.str "mended")) (ae (aa 2) (ae (aa 3) (ae (aB eD (ae (aa 0) (ae (e2 ar (cy (ae (eC (.int 2)) (ae (eC (.int 4)) (ae (eC (.int 8)) ah)))) (aB eD (ae (aa 0) (ae (eC (.int 3)) ah)))) ah))) ah)))))) bz) (aH (bc (ae (eC (.str "made")) (ae (aa 2) (ae (aa 3) (ae (aB wb (ae (aa 0) ah)) ah))))))))
def DQ:List D->ag->Res D:=aO 2 4 (aw (aR (e2 ar (cy (ae (eC (.str "tell")) (ae (eC (.str "tell")) (ae (eC (.str "tell")) (ae (eC (.str "strike")) (ae (eC (.str "undo")) ah)))))) (aB eD (ae (aa 0) (ae (eC (.int 5)) ah)))) (gN 2)) (aw (aR (aB DP (ae (aa 0) (ae (e2 ar (cy (ae (eC (.int 6)) (ae (eC (.int 31)) ah))) (aB eD (ae (aa 0) (ae (eC (.int 2)) ah)))) ah))) (gN 3)) (aw (aU (eI (aJ (e2 cX (aa 2) (eC (.str "undo")))) (eI (aJ (e2 cX (aa 1) (bc ah))) (aJ (e2 kR (aB eD (ae (aa 0) (ae (eC (.int 5)) ah))) (e2 bK (eC (.int 1)) (e2 gg (eC (.int 2)) (eB ny (ae (e2 aX (aa 2) (eC (.str "tell"))) ah)))))))) (aR (e2 ar (aa 1) (aB eD (ae (aa 0) (ae (eB eJ (ae (aa 1) ah)) ah)))) (gN 3)) bz) (aH (bc (ae (aa 2) (ae (aa 3) ah)))))))
def BL:agS Fl:=(aw (aU (eI (aJ (e2 aX (e2 ar (aa 6) (eC (.int 0))) (eC (.str "mended")))) (eI (aJ (e2 aX (e2 ar (aa 6) (eC (.int 1))) (aa 1))) (aJ (e2 aX (e2 ar (aa 6) (eC (.int 3))) (aa 2))))) (cP (ki (aa 5) (e2 ar (aa 6) (eC (.int 2))))) bz) (aU (eI (aJ (e2 aX (e2 ar (aa 6) (eC (.int 0))) (eC (.str "made")))) (aJ (e2 aX (e2 ar (aa 6) (eC (.int 1))) (aa 1)))) (aw (aR (e2 bK (aa 3) (e2 gg (cy (ae (e2 ar (aa 6) (eC (.int 2))) ah)) (eB ny (ae (e2 cz (aa 2) (e2 ar (e2 ar (aa 6) (eC (.int 3))) (eC (.int 0)))) ah)))) (gN 3)) (aR (e2 bK (aa 4) (e2 gg (cy (ae (e2 ar (aa 6) (eC (.int 2))) ah)) (eB ny (ae (e2 cz (aa 2) (e2 ar (e2 ar (aa 6) (eC (.int 3))) (eC (.int 1)))) ah)))) (gN 4))) bz))
def JF:agS Fl:=(aw (aU (eI (aJ (e2 cz (aa 8) (aa 5))) (aJ (e2 cz (aa 8) (aa 3)))) (aH (eC (.bl ύ))) bz) (aw (aR (iZ (e2 cz (aa 8) (aa 3)) (dw (aa 7) (e2 gC (aa 8) (aa 5)))) (gN 7)) (aU (eI (cD (aa 7)) (aJ (e2 cz (aa 8) (aa 4)))) (aH (eC (.bl ύ))) bz)))
def BM:List D->ag->Res D:=aO 3 9 (aw (Gk 3 4 5 (ae (cy ah) (ae (cy ah) (ae (eNew ah) ah)))) (aw (gn (cA (aa 0)) (gN 6) BL) (aw (aR (eC (.bl ύ)) (gN 7)) (aw (gn (dH (ae (eC (.int 31)) ah)) (gN 8) JF) (aH (eC (.bl ό)))))))
def Kf:agS Fl:=(aU (dM (cD (aB BM (ae (aa 0) (ae (aa 1) (ae (aa 2) ah)))))) (aH (eC (.bl ύ))) bz)
def Kg:agS Fl:=(gn (dH (ae (eC (.int 8)) ah)) (gN 2) Kf)
def Ci:List D->ag->Res D:=aO 1 3 (aw (aU (aJ (e2 kR (eB eJ (ae (aa 0) ah)) (eC (.int 24)))) (aH (eC (.bl ύ))) bz) (aw (gn (dH (ae (eC (.int 4)) ah)) (gN 1) Kg) (aH (eC (.bl ό)))))
def wx:List D->ag->Res D:=aO 3 5 (aw (qe 3 4 (ae (e2 ar (aa 0) (e1 jg (eC (.int 1)))) (ae (eC .az) ah))) (aw (aU (aJ (e2 aX (aa 1) (eC (.str "undo")))) (aH (jz (aJ (e2 kR (eB eJ (ae (aa 0) ah)) (eC (.int 1)))) (bc (ae (pd (aa 0) mi (lV (e1 jg (eC (.int 1))))) (ae (bc (ae (eC (.str "told")) (ae (eC .az) ah))) ah))) (bc (ae (aa 0) (ae (bc (ae (eC (.str "refused")) (ae (eC (.int 14)) ah))) ah))))) bz) (aw (aU (aJ (e2 aX (e2 cz (aa 2) (aa 3)) (e2 aX (aa 1) (eC (.str "tell"))))) (aH (bc (ae (aa 0) (ae (bc (ae (eC (.str "refused")) (ae (eC (.int 13)) ah))) ah)))) bz) (aw (aR (eB i9 (ae (b9 1 [2] (cA (aa 3)) (gN 0) (aJ (e2 cX (aa 0) (aa 1))) (aa 0)) ah)) (gN 4)) (aw (aU (aJ (e2 aX (aa 1) (eC (.str "tell")))) (aR (eB i9 (ae (eB TK.qX (ae (e2 bK (aa 3) (bc (ae (aa 2) ah))) ah)) ah)) (gN 4)) bz) (aw (aU (dM (cD (aB Ci (ae (aa 4) ah)))) (aH (bc (ae (aa 0) (ae (bc (ae (eC (.str "refused")) (ae (eC (.int 13)) ah))) ah)))) bz) (aH (bc (ae (e2 bK (aa 0) (cy (ae (aa 4) ah))) (ae (bc (ae (eC (.str "told")) (ae (eC .az) ah))) ah))))))))))
def zf:List D->ag->Res D:=aO 1 1 (aH (jz (aJ (e2 cX (aa 0) (bc ah))) (fI iB (eC (.str "")) (b9 1 [] (cA (aa 0)) (gN 0) cB (eB iH (ae (aa 0) ah)))) (eC (.str "-"))))
def qG:List D->ag->Res D:=aO 1 1 (aH (e2 bK (e2 bK (aB zf (ae (e2 ar (aa 0) (eC (.int 0))) ah)) (eC (.str "/"))) (aB zf (ae (e2 ar (aa 0) (eC (.int 1))) ah))))
def zS:List D->ag->Res D:=aO 1 2 (aw (aR (jz (aJ (e2 aX (e2 ar (aa 0) (eC (.int 0))) (eC (.str "made")))) (aB qG (ae (e2 ar (aa 0) (eC (.int 3))) ah)) (eB iH (ae (e2 ar (aa 0) (eC (.int 3))) ah))) (gN 1)) (aH (e2 bK (e2 bK (e2 bK (e2 bK (e2 bK (e2 bK (e2 ar (aa 0) (eC (.int 0))) (eC (.str " "))) (eB iH (ae (e2 ar (aa 0) (eC (.int 1))) ah))) (eC (.str " "))) (eB iH (ae (e2 ar (aa 0) (eC (.int 2))) ah))) (eC (.str " "))) (aa 1))))
def Cy:List D->ag->Res D:=aO 2 6 (aw (aR (aB DQ (ae (aa 0) (ae (e2 ar (aa 1) (e1 jg (eC (.int 1)))) ah))) (gT [(gN 2),(gN 3)])) (aw (aU (aJ (e2 aX (aB eD (ae (aa 0) (ae (eC (.int 8)) ah))) (eC (.int 0)))) (aw (aR (cy (ae (eC (.str "made 4 0 -/-")) (ae (eC (.str "made 0 31 -/-")) (ae (eC (.str "made 0 0 8/-")) (ae (eC (.str "made 0 0 10/-")) (ae (eC (.str "made 0 0 1/1")) (ae (eC (.str "mended 0 0 8")) ah))))))) (gN 4)) (aw (aR (e2 bK (aa 4) (cy (ae (e2 bK (e2 bK (eC (.str "mended 0 ")) (e2 pP (eC (.str "9")) (eC (.int 30)))) (eC (.str " 1"))) (ae (e2 bK (e2 bK (eC (.str "made 0 0 ")) (e2 pP (eC (.str "1")) (eC (.int 30)))) (eC (.str "/-"))) (ae (eC (.str "mended 9 9 9")) (ae (eC (.str "made 0 0 -/00")) ah)))))) (gN 4)) (aw (aR (e2 ar (aa 4) (aB eD (ae (aa 0) (ae (eC (.int 10)) ah)))) (gN 5)) (aH (bc (ae (e2 bK (e2 ar (cy (ae (eC (.str "")) (ae (eC (.str "out ")) ah))) (aB eD (ae (aa 0) (ae (eC (.int 2)) ah)))) (aa 5)) (ae (bc (ae (aa 1) (ae (bc (ae (eC (.str "refused")) (ae (eC (.int 2)) ah))) ah))) ah))))))) bz) (aw (aU (aJ (e2 aX (aa 2) (eC (.str "undo")))) (aH (bc (ae (eC (.str "undo")) (ae (aB wx (ae (aa 1) (ae (aa 2) (ae (aa 3) ah)))) ah)))) bz) (aH (bc (ae (e2 bK (e2 ar (cy (ae (eC (.str "")) (ae (eC (.str "out ")) ah))) (eB ny (ae (e2 aX (aa 2) (eC (.str "strike"))) ah))) (aB zS (ae (aa 3) ah))) (ae (aB wx (ae (aa 1) (ae (aa 2) (ae (aa 3) ah)))) ah)))))))
def DR:List D->ag->Res D:=aO 1 5 (aw (aR (e2 ar (cy (ae (aB eD (ae (aa 0) (ae (eC (.int 4)) ah))) (ae (eC (.int 4)) (ae (e2 pU (eC (.int 10)) (eC (.int 29))) ah)))) (e2 oB (aB eD (ae (aa 0) (ae (eC (.int 8)) ah))) (eC (.int 3)))) (gN 1)) (aw (aR (e2 ar (cy (ae (aB eD (ae (aa 0) (ae (eC (.int 31)) ah))) (ae (eC (.int 31)) ah))) (e2 oB (aB eD (ae (aa 0) (ae (eC (.int 8)) ah))) (eC (.int 7)))) (gN 2)) (aw (aR (e2 ar (cy (ae (aB wb (ae (aa 0) ah)) (ae (aB wb (ae (aa 0) ah)) (ae (bc (ae (bc (ae (eC (.int 8)) ah)) (ae (bc ah) ah))) (ae (bc (ae (bc (ae (eC (.int 0)) ah)) (ae (bc (ae (eC (.int 0)) ah)) ah))) (ae (bc (ae (bc (ae (eC (.int 1)) (ae (eC (.int 0)) ah))) (ae (bc ah) ah))) ah)))))) (aB eD (ae (aa 0) (ae (eC (.int 5)) ah)))) (gN 3)) (aw (aR (aB eD (ae (aa 0) (ae (eC (.int 3)) ah))) (gN 4)) (aw (aU (aJ (e2 aX (aa 4) (eC (.int 0)))) (aH (bc (ae (eC (.str "book")) (ae (bc ah) ah)))) bz) (aw (aU (aJ (e2 aX (aa 4) (eC (.int 1)))) (aH (bc (ae (e2 bK (e2 bK (e2 bK (eC (.str "surely ")) (eB iH (ae (aa 1) ah))) (eC (.str " "))) (eB iH (ae (aa 2) ah))) (ae (bc (ae (aa 1) (ae (aa 2) ah))) ah)))) bz) (aH (bc (ae (e2 bK (eC (.str "where ")) (aB qG (ae (aa 3) ah))) (ae (aa 3) ah))))))))))
def KI:List D->ag->Res D:=aO 1 2 (aw (aR (cy (ae (e1 (eZ bZ (isNm "NoMarks")) (aa 0)) (ae (e1 (eZ bZ (isNm "NoSheet")) (aa 0)) (ae (e1 (eZ bZ (isNm "NoPage")) (aa 0)) (ae (e1 (eZ bZ (isNm "NoBook")) (aa 0)) ah))))) (gN 1)) (aw (aR (e2 bK (aa 1) (cy (ae (e1 (eZ bZ (isNm "NoMould")) (aa 0)) (ae (e1 (eZ bZ (isNm "NoDay")) (aa 0)) (ae (e1 (eZ bZ (isNm "NoSort")) (aa 0)) (ae (e1 (eZ bZ (isNm "NoNumber")) (aa 0)) ah)))))) (gN 1)) (aw (aR (e2 bK (aa 1) (cy (ae (e1 (eZ bZ (isNm "NoSheets")) (aa 0)) (ae (e1 (eZ bZ (isNm "NoRun")) (aa 0)) (ae (e1 (eZ bZ (isNm "NoLaying")) (aa 0)) (ae (e1 (eZ bZ (isNm "NoHeap")) (aa 0)) ah)))))) (gN 1)) (aw (aR (e2 bK (aa 1) (cy (ae (e1 (eZ bZ (isNm "NoCount")) (aa 0)) (ae (e1 (eZ bZ (isNm "Clash")) (aa 0)) (ae (e1 (eZ bZ (isNm "NoDeed")) (aa 0)) (ae (e1 (eZ bZ (isNm "NoText")) (aa 0)) ah)))))) (gN 1)) (aH (e2 bK (aa 1) (cy (ae (e1 (eZ bZ (isNm "NoRow")) (aa 0)) (ae (e1 (eZ bZ (isNm "TooMany")) (aa 0)) (ae (e1 (eZ bZ (isNm "Lacking")) (aa 0)) ah))))))))))
def zg:List D->ag->Res D:=aO 1 1 (aH (dw (vq rS rS (eC (.int 1)) (eB eJ (ae (aa 0) ah)) (eC (.int (30)))) (eB nk (ae (b9 1 [] (xo (aa 0)) (gN 0) cB (e2 Ff (aa 0) (eC (.str "0123456789")))) ah))))
def zb:List D->ag->Res D:=aO 1 2 (aw (aR (fI mK (aa 0) (eC (.str "/"))) (gN 1)) (aH (dw (e2 aX (eB eJ (ae (aa 1) ah)) (eC (.int 2))) (eB nk (ae (b9 1 [] (cA (aa 1)) (gN 0) cB (iZ (e2 aX (aa 0) (eC (.str "-"))) (aB zg (ae (aa 0) ah)))) ah)))))
def sR:List D->ag->Res D:=aO 1 1 (aH (dw (aB zg (ae (aa 0) ah)) (iZ (e2 cX (e2 ar (aa 0) (eC (.int 0))) (eC (.str "0"))) (e2 aX (aa 0) (eC (.str "0"))))))
def yZ:List D->ag->Res D:=aO 1 5 (aw (aU (aJ (e2 cX (eB eJ (ae (aa 0) ah)) (eC (.int 4)))) (aH (eC (.bl ύ))) bz) (aw (aR (aa 0) (gL [(gN 1),(gN 2),(gN 3),(gN 4)])) (aw (aU (fU (dM (cD (aB sR (ae (aa 2) ah)))) (dM (cD (aB sR (ae (aa 3) ah))))) (aH (eC (.bl ύ))) bz) (aw (aU (aJ (e2 aX (aa 1) (eC (.str "made")))) (aH (aB zb (ae (aa 4) ah))) bz) (aH (dw (e2 aX (aa 1) (eC (.str "mended"))) (aB sR (ae (aa 4) ah))))))))
def zC:List D->ag->Res D:=aO 1 3 (aw (qe 1 2 (ae (e2 ar (aa 0) (eC (.int 0))) (ae (pd (aa 0) (lV (eC (.int 1))) mi) ah))) (aw (aU (aJ (e2 aX (aa 1) (eC (.str "out")))) (aH (aB yZ (ae (aa 2) ah))) bz) (aw (aU (aJ (e2 aX (aa 1) (eC (.str "surely")))) (aH (dw (e2 aX (eB eJ (ae (aa 2) ah)) (eC (.int 2))) (eB nk (ae (b9 1 [] (cA (aa 2)) (gN 0) cB (aB sR (ae (aa 0) ah))) ah)))) bz) (aw (aU (aJ (e2 aX (aa 1) (eC (.str "where")))) (aH (dw (e2 aX (eB eJ (ae (aa 2) ah)) (eC (.int 1))) (aB zb (ae (e2 ar (aa 2) (eC (.int 0))) ah)))) bz) (aw (aU (fU (aJ (e2 aX (aa 1) (eC (.str "undo")))) (aJ (e2 aX (aa 1) (eC (.str "book"))))) (aH (e2 aX (aa 2) (cy ah))) bz) (aH (aB yZ (ae (aa 0) ah))))))))
def nT:List D->ag->Res D:=aO 1 1 (aw (aU (fU (dM (cD (eB nr (ae (aa 0) (ae (eC (.ty "str")) ah))))) (dM (cD (aB zC (ae (fI mK (aa 0) (eC (.str " "))) ah))))) (mH "NoRow" (ae (eC (.str "a row tells a page, out and a page, undo, book, surely or where")) ah)) bz) (aH (fI mK (aa 0) (eC (.str " ")))))
def zu:List D->ag->Res D:=aO 1 1 (aw (aU (aJ (e2 aX (aa 0) (eC (.str "-")))) (aH (bc ah)) bz) (aH (eB i9 (ae (b9 1 [] (xo (aa 0)) (gN 0) cB (eB kc (ae (aa 0) ah))) ah))))
def vY:List D->ag->Res D:=aO 1 3 (aw (aR (fI mK (aa 0) (eC (.str "/"))) (gL [(gN 1),(gN 2)])) (aH (bc (ae (aB zu (ae (aa 1) ah)) (ae (aB zu (ae (aa 2) ah)) ah)))))
def tH:List D->ag->Res D:=aO 1 6 (aw (aR (aa 0) (gL [(gN 1),(gN 2),(gN 3),(gN 4)])) (aw (aR (jz (aJ (e2 aX (aa 1) (eC (.str "made")))) (aB vY (ae (aa 4) ah)) (eB kc (ae (aa 4) ah))) (gN 5)) (aH (bc (ae (aa 1) (ae (eB kc (ae (aa 2) ah)) (ae (eB kc (ae (aa 3) ah)) (ae (aa 5) ah))))))))
def zj:List D->ag->Res D:=aO 1 1 (aH (qi (fI iB (eC (.str "")) (b9 1 [] (cA (aa 0)) (gN 0) cB (eB iH (ae (aa 0) ah)))) (eC (.str "-"))))
def vL:List D->ag->Res D:=aO 1 3 (aw (aR (aa 0) (gT [(gN 1),(gN 2)])) (aH (e2 bK (e2 bK (aB zj (ae (aa 1) ah)) (eC (.str "/"))) (aB zj (ae (aa 2) ah)))))
def BS:List D->ag->Res D:=aO 1 1 (aH (qi (fI iB (eC (.str " ")) (b9 3 [] (cA (aa 0)) (gT [gN 0,gN 1,gN 2]) cB (kB [(e1 gp (aa 0)),(eC (.str ",")),(e1 gp (aa 1)),(eC (.str ",")),(e1 gp (aa 2))] afE))) (eC (.str "none"))))
def sW:List D->ag->Res D:=aO 1 1 (aU (dM (cD (aB tG (ae (aa 0) ah)))) (mH "NoBook" (ae (eC (.str "a book is laid pages without faults")) ah)) bz)
def B9:List D->ag->Res D:=aO 1 6 (aw (aR (aa 0) (gT [(gN 1),(gN 2),(gN 3),(gN 4)])) (aw (aR (jz (aJ (e2 aX (aa 1) (eC (.str "made")))) (aB vL (ae (aa 4) ah)) (eB iH (ae (aa 4) ah))) (gN 5)) (aH (kB [(e1 gp (aa 1)),(eC (.str " ")),(e1 gp (aa 2)),(eC (.str " ")),(e1 gp (aa 3)),(eC (.str " ")),(e1 gp (aa 5))] afE))))
def Ca:List D->ag->Res D:=aO 1 1 (aw (cP (dY sW (ae (aa 0) ah))) (aH (fI iB (eC (.str "")) (b9 1 [] (cA (aa 0)) (gN 0) cB (e2 bK (aB B9 (ae (aa 0) ah)) (eC (.str "\n")))))))
def BV:List D->ag->Res D:=aO 1 1 (aU (dM (cD (aB tj (ae (aa 0) ah)))) (mH "NoMould" (ae (eC (.str "a mould is a whole number from 0 to 3")) ah)) bz)
def Cj:List D->ag->Res D:=aO 1 1 (aU (dM (cD (aB tM (ae (aa 0) ah)))) (mH "NoDay" (ae (eC (.str "a day is a whole number from 0 to 30")) ah)) bz)
def zD:List D->ag->Res D:=aO 3 3 (aw (cP (dY sW (ae (aa 0) ah))) (aw (cP (dY BV (ae (aa 1) ah))) (aw (cP (dY Cj (ae (aa 2) ah))) (aH (e2 ar (aB sU (ae (aa 0) (ae (aa 1) ah))) (aa 2))))))
def vM:List D->ag->Res D:=aO 1 1 (aU (dM (cD (aB qK (ae (aa 0) ah)))) (mH "NoSheet" (ae (eC (.str "a sheet is a tuple of two marks, no mark in both")) ah)) bz)
def vU:List D->ag->Res D:=aO 1 3 (aw (aR (eNew ah) (gN 1)) (aw (gn (dH (ae (eB eJ (ae (aa 0) ah)) ah)) (gN 2) (aU (eI (cD (e2 ar (aa 0) (aa 2))) (eI (aJ (e2 kR (aa 2) (eC (.int 0)))) (cD (e2 ar (aa 0) (e2 uw (aa 2) (eC (.int 1))))))) (qc (bc (ae (e2 ar (e2 ar (aa 1) (e1 jg (eC (.int 1)))) (eC (.int 0))) (ae (aa 2) ah))) (aa 1) (e1 jg (eC (.int 1)))) (aU (cD (e2 ar (aa 0) (aa 2))) (cP (ki (aa 1) (bc (ae (aa 2) (ae (aa 2) ah))))) bz))) (aH (oK (aa 1)))))
def wy:List D->ag->Res D:=aO 2 2 (aH (dw (aB sV (ae (e2 ar (aa 0) (eC (.int (0)))) (ae (e2 ar (aa 1) (eC (.int (1)))) ah))) (aB sV (ae (e2 ar (aa 0) (eC (.int (1)))) (ae (e2 ar (aa 1) (eC (.int (0)))) ah)))))
def sX:List D->ag->Res D:=aO 2 2 (aw (cP (dY sW (ae (aa 0) ah))) (aw (cP (dY vM (ae (aa 1) ah))) (aH (Er 3 [1,0] (dH (ae (eC (.int (4))) ah)) (gN 0) cB (cA (aB vU (ae (b9 1 [3] (cA (aB sU (ae (aa 4) (ae (aa 0) ah)))) (gN 0) cB (aB wy (ae (aa 1) (ae (aa 0) ah)))) ah))) (gT [gN 1,gN 2]) cB (bc (ae (aa 0) (ae (aa 1) (ae (aa 2) ah))))))))
def qQ:List D->ag->Res D:=aO 2 2 (aw (aU (aJ (e2 aX (e2 ar (aa 1) (eC (.int 0))) (eC (.str "surely")))) (aH (aB vL (ae (dY zD (ae (aa 0) (ae (eB kc (ae (e2 ar (aa 1) (eC (.int 1))) ah)) (ae (eB kc (ae (e2 ar (aa 1) (eC (.int 2))) ah)) ah)))) ah))) bz) (aw (aU (aJ (e2 aX (e2 ar (aa 1) (eC (.int 0))) (eC (.str "where")))) (aH (aB BS (ae (dY sX (ae (aa 0) (ae (aB vY (ae (e2 ar (aa 1) (eC (.int 1))) ah)) ah))) ah))) bz) (aH (qi (dY Ca (ae (aa 0) ah)) (eC (.str "-"))))))
def vN:List D->ag->Res D:=aO 1 1 (aw (aU (aJ (e2 aX (eB eJ (ae (e1 (iG "Diary" "books") (aa 0)) ah)) (eC (.int 1)))) (mH "NoDeed" (ae (eC (.str "no deed stands")) ah)) bz) (cP (e1 xS (e1 (iG "Diary" "books") (aa 0)))))
def pG:List D->ag->Res D:=aO 1 1 (aU (dM (cD (aB tF (ae (aa 0) ah)))) (mH "NoPage" (ae (eC (.str "a page is a tuple of made or mended, a mould, a day, and a sheet or a mark")) ah)) bz)
def qF:List D->ag->Res D:=aO 1 1 (aH (e2 ar (e1 (iG "Diary" "books") (aa 0)) (e1 jg (eC (.int 1)))))
def zk:List D->ag->Res D:=aO 2 2 (aw (aU (dM (cD (aB tG (ae (aa 1) ah)))) (mH "Clash" (ae (eC (.str "no book comes of this deed")) ah)) bz) (cP (ki (e1 (iG "Diary" "books") (aa 0)) (aa 1))))
def pE:List D->ag->Res D:=aO 2 3 (aw (cP (dY pG (ae (aa 1) ah))) (aw (aR (fP "Diary" "book_now" qF (aa 0) ah) (gN 2)) (aw (aU (aJ (e2 gC (aa 1) (aa 2))) (mH "Clash" (ae (eC (.str "the page isn't there")) ah)) bz) (cP (fP "Diary" "keep" zk (aa 0) (ae (eB i9 (ae (b9 1 [1] (cA (aa 2)) (gN 0) (aJ (e2 cX (aa 0) (aa 1))) (aa 0)) ah)) ah))))))
def pF:List D->ag->Res D:=aO 2 2 (aw (cP (dY pG (ae (aa 1) ah))) (cP (fP "Diary" "keep" zk (aa 0) (ae (eB i9 (ae (eB TK.qX (ae (e2 bK (fP "Diary" "book_now" qF (aa 0) ah) (bc (ae (aa 1) ah))) ah)) ah)) ah))))
def ifs:agS Fl:=(aU (aJ (e2 aX (e2 ar (aa 2) (eC (.int 0))) (eC (.str "undo")))) (cP (fP "Diary" "undo" vN (e1 (iG "Desk" "diary") (aa 0)) ah)) (aU (aJ (e2 aX (e2 ar (aa 2) (eC (.int 0))) (eC (.str "out")))) (cP (fP "Diary" "strike" pE (e1 (iG "Desk" "diary") (aa 0)) (ae (aB tH (ae (pd (aa 2) (lV (eC (.int 1))) mi) ah)) ah))) (aU (fU (aJ (e2 aX (e2 ar (aa 2) (eC (.int 0))) (eC (.str "made")))) (aJ (e2 aX (e2 ar (aa 2) (eC (.int 0))) (eC (.str "mended"))))) (cP (fP "Diary" "tell" pF (e1 (iG "Desk" "diary") (aa 0)) (ae (aB tH (ae (aa 2) ah)) ah))) (aH (dY qQ (ae (fP "Diary" "book_now" qF (e1 (iG "Desk" "diary") (aa 0)) ah) (ae (aa 2) ah)))))))
def nU:List D->ag->Res D:=aO 2 3 (aw (aR (dY nT (ae (aa 1) ah)) (gN 2)) (aw ifs (aH (eC (.str "ok")))))
def iP (cl:D) (th:ag->Res D):List D->ag->Res D:=aO 1 3 (pX bZ "told" (yN cl th 0) 1 (aw (aR (aB KI (ae (aa 1) ah)) (gN 2)) (aw (aU (fU (dM (cD (e1 (eZ bZ anyS) (aa 1)))) (aJ (e2 Fb (e1 Gq (aa 2)) (eC (.int 1))))) (aH (bc (ae (eC (.str "other")) (ae (eC .az) ah)))) bz) (aw (aU (cD (e2 ar (aa 2) (eC (.int 17)))) (aH (bc (ae (eC (.str "many")) (ae HY ah)))) bz) (aw (aU (cD (e2 ar (aa 2) (eC (.int 18)))) (aH (bc (ae (eC (.str "lacking")) (ae HY ah)))) bz) (aH (bc (ae (eC (.str "refused")) (ae (e1 HS (aa 2)) ah)))))))))
def XR:agS Fl:=(aw (aU (eI (aJ (e2 aX (e2 ar (aa 6) (eC (.int 0))) (eC (.str "mended")))) (eI (aJ (e2 aX (e2 ar (aa 6) (eC (.int 1))) (aa 1))) (aJ (e2 aX (e2 ar (aa 6) (eC (.int 3))) (aa 2))))) (cP (ki (aa 5) (e2 ar (aa 6) (eC (.int 2))))) bz) (aU (eI (aJ (e2 aX (e2 ar (aa 6) (eC (.int 0))) (eC (.str "made")))) (aJ (e2 aX (e2 ar (aa 6) (eC (.int 1))) (aa 1)))) (aw (aR (e2 bK (aa 3) (e2 gg (cy (ae (e2 ar (aa 6) (eC (.int 2))) ah)) (eB ny (ae (e2 cz (aa 2) (e2 ar (e2 ar (aa 6) (eC (.int 3))) (eC (.int 0)))) ah)))) (gN 3)) (aR (e2 bK (aa 4) (e2 gg (cy (ae (e2 ar (aa 6) (eC (.int 2))) ah)) (eB ny (ae (e2 cz (aa 2) (e2 ar (e2 ar (aa 6) (eC (.int 3))) (eC (.int 1)))) ah)))) (gN 4))) bz))
def Md:agS Fl:=(aw (aR (iZ (e2 cz (aa 11) (aa 3)) (dw (aa 9) (e2 gC (aa 11) (aa 5)))) (gN 9)) (aR (e2 bK (aa 7) (e2 gg (cy (ae (aa 11) ah)) (eB ny (ae (aa 9) ah)))) (gN 7)))
def Me:agS Fl:=(aw (aR (iZ (aa 10) (e2 cz (aa 11) (aa 4))) (gN 10)) (aw (aR (e2 bK (e2 gg (cy (ae (aa 11) ah)) (eB ny (ae (iZ (aa 10) (e2 cz (aa 11) (aa 5))) ah))) (aa 8)) (gN 8)) (aR (dw (aa 10) (e2 gC (aa 11) (aa 5))) (gN 10))))
def zT:List D->ag->Res D:=aO 3 12 (aw (Gk 3 4 5 (ae (cy ah) (ae (cy ah) (ae (eNew ah) ah)))) (aw (gn (cA (aa 0)) (gN 6) XR) (aw (aR (bc (ae (cy ah) (ae (cy ah) (ae (eC (.bl ύ)) (ae (eC (.bl ύ)) ah))))) (gT [(gN 7),(gN 8),(gN 9),(gN 10)])) (aw (gn (dH (ae (eC (.int 31)) ah)) (gN 11) Md) (aw (gn (HC (ae (eC (.int 30)) (ae (e1 jg (eC (.int 1))) (ae (e1 jg (eC (.int 1))) ah)))) (gN 11) Me) (aH (bc (ae (aa 7) (ae (aa 8) ah)))))))))
def Lp:agS Fl:=(aw (aR (aB zT (ae (aa 0) (ae (aa 3) (ae (aa 5) ah)))) (gT [(gN 6),(gN 7)])) (aR (e2 bK (e2 bK (aa 4) (jz (aJ (e2 cz (aa 5) (e2 ar (aa 1) (eC (.int 0))))) (aa 7) (cy ah))) (jz (aJ (e2 cz (aa 5) (e2 ar (aa 1) (eC (.int 1))))) (aa 6) (cy ah))) (gN 4)))
def Lq:agS Fl:=(aU (eI (aJ (e2 E2 (aa 8) (eC .az))) (eI (aJ (e2 kS (aa 9) (eC (.int 31)))) (aJ (e2 gC (aa 9) (aa 4))))) (aR (aa 9) (gN 8)) (aU (eI (aJ (e2 Em (aa 8) (eC .az))) (fU (aJ (e2 aX (aa 9) (eC (.int 31)))) (aJ (e2 cz (aa 9) (aa 4))))) (aw (cP (ki (aa 2) (bc (ae (aa 3) (ae (aa 8) (ae (e2 uw (aa 9) (eC (.int 1))) ah)))))) (aR (eC .az) (gN 8))) bz))
def Lr:agS Fl:=(aw (aR (cy ah) (gN 4)) (aw (gn (dH (ae (eC (.int 8)) ah)) (gN 5) Lp) (aw (aR (eC .az) (gN 8)) (gn (dH (ae (eC (.int 32)) ah)) (gN 9) Lq))))
def C7:List D->ag->Res D:=aO 2 10 (aw (aR (eNew ah) (gN 2)) (aw (gn (dH (ae (eC (.int 4)) ah)) (gN 3) Lr) (aH (oK (aa 2)))))
def Cz:List D->ag->Res D:=aO 3 5 (aw (aR (b9 1 [0,1] (dH (ae (eC (.int 8)) ah)) (gN 0) cB (aB zT (ae (aa 1) (ae (aa 2) (ae (aa 0) ah))))) (gN 3)) (aw (aR (eB i9 (ae (b9 1 [2,3] (dH (ae (eC (.int 8)) ah)) (gN 0) (aJ (e2 cz (aa 1) (e2 ar (e2 ar (aa 2) (aa 0)) (eC (.int 0))))) (aa 0)) ah)) (gN 4)) (aH (bc (ae (aa 4) (ae (eB i9 (ae (b9 1 [2,3] (dH (ae (eC (.int 8)) ah)) (gN 0) (aJ (e2 cz (aa 1) (e2 ar (e2 ar (aa 2) (aa 0)) (eC (.int 1))))) (aa 0)) ah)) ah))))))
def v5:List D->ag->Res D:=aO 2 5 (aw (aR (aa 1) (gT [(gN 2),(gN 3)])) (aw (aU (aJ (e2 aX (aa 2) (eC (.str "book")))) (aH (bc (ae (eC (.str "told")) (ae (jz (aJ (e2 cX (aa 0) (bc ah))) (fI iB (eC (.str "")) (b9 1 [] (cA (aa 0)) (gN 0) cB (e2 bK (aB zS (ae (aa 0) ah)) (eC (.str "\n"))))) (eC (.str "-"))) ah)))) bz) (aw (aU (aJ (e2 aX (A4 (aa 2) mi (lV (eC (.int 6)))) (eC (.str "surely")))) (aw (aU (fU (aJ (e2 kR (e2 ar (aa 3) (eC (.int 0))) (eC (.int 3)))) (aJ (e2 kR (e2 ar (aa 3) (eC (.int 1))) (eC (.int 30))))) (aH (bc (ae (eC (.str "refused")) (ae (jz (aJ (e2 kR (e2 ar (aa 3) (eC (.int 0))) (eC (.int 3)))) (eC (.int 4)) (eC (.int 5))) ah)))) bz) (aH (bc (ae (eC (.str "told")) (ae (aB qG (ae (aB Cz (ae (aa 0) (ae (e2 ar (aa 3) (eC (.int 0))) (ae (e2 ar (aa 3) (eC (.int 1))) ah)))) ah)) ah))))) bz) (aw (aU (aJ (e2 cz (aa 3) (cy (ae (bc (ae (bc (ae (eC (.int 8)) ah)) (ae (bc ah) ah))) (ae (bc (ae (bc (ae (eC (.int 0)) ah)) (ae (bc (ae (eC (.int 0)) ah)) ah))) (ae (bc (ae (bc (ae (eC (.int 1)) (ae (eC (.int 0)) ah))) (ae (bc ah) ah))) ah)))))) (aH (bc (ae (eC (.str "refused")) (ae (eC (.int 1)) ah)))) bz) (aw (aR (b9 1 [] (cA (aB C7 (ae (aa 0) (ae (aa 3) ah)))) (gN 0) cB (fI iB (eC (.str ",")) (b9 1 [] (cA (aa 0)) (gN 0) cB (eB iH (ae (aa 0) ah))))) (gN 4)) (aH (bc (ae (eC (.str "told")) (ae (jz (aJ (e2 cX (aa 4) (cy ah))) (fI iB (eC (.str " ")) (aa 4)) (eC (.str "none"))) ah)))))))))
def vO:List D->ag->Res D:=aO 1 1 (rH "Diary" "books" (eNew (ae (bc ah) ah)) (aa 0))
def vV:List D->ag->Res D:=aO 1 1 (rH "Desk" "diary" (rJ "Diary" vO) (aa 0))
def abG:agS Fl:=(aU (aJ (e2 cX (oQ "law" [3,8] (fP "Desk" "say" nU (aa 0) (ae (e2 ar (aa 1) (eC (.int 0))) ah)) iP) (aB v5 (ae (e2 ar (aa 4) (e1 jg (eC (.int 1)))) (ae (aa 8) ah))))) (aH (eC (.bl ύ))) bz)
def OD:agS Fl:=(aw (aR (aB Cy (ae (aa 2) (ae (aa 4) ah))) (gT [(gN 6),(gT [(gN 4),(gN 7)])])) (aw (aU (aJ (e2 aX (aa 7) (bc (ae (eC (.str "told")) (ae (eC .az) ah))))) (aR (bc (ae (eC (.str "told")) (ae (eC (.str "ok")) ah))) (gN 7)) bz) (aw (aU (aJ (e2 cX (oQ "law" [6,3] (fP "Desk" "say" nU (aa 1) (ae (aa 0) ah)) iP) (aa 7))) (aH (eC (.bl ύ))) bz) (aw (aR (aB DR (ae (aa 2) ah)) (gN 8)) (gn (dH (ae (eC (.int 2)) ah)) (gN 9) abG)))))
def OE:agS Fl:=(aw (aR (aB zB (ae (aa 0) (ae (aa 1) ah))) (gN 2)) (aw (aR (bc (ae (rJ "Desk" vV) (ae (cy (ae (bc ah) ah)) ah))) (gT [(gN 3),(gN 4)])) (aw (gn (dH (ae (aB eD (ae (aa 2) (ae (eC (.int 25)) ah))) ah)) (gN 5) OD) (aU (aJ (e2 cX (oQ "law" [3] (fP "Desk" "say" nU (aa 0) (ae (eC (.str "book")) ah)) iP) (aB v5 (ae (e2 ar (aa 4) (e1 jg (eC (.int 1)))) (ae (bc (ae (eC (.str "book")) (ae (bc ah) ah))) ah))))) (aH (eC (.bl ύ))) bz))))
def Fh:List D->ag->Res D:=aO 1 10 (aw (gn (dH (ae (eB xc (ae (eC (.int 1)) (ae (eB xg (ae (eB eJ (ae (aa 0) ah)) (ae (eC (.int 2)) ah))) ah))) ah)) (gN 1) OE) (aH (eC (.bl ό))))
end
end DI.cV
namespace DI
open PySem L2
def Wp (r:Res α) (Q:α->ag->Prop):Prop:=∃a s,r=ϊ (.ok a,s)/\Q a s
section
variable {α β:Type} {r:Res α} {k:α->ag->Res β} {Q Q':α->ag->Prop} {R:β->ag->Prop} {env:Env} {s:ag}
theorem Wp.ok (h:Q a s):Wp (DI.ok a s) Q:=⟨a,s,rfl,h⟩
def Wp.mono (h:Wp r Q) (i:∀a s,Q a s->Q' a s):Wp r Q':=by
 obtain⟨a,s,e,q⟩:=h;exact⟨a,s,e,i a s q⟩
theorem Wp.ai (h:Wp r λa s=>Wp (k a s) R):Wp (DI.ai r k) R:=by
 obtain⟨a,s,e,b,Z,Y,q⟩:=h;exact⟨b,Z,by rw[e];exact Y,q⟩
theorem Wp.ne (h:Wp r Q):Wp (DI.ne r) Q:=by
 obtain⟨a,s,e,q⟩:=h;exact⟨a,s,by rw[e];rfl,q⟩
def agT (e:r=ϊ (.ok a,s)) (h:Q a s):Wp r Q:=⟨a,s,e,h⟩
def Wp.seq {Q} (h:Wp (f env s) λfl s=>match fl with
  | .nx env=>Wp (g env s) Q
  |fl=>Q fl s):Wp (aw f g env s) Q:=by
 obtain⟨fl,Z,e,h⟩:=h;delta aw;rw[e]
 cases fl with
 |nx env=>exact h
 |rt d=>exact⟨_,_,rfl,h⟩
 |bk e=>exact⟨_,_,rfl,h⟩
 |ct e=>exact⟨_,_,rfl,h⟩
def Wp.jr {Q} (I:Nat->Env->ag->Prop) (all) (h0:I 0 env s)
 (step:∀i d env s,all[i]?=ϊ d->I i env s->∃aV,g d env=ϊ aV/\Wp (b aV s) λfl s=>match fl with
   | .nx e=>I (i+1) e s
   | .ct e=>I (i+1) e s
   | .bk e=>Q (.nx e) s
   | .rt d=>Q (.rt d) s) (fin:∀env s,I all.length env s->Q (.nx env) s):Wp (oz g b all env s) Q:=by
 have key:∀Z i env s,all.drop i=Z->i<=all.length->I i env s->Wp (oz g b Z env s) Q:=by
  intro Z
  induction Z with
  |nil =>
   intro i env s Y U h;have e:i=all.length:=by
    have:=ı List.length Y;simp at this;omega
   subst e;exact Wp.ok (fin _ _ h)
  |cons d Z ih =>
   intro i env s Y U h;have X:=by
    have:=ı (λl=>l[0]?) Y;simpa using this
   have W:=by
    have:=ı (List.drop 1) Y;simpa  using this
   obtain⟨aV,T,S⟩:=step i d env s X h;have V:=(Ï.mp X).1;delta oz;rw[T];refine Wp.ai (S.mono λfl s q=>?_)
   cases fl with
   |nx e=>exact ih _ e s W V q
   |ct e=>exact ih _ e s W V q
   |bk e=>exact Wp.ok q
   |rt d=>exact Wp.ok q
 exact key all 0 env s rfl (č _) h0
def Nm {nt} {t} {Q} (I:Nat->List D->ag->Prop) (all) (h0:I 0 [] s)
 (step:∀i d acc s,all[i]?=ϊ d->I i acc s->∃env,g d (Õ nt ϋ++caps)=ϊ env/\Wp (t env s) λb s=>if b=ό then Wp (f env s) λx s=>I (i+1) (acc++[x]) s else I (i+1) acc s)
 (fin:∀acc s,I all.length acc s->Q acc s):Wp (gE nt caps g t f all s) Q:=by
 have key:∀Z i acc s,all.drop i=Z->i<=all.length->I i acc s->Wp (gE nt caps g t f Z s) λX s=>Q (acc++X) s:=by
  intro Z
  induction Z with
  |nil =>
   intro i acc s Y T h;have e:i=all.length:=by
    have:=ı List.length Y;simp at this;omega
   subst e;exact Wp.ok (by rw[ú];exact fin _ _ h)
  |cons d Z ih =>
   intro i acc s Y T h;have W:=by
    have:=ı (λl=>l[0]?) Y;simpa using this
   have V:=by
    have:=ı (List.drop 1) Y;simpa  using this
   obtain⟨P,S,R⟩:=step i d acc s W h;have U:=(Ï.mp W).1;delta gE;rw[S];refine Wp.ai (Wp.ne (R.mono λb s q=>?_))
   cases b with
   |true =>
    refine Wp.ai (Wp.ne (q.mono λx s q=>?_));refine Wp.ai ((ih _ _ s V U q).mono λX s q=>Wp.ok ?_);rw[ġ] at q;exact q
   |false =>
    exact ih _ acc s V U q
 have:=key all 0 _ s rfl (č _) h0;simpa using this
end
section
variable {α β:Type} {Q:D->ag->Prop} {QL:List D->ag->Prop} {QB:Bool->ag->Prop} {QF:Fl->ag->Prop} {QO:Option Int->ag->Prop} {env:Env} {s:ag} {f g h:agS D} {fa:agS (List D)} {c c':agS Bool} {st cp:agS Fl} {o o':D->D->ag->Res D} {u:D->ag->Res D} {bf:List D->ag->Res D}
def bF {a:α} {Q}:Wp (ok a s) Q=Q a s:=propext ⟨λ⟨b,Z,e,q⟩=>by cases e;exact q,λq=>⟨a,s,rfl,q⟩⟩
def abH {Q:α->ag->Prop}:Wp (ϊ (Except.ok a,s)) Q=Q a s:=bF
def bU {r:Res α} {k} {R:β->ag->Prop}:Wp (ai r k) R=Wp r λa s=>Wp (k a s) R:=propext ⟨λ⟨b,Z,e,q⟩=>by
 obtain⟨a,s,e1,e2⟩:=tK e;exact⟨a,s,e1,b,Z,e2,q⟩,λh=>Wp.ai h⟩
def AH {Q}:Wp (ne r) Q=Wp r Q:=propext ⟨λ⟨b,Z,e,q⟩=>⟨b,Z,DK e,q⟩,λh=>h.ne⟩
def aG {r:Env}:Wp (aa 0 (ϊ a::r) s) Q=Q a s:=by rw[show aa 0 _ s=ok a s from rfl,bF]
def bb {a} {r:Env}:Wp (aa (i+1) (a::r) s) Q=Wp (aa i r s) Q:=by rw[show aa (i+1) _ s=aa i r s from rfl]
def bh:Wp (eC d env s) Q=Q d s:=by rw[show eC d env s=ok d s from rfl,bF]
def oF:Wp (e1 u f env s) Q=Wp (f env s) λx s=>Wp (u x s) Q:=by delta e1;rw[bU]
def bp:Wp (e2 o f g env s) Q=Wp (f env s) λx s=>Wp (g env s) λy s=>Wp (o x y s) Q:=by delta e2;erw[bU]
def aL:Wp (ah env s) QL=QL [] s:=by delta ah;rw[bF]
def aF:Wp (ae f fa env s) QL=Wp (f env s) λx s=>Wp (fa env s) λxs s=>QL (x::xs) s:=by delta ae;erw[bU,bF]
def dq:Wp (eB bf fa env s) Q=Wp (fa env s) λds s=>Wp (bf ds s) Q:=by delta eB;rw[bU]
def wp_call:Wp (aB fn fa env s) Q=Wp (fa env s) λds s=>Wp (fn ds s) Q:=by delta aB;erw[bU,AH]
def wc {Q:α->ag->Prop}:Wp (lP ds r) Q=(ds.length<=Ô/\Wp r Q):=propext ⟨λ⟨b,Z,e,q⟩=>by
 delta lP at e;split at e
 ·exact⟨by assumption,b,Z,e,q⟩
 ·(cases e),λ⟨Y,b,Z,e,q⟩=>⟨b,Z,by delta lP;rw[Ö Y];exact e,q⟩⟩
def cW:Wp (bc fa env s) Q=Wp (fa env s) λds s=>ds.length<=Ô/\Q (.tup ds) s:=by delta bc;erw[bU,wc,bF]
def ic:Wp (cy fa env s) Q=Wp (fa env s) λds s=>ds.length<=Ô/\Q (.lst ds) s:=by delta cy;erw[bU,wc,bF]
def EC:Wp (eNew fa env s) Q=Wp (fa env s) λds s=>ds.length<=Ô/\Q (.au s.length) (s++[.lst ds]):=by delta eNew;erw[bU,wc,bF]
def ED:Wp (oK f env s) Q=Wp (f env s) λd s=>Wp (bH d s) Q:=by delta oK;rw[bU]
def dZ:Wp (aJ f env s) QB=Wp (f env s) λd s=>Wp (jn d s) QB:=by delta aJ;rw[bU]
def cj:Wp (jn (.bl b) s) QB=QB b s:=by rw[show jn _ s=ok b s from rfl,bF]
def pQ:Wp (cD f env s) QB=Wp (f env s) λd s=>Wp (truth d s) QB:=by delta cD;rw[bU]
def lJ:Wp (truth (.bl b) s) QB=QB b s:=by rw[show truth _ s=ok b s from rfl,bF]
def tY:Wp (eI c c' env s) QB=Wp (c env s) λb s=>if b=ό then Wp (c' env s) QB else QB ύ s:=by
 delta eI;rw[bU];congr 1;funext b s
 cases b<;>simp[bF]
def rk:Wp (fU c c' env s) QB=Wp (c env s) λb s=>if b=ό then QB ό s else Wp (c' env s) QB:=by
 delta fU;rw[bU];congr 1;funext b s
 cases b<;>simp[bF]
def wz:Wp (dM c env s) QB=Wp (c env s) λb s=>QB (!b) s:=by delta dM;erw[bU,bF]
def n9:Wp (dw f g env s) Q=Wp (f env s) λx s=>Wp (jn x s) λb s=>if b=ό then Wp (g env s) Q else Q (.bl ύ) s:=by
 delta dw;rw[bU];congr 1;funext x s;rw[bU];congr 1;funext b s
 cases b<;>simp[bF]
def wU:Wp (iZ f g env s) Q=Wp (f env s) λx s=>Wp (jn x s) λb s=>if b=ό then Q (.bl ό) s else Wp (g env s) Q:=by
 delta iZ;rw[bU];congr 1;funext x s;rw[bU];congr 1;funext b s
 cases b<;>simp[bF]
def Zy:Wp (xG f env s) Q=Wp (f env s) λx s=>Wp (jn x s) λb s=>Q (.bl (!b)) s:=by delta xG;erw[bU,bF]
def kI:Wp (jz c f g env s) Q=Wp (c env s) λb s=>if b=ό then Wp (f env s) Q else Wp (g env s) Q:=by
 delta jz;rw[bU];congr 1;funext b s
 cases b<;>simp
def OF:Wp (vq o o' f g h env s) Q=Wp (f env s) λx s=>Wp (g env s) λy s=>Wp (o x y s) λz s=>Wp (jn z s) λb s=>if b=ό then Wp (h env s) λu s=>Wp (o' y u s) Q else Q (.bl ύ) s:=by
 delta vq;erw[bU];congr 1;funext x s;congr 1;funext y s;congr 1;funext z s;congr 1;funext b s
 cases b<;>simp[bF,bU]
def cK:Wp (bz env s) QF=QF (.nx env) s:=by delta bz;rw[bF]
def bN:Wp (aH f env s) QF=Wp (f env s) λd s=>QF (.rt d) s:=by delta aH;erw[bU,bF]
def qR:Wp (cP f env s) QF=Wp (f env s) λ_ s=>QF (.nx env) s:=by delta cP;erw[bU,bF]
def XS:Wp (Pe env s) QF=QF (.ct env) s:=by delta Pe;rw[bF]
def eU (st:agS Fl) (Q:Fl->ag->Prop):Fl->ag->Prop:=λfl s=>match fl with
 | .nx env=>Wp (st env s) Q
 |fl=>Q fl s
def pI:Wp (aw st cp env s) QF=Wp (st env s) (eU cp QF):=propext ⟨λh=>by
 delta aw at h;rw[bU] at h;refine h.mono λZ s q=>?_
 cases Z with
 |nx e=>exact q
 |rt d=>rw[bF] at q;exact q
 |bk d=>rw[bF] at q;exact q
 |ct d=>rw[bF] at q;exact q,λh=>Wp.seq (h.mono λZ s q=>by cases Z<;>exact q)⟩
def agV (h:∀R,R=cp->Wp (st env s) (eU R QF)):Wp (aw st cp env s) QF:=by rw[pI];exact h _ rfl
def cx:eU st QF (.nx env) s=Wp (st env s) QF:=rfl
def mL:eU st QF (.rt d) s=QF (.rt d) s:=rfl
def abJ:eU st QF (.ct env) s=QF (.ct env) s:=rfl
def gX:Wp (aU c st cp env s) QF=Wp (c env s) λb s=>if b=ό then Wp (st env s) QF else Wp (cp env s) QF:=by
 delta aU;rw[bU];congr 1;funext b s
 cases b<;>simp
def cq:Wp (aR f gd env s) QF=Wp (f env s) λd s=>∃e,gd d env=ϊ e/\QF (.nx e) s:=by
 delta aR;rw[bU];congr 1;funext d s
 cases h:gd d env with
 |none=>exact propext ⟨λ⟨_,_,e,_⟩=>(by cases e),λ⟨_,e,_⟩=>(by cases e)⟩
 |some e=>rw[bF];exact propext ⟨λq=>⟨e,rfl,q⟩,λ⟨Z,z,q⟩=>by cases z;exact q⟩
def cQ {i} {P:Env->Prop}:(∃e,gN i d env=ϊ e/\P e)=P (env.set i (ϊ d)):=propext ⟨λ⟨e,z,q⟩=>by cases z;exact q,λq=>⟨_,rfl,q⟩⟩
def adE {P:Env->Prop}:(∃e,gT gs (.tup ds) env=ϊ e/\P e)=∃e,iE gs ds env=ϊ e/\P e:=rfl
def Zz {P:Env->Prop}:(∃e,iE [] [] env=ϊ e/\P e)=P env:=propext ⟨λ⟨e,z,q⟩=>by cases z;exact q,λq=>⟨_,rfl,q⟩⟩
def XU {i} {P:Env->Prop}:(∃e,iE (gN i::gs) (d::ds) env=ϊ e/\P e)=∃e,iE gs ds (env.set i (ϊ d))=ϊ e/\P e:=rfl
def zU:Wp (qe i j fa env s) QF=Wp (fa env s) λds s=>∃x y,ds=[x,y]/\QF (.nx ((env.set i (ϊ x)).set j (ϊ y))) s:=by
 delta qe;rw[bU];congr 1;funext ds s
 match ds with
 | [x,y] =>
  rw[bF];exact propext ⟨λq=>⟨x,y,rfl,q⟩,λ⟨Z,Y,e,q⟩=>by cases e;exact q⟩
 | []=>exact propext ⟨λ⟨_,_,e,_⟩=>(by cases e),λ⟨_,_,e,_⟩=>(by cases e)⟩
 | [_]=>exact propext ⟨λ⟨_,_,e,_⟩=>(by cases e),λ⟨_,_,e,_⟩=>(by cases e)⟩
 |_::_::_::_=>exact propext ⟨λ⟨_,_,e,_⟩=>(by cases e),λ⟨_,_,e,_⟩=>(by cases e)⟩
def abK {P:D->D->Prop}:(∃x' y',[x,y]=[x',y']/\P x' y')=P x y:=propext ⟨λ⟨_,_,e,q⟩=>by cases e;exact q,λq=>⟨x,y,rfl,q⟩⟩
def jG:Wp (gn it gd st env s) QF=Wp (it env s) λds s=>Wp (oz gd st ds env s) QF:=by delta gn;rw[bU]
def Nn:Wp (qc f fo fi env s) QF=Wp (f env s) λx s=>Wp (fo env s) λd s=>Wp (fi env s) λn s=>∃s',nq d n x s=ϊ s'/\QF (.nx env) s':=by
 delta qc;erw[bU];congr 1;funext x s;congr 1;funext d s;congr 1;funext n s
 cases h:nq d n x s with
 |none=>exact propext ⟨λ⟨_,_,e,_⟩=>(by cases e),λ⟨_,e,_⟩=>(by cases e)⟩
 |some e=>erw[bF];exact propext ⟨λq=>⟨e,rfl,q⟩,λ⟨Z,z,q⟩=>by cases z;exact q⟩
def EE:Wp (ki f g env s) Q=Wp (f env s) λd s=>lX d s=ό/\Wp (g env s) λx s=>Wp (lW d x s) Q:=by
 delta ki;rw[bU];congr 1;funext d s
 cases h:lX d s with
 |true=>rw[Ö rfl,bU];simp
 |false=>rw[Ý Ú];exact propext ⟨λ⟨_,_,e,_⟩=>(by cases e),λ⟨e,_⟩=>(by cases e)⟩
def oS (Q:D->ag->Prop):Fl->ag->Prop:=λZ s=>match Z with
 | .rt d=>Q d s
 | .nx _=>Q .az s
 |_=>False
def cT:Wp (aO np ns st ds s) Q=(ds.length=np/\Wp (st (ds.map ϊ++Õ (ns-np) ϋ) s) (oS Q)):=by
 delta aO;by_cases h:ds.length=np
 ·rw[Ö h,bU]
  refine propext ⟨λq=>⟨h,q.mono λZ s q=>?_⟩,λ⟨_,q⟩=>q.mono λZ s q=>?_⟩
  ·cases Z with
   |rt d=>exact(q) |> λz=>by rw[bF] at z;exact z
   |nx e=>exact(q) |> λz=>by rw[bF] at z;exact z
   |bk e=>obtain⟨_,_,e,_⟩:=q;cases e
   |ct e=>obtain⟨_,_,e,_⟩:=q;cases e
  ·cases Z with
   |rt d=>exact Wp.ok q
   |nx e=>exact Wp.ok q
   |bk e=>exact q.elim
   |ct e=>exact q.elim
 ·rw[Ý h]
  exact propext ⟨λ⟨_,_,e,_⟩=>(by cases e),λ⟨e,_⟩=>absurd e h⟩
def kJ:oS Q (.rt d) s=Q d s:=rfl
def abM:oS Q (.nx env) s=Q .az s:=rfl
def ib:Wp (b9 nt cap it gd c f env s) Q=Wp (it env s) λds s=>ds.length<=Ô/\Wp (gE nt (lQ cap env) gd c f ds s) λxs s=>Q (.lst xs) s:=by
 delta b9;erw[bU,wc,bF]
def AI:Wp (pd f l' h' env s) Q=Wp (f env s) λd s=>Wp (l' env s) λlo s=>Wp (h' env s) λhi s=>Wp (t9 d lo hi s) Q:=by delta pd;erw[bU]
def Am:Wp (mi env s) QO=QO ϋ s:=by delta mi;rw[bF]
def DT (hi:f env s=ok (.int i) s):Wp (lV f env s) QO=QO (ϊ i) s:=by delta lV;rw[hi,cZ,bF]
end
open DI.cV
def ZA {th} {r:Env} {s}:yN cl th 0 (ϊ cl::r) s=th s:=Ö rfl
def PL (b:agS Fl) (cl:D) (r:Res D) (s:ag):Res D:=ai (pX bZ "told" (λ_ _=>r) 1 b [ϊ cl,ϋ,ϋ] s) λZ s=>match Z with
 | .rt d=>ok d s
 | .nx _=>ok .az s
 |_=>ϋ
def tZ:aO 1 3 (pX bZ "told" (yN cl th 0) 1 b) [cl] s=PL b cl (th s) s:=by
 show ai (pX bZ _ _ 1 b [ϊ cl,ϋ,ϋ] s) _=_;delta pX;rw[ZA];rfl
def EF {cl d} {th:ag->Res D} {s s'} (h:th s=ϊ (.ok d,s')):iP cl th [cl] s=ok (.tup [.str "told",d]) s':=by
 delta iP;rw[tZ,h];rfl
def iy {th:ag->Res D} {s s'} {m} {c:Str} {n} (hc:c="NoMould"/\n=4\/c="NoDay"/\n=5\/c="NoSheet"/\n=1\/c="NoPage"/\n=2\/c="NoBook"/\n=3\/c="NoRow"/\n=16\/c="NoDeed"/\n=14\/c="Clash"/\n=13) (h:th s=ϊ (.error ⟨c,m⟩,s')):iP cl th [cl] s=ok (.tup [.str "refused",.int n]) s':=by
 rcases hc with ⟨rfl,rfl⟩ | ⟨rfl,rfl⟩ | ⟨rfl,rfl⟩ | ⟨rfl,rfl⟩ | ⟨rfl,rfl⟩ | ⟨rfl,rfl⟩ | ⟨rfl,rfl⟩ | ⟨rfl,rfl⟩
 all_goals (delta iP;rw[tZ,h];kernel_rfl)
def C8 (cl) (th) (s):iP cl th [cl] s=iP .az th [.az] s:=by
 cases h:th s with
 |none=>delta iP;rw[tZ,tZ,h];rfl
 |some q =>
  obtain⟨q,Y⟩:=q
  cases q with
  |ok d=>rw[EF h,EF h]
  |error x =>
   obtain⟨c,m⟩:=x;by_cases Z:ώ (c∈bZ)=ό
   ·rw[Ã] at Z
    have e1:=by simpa [bZ] using Z
    rcases e1 with rfl|rfl|rfl|rfl|rfl|rfl|rfl|rfl
    ·rw[iy (n:=4) ∅ h,iy (n:=4) ∅ h]
    ·rw[iy (n:=5) ∅ h,iy (n:=5) ∅ h]
    ·rw[iy (n:=1) ∅ h,iy (n:=1) ∅ h]
    ·rw[iy (n:=2) ∅ h,iy (n:=2) ∅ h]
    ·rw[iy (n:=3) ∅ h,iy (n:=3) ∅ h]
    ·rw[iy (n:=16) ∅ h,iy (n:=16) ∅ h]
    ·rw[iy (n:=14) ∅ h,iy (n:=14) ∅ h]
    ·rw[iy (n:=13) ∅ h,iy (n:=13) ∅ h]
   ·delta iP
    rw[tZ,tZ,h];delta PL pX;dsimp only;rw[Ý Z,Ý Z]
end DI
namespace DI.cV
open PySem L2 DI
noncomputable def top (i:Nat):Stmt:=PySem.Challenge.pw_twinmoulds_k51_a_desk_and_its_rows.main.body.getD i (.Pass ⟨0,0,0,0⟩)
noncomputable def fz (c:Stmt) (j:Nat):Stmt:=match c with
 | .ClassDef _ _ _ b _ _ _ _ _ _ _=>b.getD j (.Pass ⟨0,0,0,0⟩)
 |_=>.Pass ⟨0,0,0,0⟩
noncomputable abbrev xU:List Str:=[ag2,"_law_k"]
noncomputable abbrev QK:List Str:=[agY,"_law_many"]
noncomputable abbrev A5:List Str:=[agY]
noncomputable abbrev QM:List Str:=[agY,"_law_days_here"]
noncomputable abbrev QN:List Str:=[agY,ag5]
noncomputable abbrev A6:List Str:=[agZ,ag1,ag0]
noncomputable abbrev QP:List Str:=[agZ]
noncomputable abbrev QQ:List Str:=[ag6,ag8,ag3]
noncomputable abbrev Gr:List Str:=["_law_marks"]
noncomputable abbrev Gs:List Str:=[ag7]
noncomputable abbrev PM:List Str:=[ag3]
noncomputable abbrev PN:List Str:=[agY,ag6]
noncomputable abbrev PQ:List Str:=["_law_e"]
noncomputable abbrev ke:List Str:=["word"]
noncomputable abbrev uB:List Str:=["words"]
noncomputable abbrev Fi:List Str:=["row"]
noncomputable abbrev Fj:List Str:=["marks"]
noncomputable abbrev PR:List Str:=["sheet"]
noncomputable abbrev Fm:List Str:=["places"]
noncomputable abbrev Fn:List Str:=["things"]
noncomputable abbrev cC:List Str:=["thing"]
noncomputable abbrev Fo:List Str:=["thing","many"]
noncomputable abbrev Fp:List Str:=["marks","others"]
noncomputable abbrev Fq:List Str:=["pages","mould","mark","half"]
noncomputable abbrev xp:List Str:=["pages","mould","mark"]
noncomputable abbrev Fs:List Str:=["days","day","later"]
noncomputable abbrev Ft:List Str:=["pages"]
noncomputable abbrev PU:List Str:=["page"]
noncomputable abbrev Fu:List Str:=["book"]
noncomputable abbrev AJ:List Str:=["book","mould","mark"]
noncomputable abbrev Fv:List Str:=["days_by_mark","day"]
noncomputable abbrev PV:List Str:=["book","mould"]
noncomputable abbrev Fx:List Str:=["book","mould","day"]
noncomputable abbrev PX:List Str:=["holds"]
noncomputable abbrev Fy:List Str:=["sheet","sure"]
noncomputable abbrev Fz:List Str:=["book","sheet"]
noncomputable abbrev FA:List Str:=["book","words"]
noncomputable abbrev kO:List Str:=["self"]
noncomputable abbrev FC:List Str:=["self","pages"]
noncomputable abbrev xq:List Str:=["self","page"]
noncomputable abbrev PY:List Str:=["self","row"]
noncomputable abbrev PZ:List Str:=["_law_call"]
noncomputable abbrev P0:List Str:=[agZ,ag7]
noncomputable abbrev P1:List Str:=[agZ,ag1,ag4]
noncomputable abbrev P2:List Str:=[ag5,ag9]
noncomputable abbrev P4:List Str:=[ag2]
structure bt (K:Ň) (mg:Str->Option á):Prop where
 SS:mg "ValueError"=ϋ
 ue:mg "all"=ϋ
 OG:mg "any"=ϋ
 ZC:mg "bool"=ϋ
 ja:mg "int"=ϋ
 eh:mg "isinstance"=ϋ
 jb:mg "len"=ϋ
 abN:mg "max"=ϋ
 abO:mg "min"=ϋ
 dX:mg "range"=ϋ
 Ua:mg "reversed"=ϋ
 abP:mg "set"=ϋ
 CB:mg "sorted"=ϋ
 mM:mg "str"=ϋ
 jC:mg "tuple"=ϋ
 abQ:mg "zip"=ϋ
 UY:gw K mg bZ "NoMarks"
 UZ:gw K mg bZ "NoSheet"
 V3:gw K mg bZ "NoPage"
 V4:gw K mg bZ "NoBook"
 U0:gw K mg bZ "NoMould"
 XW:gw K mg bZ "NoDay"
 V5:gw K mg bZ "NoSort"
 Ub:gw K mg bZ "NoNumber"
 Uc:gw K mg bZ "NoSheets"
 XX:gw K mg bZ "NoRun"
 Ud:gw K mg bZ "NoLaying"
 V6:gw K mg bZ "NoHeap"
 U1:gw K mg bZ "NoCount"
 XY:gw K mg bZ "Clash"
 V7:gw K mg bZ "NoDeed"
 V8:gw K mg bZ "NoText"
 XZ:gw K mg bZ "NoRow"
 U2:gw K mg bZ "TooMany"
 U3:gw K mg bZ "Lacking"
 SU:tX K bZ (.type "ValueError") anyS
 U4:nv K mg "NoMould"
 X0:nv K mg "NoDay"
 U5:nv K mg "NoSheet"
 V9:nv K mg "NoPage"
 Wa:nv K mg "NoBook"
 X1:nv K mg "NoRow"
 Wb:nv K mg "NoDeed"
 Mf:nv K mg "Clash"
 SV:RS K mg bZ "MouldError"
 qS:∃t,mg "MARKS"=ϊ (.int (8) t)
 v7:∃t,mg "MOULDS"=ϊ (.int (4) t)
 qY:∃t,mg "DAYS"=ϊ (.int (31) t)
 C9:∃t,mg "PAGES"=ϊ (.int (24) t)
 ug:∃t,mg "HAS"=ϊ (.int (0) t)
 tN:∃t,mg "LACKS"=ϊ (.int (1) t)
 Ck:∃t,mg "LONGEST"=ϊ (.int (30) t)
 tm:∃t,mg "NOTHING"=ϊ (.str "-" t)
 Cm:∃t,mg "FIGURES"=ϊ (.str "0123456789" t)
 vJ:xR K "Diary" "books"
 vK:xR K "Desk" "diary"
 SW:GM K "Diary" "undo" "Diary.undo" (fz (top 52) 3) kO
 BJ:GM K "Diary" "book_now" "Diary.book_now" (fz (top 52) 4) kO
 JP:GM K "Diary" "keep" "Diary.keep" (fz (top 52) 5) FC
 Sr:GM K "Diary" "strike" "Diary.strike" (fz (top 52) 2) xq
 SX:GM K "Diary" "tell" "Diary.tell" (fz (top 52) 1) xq
 Cb:GM K "Desk" "say" "Desk.say" (fz (top 78) 1) PY
 X2:GK K mg "Diary" "Diary.__init__" (fz (top 52) 0) kO
 ZD:GK K mg "Desk" "Desk.__init__" (fz (top 78) 0) kO
 Ue:GG K mg "_law_cell_at" (top 84) xU
 Wc:GG K mg "_law_state" (top 85) xU
 fK:GG K mg "_law_take" (top 86) QK
 CC:GG K mg "_law_sheet" (top 87) A5
 X3:GG K mg "_law_page" (top 88) QM
 X4:GG K mg "_law_deed" (top 100) QN
 Ss:GG K mg  ahb (top 89) A6
 Ug:GG K mg "_law_is_book" (top 90) QP
 Mh:GG K mg "_law_step" (top 99) QQ
 JG:GG K mg  ahc (top 96) Gr
 BN:GG K mg  ahd (top 97) Gs
 Mi:GG K mg "_law_line" (top 98) PM
 U6:GG K mg "_law_row_of" (top 103) PN
 X5:GG K mg "_law_asks" (top 101) A5
 Uh:GG K mg "_law_classes" (top 94) PQ
 JH:GG K mg "are_figures" (top 73) ke
 JD:GG K mg "is_sheet_word" (top 72) ke
 yX:GG K mg "is_number_word" (top 71) ke
 JA:GG K mg "are_page_words" (top 70) uB
 We:GG K mg "is_row" (top 80) uB
 Ui:GG K mg "words_of" (top 79) Fi
 Kh:GG K mg "marks_of" (top 76) ke
 Ki:GG K mg "sheet_of" (top 75) ke
 KJ:GG K mg "page_of" (top 74) uB
 JQ:GG K mg "marks_text" (top 67) Fj
 JR:GG K mg "sheet_text" (top 68) PR
 SF:GG K mg "places_text" (top 82) Fm
 J1:GG K mg "is_rising" (top 30) Fn
 Tv:GG K mg "is_number" (top 25) cC
 Cc:GG K mg "is_below" (top 26) Fo
 KL:GG K mg "is_mark" (top 27) cC
 J2:GG K mg "are_marks" (top 37) cC
 BW:GG K mg "are_apart" (top 39) Fp
 Kj:GG K mg "is_sheet" (top 38) cC
 Kk:GG K mg "is_mould" (top 28) cC
 Ls:GG K mg "is_day" (top 29) cC
 KN:GG K mg "is_page" (top 40) cC
 Uj:GG K mg "are_laid" (top 41) cC
 zl:GG K mg "days_seen" (top 46) Fq
 BO:GG K mg "days_mended" (top 47) xp
 Sn:GG K mg "is_any_behind" (top 45) Fs
 U7:GG K mg "clashes" (top 44) xp
 Tw:GG K mg "faults_of" (top 43) Ft
 KO:GG K mg "is_book" (top 42) cC
 BX:GG K mg "need_book" (top 50) cC
 Tx:GG K mg "page_text" (top 69) PU
 Tz:GG K mg "book_text" (top 66) Fu
 SY:GG K mg "need_mould" (top 31) cC
 Uk:GG K mg "need_day" (top 32) cC
 Su:GG K mg "days_present" (top 58) AJ
 SG:GG K mg "days_absent" (top 59) AJ
 Kl:GG K mg "marks_on" (top 57) Fv
 JI:GG K mg "sure_sheets" (top 56) PV
 Wf:GG K mg "surely" (top 54) Fx
 S0:GG K mg "need_sheet" (top 48) cC
 TB:GG K mg "stretches" (top 61) PX
 X6:GG K mg "agree" (top 60) Fy
 TC:GG K mg "places_of" (top 55) Fz
 Wg:GG K mg "answer" (top 81) FA
 J3:GG K mg "need_page" (top 49) cC
 DU:GG K mg "_law_met" (top 95) PZ
 Mj:GG K mg "_law_days" (top 91) A6
 Wh:GG K mg "_law_where" (top 93) P0
 U8:GG K mg "_law_surely" (top 92) P1
 KP:GG K mg "_law_answer" (top 102) P2
section
variable {P:ù} {w:ĩ} {K:Ň} {mg:Str->Option á} {base:ū}
def Ul (F:bt K mg):bQ P w K mg base "_law_cell_at" (top 84) xU 1 vW:=λ{_ _} G =>
 bS G xU (by kernel_rfl) λY _ _ _ _ _ _ Z=>(aA (bG (aZ (xO Z) (af 1) (cY jh rfl F.jb jk (aq (af 0))) (ba _)) (ax (aT (aS (af 0) (af 1)))) bJ) (ax (aT ao)))
def Wi (F:bt K mg):bQ P w K mg base "_law_state" (top 85) xU 2 zB:=λ{_ _} G =>
 bS G [ag2,"_law_k","_law_cell"] (by kernel_rfl) λZ _ _ _ _ _ _ Y=>(aA (bA 2 Z (aN F.Ue (Ul F) Y (aM (af 0) (af 1)))) (aA (bG (aZ Qy (af 2) (bu E1 ao ao) (ba _)) (ax (aT (oy (aM (bu EZ (af 2) (bu E1 ao ao)) fR)))) bJ) (ax (aT (oy (aM (bu ux (af 2) ao) fR))))))
def fL (F:bt K mg):bQ P w K mg base "_law_take" (top 86) QK 1 eD:=λ{_ _} G =>
 bS G [agY,"_law_many","_law_found","_law_mixed"] (by kernel_rfl) λZ _ _ _ _ _ _ Y=>(aA (bG (eG (aS (af 0) ao)) (aA (bA 2 Z (bu ux (aS (af 0) ao) (af 1))) (aA (E3 (bu Az (aS (af 0) ao) (af 1)) (af 0) ao) (ax (aT (af 2))))) bJ) (aA (E3 (bu ux (bu cu (bu kN (aS (af 0) ao) ao) ao) ao) (af 0) ao) (aA (bA 3 Z (bu ux (bu cu (bu cu (bu kN (aS (af 0) ao) (aS (af 0) ao)) (bu kN ao (aS (af 0) ao))) ao) ao)) (aA (bA 3 Z (bu ux (bu cu (bu kN (af 3) (af 3)) (bu kN ao (af 3))) ao)) (ax (aT (bu ux (bu Az (af 3) ao) (af 1))))))))
def CD (F:bt K mg):bQ P w K mg base "_law_sheet" (top 87) A5 2 wb:=λ{_ _} G =>
 bS G [agY,"_law_many",aha,"_law_has"] (by kernel_rfl) λY _ _ _ _ _ _ Z=>(aA (bA 1 Y (aS (cO (fk ao ao ao)) (aN F.fK (fL F) Z (aM (af 0) ao)))) (aA (bA 2 Y (ef [ag0,agY] (eY rfl F.dX (aq (af 1))) (λ_ _ _ _ _ _=>⟨ee,(aN F.fK (fL F) Z (aM (af 1) ao))⟩))) (aA (bA 3 Y (df mC rfl F.jC jF (aq (ef [ag0,aha] (eY rfl F.dX (aq (af 1))) (λ_ _ _ _ _ _=>⟨(mQ (aZ (bL Z) (aS (af 1) (af 0)) ao (ba _))),(af 0)⟩))))) (ax (aT (bo (aM (af 3) (df mC rfl F.jC jF (aq (ef [ag0,aha] (eY rfl F.dX (aq (af 1))) (λ_ _ _ _ _ _=>⟨(mQ (aZ (bL Z) (aS (af 1) (af 0)) ao (ba _))),(af 0)⟩)))))))))))
def X7 (F:bt K mg):bQ P w K mg base "_law_page" (top 88) QM 3 DP:=λ{_ _} G =>
 bS G [agY,"_law_days_here",ag1,ag4] (by kernel_rfl) λY _ _ _ _ _ _ Z=>(aA (Eo 2 3 rfl Y (aM (aS (cO (aM ao (aN F.fK (fL F) Z (aM (af 0) ao)))) (aN F.fK (fL F) Z (aM (af 0) ao))) (aN F.fK (fL F) Z (aM (af 0) (af 1))))) (aA (bG (aZ (bL Z) (aN F.fK (fL F) Z (aM (af 0) ao)) ao (ba _)) (ax (aT (bo (bj aI (bj (af 2) (bj (af 3) (bj (aN F.fK (fL F) Z (aM (af 0) (aS (cO (fk ao ao ao)) (aN F.fK (fL F) Z (aM (af 0) ao))))) bX))))))) bJ) (ax (aT (bo (bj aI (bj (af 2) (bj (af 3) (bj (aN F.CC (CD F) Z (aq (af 0))) bX)))))))))
def X8 (F:bt K mg):bQ P w K mg base "_law_deed" (top 100) QN 4 DQ:=λ{_ _} G =>
 bS G [agY,ag5,ag8,ag3] (by kernel_rfl) λY _ _ _ _ _ _ Z=>(aA (bA 2 Y (aS (cO (bj aI (bj aI (bj aI (bj aI (bj aI bX)))))) (aN F.fK (fL F) Z (aM (af 0) ao)))) (aA (bA 3 Y (aN F.X3 (X7 F) Z (aM (af 0) (aS (cO (aM ao ao)) (aN F.fK (fL F) Z (aM (af 0) ao)))))) (aA (bG (PW.pt (w_and (aZ (jO Z) (af 2) aI (ba _)) (w_and (aZ (jO Z) (af 1) (bo bX) (ba _)) (jH (aZ rT (aN F.fK (fL F) Z (aM (af 0) ao)) (bu cu ao (bu kN ao (df pY rfl F.ja jj (aq (c9 (bL Z) (af 2) aI (ba _)))))) (ba _)))))) (ax (bA 3 Y (aS (af 1) (aN F.fK (fL F) Z (aM (af 0) (cY jh rfl F.jb jk (aq (af 1)))))))) bJ) (ax (aT (bo (aM (af 2) (af 3))))))))
def Sv (F:bt K mg):bQ P w K mg base  ahb (top 89) A6 1 BM:=λ{_ _} G =>
 bS G [agZ,ag1,ag0,"_law_shown","_law_lacked","_law_mended",ag3,"_law_sure",ag4] (by kernel_rfl) λY _ _ _ _ _ _ Z=>(aA (Ov 3 4 5 rfl Y (fk (cO bX) (cO bX) (oy bX))) (aA (iR ċ rfl (fC (af 0)) (bR 6 Y) (aA (bG (PW.pt (w_and (aZ (bL Z) (aS (af 6) ao) aI (ba _)) (w_and (aZ (bL Z) (aS (af 6) ao) (af 1) (ba _)) (jH (aZ (bL Z) (aS (af 6) ao) (af 2) (ba _)))))) (ax (gb (rD (af 5) (aS (af 6) ao)))) bJ) (ax (bG (PW.pt (w_and (aZ (bL Z) (aS (af 6) ao) aI (ba _)) (jH (aZ (bL Z) (aS (af 6) ao) (af 1) (ba _))))) (aA (bA 3 Y (bu cu (af 3) (bu kN (cO (aq (aS (af 6) ao))) (df pY rfl F.ja jj (aq (c9 (eO Z) (af 2) (aS (aS (af 6) ao) ao) rfl)))))) (ax (bA 4 Y (bu cu (af 4) (bu kN (cO (aq (aS (af 6) ao))) (df pY rfl F.ja jj (aq (c9 (eO Z) (af 2) (aS (aS (af 6) ao) ao) rfl)))))))) bJ)))) (aA (bA 7 Y fR) (aA (iR ċ rfl (eY rfl F.dX (aq ao)) (bR 8 Y) (aA (bG (PW.pt (w_and (aZ (eO Z) (af 8) (af 5) rfl) (jH (aZ (eO Z) (af 8) (af 3) rfl)))) (ax (aT fR)) bJ) (aA (bA 7 Y (qb (c9 (eO Z) (af 8) (af 3) rfl) (dJ (fu (af 7) (dJ (c9 (qW Z) (af 8) (af 5) rfl)))))) (ax (bG (PW.pt (w_and (eG (af 7)) (jH (aZ (eO Z) (af 8) (af 4) rfl)))) (ax (aT fR)) bJ))))) (ax (aT fR))))))
def Um (F:bt K mg):bQ P w K mg base "_law_is_book" (top 90) QP 2 Ci:=λ{_ _} G =>
 bS G [agZ,ag1,ag0] (by kernel_rfl) λZ _ _ _ _ _ _ Y=>(aA (bG (aZ rT (cY jh rfl F.jb jk (aq (af 0))) ao (ba _)) (ax (aT fR)) bJ) (aA (iR ċ rfl (eY rfl F.dX (aq ao)) (bR 1 Z) (ax (iR ċ rfl (eY rfl F.dX (aq ao)) (bR 2 Z) (ax (bG (ig (eG (aN F.Ss (Sv F) Y (fk (af 0) (af 1) (af 2))))) (ax (aT fR)) bJ))))) (ax (aT fR))))
def Ml (F:bt K mg):bQ P w K mg base "_law_step" (top 99) QQ 3 wx:=λ{_ _} G =>
 bS G [ag6,ag8,ag3,ag5,"_law_other"] (by kernel_rfl) λY _ _ _ _ _ _ Z=>(aA (Eo 3 4 rfl Y (aM (aS (af 0) (nh mR ao)) ox)) (aA (bG (aZ (bL Z) (af 1) aI (ba _)) (ax (aT (ni (aZ rT (cY jh rfl F.jb jk (aq (af 0))) ao (ba _)) (bo (aM (A1 (af 0) xJ (xh (nh mR ao))) (bo (aM aI ox)))) (bo (aM (af 0) (bo (aM aI ao))))))) bJ) (aA (bG (aZ (bL Z) (c9 (eO Z) (af 2) (af 3) rfl) (c9 (bL Z) (af 1) aI (ba _)) (ba _)) (ax (aT (bo (aM (af 0) (bo (aM aI ao)))))) bJ) (aA (bA 4 Y (df mC rfl F.jC jF (aq (ef ["_law_one",ag3] (fC (af 3)) (λ_ _ _ _ _ _=>⟨(mQ (aZ (jO Z) (af 0) (af 1) (ba _))),(af 0)⟩))))) (aA (bG (aZ (bL Z) (af 1) aI (ba _)) (ax (bA 4 Y (df mC rfl F.jC jF (aq (cY (TK.Ma Z) rfl F.CB CY (aq (bu cu (af 3) (bo (aq (af 2)))))))))) bJ) (aA (bG (ig (eG (aN F.Ug (Um F) Z (aq (af 4))))) (ax (aT (bo (aM (af 0) (bo (aM aI ao)))))) bJ) (ax (aT (bo (aM (bu cu (af 0) (cO (aq (af 4)))) (bo (aM aI ox))))))))))))
def JJ (F:bt K mg):bQ P w K mg base  ahc (top 96) Gr 1 zf:=λ{_ _} G =>
 bS G Gr (by kernel_rfl) λY _ _ _ _ _ _ Z=>(ax (aT (ni (aZ (jO Z) (af 0) (bo bX) (ba _)) (rj aI (ef [ag0] (fC (af 0)) (λ_ _ _ _ _ _=>⟨ee,(df oE rfl F.mM mT (aq (af 0)))⟩))) aI)))
def BP (F:bt K mg):bQ P w K mg base  ahd (top 97) Gs 2 qG:=λ{_ _} G =>
 bS G Gs (by kernel_rfl) λY _ _ _ _ _ _ Z=>(ax (aT (bu cu (bu cu (aN F.JG (JJ F) Z (aq (aS (af 0) ao))) aI) (aN F.JG (JJ F) Z (aq (aS (af 0) ao))))))
def Mm (F:bt K mg):bQ P w K mg base "_law_line" (top 98) PM 3 zS:=λ{_ _} G =>
 bS G [ag3,"_law_last"] (by kernel_rfl) λY _ _ _ _ _ _ Z=>(aA (bA 1 Y (ni (aZ (bL Z) (aS (af 0) ao) aI (ba _)) (aN F.BN (BP F) Z (aq (aS (af 0) ao))) (df oE rfl F.mM mT (aq (aS (af 0) ao))))) (ax (aT (bu cu (bu cu (bu cu (bu cu (bu cu (bu cu (aS (af 0) ao) aI) (df oE rfl F.mM mT (aq (aS (af 0) ao)))) aI) (df oE rfl F.mM mT (aq (aS (af 0) ao)))) aI) (af 1)))))
def U9 (F:bt K mg):bQ P w K mg base "_law_row_of" (top 103) PN 5 Cy:=λ{_ _} G =>
 bS G [agY,ag6,ag8,ag3,"_law_bad","_law_row"] (by kernel_rfl) λY _ _ _ _ _ _ Z=>(aA (j8 (aN F.X4 (X8 F) Z (aM (af 0) (aS (af 1) (nh mR ao)))) (lR rfl (cJ (bR 2 Y) (cJ (bR 3 Y) jI)))) (aA (bG (aZ (bL Z) (aN F.fK (fL F) Z (aM (af 0) ao)) ao (ba _)) (aA (bA 4 Y (cO (bj aI (bj aI (bj aI (bj aI (bj aI (bj aI bX)))))))) (aA (bA 4 Y (bu cu (af 4) (cO (bj (bu cu (bu cu aI (bu OC aI ao)) aI) (bj (bu cu (bu cu aI (bu OC aI ao)) aI) (bj aI (bj aI bX))))))) (aA (bA 5 Y (aS (af 4) (aN F.fK (fL F) Z (aM (af 0) ao)))) (ax (aT (bo (aM (bu cu (aS (cO (aM aI aI)) (aN F.fK (fL F) Z (aM (af 0) ao))) (af 5)) (bo (aM (af 1) (bo (aM aI ao))))))))))) bJ) (aA (bG (aZ (bL Z) (af 2) aI (ba _)) (ax (aT (bo (aM aI (aN F.Mh (Ml F) Z (fk (af 1) (af 2) (af 3))))))) bJ) (ax (aT (bo (aM (bu cu (aS (cO (aM aI aI)) (df pY rfl F.ja jj (aq (c9 (bL Z) (af 2) aI (ba _))))) (aN F.Mi (Mm F) Z (aq (af 3)))) (aN F.Mh (Ml F) Z (fk (af 1) (af 2) (af 3))))))))))
def X9 (F:bt K mg):bQ P w K mg base "_law_asks" (top 101) A5 3 DR:=λ{_ _} G =>
 bS G [agY,ag1,ag4,ag7,"_law_way"] (by kernel_rfl) λY _ _ _ _ _ _ Z=>(aA (bA 1 Y (aS (cO (fk (aN F.fK (fL F) Z (aM (af 0) ao)) ao (bu E1 ao ao))) (bu Az (aN F.fK (fL F) Z (aM (af 0) ao)) ao))) (aA (bA 2 Y (aS (cO (aM (aN F.fK (fL F) Z (aM (af 0) ao)) ao)) (bu Az (aN F.fK (fL F) Z (aM (af 0) ao)) ao))) (aA (bA 3 Y (aS (cO (bj (aN F.CC (CD F) Z (aq (af 0))) (bj (aN F.CC (CD F) Z (aq (af 0))) (bj (bo (aM (bo (aq ao)) (bo bX))) (bj (bo (aM (bo (aq ao)) (bo (aq ao)))) (bj (bo (aM (bo (aM ao ao)) (bo bX))) bX)))))) (aN F.fK (fL F) Z (aM (af 0) ao)))) (aA (bA 4 Y (aN F.fK (fL F) Z (aM (af 0) ao))) (aA (bG (aZ (bL Z) (af 4) ao (ba _)) (ax (aT (bo (aM aI (bo bX))))) bJ) (aA (bG (aZ (bL Z) (af 4) ao (ba _)) (ax (aT (bo (aM (bu cu (bu cu (bu cu aI (df oE rfl F.mM mT (aq (af 1)))) aI) (df oE rfl F.mM mT (aq (af 2)))) (bo (aM (af 1) (af 2))))))) bJ) (ax (aT (bo (aM (bu cu aI (aN F.BN (BP F) Z (aq (af 3)))) (af 3)))))))))))
def Uo (F:bt K mg):RT P w K mg base "_law_classes" (top 94) PQ 1 KI:=λ{_ _} G =>
 adv G ["_law_e","_law_found"] (by kernel_rfl) λZ _ _ _ _ _ _ Y=>(aA (bA 1 Z (cO (bj (gW F.UY (af 0) F.eh) (bj (gW F.UZ (af 0) F.eh) (bj (gW F.V3 (af 0) F.eh) (bj (gW F.V4 (af 0) F.eh) bX)))))) (aA (bA 1 Z (bu cu (af 1) (cO (bj (gW F.U0 (af 0) F.eh) (bj (gW F.XW (af 0) F.eh) (bj (gW F.V5 (af 0) F.eh) (bj (gW F.Ub (af 0) F.eh) bX))))))) (aA (bA 1 Z (bu cu (af 1) (cO (bj (gW F.Uc (af 0) F.eh) (bj (gW F.XX (af 0) F.eh) (bj (gW F.Ud (af 0) F.eh) (bj (gW F.V6 (af 0) F.eh) bX))))))) (aA (bA 1 Z (bu cu (af 1) (cO (bj (gW F.U1 (af 0) F.eh) (bj (gW F.XY (af 0) F.eh) (bj (gW F.V7 (af 0) F.eh) (bj (gW F.V8 (af 0) F.eh) bX))))))) (ax (aT (bu cu (af 1) (cO (fk (gW F.XZ (af 0) F.eh) (gW F.U2 (af 0) F.eh) (gW F.U3 (af 0) F.eh))))))))))
def JK (F:bt K mg):bQ P w K mg base "are_figures" (top 73) ke 1 zg:=λ{_ _} G =>
 bS G ke (by kernel_rfl) λZ _ _ _ _ _ _ Y=>(ax (aT (fu (M6 A0 A0 ao (cY jh rfl F.jb jk (aq (af 0))) (fF F.Ck rfl)) (dJ (cY (uy rfl) rfl F.ue uz (aq (ef ["sign"] (PK (af 0)) (λ_ _ _ _ _ _=>⟨ee,(c9 adB (af 0) (xT F.Cm rfl) rfl)⟩))))))))
def JE (F:bt K mg):bQ P w K mg base "is_sheet_word" (top 72) ke 2 zb:=λ{_ _} G =>
 bS G ["word","halves"] (by kernel_rfl) λY _ _ _ _ _ _ Z=>(aA (bA 1 Y (zR (af 0) aI)) (ax (aT (fu (c9 (bL Z) (cY jh rfl F.jb jk (aq (af 1))) ao (ba _)) (dJ (cY (uy rfl) rfl F.ue uz (aq (ef ["half"] (fC (af 1)) (λ_ _ _ _ _ _=>⟨ee,(qb (c9 (bL Z) (af 0) (xT F.tm rfl) (ba _)) (dJ (aN F.JH (JK F) Z (aq (af 0)))))⟩)))))))))
def yY (F:bt K mg):bQ P w K mg base "is_number_word" (top 71) ke 2 sR:=λ{_ _} G =>
 bS G ke (by kernel_rfl) λY _ _ _ _ _ _ Z=>(ax (aT (fu (aN F.JH (JK F) Z (aq (af 0))) (dJ (qb (c9 (jO Z) (aS (af 0) ao) aI (ba _)) (dJ (c9 (bL Z) (af 0) aI (ba _))))))))
def JB (F:bt K mg):bQ P w K mg base "are_page_words" (top 70) uB 3 yZ:=λ{_ _} G =>
 bS G ["words","word","mould","day","what"] (by kernel_rfl) λY _ _ _ _ _ _ Z=>(aA (bG (aZ (jO Z) (cY jh rfl F.jb jk (aq (af 0))) ao (ba _)) (ax (aT fR)) bJ) (aA (j8 (af 0) (Fe rfl (cJ (bR 1 Y) (cJ (bR 2 Y) (cJ (bR 3 Y) (cJ (bR 4 Y) jI)))))) (aA (bG (PW.pt (w_or (ig (eG (aN F.yX (yY F) Z (aq (af 2))))) (kL (ig (eG (aN F.yX (yY F) Z (aq (af 3)))))))) (ax (aT fR)) bJ) (aA (bG (aZ (bL Z) (af 1) aI (ba _)) (ax (aT (aN F.JD (JE F) Z (aq (af 4))))) bJ) (ax (aT (fu (c9 (bL Z) (af 1) aI (ba _)) (dJ (aN F.yX (yY F) Z (aq (af 4)))))))))))
def Wj (F:bt K mg):bQ P w K mg base "is_row" (top 80) uB 4 zC:=λ{_ _} G =>
 bS G ["words","head","rest"] (by kernel_rfl) λY _ _ _ _ _ _ Z=>(aA (Eo 1 2 rfl Y (aM (aS (af 0) ao) (A1 (af 0) (xh ao) xJ))) (aA (bG (aZ (bL Z) (af 1) aI (ba _)) (ax (aT (aN F.JA (JB F) Z (aq (af 2))))) bJ) (aA (bG (aZ (bL Z) (af 1) aI (ba _)) (ax (aT (fu (c9 (bL Z) (cY jh rfl F.jb jk (aq (af 2))) ao (ba _)) (dJ (cY (uy rfl) rfl F.ue uz (aq (ef ["word"] (fC (af 2)) (λ_ _ _ _ _ _=>⟨ee,(aN F.yX (yY F) Z (aq (af 0)))⟩)))))))) bJ) (aA (bG (aZ (bL Z) (af 1) aI (ba _)) (ax (aT (fu (c9 (bL Z) (cY jh rfl F.jb jk (aq (af 2))) ao (ba _)) (dJ (aN F.JD (JE F) Z (aq (aS (af 2) ao))))))) bJ) (aA (bG (PW.pt (w_or (aZ (bL Z) (af 1) aI (ba _)) (kL (aZ (bL Z) (af 1) aI (ba _))))) (ax (aT (c9 (bL Z) (af 2) (cO bX) (ba _)))) bJ) (ax (aT (aN F.JA (JB F) Z (aq (af 0))))))))))
def Uq (F:bt K mg):mj P w K mg base "words_of" (top 79) Fi 5 nT:=λ{_ _} G =>
 mI G Fi (by kernel_rfl) λY _ _ _ _ _ _ Z L=>(aA (bG (PW.pt (w_or (ig (eG (cY rE rfl F.eh nS (aM (af 0) (rV mT rfl F.mM))))) (kL (ig (eG (aN F.We (Wj F) Z (aq (zR (af 0) aI)))))))) (ax (n6 L F.X1 (aq aI))) bJ) (ax (aT (zR (af 0) aI))))
def Km (F:bt K mg):bQ P w K mg base "marks_of" (top 76) ke 1 zu:=λ{_ _} G =>
 bS G ke (by kernel_rfl) λY _ _ _ _ _ _ Z=>(aA (bG (aZ (bL Z) (af 0) (xT F.tm rfl) (ba _)) (ax (aT (bo bX))) bJ) (ax (aT (df mC rfl F.jC jF (aq (ef ["figure"] (PK (af 0)) (λ_ _ _ _ _ _=>⟨ee,(df ua rfl F.ja jj (aq (af 0)))⟩)))))))
def Ko (F:bt K mg):bQ P w K mg base "sheet_of" (top 75) ke 2 vY:=λ{_ _} G =>
 bS G ["word","has","lacks"] (by kernel_rfl) λZ _ _ _ _ _ _ Y=>(aA (j8 (zR (af 0) aI) (Fe rfl (cJ (bR 1 Z) (cJ (bR 2 Z) jI)))) (ax (aT (bo (aM (aN F.Kh (Km F) Y (aq (af 1))) (aN F.Kh (Km F) Y (aq (af 2))))))))
def KQ (F:bt K mg):bQ P w K mg base "page_of" (top 74) uB 3 tH:=λ{_ _} G =>
 bS G ["words","word","mould","day","what","last"] (by kernel_rfl) λZ _ _ _ _ _ _ Y=>(aA (j8 (af 0) (Fe rfl (cJ (bR 1 Z) (cJ (bR 2 Z) (cJ (bR 3 Z) (cJ (bR 4 Z) jI)))))) (aA (bA 5 Z (ni (aZ (bL Y) (af 1) aI (ba _)) (aN F.Ki (Ko F) Y (aq (af 4))) (df ua rfl F.ja jj (aq (af 4))))) (ax (aT (bo (bj (af 1) (bj (df ua rfl F.ja jj (aq (af 2))) (bj (df ua rfl F.ja jj (aq (af 3))) (bj (af 5) bX)))))))))
def JS (F:bt K mg):bQ P w K mg base "marks_text" (top 67) Fj 1 zj:=λ{_ _} G =>
 bS G Fj (by kernel_rfl) λZ _ _ _ _ _ _ Y=>(ax (aT (Fg (rj aI (ef ["mark"] (fC (af 0)) (λ_ _ _ _ _ _=>⟨ee,(df oE rfl F.mM mT (aq (af 0)))⟩))) (dJ (xT F.tm rfl)))))
def JT (F:bt K mg):bQ P w K mg base "sheet_text" (top 68) PR 2 vL:=λ{_ _} G =>
 bS G ["sheet","has","lacks"] (by kernel_rfl) λZ _ _ _ _ _ _ Y=>(aA (j8 (af 0) (lR rfl (cJ (bR 1 Z) (cJ (bR 2 Z) jI)))) (ax (aT (bu cu (bu cu (aN F.JQ (JS F) Y (aq (af 1))) aI) (aN F.JQ (JS F) Y (aq (af 2)))))))
def SH (F:bt K mg):bQ P w K mg base "places_text" (top 82) Fm 1 BS:=λ{_ _} G=>by
 have Z:(["mould","first","last"]:List Str).Nodup:=nofun
 exact bS G Fm (by kernel_rfl) λY _ _ _ _ _ _ X=>(ax (aT (Fg (rj aI (DM (N:=["mould","first","last"]) (nt:=3) (cap:=[]) rfl (AA (by kernel_rfl)) (Af (nX 0 (nX 1 (nX 2 zO)))) (fC (af 0)) (λcl C s H ex W=>⟨(wD rfl (mB (ix (i:=0) Z rfl (ŷ rfl)) (mB (ix (i:=1) Z rfl (ŷ rfl)) (mB (ix (i:=2) Z rfl (ŷ rfl)) wo)))),ee,(OB (hZ.cons (rL (af 0)) (hZ.cons aI (hZ.cons (rL (af 1)) (hZ.cons aI (hZ.cons (rL (af 2)) hZ.nil))))))⟩))) (dJ aI))))
def J4 (F:bt K mg):bQ P w K mg base "is_rising" (top 30) Fn 1 qI:=λ{_ _} G=>by
 have Z:(["ahead","behind"]:List Str).Nodup:=nofun
 exact bS G Fn (by kernel_rfl) λX _ _ _ _ _ _ Y=>(ax (aT (cY (uy rfl) rfl F.ue uz (aq (DM (N:=["ahead","behind"]) (nt:=2) (cap:=[]) rfl (AA (by kernel_rfl)) (Af (nX 0 (nX 1 zO))) (ac3 rfl F.abQ (aM (af 0) (A1 (af 0) (xh ao) xJ))) (λcl C s H ex W=>⟨(wD rfl (mB (ix (i:=0) Z rfl (ŷ rfl)) (mB (ix (i:=1) Z rfl (ŷ rfl)) wo))),ee,(c9 (xO Y) (af 0) (af 1) (ba _))⟩))))))
def TF (F:bt K mg):bQ P w K mg base "is_number" (top 25) cC 1 B7:=λ{_ _} G =>
 bS G cC (by kernel_rfl) λZ _ _ _ _ _ _ Y=>(ax (aT (fu (cY rE rfl F.eh nS (aM (af 0) (rV jj rfl F.ja))) (fu (Pd (cY rE rfl F.eh nS (aM (af 0) (rV abe rfl F.ZC)))) (dJ (c9 Qy (af 0) ao (ba _)))))))
def Cd (F:bt K mg):bQ P w K mg base "is_below" (top 26) Fo 2 sZ:=λ{_ _} G =>
 bS G Fo (by kernel_rfl) λY _ _ _ _ _ _ Z=>(ax (aT (fu (aN F.Tv (TF F) Z (aq (af 0))) (dJ (c9 (xO Z) (af 0) (af 1) (ba _))))))
def KR (F:bt K mg):bQ P w K mg base "is_mark" (top 27) cC 3 tB:=λ{_ _} G =>
 bS G cC (by kernel_rfl) λY _ _ _ _ _ _ Z=>(ax (aT (aN F.Cc (Cd F) Z (aM (af 0) (fF F.qS rfl)))))
def J5 (F:bt K mg):bQ P w K mg base "are_marks" (top 37) cC 4 vQ:=λ{_ _} G =>
 bS G cC (by kernel_rfl) λY _ _ _ _ _ _ Z=>(ax (aT (fu (cY rE rfl F.eh nS (aM (af 0) (rV jF rfl F.jC))) (fu (cY (uy rfl) rfl F.ue uz (aq (ef ["mark"] (fC (af 0)) (λ_ _ _ _ _ _=>⟨ee,(aN F.KL (KR F) Z (aq (af 0)))⟩)))) (dJ (aN F.J1 (J4 F) Z (aq (af 0))))))))
def BY (F:bt K mg):bQ P w K mg base "are_apart" (top 39) Fp 1 sV:=λ{_ _} G =>
 bS G Fp (by kernel_rfl) λY _ _ _ _ _ _ Z=>(ax (aT (Pd (cY (Ph rfl) rfl F.OG Po (aq (ef ["mark","others"] (fC (af 0)) (λ_ _ _ _ _ _=>⟨ee,(c9 (eO Z) (af 0) (af 1) rfl)⟩)))))))
def Kq (F:bt K mg):bQ P w K mg base "is_sheet" (top 38) cC 5 qK:=λ{_ _} G =>
 bS G ["thing","has","lacks"] (by kernel_rfl) λY _ _ _ _ _ _ Z=>(aA (bG (PW.pt (w_or (ig (eG (cY rE rfl F.eh nS (aM (af 0) (rV jF rfl F.jC))))) (kL (aZ (jO Z) (cY jh rfl F.jb jk (aq (af 0))) ao (ba _))))) (ax (aT fR)) bJ) (aA (j8 (af 0) (lR rfl (cJ (bR 1 Y) (cJ (bR 2 Y) jI)))) (ax (aT (fu (aN F.J2 (J5 F) Z (aq (af 1))) (fu (aN F.J2 (J5 F) Z (aq (af 2))) (dJ (aN F.BW (BY F) Z (aM (af 1) (af 2))))))))))
def Kr (F:bt K mg):bQ P w K mg base "is_mould" (top 28) cC 3 tj:=λ{_ _} G =>
 bS G cC (by kernel_rfl) λY _ _ _ _ _ _ Z=>(ax (aT (aN F.Cc (Cd F) Z (aM (af 0) (fF F.v7 rfl)))))
def Lu (F:bt K mg):bQ P w K mg base "is_day" (top 29) cC 3 tM:=λ{_ _} G =>
 bS G cC (by kernel_rfl) λY _ _ _ _ _ _ Z=>(ax (aT (aN F.Cc (Cd F) Z (aM (af 0) (fF F.qY rfl)))))
def KS (F:bt K mg):bQ P w K mg base "is_page" (top 40) cC 6 tF:=λ{_ _} G =>
 bS G ["thing","word","mould","day","what"] (by kernel_rfl) λY _ _ _ _ _ _ Z=>(aA (bG (PW.pt (w_or (ig (eG (cY rE rfl F.eh nS (aM (af 0) (rV jF rfl F.jC))))) (kL (aZ (jO Z) (cY jh rfl F.jb jk (aq (af 0))) ao (ba _))))) (ax (aT fR)) bJ) (aA (j8 (af 0) (lR rfl (cJ (bR 1 Y) (cJ (bR 2 Y) (cJ (bR 3 Y) (cJ (bR 4 Y) jI)))))) (aA (bG (PW.pt (w_or (ig (eG (aN F.Kk (Kr F) Z (aq (af 2))))) (kL (ig (eG (aN F.Ls (Lu F) Z (aq (af 3)))))))) (ax (aT fR)) bJ) (aA (bG (aZ (bL Z) (af 1) aI (ba _)) (ax (aT (aN F.Kj (Kq F) Z (aq (af 4))))) bJ) (ax (aT (fu (c9 (bL Z) (af 1) aI (ba _)) (dJ (aN F.KL (KR F) Z (aq (af 4)))))))))))
def Ur (F:bt K mg):bQ P w K mg base "are_laid" (top 41) cC 7 zt:=λ{_ _} G =>
 bS G cC (by kernel_rfl) λY _ _ _ _ _ _ Z=>(ax (aT (fu (cY rE rfl F.eh nS (aM (af 0) (rV jF rfl F.jC))) (fu (c9 A0 (cY jh rfl F.jb jk (aq (af 0))) (fF F.C9 rfl) (ba _)) (fu (cY (uy rfl) rfl F.ue uz (aq (ef ["page"] (fC (af 0)) (λ_ _ _ _ _ _=>⟨ee,(aN F.KN (KS F) Z (aq (af 0)))⟩)))) (dJ (aN F.J1 (J4 F) Z (aq (af 0)))))))))
def zm (F:bt K mg):bQ P w K mg base "days_seen" (top 46) Fq 1 my:=λ{_ _} G =>
 bS G Fq (by kernel_rfl) λY _ _ _ _ _ _ Z=>(ax (aT (ef ["page","mould","mark","half"] (fC (af 0)) (λ_ _ _ _ _ _=>⟨(mQ (PW.pt (w_and (aZ (bL Z) (aS (af 0) ao) aI (ba _)) (w_and (aZ (bL Z) (aS (af 0) ao) (af 1) (ba _)) (jH (aZ (eO Z) (af 2) (aS (aS (af 0) ao) (af 3)) rfl)))))),(aS (af 0) ao)⟩))))
def BQ (F:bt K mg):bQ P w K mg base "days_mended" (top 47) xp 1 sS:=λ{_ _} G =>
 bS G xp (by kernel_rfl) λY _ _ _ _ _ _ Z=>(ax (aT (ef ["page","mould","mark"] (fC (af 0)) (λ_ _ _ _ _ _=>⟨(mQ (PW.pt (w_and (aZ (bL Z) (aS (af 0) ao) aI (ba _)) (w_and (aZ (bL Z) (aS (af 0) ao) (af 1) (ba _)) (jH (aZ (bL Z) (aS (af 0) ao) (af 2) (ba _))))))),(aS (af 0) ao)⟩))))
def So (F:bt K mg):bQ P w K mg base "is_any_behind" (top 45) Fs 1 za:=λ{_ _} G =>
 bS G Fs (by kernel_rfl) λY _ _ _ _ _ _ Z=>(ax (aT (cY (Ph rfl) rfl F.OG Po (aq (ef ["other","day","later"] (fC (af 0)) (λ_ _ _ _ _ _=>⟨ee,(M6 (xO Z) A0 (af 1) (af 0) (af 2))⟩))))))
def Va (F:bt K mg):bQ P w K mg base "clashes" (top 44) xp 2 vZ:=λ{_ _} G=>by
 have Y:(["day","later","lacked","mended"]:List Str).Nodup:=nofun
 exact bS G ["pages","mould","mark","lacked","mended"] (by kernel_rfl) λX _ _ _ _ _ _ Z=>(aA (bA 3 X (aN F.zl (zm F) Z (bj (af 0) (bj (af 1) (bj (af 2) (bj (fF F.tN rfl) bX)))))) (aA (bA 4 X (aN F.BO (BQ F) Z (fk (af 0) (af 1) (af 2)))) (ax (aT (Nb (N:=["day","later","lacked","mended"]) (nt:=2) (cap:=[3,4]) rfl (EX (by kernel_rfl)) (qV 0) (wt 0) (qV 1) (wt 1) (fC (US (aN F.zl (zm F) Z (bj (af 0) (bj (af 1) (bj (af 2) (bj (fF F.ug rfl) bX))))) rfl rfl F.CB CY rfl F.abP ac7)) (λcl C s H ex W=>⟨(ix (i:=0) Y rfl (ŷ rfl)),ee,(aa4 rfl F.dX (aM (af 0) (fF F.qY rfl))),(ix (i:=1) Y rfl (ŷ rfl)),(mQ (PW.pt (w_and (PW.pt (w_or (aZ (eO Z) (af 1) (af 2) rfl) (kL (PW.pt (w_and (aZ (bL Z) (af 1) (af 0) (ba _)) (jH (aZ (eO Z) (af 0) (af 3) rfl))))))) (jH (ig (eG (aN F.Sn (So F) Z (fk (af 3) (af 0) (af 1))))))))),(bo (aM (af 0) (af 1)))⟩))))))
def TH (F:bt K mg):bQ P w K mg base "faults_of" (top 43) Ft 3 zp:=λ{_ _} G=>by
 have Z:(["mould","mark","day","later","pages"]:List Str).Nodup:=nofun
 exact bS G Ft (by kernel_rfl) λX _ _ _ _ _ _ Y=>(ax (aT (Zj (N:=["mould","mark","day","later","pages"]) (nt:=4) (cap:=[0]) rfl (EX (by kernel_rfl)) (qV 0) (wt 0) (qV 1) (wt 1) (Af (nX 2 (nX 3 zO))) (Aa [2,3]) (eY rfl F.dX (aq (fF F.v7 rfl))) (λcl C s H ex W=>⟨(ix (i:=0) Z rfl (ŷ rfl)),ee,(eY rfl F.dX (aq (fF F.qS rfl))),(ix (i:=1) Z rfl (ŷ rfl)),ee,(fC (aN F.U7 (Va F) Y (fk (af 4) (af 0) (af 1)))),(wD rfl (mB (ix (i:=2) Z rfl (ŷ rfl)) (mB (ix (i:=3) Z rfl (ŷ rfl)) wo))),ee,(bo (bj (af 0) (bj (af 1) (bj (af 2) (bj (af 3) bX)))))⟩))))
def KU (F:bt K mg):bQ P w K mg base "is_book" (top 42) cC 8 tG:=λ{_ _} G =>
 bS G cC (by kernel_rfl) λY _ _ _ _ _ _ Z=>(ax (aT (fu (aN F.Uj (Ur F) Z (aq (af 0))) (dJ (TK.abk (aN F.Tw (TH F) Z (aq (af 0))))))))
def BZ (F:bt K mg):mj P w K mg base "need_book" (top 50) cC 9 sW:=λ{_ _} G =>
 mI G cC (by kernel_rfl) λY _ _ _ _ _ _ Z L=>(ax (bG (ig (eG (aN F.KO (KU F) Z (aq (af 0))))) (ax (n6 L F.Wa (aq aI))) bJ))
def TJ (F:bt K mg):bQ P w K mg base "page_text" (top 69) PU 3 B9:=λ{_ _} G =>
 bS G ["page","word","mould","day","what","last"] (by kernel_rfl) λZ _ _ _ _ _ _ Y=>(aA (j8 (af 0) (lR rfl (cJ (bR 1 Z) (cJ (bR 2 Z) (cJ (bR 3 Z) (cJ (bR 4 Z) jI)))))) (aA (bA 5 Z (ni (aZ (bL Y) (af 1) aI (ba _)) (aN F.JR (JT F) Y (aq (af 4))) (df oE rfl F.mM mT (aq (af 4))))) (ax (aT (OB (hZ.cons (rL (af 1)) (hZ.cons aI (hZ.cons (rL (af 2)) (hZ.cons aI (hZ.cons (rL (af 3)) (hZ.cons aI (hZ.cons (rL (af 5)) hZ.nil))))))))))))
def TL (F:bt K mg):mj P w K mg base "book_text" (top 66) Fu 10 Ca:=λ{_ _} G =>
 mI G Fu (by kernel_rfl) λY _ _ _ _ _ _ Z L=>(aA (gb (j9 F.BX (BZ F) (fj L) Z (aq (af 0)))) (ax (aT (rj aI (ef ["page"] (fC (af 0)) (λ_ _ _ _ _ _=>⟨ee,(bu cu (aN F.Tx (TJ F) Z (aq (af 0))) aI)⟩))))))
def S7 (F:bt K mg):mj P w K mg base "need_mould" (top 31) cC 4 BV:=λ{_ _} G =>
 mI G cC (by kernel_rfl) λY _ _ _ _ _ _ Z L=>(ax (bG (ig (eG (aN F.Kk (Kr F) Z (aq (af 0))))) (ax (n6 L F.U4 (aq aI))) bJ))
def Us (F:bt K mg):mj P w K mg base "need_day" (top 32) cC 4 Cj:=λ{_ _} G =>
 mI G cC (by kernel_rfl) λY _ _ _ _ _ _ Z L=>(ax (bG (ig (eG (aN F.Ls (Lu F) Z (aq (af 0))))) (ax (n6 L F.X0 (aq aI))) bJ))
def Sw (F:bt K mg):bQ P w K mg base "days_present" (top 58) AJ 2 zc:=λ{_ _} G =>
 bS G ["book","mould","mark","shown","mended","present","stays","day"] (by kernel_rfl) λZ _ _ _ _ _ _ Y=>(aA (bA 3 Z (aN F.zl (zm F) Y (bj (af 0) (bj (af 1) (bj (af 2) (bj (fF F.ug rfl) bX)))))) (aA (bA 4 Z (aN F.BO (BQ F) Y (fk (af 0) (af 1) (af 2)))) (aA (bA 5 Z (oy bX)) (aA (bA 6 Z fR) (aA (iR ċ rfl (eY rfl F.dX (aq (fF F.qY rfl))) (bR 7 Z) (aA (bA 6 Z (qb (c9 (eO Y) (af 7) (af 3) rfl) (dJ (fu (af 6) (dJ (c9 (qW Y) (af 7) (af 4) rfl)))))) (ax (bG (eG (af 6)) (ax (gb (rD (af 5) (af 7)))) bJ)))) (ax (aT (Ay (af 5)))))))))
def SI (F:bt K mg):bQ P w K mg base "days_absent" (top 59) AJ 2 ze:=λ{_ _} G =>
 bS G ["book","mould","mark","lacked","mended","absent","barred","day"] (by kernel_rfl) λZ _ _ _ _ _ _ Y=>(aA (bA 3 Z (aN F.zl (zm F) Y (bj (af 0) (bj (af 1) (bj (af 2) (bj (fF F.tN rfl) bX)))))) (aA (bA 4 Z (aN F.BO (BQ F) Y (fk (af 0) (af 1) (af 2)))) (aA (bA 5 Z (oy bX)) (aA (bA 6 Z fR) (aA (iR ċ rfl (adb rfl F.Ua rfl F.dX (aq (fF F.qY rfl))) (bR 7 Z) (aA (bG (PW.pt (w_or (eG (af 6)) (w_or (aZ (eO Y) (af 7) (af 3) rfl) (kL (aZ (eO Y) (af 7) (af 4) rfl))))) (ax (gb (rD (af 5) (af 7)))) bJ) (ax (bA 6 Z (fu (qb (af 6) (dJ (c9 (eO Y) (af 7) (af 3) rfl))) (dJ (c9 (qW Y) (af 7) (af 4) rfl))))))) (ax (aT (Ay (af 5)))))))))
def Ks (F:bt K mg):bQ P w K mg base "marks_on" (top 57) Fv 1 vX:=λ{_ _} G =>
 bS G Fv (by kernel_rfl) λY _ _ _ _ _ _ Z=>(ax (aT (df mC rfl F.jC jF (aq (ef ["mark","day","days_by_mark"] (eY rfl F.dX (aq (fF F.qS rfl))) (λ_ _ _ _ _ _=>⟨(mQ (aZ (eO Z) (af 1) (aS (af 2) (af 0)) rfl)),(af 0)⟩))))))
def JL (F:bt K mg):bQ P w K mg base "sure_sheets" (top 56) PV 3 sU:=λ{_ _} G =>
 bS G ["book","mould","present","absent"] (by kernel_rfl) λY _ _ _ _ _ _ Z=>(aA (bA 2 Y (ef ["mark","book","mould"] (eY rfl F.dX (aq (fF F.qS rfl))) (λ_ _ _ _ _ _=>⟨ee,(aN F.Su (Sw F) Z (fk (af 1) (af 2) (af 0)))⟩))) (aA (bA 3 Y (ef ["mark","book","mould"] (eY rfl F.dX (aq (fF F.qS rfl))) (λ_ _ _ _ _ _=>⟨ee,(aN F.SG (SI F) Z (fk (af 1) (af 2) (af 0)))⟩))) (ax (aT (ef ["day","present","absent"] (eY rfl F.dX (aq (fF F.qY rfl))) (λ_ _ _ _ _ _=>⟨ee,(bo (aM (aN F.Kl (Ks F) Z (aM (af 1) (af 0))) (aN F.Kl (Ks F) Z (aM (af 2) (af 0)))))⟩))))))
def Wk (F:bt K mg):mj P w K mg base "surely" (top 54) Fx 10 zD:=λ{_ _} G =>
 mI G Fx (by kernel_rfl) λY _ _ _ _ _ _ Z L=>(aA (gb (j9 F.BX (BZ F) (fj L) Z (aq (af 0)))) (aA (gb (j9 F.SY (S7 F) (fj L) Z (aq (af 1)))) (aA (gb (j9 F.Uk (Us F) (fj L) Z (aq (af 2)))) (ax (aT (aS (aN F.JI (JL F) Z (aM (af 0) (af 1))) (af 2)))))))
def S8 (F:bt K mg):mj P w K mg base "need_sheet" (top 48) cC 6 vM:=λ{_ _} G =>
 mI G cC (by kernel_rfl) λY _ _ _ _ _ _ Z L=>(ax (bG (ig (eG (aN F.Kj (Kq F) Z (aq (af 0))))) (ax (n6 L F.U5 (aq aI))) bJ))
def TM (F:bt K mg):bQ P w K mg base "stretches" (top 61) PX 1 vU:=λ{_ _} G =>
 bS G ["holds","told","at"] (by kernel_rfl) λZ _ _ _ _ _ _ Y=>(aA (bA 1 Z (oy bX)) (aA (iR ċ rfl (eY rfl F.dX (aq (cY jh rfl F.jb jk (aq (af 0))))) (bR 2 Z) (ax (bG (PW.pt (w_and (eG (aS (af 0) (af 2))) (w_and (aZ rT (af 2) ao (ba _)) (jH (eG (aS (af 0) (bu EZ (af 2) ao))))))) (ax (E3 (bo (aM (aS (aS (af 1) (nh mR ao)) ao) (af 2))) (af 1) (nh mR ao))) (ax (bG (eG (aS (af 0) (af 2))) (ax (gb (rD (af 1) (bo (aM (af 2) (af 2)))))) bJ))))) (ax (aT (Ay (af 1))))))
def Ya (F:bt K mg):bQ P w K mg base "agree" (top 60) Fy 2 wy:=λ{_ _} G =>
 bS G Fy (by kernel_rfl) λY _ _ _ _ _ _ Z=>(ax (aT (fu (aN F.BW (BY F) Z (aM (aS (af 0) (fF F.ug rfl)) (aS (af 1) (fF F.tN rfl)))) (dJ (aN F.BW (BY F) Z (aM (aS (af 0) (fF F.tN rfl)) (aS (af 1) (fF F.ug rfl))))))))
def TN (F:bt K mg):mj P w K mg base "places_of" (top 55) Fz 10 sX:=λ{_ _} G=>by
 have Y:(["mould","first","last","sheet","book"]:List Str).Nodup:=nofun
 exact mI G Fz (by kernel_rfl) λX _ _ _ _ _ _ Z L=>(aA (gb (j9 F.BX (BZ F) (fj L) Z (aq (af 0)))) (aA (gb (j9 F.S0 (S8 F) (fj L) Z (aq (af 1)))) (ax (aT (Nb (N:=["mould","first","last","sheet","book"]) (nt:=3) (cap:=[1,0]) rfl (EX (by kernel_rfl)) (qV 0) (wt 0) (Af (nX 1 (nX 2 zO))) (Aa [1,2]) (eY rfl F.dX (aq (fF F.v7 rfl))) (λcl C s H ex W=>⟨(ix (i:=0) Y rfl (ŷ rfl)),ee,(fC (aN F.TB (TM F) Z (aq (ef ["sure","sheet"] (fC (aN F.JI (JL F) Z (aM (af 4) (af 0)))) (λ_ _ _ _ _ _=>⟨ee,(aN F.X6 (Ya F) Z (aM (af 1) (af 0)))⟩))))),(wD rfl (mB (ix (i:=1) Y rfl (ŷ rfl)) (mB (ix (i:=2) Y rfl (ŷ rfl)) wo))),ee,(bo (fk (af 0) (af 1) (af 2)))⟩))))))
def Wl (F:bt K mg):mj P w K mg base "answer" (top 81) FA 11 qQ:=λ{_ _} G =>
 mI G FA (by kernel_rfl) λY _ _ _ _ _ _ Z L=>(aA (bG (aZ (bL Z) (aS (af 1) ao) aI (ba _)) (ax (aT (aN F.JR (JT F) Z (aq (j9 F.Wf (Wk F) (fj L) Z (fk (af 0) (df ua rfl F.ja jj (aq (aS (af 1) ao))) (df ua rfl F.ja jj (aq (aS (af 1) ao))))))))) bJ) (aA (bG (aZ (bL Z) (aS (af 1) ao) aI (ba _)) (ax (aT (aN F.SF (SH F) Z (aq (j9 F.TC (TN F) (fj L) Z (aM (af 0) (aN F.Ki (Ko F) Z (aq (aS (af 1) ao))))))))) bJ) (ax (aT (Fg (j9 F.Tz (TL F) (fj L) Z (aq (af 0))) (dJ (xT F.tm rfl)))))))
def S9 (F:bt K mg):ml P w K mg base "Diary" "undo" "Diary.undo" (fz (top 52) 3) kO 1 vN:=λ{_ _} G =>
 pO G kO (by kernel_rfl) λY _ _ _ _ _ _ Z L=>(aA (bG (aZ (bL Z) (cY jh rfl F.jb jk (aq (pZ F.vJ (af 0)))) ao (ba _)) (ax (n6 L F.Wb (aq aI))) bJ) (ax (gb (abB (pZ F.vJ (af 0))))))
def J6 (F:bt K mg):mj P w K mg base "need_page" (top 49) cC 7 pG:=λ{_ _} G =>
 mI G cC (by kernel_rfl) λY _ _ _ _ _ _ Z L=>(ax (bG (ig (eG (aN F.KN (KS F) Z (aq (af 0))))) (ax (n6 L F.V9 (aq aI))) bJ))
def BK (F:bt K mg):ml P w K mg base "Diary" "book_now" "Diary.book_now" (fz (top 52) 4) kO 1 qF:=λ{_ _} G =>
 pO G kO (by kernel_rfl) λZ _ _ _ _ _ _ Y L=>(ax (aT (aS (pZ F.vJ (af 0)) (nh mR ao))))
def JU (F:bt K mg):ml P w K mg base "Diary" "keep" "Diary.keep" (fz (top 52) 5) FC 9 zk:=λ{_ _} G =>
 pO G FC (by kernel_rfl) λY _ _ _ _ _ _ Z L=>(aA (bG (ig (eG (aN F.KO (KU F) Z (aq (af 1))))) (ax (n6 L F.Mf (aq aI))) bJ) (ax (gb (rD (pZ F.vJ (af 0)) (af 1)))))
def Sx (F:bt K mg):ml P w K mg base "Diary" "strike" "Diary.strike" (fz (top 52) 2) xq 10 pE:=λ{_ _} G =>
 pO G ["self","page","book"] (by kernel_rfl) λY _ _ _ _ _ _ Z L=>(aA (gb (j9 F.J3 (J6 F) (fj L) Z (aq (af 1)))) (aA (bA 2 Y (Al F.BJ (BK F) (fj L) Z (af 0))) (aA (bG (aZ (qW Z) (af 1) (af 2) rfl) (ax (n6 L F.Mf (aq aI))) bJ) (ax (gb (rK F.JP (JU F) (fj L) Z (af 0) (aq (df mC rfl F.jC jF (aq (ef ["other","page"] (fC (af 2)) (λ_ _ _ _ _ _=>⟨(mQ (aZ (jO Z) (af 0) (af 1) (ba _))),(af 0)⟩)))))))))))
def Ta (F:bt K mg):ml P w K mg base "Diary" "tell" "Diary.tell" (fz (top 52) 1) xq 10 pF:=λ{_ _} G =>
 pO G xq (by kernel_rfl) λY _ _ _ _ _ _ Z L=>(aA (gb (j9 F.J3 (J6 F) (fj L) Z (aq (af 1)))) (ax (gb (rK F.JP (JU F) (fj L) Z (af 0) (aq (df mC rfl F.jC jF (aq (cY (TK.Ma Z) rfl F.CB CY (aq (bu cu (Al F.BJ (BK F) (fj L) Z (af 0)) (bo (aq (af 1)))))))))))))
def Ce (F:bt K mg):ml P w K mg base "Desk" "say" "Desk.say" (fz (top 78) 1) PY 12 nU:=λ{_ _} G =>
 pO G ["self","row","words"] (by kernel_rfl) λY _ _ _ _ _ _ Z L=>(aA (bA 2 Y (j9 F.Ui (Uq F) (fj L) Z (aq (af 1)))) (aA (bG (aZ (bL Z) (aS (af 2) ao) aI (ba _)) (ax (gb (Al F.SW (S9 F) (fj L) Z (pZ F.vK (af 0))))) (ax (bG (aZ (bL Z) (aS (af 2) ao) aI (ba _)) (ax (gb (rK F.Sr (Sx F) (fj L) Z (pZ F.vK (af 0)) (aq (aN F.KJ (KQ F) Z (aq (A1 (af 2) (xh ao) xJ))))))) (ax (bG (PW.pt (w_or (aZ (bL Z) (aS (af 2) ao) aI (ba _)) (kL (aZ (bL Z) (aS (af 2) ao) aI (ba _))))) (ax (gb (rK F.SX (Ta F) (fj L) Z (pZ F.vK (af 0)) (aq (aN F.KJ (KQ F) Z (aq (af 2))))))) (ax (aT (j9 F.Wg (Wl F) (fj L) Z (aM (Al F.BJ (BK F) (fj L) Z (pZ F.vK (af 0))) (af 2)))))))))) (ax (aT aI))))
def DW (F:bt K mg):RL P w K mg "_law_met" (top 95) PZ 14 13 iP:=λ{_ _ _ _ _ _} T {_ _} G =>
 adp G ["_law_call","_law_e","_law_some"] (by kernel_rfl) λZ _ _ _ _ _ _ X Y=>(ax (abA T X (Y.mono (by decide)) F.SV (λ_=>(aA (bA 2 Z (adw F.Uh (Uo F) (Y.h.held _) (aq (af 1)))) (aA (bG (PW.pt (w_or (ig (eG (aby F.SU (af 1) F.eh F.SS))) (kL (aZ adx (abw (af 2)) ao (ba _))))) (ax (aT (bo (aM aI ox)))) bJ) (aA (bG (eG (aS (af 2) ao)) (ax (aT (bo (aM aI QJ)))) bJ) (aA (bG (eG (aS (af 2) ao)) (ax (aT (bo (aM aI QJ)))) bJ) (ax (aT (bo (aM aI (ads (af 2))))))))))) Z))
def Mn (F:bt K mg):bQ P w K mg base "_law_days" (top 91) A6 1 zT:=λ{_ _} G =>
 bS G [agZ,ag1,ag0,"_law_shown","_law_lacked","_law_mended",ag3,"_law_there","_law_away","_law_sure","_law_gone",ag4] (by kernel_rfl) λZ _ _ _ _ _ _ Y=>(aA (Ov 3 4 5 rfl Z (fk (cO bX) (cO bX) (oy bX))) (aA (iR ċ rfl (fC (af 0)) (bR 6 Z) (aA (bG (PW.pt (w_and (aZ (bL Y) (aS (af 6) ao) aI (ba _)) (w_and (aZ (bL Y) (aS (af 6) ao) (af 1) (ba _)) (jH (aZ (bL Y) (aS (af 6) ao) (af 2) (ba _)))))) (ax (gb (rD (af 5) (aS (af 6) ao)))) bJ) (ax (bG (PW.pt (w_and (aZ (bL Y) (aS (af 6) ao) aI (ba _)) (jH (aZ (bL Y) (aS (af 6) ao) (af 1) (ba _))))) (aA (bA 3 Z (bu cu (af 3) (bu kN (cO (aq (aS (af 6) ao))) (df pY rfl F.ja jj (aq (c9 (eO Y) (af 2) (aS (aS (af 6) ao) ao) rfl)))))) (ax (bA 4 Z (bu cu (af 4) (bu kN (cO (aq (aS (af 6) ao))) (df pY rfl F.ja jj (aq (c9 (eO Y) (af 2) (aS (aS (af 6) ao) ao) rfl)))))))) bJ)))) (aA (j8 (bo (bj (cO bX) (bj (cO bX) (bj fR (bj fR bX))))) (lR rfl (cJ (bR 7 Z) (cJ (bR 8 Z) (cJ (bR 9 Z) (cJ (bR 10 Z) jI)))))) (aA (iR ċ rfl (eY rfl F.dX (aq ao)) (bR 11 Z) (aA (bA 9 Z (qb (c9 (eO Y) (af 11) (af 3) rfl) (dJ (fu (af 9) (dJ (c9 (qW Y) (af 11) (af 5) rfl)))))) (ax (bA 7 Z (bu cu (af 7) (bu kN (cO (aq (af 11))) (df pY rfl F.ja jj (aq (af 9))))))))) (aA (iR ċ rfl (abi rfl F.dX (fk ao (nh mR ao) (nh mR ao))) (bR 11 Z) (aA (bA 10 Z (qb (af 10) (dJ (c9 (eO Y) (af 11) (af 4) rfl)))) (aA (bA 8 Z (bu cu (bu kN (cO (aq (af 11))) (df pY rfl F.ja jj (aq (qb (af 10) (dJ (c9 (eO Y) (af 11) (af 5) rfl)))))) (af 8))) (ax (bA 10 Z (fu (af 10) (dJ (c9 (qW Y) (af 11) (af 5) rfl)))))))) (ax (aT (bo (aM (af 7) (af 8))))))))))
def Wm (F:bt K mg):bQ P w K mg base "_law_where" (top 93) P0 2 C7:=λ{_ _} G =>
 bS G [agZ,ag7,"_law_found",ag1,"_law_barred",ag0,"_law_there","_law_away","_law_first",ag4] (by kernel_rfl) λZ _ _ _ _ _ _ Y=>(aA (bA 2 Z (oy bX)) (aA (iR ċ rfl (eY rfl F.dX (aq ao)) (bR 3 Z) (aA (bA 4 Z (cO bX)) (aA (iR ċ rfl (eY rfl F.dX (aq ao)) (bR 5 Z) (aA (j8 (aN F.Mj (Mn F) Y (fk (af 0) (af 3) (af 5))) (lR rfl (cJ (bR 6 Z) (cJ (bR 7 Z) jI)))) (ax (bA 4 Z (bu cu (bu cu (af 4) (ni (aZ (eO Y) (af 5) (aS (af 1) ao) rfl) (af 7) (cO bX))) (ni (aZ (eO Y) (af 5) (aS (af 1) ao) rfl) (af 6) (cO bX))))))) (aA (bA 8 Z ox) (ax (iR ċ rfl (eY rfl F.dX (aq ao)) (bR 9 Z) (ax (bG (PW.pt (w_and (aZ ac5 (af 8) ox (ba _)) (w_and (aZ (xO Y) (af 9) ao (ba _)) (jH (aZ (qW Y) (af 9) (af 4) rfl))))) (ax (bA 8 Z (af 9))) (ax (bG (PW.pt (w_and (aZ aa8 (af 8) ox (ba _)) (jH (PW.pt (w_or (aZ (bL Y) (af 9) ao (ba _)) (kL (aZ (eO Y) (af 9) (af 4) rfl))))))) (aA (gb (rD (af 2) (bo (fk (af 3) (af 8) (bu EZ (af 9) ao))))) (ax (bA 8 Z ox))) bJ)))))))))) (ax (aT (Ay (af 2))))))
def Vb (F:bt K mg):bQ P w K mg base "_law_surely" (top 92) P1 2 Cz:=λ{_ _} G =>
 bS G [agZ,ag1,ag4,"_law_here","_law_has"] (by kernel_rfl) λY _ _ _ _ _ _ Z=>(aA (bA 3 Y (ef [ag0,agZ,ag1] (eY rfl F.dX (aq ao)) (λ_ _ _ _ _ _=>⟨ee,(aN F.Mj (Mn F) Z (fk (af 1) (af 2) (af 0)))⟩))) (aA (bA 4 Y (df mC rfl F.jC jF (aq (ef [ag0,ag4,"_law_here"] (eY rfl F.dX (aq ao)) (λ_ _ _ _ _ _=>⟨(mQ (aZ (eO Z) (af 1) (aS (aS (af 2) (af 0)) ao) rfl)),(af 0)⟩))))) (ax (aT (bo (aM (af 4) (df mC rfl F.jC jF (aq (ef [ag0,ag4,"_law_here"] (eY rfl F.dX (aq ao)) (λ_ _ _ _ _ _=>⟨(mQ (aZ (eO Z) (af 1) (aS (aS (af 2) (af 0)) ao) rfl)),(af 0)⟩))))))))))
def KW (F:bt K mg):bQ P w K mg base "_law_answer" (top 102) P2 4 v5:=λ{_ _} G=>by
 have Y:(["_law_place"]:List Str).Nodup:=nofun
 exact bS G [ag5,ag9,"_law_row",aha,"_law_some"] (by kernel_rfl) λX _ _ _ _ _ _ Z=>(aA (j8 (af 1) (lR rfl (cJ (bR 2 X) (cJ (bR 3 X) jI)))) (aA (bG (aZ (bL Z) (af 2) aI (ba _)) (ax (aT (bo (aM aI (ni (aZ (jO Z) (af 0) (bo bX) (ba _)) (rj aI (ef [ag3] (fC (af 0)) (λ_ _ _ _ _ _=>⟨ee,(bu cu (aN F.Mi (Mm F) Z (aq (af 0))) aI)⟩))) aI))))) bJ) (aA (bG (aZ (bL Z) (adD (af 2) xJ (xh ao)) aI (ba _)) (aA (bG (PW.pt (w_or (aZ rT (aS (af 3) ao) ao (ba _)) (kL (aZ rT (aS (af 3) ao) ao (ba _))))) (ax (aT (bo (aM aI (ni (aZ rT (aS (af 3) ao) ao (ba _)) ao ao))))) bJ) (ax (aT (bo (aM aI (aN F.BN (BP F) Z (aq (aN F.U8 (Vb F) Z (fk (af 0) (aS (af 3) ao) (aS (af 3) ao)))))))))) bJ) (aA (bG (aZ (eO Z) (af 3) (cO (fk (bo (aM (bo (aq ao)) (bo bX))) (bo (aM (bo (aq ao)) (bo (aq ao)))) (bo (aM (bo (aM ao ao)) (bo bX))))) rfl) (ax (aT (bo (aM aI ao)))) bJ) (aA (Zm 4 (N:=["_law_place"]) (nt:=1) (cap:=[]) X rfl (AA (by kernel_rfl)) (qV 0) (fC (aN F.Wh (Wm F) Z (aM (af 0) (af 3)))) (λcl C s H ex W=>⟨(ix (i:=0) Y rfl (ŷ rfl)),ee,(rj aI (ef ["_law_number"] (fC (af 0)) (λ_ _ _ _ _ _=>⟨ee,(df oE rfl F.mM mT (aq (af 0)))⟩)))⟩)) (ax (aT (bo (aM aI (ni (aZ (jO Z) (af 4) (cO bX) (ba _)) (rj aI (af 4)) aI))))))))))
def Tb (F:bt K mg):ml P w K mg base "Diary" "__init__" "Diary.__init__" (fz (top 52) 0) kO 1 vO:=λ{_ _} G =>
 pO G kO (by kernel_rfl) λZ _ _ _ _ _ _ Y L=>(ax (PH F.vJ (af 0) (oy (aq (bo bX)))))
def TQ (F:bt K mg):ml P w K mg base "Desk" "__init__" "Desk.__init__" (fz (top 78) 0) kO 3 vV:=λ{_ _} G =>
 pO G kO (by kernel_rfl) λY _ _ _ _ _ _ Z L=>(ax (PH F.vK (af 0) (PJ F.X2 (Tb F) Z)))
def abR (F:bt K mg) {c T:ă} (ht:agN K "law"=ϊ (c,T)) (hC:PySem.W.codeHdIn K c T=ό) (hB:base.BuiltinsAt mg T) {f:ă} {fd:FuncData} (G:Gd K mg "law" (top 104) P4 f fd) (hx:ë K Ð "law"=ϊ (ϊ (.ref f))):dD P w K mg base fg 15 f fd P4 (mh K Fh):=by
 exact adt G hx ht [ag2,"_law_k",agY,"_law_desk",ag6,"_law_turn","_law_row","_law_due",ag9,"_law_lap"] (by kernel_rfl) λY _ _ _ _ _ Z=>(aA (iR ċ rfl (eY rfl F.dX (aq (cY (aa9 rfl) rfl F.abN ac8 (aM ao (cY (aba rfl) rfl F.abO ac9 (aM (cY jh rfl F.jb jk (aq (af 0))) ao)))))) (bR 1 Y) (aA (bA 2 Y (aN F.Wc (Wi F) Z (aM (af 0) (af 1)))) (aA (j8 (bo (aM (PJ F.ZD (TQ F) Z) (cO (aq (bo bX))))) (lR rfl (cJ (bR 3 Y) (cJ (bR 4 Y) jI)))) (aA (iR ċ rfl (eY rfl F.dX (aq (aN F.fK (fL F) Z (aM (af 2) ao)))) (bR 5 Y) (aA (j8 (aN F.U6 (U9 F) Z (aM (af 2) (af 4))) (lR rfl (cJ (bR 6 Y) (cJ (lR rfl (cJ (bR 4 Y) (cJ (bR 7 Y) jI))) jI)))) (aA (bG (aZ (bL Z) (af 7) (bo (aM aI ox)) (ba _)) (ax (bA 7 Y (bo (aM aI aI)))) bJ) (aA (bG (aZ (jO Z) (E8 ["_law_row","_law_desk"] rfl rfl ht hC hB F.DU (DW F) C8 Z (λ_ _ _ _ _ _ _ _ _ _ Z L=>(rK F.Cb (Ce F) (fj L) Z (af 1) (aq (af 0))))) (af 7) (ba _)) (ax (aT fR)) bJ) (aA (bA 8 Y (aN F.X5 (X9 F) Z (aq (af 2)))) (ax (iR ċ rfl (eY rfl F.dX (aq ao)) (bR 9 Y) (ax (bG (aZ (jO Z) (E8 ["_law_desk",ag9] rfl rfl ht hC hB F.DU (DW F) C8 Z (λ_ _ _ _ _ _ _ _ _ _ Z L=>(rK F.Cb (Ce F) (fj L) Z (af 0) (aq (aS (af 1) ao))))) (aN F.KP (KW F) Z (aM (aS (af 4) (nh mR ao)) (af 8))) (ba _)) (ax (aT fR)) bJ))))))))) (ax (bG (aZ (jO Z) (E8 ["_law_desk"] rfl rfl ht hC hB F.DU (DW F) C8 Z (λ_ _ _ _ _ _ _ _ _ _ Z L=>(rK F.Cb (Ce F) (fj L) Z (af 0) (aq aI)))) (aN F.KP (KW F) Z (aM (aS (af 4) (nh mR ao)) (bo (aM aI (bo bX))))) (ba _)) (ax (aT fR)) bJ)))))) (ax (aT fR)))
end
end DI.cV
namespace DI
open PySem L2
structure Ex (k) (s s':ag):Prop where
 len:s.length<=s'.length
 val:∀j,j<s.length->j≠k->s'[j]?=s[j]?
def Ex.refl (k) (s):Ex k s s:=⟨agW _,λ_ _ _=>rfl⟩
theorem Ex.trans (h:Ex k a b) (g:Ex k b c):Ex k a c:=⟨Ø h.len g.len,λj Z Y=>(g.val j (È Z h.len) Y).trans (h.val j Z Y)⟩
theorem Ex.set (k) (s) (c):Ex k s (s.set k c):=⟨by simp,λj _ Z=>ð (ŧ Z)⟩
def Ex.app (k) (s) (c:List Cell):Ex k s (s++c):=⟨by simp,λj Z _=>ç Z⟩
def Ia (x y) (k) (s) (h:s[k]?=ϊ (.lst [x,y])):ar (.au k) (.int 0) s=ok x s:=by
 simp[ar,jY,res,h,cR,fW,bW]
def RW (x y) (k) (s) (h:s[k]?=ϊ (.lst [x,y])):ar (.au k) (.int 1) s=ok y s:=by
 simp[ar,jY,res,h,cR,fW,bW]
def QR (x y z) (k) (s) (h:s[k]?=ϊ (.lst [x,y])):nq (.au k) (.int 0) z s=ϊ (s.set k (.lst [z,y])):=by
 simp[nq,h,fW]
@[simp] theorem An {r:Env} {s}:aa 0 (ϊ a::r) s=ok a s:=rfl
@[simp] theorem Ao {a} {r:Env} {s}:aa (i+1) (a::r) s=aa i r s:=rfl
def ltI (i j) (s):kS (.int i) (.int j) s=ok (.bl (ώ (i<j))) s:=rfl
def gtI (i j) (s):kR (.int i) (.int j) s=ok (.bl (ώ (j<i))) s:=rfl
def geI (i j) (s):xI (.int i) (.int j) s=ok (.bl (ώ (j<=i))) s:=rfl
def leI (i j) (s):rS (.int i) (.int j) s=ok (.bl (ώ (i<=j))) s:=rfl
def QS (i j) (s):bK (.int i) (.int j) s=ok (.int (i+j)) s:=rfl
def afe (i j) (s):uw (.int i) (.int j) s=ok (.int (i-j)) s:=rfl
def eqI (i j) (s):aX (.int i) (.int j) s=ok (.bl (i==j)) s:=rfl
def neI (i j) (s):cX (.int i) (.int j) s=ok (.bl (!(i==j))) s:=rfl
def uY {i j} (s) (h:0<j):oA (.int i) (.int j) s=ok (.int (i % j)) s:=by
 simp[oA,Ga,h,bW]
def QT (s) (h:0<j) (h2:j<1073741824):oB (.int i) (.int j) s=ok (.int (i / j)) s:=by
 simp[oB,Gb,h,h2,bW]
def uZ (s) (h:xb i j=ό):gg (.int i) (.int j) s=ok (.int (i*j)) s:=by
 simp[gg,F9,h,bW]
def mulOk_of (h1:-(2 ^ 64)<i) (h2:i<2 ^ 64):xb i j=ό:=by
 delta xb;rw[Ä h1,Ä h2];rfl
def le_size (h:n<=1000000):n<=Ô:=Ø h (by decide)
def Dc (h1:-1000000<=j) (h2:j<=1000000):kM j=ό:=by
 delta kM;rw[Ä ⋯,Ä ⋯];rfl
def ZE (f:α->β) (xs) (i):cR (xs.map f) i=(cR xs i).map f:=by
 delta cR;rw[Ç]
 cases fW _ i with
 |none=>rfl
 |some j=>simp
def mO {xs:List α} {i:Int} (h0:0<=i) (h1:i<xs.length):∃x,cR xs i=ϊ x/\xs[i.toNat]?=ϊ x:=by
 have Z:i.toNat<xs.length:=by omega
 refine⟨_,?_,Ò Z⟩;delta cR fW;rw[Ö h0,Ö h1];exact Ò Z
def ZF {i} {s} (h0:0<=i):∃c,vW [.cS ns,.int i] s=ok (.int c) s:=by
 by_cases h:i<(ns.length)
 ·obtain⟨x,Z,_⟩:=mO h0 h
  refine⟨x,?_⟩;have Y:ar (.cS ns) (.int i) s=ok (.int x) s:=by simp[ar,jY,res,Z,bW]
  erw[vW,aO,aw,aU,aJ,e2,eB,ae,ah,eJ,uT,res,bW,An,Ao,eC,cZ,Þ,ł,ď,Ĩ,æ,ē,ø,ltI,jn,Ä h,aH,Y,Õ]
 ·refine⟨0,?_⟩
  erw[vW,aO,aw,aU,aJ,e2,eB,ae,ah,eJ,uT,res,bW,An,Ao,eC,cZ,Þ,ł,ď,Ĩ,æ,ē,ø,ltI,jn,Ê h,Æ,ñ,bz,aH,Õ]
structure eV (m:Nat) (ns:List Int):Prop where
 lo:∀x∈ns,0<=x/\x<m
 up:ns.Pairwise (· < ·)
noncomputable abbrev mD (ns:List Int):D:=.tup (ns.map D.int)
def eV.len (h:eV m ns):ns.length<=m:=by
 have key:∀l (b:Int),l.Pairwise (· < ·)->(∀x∈l,b<=x/\x<m)->(l.length)<=m-b\/l=[]:=by
  intro l
  induction l with
  |nil=>intro b _ _;exact .inr rfl
  |cons x l ih =>
   intro b X Z;obtain⟨W,V⟩:=ò.mp X;have U:=Z x Ó
   rcases ih (x+1) V (λy Y=>⟨by have:=W y Y;omega,(Z y (É _ Y)).2⟩) with h|h
   ·rw[æ];omega
   ·subst h
    simp;omega
 rcases key ns 0 h.up h.lo with h'|h'
 ·omega
 ·subst h';simp
def fB (h:fa env s=ok [.int n] s1) (hn:n<=1000000):dH fa env s=ok (dU 0 n) s1:=by
 delta dH;rw[h,cZ]
 show (if kM _=ό then ok _ s1 else ϋ)=_
 rw[Ö (Dc ⋯ ⋯),Ĭ]
def ZG {n:Nat} {i:Int} (h:fa env s=ok [.int i] s1) (hi:i=n) (hn:n<=1000000):dH fa env s=ok (dU 0 n) s1:=by
 subst hi;exact fB h hn
def abS (h:fa env s=ok [.int i,.int j] s1) (h1:-1000000<=i) (h2:i<=1000000) (h3:-1000000<=j) (h4:j<=1000000):Bs fa env s=ok (dU i (j-i).toNat) s1:=by
 delta Bs;rw[h]
 show (if (kM i&&kM j)=ό then ok _ s1 else ϋ)=_
 rw[Ö (by rw[Dc h1 h2,Dc h3 h4];rfl)]
def abT:Wp (kS (.int i) (.int j) s) Q=Q (.bl (ώ (i<j))) s:=by rw[ltI,bF]
def uh:Wp (kR (.int i) (.int j) s) Q=Q (.bl (ώ (j<i))) s:=by rw[gtI,bF]
def abU:Wp (xI (.int i) (.int j) s) Q=Q (.bl (ώ (j<=i))) s:=by rw[geI,bF]
def Ap:Wp (rS (.int i) (.int j) s) Q=Q (.bl (ώ (i<=j))) s:=by rw[leI,bF]
def Np:Wp (bK (.int i) (.int j) s) Q=Q (.int (i+j)) s:=by rw[QS,bF]
def DY:Wp (uw (.int i) (.int j) s) Q=Q (.int (i-j)) s:=by rw[afe,bF]
def pR:Wp (aX (.int i) (.int j) s) Q=Q (.bl (i==j)) s:=by rw[eqI,bF]
def OH:Wp (cX (.int i) (.int j) s) Q=Q (.bl (!(i==j))) s:=by rw[neI,bF]
end DI
noncomputable def DI.VCr:=ì @DI.bF <| ì @DI.abH <| ì @DI.AH <| ì @DI.aG <| ì @DI.bb <| ì @DI.bh <| ì @DI.oF <| ì @DI.bp <| ì @DI.aL <| ì @DI.aF <| ì @DI.dq <| ì @DI.wp_call <| ì @DI.cW <| ì @DI.ic <| ì @DI.EC <| ì @DI.ED <| ì @DI.dZ <| ì @DI.cj <| ì @DI.pQ <| ì @DI.lJ <| ì @DI.tY <| ì @DI.rk <| ì @DI.wz <| ì @DI.n9 <| ì @DI.wU <| ì @DI.Zy <| ì @DI.kI <| ì @DI.OF <| ì @DI.cK <| ì @DI.bN <| ì @DI.qR <| ì @DI.XS <| ì @DI.pI <| ì @DI.gX <| ì @DI.cq <| ì @DI.cQ <| ì @DI.Zz <| ì @DI.zU <| ì @DI.abK <| ì @DI.jG <| ì @DI.Nn <| ì @DI.EE <| ì @DI.cT <| ì @DI.ib <| ì @DI.AI <| ì @DI.Am <| ì @DI.abT <| ì @DI.uh <| ì @DI.abU <| ì @DI.Ap <| ì @DI.Np <| ì @DI.DY <| ì @DI.pR <| @DI.OH
local macro_rules | `(tactic| simp only[VC])=>`(tactic| simp only[VC,true_and])
local macro_rules | `(tactic| simp only[VC,$xs,*])=>`(tactic| simp only[DI.VCr,DI.cx,DI.mL,DI.abJ,DI.adE,DI.XU,DI.kJ,DI.abM,List.map_cons,List.map_nil,List.cons_append,List.nil_append,List.length_cons,List.length_nil,List.set_cons_succ,List.set_cons_zero,List.replicate,true_and,Nat.reduceSub,Nat.reduceAdd,$xs,*])
namespace DI
open PySem L2
def agU {r} {d:α} {s} (h:Wp r λa s'=>a=d/\s'=s):r=DI.ok d s:=by
 obtain⟨a,s',e,rfl,rfl⟩:=h;exact e
def jD {s s1} {ds} (h:f env s=ok (.tup ds) s1):cA f env s=ok ds s1:=by
 delta cA;rw[h];rfl
def pH (h:f env s=ok (.lst ds) s1):cA f env s=ok ds s1:=by
 delta cA;rw[h];rfl
theorem qN:∀(ns:List Int),dA (ns.map D.int)=ό
 | []=>rfl
 |n::ns=>by erw[Þ,dA,lay,qN ns,Ĥ]
def DZ (x) (ns:List Int):((ns.map D.int).any λy=>beq y (.int x))=ώ (x∈ns):=by
 induction ns with
 |nil=>simp
 |cons n ns ih =>
  erw[Þ,List.any_cons,ih,beq];by_cases h:n=x
  ·subst h;simp
  ·have Z:¬ x=n:=λe=>h e.symm
   simp[h,Z]
def pJ {ns} {s}:cz (.int x) (mD ns) s=ok (.bl (ώ (x∈ns))) s:=by
 have Z:mS 100 (.int x) (ns.map D.int)=ό:=by erw[mS,lay,qN,dep,Ĥ,č,ģ]
 have e:inD (.int x) (ns.map D.int)=ϊ (ώ (x∈ns)):=by delta inD;rw[Ö Z,DZ]
 delta cz;rw[show lS _ s=ϊ _ from rfl];erw[e];rfl
def Vc:gC (.int x) (mD ns) s=ok (.bl (!ώ (x∈ns))) s:=by
 have Z:mS 100 (.int x) (ns.map D.int)=ό:=by erw[mS,lay,qN,dep,Ĥ,č,ģ]
 have e:inD (.int x) (ns.map D.int)=ϊ (ώ (x∈ns)):=by delta inD;rw[Ö Z,DZ]
 delta gC;rw[show lS _ s=ϊ _ from rfl];erw[e];rfl
noncomputable def sub (a b:List Int):Bool:=a.all λx=>ώ (x∈b)
def qZ {α:Type} (p) (xs:List α) (s):nk [.lst (xs.map λx=>D.bl (p x))] s=ok (.bl (xs.all p)) s:=by
 have e:i3 (xs.map λx=>D.bl (p x))=ϊ (xs.map p):=by
  have:=Zh (bs:=xs.map p);rw[ė] at this;exact this
 show bW _ s=_;rw[e];show ok (D.bl _) s=_;rw[List.all_map];rfl
def filter_tt {α:Type} (xs:List α):xs.filter (λ_=>ό)=xs:=by simp
def qO {caps} {g} {t} {f} {s} (p) (h) (ns:List Int) (hh:∀n∈ns,∃env,g (.int n) (Õ nt ϋ++caps)=ϊ env/\t env s=ok (p n) s/\(p n=ό->f env s=ok (h n) s)) :
  gE nt caps g t f (ns.map D.int) s=ok ((ns.filter p).map h) s:=by
 induction ns with
 |nil=>rfl
 |cons n ns ih =>
  obtain⟨env,Y,X,W⟩:=hh n Ó;have ih:=ih λV U=>hh V (É _ U);rw[Þ];delta gE;rw[Y];erw[X,rB,cZ]
  cases Z:p n with
  |true=>erw[ø,W Z,rB,cZ,ih,ŕ,Z,Þ]
  |false=>erw[Æ,ñ,ih,ŕ,Z]
def comp_map {α:Type} (d) (p) (h) (xs:List α) (hh:∀x∈xs,∃env,g (d x) (Õ nt ϋ++caps)=ϊ env/\t env s=ok (p x) s/\(p x=ό->f env s=ok (h x) s)) :
  gE nt caps g t f (xs.map d) s=ok ((xs.filter p).map h) s:=by
 induction xs with
 |nil=>rfl
 |cons n T ih =>
  obtain⟨env,Y,X,W⟩:=hh n Ó;have ih:=ih λV U=>hh V (É _ U);rw[Þ];delta gE;rw[Y];erw[X,rB,cZ]
  cases Z:p n with
  |true=>erw[ø,W Z,rB,cZ,ih,ŕ,Z,Þ]
  |false=>erw[Æ,ñ,ih,ŕ,Z]
def Wn:B7 [.int i] s=ok (.bl (ώ (0<=i))) s:=by
 rfl
def tJ:sZ [.int i,.int m] s=ok (.bl (ώ (0<=i)&&ώ (i<m))) s:=by
 refine agU ?_;delta sZ;simp only[VC,Wn];by_cases h:0<=i
 ·simp[h]
 ·simp[h]
def Nq:tB [.int i] s=ok (.bl (ώ (0<=i)&&ώ (i<8))) s:=by
 refine agU ?_;delta tB;simp only[VC,tJ,true_and]
def Mo (xs):cutD xs (ϊ 1) ϋ=xs.drop 1:=by
 delta cutD HT.bT
 cases xs with
 |nil=>simp
 |cons x xs =>
  simp
noncomputable def rise:List Int->Bool
 | []=>ό
 | [_]=>ό
 |a::b::r=>ώ (a<b)&&rise (b::r)
def ZH (h:ns.Pairwise (· < ·)):rise ns=ό:=by
 induction ns with
 |nil=>rfl
 |cons a ns ih =>
  cases ns with
  |nil=>rfl
  |cons b r =>
   obtain⟨Z,Y⟩:=ò.mp h;erw[rise,ih Y,Bool.and_true];exact Ä (Z b Ó)
theorem Mp:∀ns,((ns.zip (ns.drop 1)).all λp=>ώ (p.1<p.2))=rise ns
 | []=>rfl
 | [_]=>rfl
 |a::b::r=>by
  have ih:=Mp (b::r);erw[agz,agI,ň,agk,rise] at ih |-;rw[ih]
def Wo (xs ys:List Int):jN (xs.map D.int) (ys.map D.int)=(xs.zip ys).map λp=>D.tup [.int p.1,.int p.2]:=by
 delta jN;rw[List.zip_map,ė];rfl
def Mq (h:fa env s=ok [.tup xs,.tup ys] s1):uP fa env s=ok (jN xs ys) s1:=by
 delta uP;rw[h];rfl
def Wq (hl:ns.length<=1000000):qI [mD ns] s=ok (.bl (rise ns)) s:=by
 refine agU ?_;delta qI;simp only[VC];have Z:uP (ae (aa 0) (ae (pd (aa 0) (lV (eC (.int 1))) mi) ah)) [ϊ (mD ns)] s=ok (jN (ns.map D.int) ((ns.drop 1).map D.int)) s:=by
  refine Mq (agU ?_);simp only[VC];rw[DT rfl];refine agT (rfl) ⟨?_,rfl⟩;rw[Mo,List.map_drop]
 refine agT Z ⟨le_size (by rw[CQ];erw[Ç];omega),?_⟩;rw[Wo];refine agT (comp_map (λp=>D.tup _) (λ_=>ό) (λp=>.bl _) _ λp _=>⟨_,rfl,rfl,λ_=>rfl⟩) ?_;rw[filter_tt];exact agT (qZ ..) ⟨by rw[Mp],rfl⟩
def getD_some {α:Type} {xs:List α} {i} {d} (h:i<xs.length):xs[i]?=ϊ (xs.getD i d):=by
 rw[List.getD_eq_getElem?_getD,Ò h];rfl
def Nr (lo) (n):dU lo n=(â n).map λi:Nat=>D.int (lo+i):=rfl
def abV (rs:List (List Int)) (laid:List Int) (m:Int):Bool:=((â laid.length).filter λi=>laid.getD i 0==m).all λi=>sub (rs.getD i []) (rs.getD laid.length [])
def ui {α:Type} (d) (p) (h) (xs:List α) (hh:∀x∈xs,∃env,g (d x) kQ=ϊ env/\t env s=ok (p x) s/\(p x=ό->act env s=ok (h x) s)) :
  jq g t act kQ (xs.map d) s=ok ((xs.filter p).flatMap h) s:=by
 induction xs with
 |nil=>rfl
 |cons n T ih =>
  obtain⟨env,Y,X,W⟩:=hh n Ó;have ih:=ih λV U=>hh V (É _ U);rw[Þ];delta jq;rw[Y];erw[X,rB,cZ]
  cases Z:p n with
  |true=>erw[ø,W Z,rB,cZ,ih,ŕ,Z,List.flatMap_cons]
  |false=>erw[Æ,ñ,ih,ŕ,Z]
def De :
  Wp (wN nt cap it gd c act env s) Q=Wp (it env s) λds s=>Wp (jq gd c act (Õ nt ϋ++lQ cap env) ds s) λxs s=>xs.length<=Ô/\Q (.lst xs) s:=by
 delta wN;erw[bU,AH,wc,bF]
def step (rs:List (List Int)) (told:List (List Int)):List (List Int):=told.flatMap λlaid=>([0,1].filter λm=>abV rs laid m).map λm=>laid++[m]
open TK
noncomputable def markB (i:Int):Bool:=ώ (0<=i)&&ώ (i<8)
noncomputable def fN (i:Int):Bool:=ώ (0<=i)&&ώ (i<4)
noncomputable def fc (i:Int):Bool:=ώ (0<=i)&&ώ (i<31)
def fm (ns:List Int):Bool:=ns.all markB&&rise ns
noncomputable def iQ (a b:List Int):Bool:=!(a.any λx=>ώ (x∈b))
def cF:Pg->Bool
 | .made m d h l=>fN m&&fc d&&(fm h&&(fm l&&iQ h l))
 | .cE m d k=>fN m&&fc d&&markB k
def js:Pg->Prop
 | .made _ _ h l=>h.length<=1000/\l.length<=1000
 | .cE ..=>True
def Yb:i3 (bs.map D.bl)=ϊ bs:=by
 induction bs with
 |nil=>rfl
 |cons b bs ih=>erw[Þ,i3,ih];rfl
def Mr {α:Type} (p) (xs:List α) (s):uU [.lst (xs.map λx=>D.bl (p x))] s=ok (.bl (xs.any p)) s:=by
 have e:i3 (xs.map λx=>D.bl (p x))=ϊ (xs.map p):=by
  have:=Yb (bs:=xs.map p);rw[ė] at this;exact this
 erw[uU,res,e,bW,Ž,List.any_map,ť,id]
def Ms (hl:ns.length<=1000):vQ [mD ns] s=ok (.bl (fm ns)) s:=by
 refine agU ?_;delta vQ;simp only[VC];refine agT (rfl) ?_;simp only[VC,ø];refine agT (jD rfl) ⟨le_size (by rw[Ç];omega),?_⟩;refine agT (qO (λ_=>ό) (λx=>.bl (markB x)) ns λn _=>⟨_,rfl,rfl,λ_=>?_⟩) ?_
 ·refine agU ?_
  simp only[VC,Nq,markB,true_and]
 ·rw[filter_tt]
  refine agT (qZ ..) ?_;simp only[VC];delta fm
  cases e:ns.all markB with
  |true =>
   exact agT (Wq ⋯) ⟨rfl,rfl⟩
  |false=>simp
def Dg (ha:a.length<=1000):sV [mD a,mD b] s=ok (.bl (iQ a b)) s:=by
 refine agU ?_;delta sV;simp only[VC];refine agT (jD rfl) ⟨le_size (by rw[Ç];omega),?_⟩;refine agT (qO (λ_=>ό) (λx=>.bl (ώ (x∈b))) a λn _=>⟨[ϊ _,ϊ _],rfl,rfl,λ_=>?_⟩) ?_
 ·refine agU ?_
  simp only[VC,pJ,true_and]
 ·rw[filter_tt]
  refine agT (Mr ..) ?_;simp only[VC];exact⟨rfl,trivial⟩
def Dh (h1:h.length<=1000) (h2:l.length<=1000):qK [.tup [mD h,mD l]] s=ok (.bl (fm h&&(fm l&&iQ h l))) s:=by
 refine agU ?_;delta qK;simp only[VC];refine agT (rfl) ?_;simp only[VC,ĳ,Æ,ñ];refine agT (rfl) ?_;simp only[VC];refine agT (Ms h1) ?_;simp only[VC]
 cases fm h with
 |false=>simp
 |true =>
  refine agT (Ms h2) ?_;simp only[VC]
  cases fm l with
  |false=>simp
  |true =>
   exact agT (Dg h1) ⟨rfl,rfl⟩
def Mt:tj [.int i] s=ok (.bl (fN i)) s:=by
 refine agU ?_;delta tj;simp only[VC,tJ,fN,Ğ]
def OI:tM [.int i] s=ok (.bl (fc i)) s:=by
 refine agU ?_;delta tM;simp only[VC,tJ,fc,Ğ]
def lr:aX (.str x) (.str y) s=ok (.bl (ώ (x=y))) s:=by
 show ok (D.bl (x==y)) s=_
 by_cases e:x=y<;>simp[e]
def ZI:¬ (Ģ "made"=Ģ "mended"):=nofun
def D1:¬ (Ģ "mended"=Ģ "made"):=nofun
def BF:agS Fl:=aw (aU (aJ (e2 aX (aa 1) (eC (.str "made")))) (aH (aB qK (ae (aa 4) ah))) bz) (aH (dw (e2 aX (aa 1) (eC (.str "mended"))) (aB tB (ae (aa 4) ah))))
def Nt {m d} {w} {s} {b} (h:Wp (BF [ϊ (.tup [.str x,.int m,.int d,w]),ϊ (.str x),ϊ (.int m),ϊ (.int d),ϊ w] s) (oS λd s'=>d=.bl b/\s'=s)):tF [.tup [.str x,.int m,.int d,w]] s=ok (.bl (fN m&&fc d&&b)) s:=by
 refine agU ?_;show Wp (aO 1 5 (aw _ (aw _ (aw _ BF))) _ s) _;simp only[VC];refine agT (rfl) ?_;simp only[VC,ĳ,Æ,ñ];refine agT (rfl) ?_;simp only[VC,ę,ĳ,Æ,ñ];refine agT Mt ?_;simp only[VC]
 cases fN m with
 |false=>simp[mL,kJ,bN,bh]
 |true =>
  refine agT OI ?_;simp only[VC]
  cases fc d with
  |false=>simp[mL,kJ,bN,bh]
  |true =>
   exact h
def D2 (hf:js p):tF [p.d] s=ok (.bl (cF p)) s:=by
 cases p with
 |made m d h l =>
  refine Nt ?_;delta BF;simp only[VC];refine agT lr ?_;simp only[VC,ģ,ø];exact agT (Dh hf.1 hf.2) ⟨rfl,rfl⟩
 |cE m d k =>
  refine Nt ?_;delta BF;simp only[VC];refine agT lr ?_;simp only[VC,Ê D1,Æ,ñ];refine agT lr ?_;simp only[VC,ģ,ø];exact agT Nq ⟨rfl,rfl⟩
abbrev bD (ps:List Pg):D:=.tup (ps.map Pg.d)
def abW:kS p.d q.d s=ok (.bl (dB.lt p q)) s:=by
 delta kS;rw[Ö (by rw[rh _ (AB p),rh _ (AB q)];erw[Ĥ,ğ,Ã];have:=wQ p;omega),Py];rfl
noncomputable def uC (ps:List Pg):Bool:=(ps.zip (ps.drop 1)).all λp=>dB.lt p.1 p.2
def Yc (xs ys:List Pg):jN (xs.map Pg.d) (ys.map Pg.d)=(xs.zip ys).map λp=>D.tup [p.1.d,p.2.d]:=by
 delta jN;rw[List.zip_map,ė];rfl
def Vd (hl:ps.length<=1000):qI [bD ps] s=ok (.bl (uC ps)) s:=by
 refine agU ?_;delta qI;simp only[VC];have Z:uP (ae (aa 0) (ae (pd (aa 0) (lV (eC (.int 1))) mi) ah)) [ϊ (bD ps)] s=ok (jN (ps.map Pg.d) ((ps.drop 1).map Pg.d)) s:=by
  refine Mq (agU ?_);simp only[VC];rw[DT rfl];refine agT (rfl) ⟨?_,rfl⟩;rw[Mo,List.map_drop]
 refine agT Z ⟨le_size (by rw[CQ];erw[Ç];omega),?_⟩;rw[Yc];refine agT (comp_map (λp=>D.tup _) (λ_=>ό) (λp=>.bl (dB.lt p.1 p.2)) _ λp _=>⟨_,rfl,rfl,λ_=>?_⟩) ?_
 ·refine agU ?_
  simp only[VC,abW,Ğ]
 rw[filter_tt];exact agT (qZ ..) ⟨rfl,rfl⟩
def jL (ps:List Pg):Bool:=ώ (ps.length<=24)&&(ps.all cF&&uC ps)
def ZJ (hl:ps.length<=1000) (hf:∀p∈ps,js p):zt [bD ps] s=ok (.bl (jL ps)) s:=by
 refine agU ?_;delta zt jL;simp only[VC];refine agT (rfl) ?_;simp only[VC,ø];refine agT (by show ok _ s=_;rw[Ç]) ?_;simp only[VC];by_cases h:ps.length<=24
 ·have Z:(ps.length:Int)<=24:=by omega
  erw[h,Z,ģ,ø,ğ];refine agT (jD rfl) ⟨le_size (by rw[Ç];omega),?_⟩;refine agT (comp_map _ (λ_=>ό) (λp=>.bl (cF p)) ps λp Y=>⟨_,rfl,rfl,λ_=>?_⟩) ?_
  ·refine agU ?_
   simp only[VC,D2 (hf p Y),Ğ]
  ·rw[filter_tt]
   refine agT (qZ ..) ?_;simp only[VC]
   cases ps.all cF with
   |false=>simp
   |true =>
    exact agT (Vd hl) ⟨rfl,rfl⟩
 ·have Z:¬ (ps.length:Int)<=24:=by omega
  simp[h,Z]
noncomputable def _root_.TK.Pg.day:Pg->Int
 | .made _ d ..=>d
 | .cE _ d _=>d
noncomputable def qy (m k:Int):Pg->Bool
 | .made Z _ h _=>ώ (Z=m)&&ώ (k∈h)
 |_=>ύ
noncomputable def qz (m k:Int):Pg->Bool
 | .made Z _ _ l=>ώ (Z=m)&&ώ (k∈l)
 |_=>ύ
noncomputable def pq (m k:Int):Pg->Bool
 | .cE Z _ Y=>ώ (Z=m)&&ώ (Y=k)
 |_=>ύ
def shown (ps:List Pg) (m k:Int):List Int:=(ps.filter (qy m k)).map Pg.day
def eT (ps:List Pg) (m k:Int):List Int:=(ps.filter (qz m k)).map Pg.day
def c8 (ps:List Pg) (m k:Int):List Int:=(ps.filter (pq m k)).map Pg.day
noncomputable abbrev lI (ns:List Int):D:=.lst (ns.map D.int)
def lA (a b c d) (s):ar (.tup [a,b,c,d]) (.int 0) s=ok a s/\ar (.tup [a,b,c,d]) (.int 1) s=ok b s/\ar (.tup [a,b,c,d]) (.int 2) s=ok c s/\ar (.tup [a,b,c,d]) (.int 3) s=ok d s:=⟨rfl,rfl,rfl,rfl⟩
def vD (a b) (s):ar (.tup [a,b]) (.int 0) s=ok a s/\ar (.tup [a,b]) (.int 1) s=ok b s:=⟨rfl,rfl⟩
def Ib (p:Pg) (s):ar p.d (.int 1) s=ok (.int (match p with | .made m ..=>m | .cE m ..=>m)) s/\ar p.d (.int 2) s=ok (.int p.day) s:=by cases p<;>exact⟨rfl,rfl⟩
def zV (hl:ps.length<=1000):my [bD ps,.int m,.int k,.int 0] s=ok (lI (shown ps m k)) s/\my [bD ps,.int m,.int k,.int 1] s=ok (lI (eT ps m k)) s:=by
 constructor
 ·refine agU ?_
  delta my;simp only[VC];refine agT (jD rfl) ⟨le_size (by rw[Ç];omega),?_⟩;refine agT (comp_map _ (qy m k) (λp=>.int p.day) ps λp Y=>⟨[ϊ _,ϊ _,ϊ _,ϊ _],rfl,?_,λ_=>?_⟩) ?_
  ·refine agU ?_
   cases p with
   |made Z d h l =>
    simp only[VC,Pg.d];rw[(lA _ _ _ _ s).1];simp only[VC,lr,ģ,ø];rw[(lA _ _ _ _ s).2.1];simp only[VC,qy];by_cases e:Z=m
    ·erw[e,ę,ø,ģ,ğ]
     rw[(lA _ _ _ _ s).2.2.2];simp only[VC];rw[(vD _ _ s).1];simp only[VC];refine agT (pJ) ?_;simp only[VC,Ğ]
    ·simp[e]
   |cE Z d X =>
    simp only[VC,Pg.d];rw[(lA _ _ _ _ s).1];simp only[VC,lr,Ê D1,Æ,ñ,qy,Ğ]
  ·refine agU ?_
   simp only[VC,(Ib p s).2,Ğ]
  ·erw[shown,lI,ė,ť,Ğ]
 ·refine agU ?_
  delta my;simp only[VC];refine agT (jD rfl) ⟨le_size (by rw[Ç];omega),?_⟩;refine agT (comp_map _ (qz m k) (λp=>.int p.day) ps λp Y=>⟨[ϊ _,ϊ _,ϊ _,ϊ _],rfl,?_,λ_=>?_⟩) ?_
  ·refine agU ?_
   cases p with
   |made Z d h l =>
    simp only[VC,Pg.d];rw[(lA _ _ _ _ s).1];simp only[VC,lr,ģ,ø];rw[(lA _ _ _ _ s).2.1];simp only[VC,qz];by_cases e:Z=m
    ·erw[e,ę,ø,ģ,ğ]
     rw[(lA _ _ _ _ s).2.2.2];simp only[VC];rw[(vD _ _ s).2];simp only[VC];refine agT (pJ) ?_;simp only[VC,Ğ]
    ·simp[e]
   |cE Z d X =>
    simp only[VC,Pg.d];rw[(lA _ _ _ _ s).1];simp only[VC,lr,Ê D1,Æ,ñ,qz,Ğ]
  ·refine agU ?_
   simp only[VC,(Ib p s).2,Ğ]
  ·erw[eT,lI,ė,ť,Ğ]
def D3 (hl:ps.length<=1000):sS [bD ps,.int m,.int k] s=ok (lI (c8 ps m k)) s:=by
 refine agU ?_;delta sS;simp only[VC];refine agT (jD rfl) ⟨le_size (by rw[Ç];omega),?_⟩;refine agT (comp_map _ (pq m k) (λp=>.int p.day) ps λp X=>⟨[ϊ _,ϊ _,ϊ _],rfl,?_,λ_=>?_⟩) ?_
 ·refine agU ?_
  cases p with
  |cE Z d Y =>
   simp only[VC,Pg.d];rw[(lA _ _ _ _ s).1];simp only[VC,lr,ģ,ø];rw[(lA _ _ _ _ s).2.1];simp only[VC,pq];by_cases e:Z=m
   ·rw[(lA _ _ _ _ s).2.2.2]
    simp only[VC]
    by_cases e:Y=k<;>simp[e]
   ·simp[e]
  |made Z d h l =>
   simp only[VC,Pg.d];rw[(lA _ _ _ _ s).1];simp only[VC,lr,Ê ZI,Æ,ñ,pq,Ğ]
 ·refine agU ?_
  simp only[VC,(Ib p s).2,Ğ]
 ·erw[c8,lI,ė,ť,Ğ]
def OJ (h:n<=1000):n<=Ô:=le_size ⋯
def uD:cz (.int x) (lI ns) s=ok (.bl (ώ (x∈ns))) s:=by
 exact pJ
def zE:gC (.int x) (lI ns) s=ok (.bl (!ώ (x∈ns))) s:=by
 exact Vc
noncomputable def Gu (ds:List Int) (a b:Int):Bool:=ds.any λx=>ώ (a<x)&&ώ (x<=b)
def Wr (hl:ds.length<=1000):za [lI ds,.int a,.int b] s=ok (.bl (Gu ds a b)) s:=by
 refine agU ?_;delta za;simp only[VC];refine agT (pH rfl) ⟨OJ (by rw[Ç];omega),?_⟩;refine agT (qO (λ_=>ό) (λx=>.bl (ώ (a<x)&&ώ (x<=b))) ds λn _=>⟨[ϊ _,ϊ _,ϊ _],rfl,rfl,λ_=>?_⟩) ?_
 ·refine agU ?_
  simp only[VC]
  by_cases e:a<n<;>simp[e,bF,Ap,bb,aG]
 ·rw[filter_tt]
  exact agT (Mr ..) ⟨rfl,rfl⟩
def sL (ps:List Pg) (m k d l:Int):Bool:=(ώ (l∈eT ps m k)||(ώ (l=d)&&ώ (d∈c8 ps m k)))&&!Gu (c8 ps m k) d l
noncomputable def uj (d:Int):List Int:=(â (31-d).toNat).map λi:Nat=>d+(i)
def om (ps:List Pg) (m k:Int):List (Int×Int):=(ji (shown ps m k)).flatMap λd=>((uj d).filter (sL ps m k d)).map λl=>(d,l)
def Dj {ps:List Pg} {f}:((ps.filter f).map Pg.day).length<=ps.length:=by rw[Ç];exact Ļ ..
theorem tO {α β:Type} {f:α->List β} {b}:∀{l:List α},(∀x∈l,(f x).length<=b)->(l.flatMap f).length<=l.length*b
 | [],_=>by simp
 |x::l,h=>by
  rw[List.flatMap_cons,Ù,æ,Nat.succ_mul];have Y:=h x Ó;have X:=tO λy Z=>h y (É _ Z);omega
def KY (d) (h:0<=d):(uj d).length<=31:=by delta uj;rw[Ç,List.length_range];omega
structure rX (ps:List Pg):Prop where
 len:ps.length<=24
 lo:∀p∈ps,0<=p.day/\p.day<31
def rX.of (h:rX ps) (hx:x∈(ps.filter f).map Pg.day):0<=x/\x<31:=by
 obtain⟨p,Z,rfl⟩:=é.mp hx;exact h.lo p (ĉ.mp Z).1
def Ve (h:rX ps):vZ [bD ps,.int m,.int k] s=ok (.lst ((om ps m k).map λp=>D.tup [.int p.1,.int p.2])) s:=by
 have Y:=h.len;have R:(shown ps m k).length<=24:=Ø Dj Y;have Q:(c8 ps m k).length<=24:=Ø Dj Y;refine agU ?_;delta vZ;simp only[VC];refine agT (zV ⋯).2 ?_;refine agT (D3 ⋯) ?_;rw[De];have T:cA (e1 wa (aB my (ae (aa 0) (ae (aa 1) (ae (aa 2) (ae (eC (.int (0))) ah)))))) [ϊ (bD ps),ϊ (.int m),ϊ (.int k),ϊ (lI (eT ps m k)),ϊ (lI (c8 ps m k))] s=ok ((ji (shown ps m k)).map D.int) s:=by
  refine pH (agU ?_);simp only[VC];refine agT (zV ⋯).1 ?_;refine agT (?_) ⟨rfl,rfl⟩;delta wa;erw[VR];rw[Ö (by have:=Cr (shown ps m k);rw[Ã];omega)]
 refine agT T ?_;have day:∀d∈ji (shown ps m k),0<=d/\d<31:=λd Z=>h.of (qM.mp Z);refine agT (ui _ (λ_=>ό) (λd=>((uj d).filter (sL ps m k d)).map λl=>D.tup [.int d,.int l]) _ λd Z=>⟨[ϊ _,ϋ,ϊ _,ϊ _],rfl,rfl,λ_=>?_⟩) ?_
 ·have Z:=day d Z
  delta more;rw[abS rfl ⋯ ⋯ ⋯ ⋯,cZ];have S:dU d (31-d).toNat=(uj d).map D.int:=by delta uj;rw[ė];rfl
  rw[S];rw[ui _ _ (λl=>[D.tup _]) _ λl Y=>⟨_,rfl,?_,λ_=>?_⟩]
  ·rw[<- agA]
  ·refine agU ?_
   simp only[VC,uD];delta sL;have X:=Wr (ds:=c8 ps m k) (a:=d) (b:=l) (s:=s) ⋯;by_cases W:l∈eT ps m k
   ·simp only[VC,W,ģ,ø,Bool.true_or,ğ]
    exact agT X (by simp only[VC,Ğ])
   ·erw[W,decide_false,Æ,ñ,Bool.false_or]
    by_cases V:l=d
    ·subst V
     simp only[VC,ę,ø,ģ,ğ];by_cases U:l∈c8 ps m k
     ·erw[U,ģ,ø,ğ]
      exact agT X (by simp only[VC,Ğ])
     ·simp[U]
    ·simp[V]
  ·refine agU ?_
   delta emit;rw[bU];simp only[VC];exact⟨by decide,trivial⟩
 ·rw[filter_tt]
  refine⟨?_,?_,rfl⟩
  ·refine OJ (Ø (tO (b:=31) λd Z=>?_) ?_)
   ·rw[Ç]
    exact Ø (Ļ ..) (KY d (day d Z).1)
   ·have:=Cr (shown ps m k)
    omega
  ·delta om
   erw[List.map_flatMap,ė,ť]
noncomputable def m4:List Int:=(â 4).map λi:Nat=>(i)
noncomputable def k8:List Int:=(â 8).map λi:Nat=>(i)
def rl (ps:List Pg):List (Int×Int×Int×Int):=m4.flatMap λm=>k8.flatMap λk=>(om ps m k).map λp=>(m,k,p.1,p.2)
noncomputable def fD (p:Int×Int×Int×Int):D:=.tup [.int p.1,.int p.2.1,.int p.2.2.1,.int p.2.2.2]
def Ws (h:rX ps) (m k):(om ps m k).length<=744:=by
 have Y:(shown ps m k).length<=24:=Ø Dj h.len;have:=Cr (shown ps m k);refine Ø (tO (b:=31) λd Z=>?_) ⋯;rw[Ç];exact Ø (Ļ ..) (KY d (h.of (qM.mp Z)).1)
def Wt (h:rX ps):zp [bD ps] s=ok (.lst ((rl ps).map fD)) s:=by
 refine agU ?_;delta zp;erw[cT,bN,kJ,Þ,ł,ď,Ĩ,æ,ē,Õ,true_and,Nat.reduceSub,Nat.reduceAdd];rw[De];refine agT (fB rfl (by decide)) ?_;have V:dU 0 4=m4.map _:=rfl;have Z:dU 0 8=k8.map _:=rfl;refine agT (ui _ (λ_=>ό) (λm=>k8.flatMap λk=>(om ps m k).map λp=>fD (m,k,p.1,p.2)) m4 λm Y=>⟨_,rfl,rfl,λ_=>?_⟩) ?_
 ·delta more
  rw[fB rfl (by decide),cZ,Z];rw[ui _ (λ_=>ό) (λk=>(om ps m k).map λp=>fD _) k8 λk X=>⟨[ϊ _,ϊ _,ϋ,ϋ,ϊ _],rfl,rfl,λ_=>?_⟩]
  ·rw[filter_tt]
  ·have W:cA (aB vZ (ae (aa 4) (ae (aa 0) (ae (aa 1) ah)))) [ϊ (.int m),ϊ (.int k),ϋ,ϋ,ϊ (bD ps)] s=ok ((om ps m k).map λp=>D.tup [.int p.1,.int p.2]) s:=by
    refine pH (agU ?_);simp only[VC];exact agT (Ve h) ⟨rfl,rfl⟩
   rw[W,cZ];rw[ui (λp=>D.tup _) (λ_=>ό) (λp=>[fD _]) _ λp U=>⟨_,rfl,rfl,λ_=>?_⟩]
   ·rw[filter_tt,<- agA]
   ·refine agU ?_
    delta emit;rw[bU];simp only[VC];exact⟨by decide,rfl,trivial⟩
 ·rw[filter_tt]
  refine⟨?_,?_,rfl⟩
  ·refine le_size (Ø (tO (b:=8*744) λm Y=>?_) (by decide))
   refine Ø (tO (b:=744) λk X=>?_) (by decide);rw[Ç];exact Ws h m k
  ·delta rl
   erw[List.map_flatMap,ė,ť]
def cU (ps:List Pg):Bool:=jL ps&&(rl ps).isEmpty
def Lw (h:jL ps=ό):rX ps:=by
 delta jL at h;erw[Â,Ã,Ü] at h;refine⟨h.1,λp Z=>?_⟩;have:=h.2.1 p Z
 cases p<;>erw[cF,fc,Â,Ã] at this<;>exact this.1.2
def Nu (hl:ps.length<=1000) (hf:∀p∈ps,js p):tG [bD ps] s=ok (.bl (cU ps)) s:=by
 refine agU ?_;delta tG;simp only[VC];refine agT (ZJ hl hf) ?_;simp only[VC];delta cU
 cases h:jL ps with
 |false=>simp
 |true =>
  delta E7;simp only[VC,bU];refine agT (Wt (Lw h)) ?_;refine agT (rfl) ?_;erw[bF];refine⟨?_,trivial⟩
  cases rl ps<;>rfl
def Aq:m∈m4↔0<=m/\m<4:=by
 delta m4;rw[é];constructor
 ·rintro ⟨i,Z,rfl⟩
  have:=î.mp Z;omega
 ·rintro ⟨Y,X⟩
  exact⟨m.toNat,î.mpr ⋯,by omega⟩
def rm:m∈k8↔0<=m/\m<8:=by
 delta k8;rw[é];constructor
 ·rintro ⟨i,Z,rfl⟩
  have:=î.mp Z;omega
 ·rintro ⟨Y,X⟩
  exact⟨m.toNat,î.mpr ⋯,by omega⟩
def Yd (h:cU ps=ό) (hm:0<=m/\m<4) (hk:0<=k/\k<8) (hd:d∈shown ps m k) (h1:d<=l) (h2:l<31):sL ps m k d l=ύ:=by
 delta cU at h;rw[Â,List.isEmpty_iff] at h
 cases Z:sL ps m k d l with
 |false=>rfl
 |true =>
  have Y:(d,l)∈om ps m k:=by
   refine adM.mpr ⟨d,qM.mpr hd,é.mpr ⟨l,ĉ.mpr ⟨?_,Z⟩,rfl⟩⟩;exact é.mpr ⟨(l-d).toNat,î.mpr ⋯,by omega⟩
  have:(m,k,d,l)∈rl ps:=adM.mpr ⟨m,Aq.mpr hm,adM.mpr ⟨k,rm.mpr hk,é.mpr ⟨_,Y,rfl⟩⟩⟩;rw[h.2] at this;cases this
section
variable (s l m:Nat->Bool)
noncomputable def pr:Nat->Bool
 |0=>s 0
 |d+1=>s (d+1)||(pr d&&!m (d+1))
noncomputable def ia:Nat->Bool
 |0=>ύ
 |n+1=>(ia n||l (30-n))&&!m (30-n)
def br (d:Nat):Bool:=ia l m (31-d)
def ab (d:Nat):Bool:=br l m (d+1)||(l d||m d)
noncomputable def f0 (d:Nat):Bool:=!s d
noncomputable def t0 (d:Nat):Bool:=!m d&&!l d
def zW:Prop:=∀d e,s d=ό->d<=e->e<=30->(l e=ό\/(e=d/\m d=ό))->∃x,d<x/\x<=e/\m x=ό
variable {s l m}
theorem EG:∀{d},pr s m d=ό↔∃e,e<=d/\s e=ό/\∀x,e<x->x<=d->m x=ύ
 |0=>by
  erw[pr];constructor
  ·intro h;exact⟨0,agW _,h,λx Y Z=>by omega⟩
  ·intro zzz;obtain⟨e,Y,Z,_⟩:=zzz
   have:e=0:=by omega
   rw[<- this];exact Z
 |d+1=>by
  erw[pr,Ť,Â,û];rw[EG];constructor
  ·rintro (h | ⟨⟨e,Y,Z,X⟩,V⟩)
   ·exact⟨_,agW _,h,λx Y Z=>by omega⟩
   ·refine⟨e,by omega,Z,λx W U=>?_⟩
    by_cases T:x=d+1
    ·rw[T];exact V
    ·exact X x W ⋯
  ·intro zzz;obtain⟨e,Y,Z,X⟩:=zzz
   by_cases S:e=d+1
   ·left;rw[<- S];exact Z
   ·right
    exact⟨⟨e,by omega,Z,λx W U=>X x W ⋯⟩,X _ ⋯ (agW _)⟩
section
variable (N:zW s l m)
include N
end
end
theorem Nv:∀{ns},rise ns=ό->ns.Pairwise (· < ·)
 | [],_=>.nil
 | [a],_=>by simp
 |a::b::r,h=>by
  erw[rise,Â,Ã] at h;have ih:=Nv h.2;refine ò.mpr ⟨λx hx=>?_,ih⟩
  rcases Ñ.mp hx with rfl|hx
  ·exact h.1
  ·have:=(ò.mp ih).1 x hx
   omega
def tu (h:fm ns=ό):eV 8 ns:=by
 delta fm at h;rw[Â,Ü] at h;refine⟨λx Z=>?_,Nv h.2⟩;have:=h.1 x Z;delta markB at this;erw[Â,Ã] at this;exact this
def tw (h:eV n ns) (hn:n<=8):fm ns=ό:=by
 delta fm;rw[Â,Ü];refine⟨λx Z=>?_,ZH h.up⟩;have:=h.lo x Z;delta markB;erw[Â,Ã];omega
theorem eV.filter (h:eV n ns) (p):eV n (ns.filter p):=⟨λx Z=>h.lo x (ĉ.mp Z).1,h.up.filter p⟩
def Wu (hm:0<=m/\m<4) (hd:0<=d/\d<31) (hk:0<=k/\k<8):cF (.cE m d k)=ό:=by
 erw[cF,fN,fc,markB,Â,Ã];omega
def Wv (hm:0<=m/\m<4) (hd:0<=d/\d<31) (h1:eV n h) (h2:eV n l) (hn:n<=8) (ha:∀x∈h,x∉l):cF (.made m d h l)=ό:=by
 erw[cF,fN,fc,Â,Ã,iQ,û,š];exact⟨⟨hm,hd⟩,tw h1 hn,tw h2 hn,ha⟩
def CF (h:cF p=ό):js p:=by
 cases p with
 |made m d Z l =>
  erw[cF,Â] at h;exact⟨by have:=(tu h.2.1).len;omega,by have:=(tu h.2.2.1).len;omega⟩
 |cE m d k=>trivial
theorem Nw:∀{ps},ps.Pairwise (λa b=>dB.lt a b=ό)->uC ps=ό
 | [],_=>rfl
 | [a],_=>rfl
 |a::b::r,h=>by
  obtain⟨Z,Y⟩:=ò.mp h;have ih:=Nw Y;delta uC at ih |-;erw[agz,agI,ň,agk,Â] at ih |-;exact⟨Z b Ó,ih⟩
def Ye (h:ps.Nodup):(ST.gj dB ps).Pairwise λa b=>dB.lt a b=ό:=by
 have Y:=ST.L4 (O:=dB) ps;have X:(ST.gj dB ps).Nodup:=(ST.qJ ps).nodup_iff.mpr h;refine(Y.and X).imp λ{a b} Z=>?_
 cases W:dB.lt a b with
 |true=>rfl
 |false=>exact(Z.2 (dB.yM a b W Z.1)).elim
structure Laid (ps:List Pg):Prop where
 pg:∀p∈ps,cF p=ό
 up:ps.Pairwise λa b=>dB.lt a b=ό
theorem Laid.jL (h:Laid ps) (hl:ps.length<=24):jL ps=ό:=by
 delta DI.jL;rw[Ä hl,Ü.mpr h.pg,Nw h.up];rfl
def Laid.sub (h:Laid ps) (hs:qs.Sublist ps):Laid qs:=⟨λp Z=>h.pg p (hs.subset Z),h.up.sublist hs⟩
section
variable (ps:List Pg) (m k:Int)
def sN (d:Nat):Bool:=ώ ((d:Int)∈shown ps m k)
def lN (d:Nat):Bool:=ώ ((d:Int)∈eT ps m k)
def mN (d:Nat):Bool:=ώ ((d:Int)∈c8 ps m k)
def iu:List Int:=((â 31).filter λd=>pr (sN ps m k) (mN ps m k) d).map λd:Nat=>(d)
def gQ:List Int:=((â 31).filter λn=>ab (lN ps m k) (mN ps m k) (30-n)).map λn=>((30-n:Nat))
end
def ZK (h:cU ps=ό) (hm:0<=m/\m<4) (hk:0<=k/\k<8):zW (sN ps m k) (lN ps m k) (mN ps m k):=by
 intro d e Y T S Z;erw[sN,lN,mN,Ã] at Y Z;have c:=Yd h hm hk Y (l:=(e)) ⋯ ⋯;delta sL at c;have X:(ώ ((e:Int)∈eT ps m k)||(ώ ((e)=(d:Int))&&ώ ((d:Int)∈c8 ps m k)))=ό:=by
  rcases Z with Z | ⟨R,W⟩
  ·rw[Ä Z];rfl
  ·rw[Ä (show (e:Int)=d by omega),Ä W];simp
 rw[X,ğ,Bool.not_eq_false'] at c;obtain⟨x,V,U⟩:=Ŭ.mp c;erw[Â,Ã] at U;refine⟨x.toNat,by omega,by omega,?_⟩;erw[mN,Ã];rw[show ((x.toNat))=x by omega];exact V
def Nx {d:Nat} (h:d<=30):ώ ((d:Int)∈iu ps m k)=pr (sN ps m k) (mN ps m k) d:=by
 have:(d:Int)∈iu ps m k↔pr (sN ps m k) (mN ps m k) d=ό:=by
  delta iu;rw[é];constructor
  ·rintro ⟨e,Y,X⟩
   have:e=d:=by omega
   rw[<- this];exact(ĉ.mp Y).2
  ·intro Z
   exact⟨d,ĉ.mpr ⟨î.mpr ⋯,Z⟩,rfl⟩
 cases Z:pr _ _ d with
 |true=>exact Ä (this.mpr Z)
 |false=>exact Ê λz=>by rw[this.mp z] at Z;cases Z
def Ny {d:Nat} (h:d<=30):ώ ((d:Int)∈gQ ps m k)=ab (lN ps m k) (mN ps m k) d:=by
 have:(d:Int)∈gQ ps m k↔ab (lN ps m k) (mN ps m k) d=ό:=by
  delta gQ;rw[é];constructor
  ·rintro ⟨e,Y,W⟩
   obtain⟨V,X⟩:=ĉ.mp Y;have:30-e=d:=by omega
   rw[<- this];exact X
  ·intro Z
   exact⟨30-d,ĉ.mpr ⟨î.mpr ⋯,by rw[show 30-(30-d)=d by omega];exact Z⟩,by omega⟩
 cases Z:ab _ _ d with
 |true=>exact Ä (this.mpr Z)
 |false=>exact Ê λz=>by rw[this.mp z] at Z;cases Z
def Nz {s:ag} {ns:List Int} {x} (hn:ns.length<1000):lX (.au s.length) (s++[.lst (ns.map D.int)])=ό/\lW (.au s.length) (.int x) (s++[.lst (ns.map D.int)])=ok .az (s++[.lst ((ns++[x]).map D.int)]):=by
 have e:(s++[Cell.lst (ns.map D.int)])[s.length]?=ϊ (.lst (ns.map D.int)):=by simp
 refine⟨by erw[lX,e],?_⟩;delta lW;erw[e];rw[Ö (by rw[Ã,Ç];exact È hn (le_size (by decide)))];simp[agc]
def NA {s:ag} {ns}:bH (.au s.length) (s++[.lst (ns.map D.int)])=ok (lI ns) (s++[.dead]):=by
 have e:(s++[Cell.lst (ns.map D.int)])[s.length]?=ϊ (.lst (ns.map D.int)):=by simp
 erw[bH,e];simp[agc]
def zv {f:Nat->Int} {i}:((â (i+1)).filter p).map f=((â i).filter p).map f++(if p i=ό then [f i] else []):=by
 rw[ζ,List.filter_append]
 cases h:p i<;>simp[h]
def tI {f:Nat->Int} {i}:(((â i).filter p).map f).length<=i:=by
 rw[Ç];exact Ø (Ļ ..) (by rw[List.length_range];exact agW _)
def pv (s m:Nat->Bool):Nat->Bool
 |0=>ύ
 |i+1=>pr s m i
def Vf (hl:ps.length<=1000):zc [bD ps,.int m,.int k] s=ok (lI (iu ps m k)) (s++[.dead]):=by
 refine agU ?_;delta zc;simp only[VC];refine agT (zV hl).1 ?_;refine agT (D3 hl) ?_
 try simp only[VC]
 refine⟨by decide,?_⟩;refine agT (fB (n:=31) rfl (by decide)) ?_;refine Wp.jr (λi env Y=>i<=31->∃Z,env=[ϊ (bD ps),ϊ (.int m),ϊ (.int k),ϊ (lI (shown ps m k)),ϊ (lI (c8 ps m k)),ϊ (.au s.length),ϊ (.bl (pv (sN ps m k) (mN ps m k) i)),Z]/\Y=s++[.lst ((((â i).filter λd=>pr (sN ps m k) (mN ps m k) d).map λd:Nat=>(d:Int)).map D.int)]) _ (λ_=>⟨_,rfl,rfl⟩) (λi d env Y W V=>?_) (λenv Y V=>?_)
 ·rw[jE] at W
  split at W
  ·rename_i O
   cases W;obtain⟨Z,rfl,rfl⟩:=V ⋯;refine⟨_,rfl,?_⟩;have U:(0:Int)+(i:Int)=i:=by omega
   have key:(ώ ((i:Int)∈shown ps m k)||(pv (sN ps m k) (mN ps m k) i&&!ώ ((i:Int)∈c8 ps m k)))=pr (sN ps m k) (mN ps m k) i:=by
    cases i with
    |zero=>simp[pv,pr,sN]
    |succ i=>rfl
   have fin:∀c:Bool,c=pr (sN ps m k) (mN ps m k) i->if c=ό then lX (.au s.length) (s++[.lst ((((â i).filter λd=>pr (sN ps m k) (mN ps m k) d).map λd:Nat=>(d:Int)).map D.int)])=ό/\Wp (lW (.au s.length) (.int (0+(i:Int))) (s++[.lst ((((â i).filter λd=>pr (sN ps m k) (mN ps m k) d).map λd:Nat=>(d:Int)).map D.int)])) λx Y=>i+1<=31->∃Z,([ϊ (bD ps),ϊ (.int m),ϊ (.int k),ϊ (lI (shown ps m k)),ϊ (lI (c8 ps m k)),ϊ (.au s.length),ϊ (.bl c),ϊ (.int (0+(i:Int)))]:Env)=[ϊ (bD ps),ϊ (.int m),ϊ (.int k),ϊ (lI (shown ps m k)),ϊ (lI (c8 ps m k)),ϊ (.au s.length),ϊ (.bl (pv (sN ps m k) (mN ps m k) (i+1))),Z]/\Y=s++[.lst ((((â (i+1)).filter λd=>pr (sN ps m k) (mN ps m k) d).map λd:Nat=>(d:Int)).map D.int)]
     else i+1<=31->∃Z,([ϊ (bD ps),ϊ (.int m),ϊ (.int k),ϊ (lI (shown ps m k)),ϊ (lI (c8 ps m k)),ϊ (.au s.length),ϊ (.bl c),ϊ (.int (0+(i:Int)))]:Env)=[ϊ (bD ps),ϊ (.int m),ϊ (.int k),ϊ (lI (shown ps m k)),ϊ (lI (c8 ps m k)),ϊ (.au s.length),ϊ (.bl (pv (sN ps m k) (mN ps m k) (i+1))),Z]/\s++[.lst ((((â i).filter λd=>pr (sN ps m k) (mN ps m k) d).map λd:Nat=>(d:Int)).map D.int)]=s++[.lst ((((â (i+1)).filter λd=>pr (sN ps m k) (mN ps m k) d).map λd:Nat=>(d:Int)).map D.int)]:=λc T=>by
    rw[zv];have R:pv (sN ps m k) (mN ps m k) (i+1)=c:=T.symm;rw[R,<- T]
    cases c with
    |true =>
     rw[Ö rfl];obtain⟨Q,P⟩:=Nz (s:=s) (ns:=((â i).filter λd=>pr (sN ps m k) (mN ps m k) d).map λd:Nat=>(d:Int)) (x:=0+(i:Int)) (Ÿ tI ⋯);exact⟨Q,agT P λ_=>⟨_,rfl,by rw[U];rfl⟩⟩
    |false =>
     rw[Ý Ú];exact λ_=>⟨_,rfl,by simp⟩
   simp only[VC,uD,U];rw[U] at fin;by_cases X:(i:Int)∈shown ps m k
   ·erw[X,ģ,ø]
    exact fin ό (by rw[<- key,Ä X];rfl)
   ·erw[X,decide_false,Æ,ñ]
    cases S:pv (sN ps m k) (mN ps m k) i with
    |false =>
     simp only[VC,Æ,ñ];exact fin ύ (by rw[<- key,Ê X,S];rfl)
    |true =>
     simp only[VC,ø,zE];exact fin _ (by rw[<- key,Ê X,S];rfl)
  ·cases W
 ·rw[n5] at V
  obtain⟨Z,rfl,rfl⟩:=V (agW _);simp only[VC];exact agT NA ⟨rfl,rfl⟩
noncomputable def downs:List D:=(â 31).map λn=>D.int ((30-n:Nat))
def abX:Hw (ae (eC (.int 31)) ah) env s=ok downs s:=by
 have:(dU 0 31).reverse=downs:=by rfl
 rfl
def Lx:downs[i]?=if i<31 then ϊ (.int ((30-i:Nat))) else ϋ:=by
 delta downs;rw[å];by_cases h:i<31
 ·rw[Ö h,Ķ h];rfl
 ·rw[Ý h,Ĝ (by simpa using h)];rfl
abbrev iM (ps:List Pg) (m k:Int) (i:Nat):List Int:=((â i).filter λn=>ab (lN ps m k) (mN ps m k) (30-n)).map λn=>((30-n:Nat))
def Ww (hl:ps.length<=1000):ze [bD ps,.int m,.int k] s=ok (lI (gQ ps m k)) (s++[.dead]):=by
 refine agU ?_;delta ze;simp only[VC];refine agT (zV hl).2 ?_;refine agT (D3 hl) ?_
 try simp only[VC]
 refine⟨by decide,?_⟩;refine agT abX ?_;refine Wp.jr (λi env Z=>i<=31->∃W,env=[ϊ (bD ps),ϊ (.int m),ϊ (.int k),ϊ (lI (eT ps m k)),ϊ (lI (c8 ps m k)),ϊ (.au s.length),ϊ (.bl (ia (lN ps m k) (mN ps m k) i)),W]/\Z=s++[.lst ((iM ps m k i).map D.int)]) _ (λ_=>⟨_,rfl,rfl⟩) (λi d env Z X U=>?_) (λenv Z U=>?_)
 ·rw[Lx] at X
  split at X
  ·rename_i J
   cases X;obtain⟨W,rfl,rfl⟩:=U ⋯;refine⟨_,rfl,?_⟩;generalize X:((30-i:Nat):Int)=d;have L:ab (lN ps m k) (mN ps m k) (30-i)=(ia (lN ps m k) (mN ps m k) i||(ώ (d∈eT ps m k)||ώ (d∈c8 ps m k))):=by
    delta ab br lN mN;rw[show 31-(30-i+1)=i by omega,X]
   have K:ia (lN ps m k) (mN ps m k) (i+1)=((ia (lN ps m k) (mN ps m k) i||ώ (d∈eT ps m k))&&!ώ (d∈c8 ps m k)):=by
    show ((ia _ _ i||lN ps m k (30-i))&&!mN ps m k (30-i))=_;delta lN mN;rw[X]
   have sec:∀Y,Y=s++[.lst ((iM ps m k (i+1)).map D.int)]->Wp (aR (dw (iZ (aa 6) (e2 cz (aa 7) (aa 3))) (e2 gC (aa 7) (aa 4))) (gN 6) [ϊ (bD ps),ϊ (.int m),ϊ (.int k),ϊ (lI (eT ps m k)),ϊ (lI (c8 ps m k)),ϊ (.au s.length),ϊ (.bl (ia (lN ps m k) (mN ps m k) i)),ϊ (.int d)] Y) λT Z=>match T with
     | .nx env=>i+1<=31->∃W,env=[ϊ (bD ps),ϊ (.int m),ϊ (.int k),ϊ (lI (eT ps m k)),ϊ (lI (c8 ps m k)),ϊ (.au s.length),ϊ (.bl (ia (lN ps m k) (mN ps m k) (i+1))),W]/\Z=s++[.lst ((iM ps m k (i+1)).map D.int)]
     | .ct env=>i+1<=31->∃W,env=[ϊ (bD ps),ϊ (.int m),ϊ (.int k),ϊ (lI (eT ps m k)),ϊ (lI (c8 ps m k)),ϊ (.au s.length),ϊ (.bl (ia (lN ps m k) (mN ps m k) (i+1))),W]/\Z=s++[.lst ((iM ps m k (i+1)).map D.int)]
     | .bk env=>eU (aH (oK (aa 5))) (oS λa Z=>a=lI (gQ ps m k)/\Z=s++[.dead]) (.nx env) Z
     | .rt d=>eU (aH (oK (aa 5))) (oS λa Z=>a=lI (gQ ps m k)/\Z=s++[.dead]) (.rt d) Z:=λY S=>by
    simp only[VC,uD,zE];rw[K]
    cases ia (lN ps m k) (mN ps m k) i with
    |true =>
     simp only[VC,ø,zE];exact λ_=>⟨ϊ (.int d),by simp,S⟩
    |false =>
     erw[Æ,ñ,Bool.false_or];by_cases c:d∈eT ps m k
     ·simp only[VC,c,ģ,ø,zE]
      exact λ_=>⟨ϊ (.int d),by simp,S⟩
     ·erw[c,decide_false,Æ,ñ]
      exact λ_=>⟨ϊ (.int d),by simp,S⟩
   have P:=Nz (s:=s) (ns:=iM ps m k i) (x:=d) (Ÿ tI ⋯)
   have O:iM ps m k (i+1)=iM ps m k i++(if ab (lN ps m k) (mN ps m k) (30-i)=ό then [d] else []):=by
    rw[<- X];exact zv
   have yes:ab (lN ps m k) (mN ps m k) (30-i)=ό->Wp (cP (ki (aa 5) (aa 7)) [ϊ (bD ps),ϊ (.int m),ϊ (.int k),ϊ (lI (eT ps m k)),ϊ (lI (c8 ps m k)),ϊ (.au s.length),ϊ (.bl (ia (lN ps m k) (mN ps m k) i)),ϊ (.int d)] (s++[.lst ((iM ps m k i).map D.int)])) λT Z=>T=.nx [ϊ (bD ps),ϊ (.int m),ϊ (.int k),ϊ (lI (eT ps m k)),ϊ (lI (c8 ps m k)),ϊ (.au s.length),ϊ (.bl (ia (lN ps m k) (mN ps m k) i)),ϊ (.int d)]/\Z=s++[.lst ((iM ps m k (i+1)).map D.int)]:=λR=>by
    simp only[VC];refine⟨P.1,agT P.2 ?_⟩;rw[O,R];simp
   have no:ab (lN ps m k) (mN ps m k) (30-i)=ύ->s++[Cell.lst ((iM ps m k i).map D.int)]=s++[Cell.lst ((iM ps m k (i+1)).map D.int)]:=λR=>by
    rw[O,R];simp
   have go:∀{c:Bool},c=ab (lN ps m k) (mN ps m k) (30-i)->∀{Q:Fl->ag->Prop},(∀Y,Y=s++[.lst ((iM ps m k (i+1)).map D.int)]->Q (.nx [ϊ (bD ps),ϊ (.int m),ϊ (.int k),ϊ (lI (eT ps m k)),ϊ (lI (c8 ps m k)),ϊ (.au s.length),ϊ (.bl (ia (lN ps m k) (mN ps m k) i)),ϊ (.int d)]) Y)->if c=ό then Wp (cP (ki (aa 5) (aa 7)) [ϊ (bD ps),ϊ (.int m),ϊ (.int k),ϊ (lI (eT ps m k)),ϊ (lI (c8 ps m k)),ϊ (.au s.length),ϊ (.bl (ia (lN ps m k) (mN ps m k) i)),ϊ (.int d)] (s++[.lst ((iM ps m k i).map D.int)])) Q else Wp (bz [ϊ (bD ps),ϊ (.int m),ϊ (.int k),ϊ (lI (eT ps m k)),ϊ (lI (c8 ps m k)),ϊ (.au s.length),ϊ (.bl (ia (lN ps m k) (mN ps m k) i)),ϊ (.int d)] (s++[.lst ((iM ps m k i).map D.int)])) Q:=λ{c} N {Q} q=>by
    cases c with
    |true =>
     rw[Ö rfl];exact(yes N.symm).mono λT Y ⟨e1,e2⟩=>by subst e1;exact q Y e2
    |false =>
     rw[Ý Ú,cK];exact q _ (no N.symm)
   rw[pI,gX];erw[rk,pQ,aG,bb,lJ,dZ,bp,uD,bF,cj,õ,ö];rw[L] at go
   cases M:ia (lN ps m k) (mN ps m k) i with
   |true =>
    erw[ø];rw[M] at go sec;exact go (c:=ό) rfl λY V=>sec Y V
   |false =>
    erw[Æ,ñ];rw[M] at go sec;by_cases c:d∈eT ps m k
    ·erw[c,ģ,ø]
     exact go (c:=ό) (by simp[c]) λY V=>sec Y V
    ·erw[c,decide_false,Æ,ñ]
     exact go (by simp[c]) λY V=>sec Y V
  ·cases X
 ·rw[show downs.length=31 from rfl] at U
  obtain⟨W,rfl,rfl⟩:=U (agW _);simp only[VC];exact agT NA ⟨rfl,rfl⟩
def sM (F:Int->List Int):D:=.lst (k8.map λk=>lI (F k))
def abY (h:0<=k/\k<8):ar (sM F) (.int k) s=ok (lI (F k)) s:=by
 obtain⟨x,e1,e2⟩:=mO (xs:=k8.map λk=>lI (F k)) h.1 (by exact h.2);have:=by
  rw[å] at e2;have Z:k8[k.toNat]?=ϊ k:=by
   delta k8;rw[å,Ķ ⋯];simp;omega
  rw[Z] at e2;exact(agX e2).symm
 subst this;erw[ar,jY,res,sM,e1,bW]
def aip:dU 0 8=k8.map D.int:=rfl
def P5:vX [sM F,.int d] s=ok (mD (k8.filter λk=>ώ (d∈F k))) s:=by
 refine agU ?_;delta vX;simp only[VC];refine agT (fB rfl (by decide)) ⟨by exact le_size (by decide),?_⟩;refine agT (qO (λk=>ώ (d∈F k)) (λk=>.int k) k8 λk Z=>⟨[ϊ _,ϊ _,ϊ (sM F)],rfl,?_,λ_=>rfl⟩) ?_
 ·refine agU ?_
  simp only[VC];refine agT (abY (rm.mp Z)) ?_;simp only[VC,uD,Ğ]
 ·exact agT (rfl) ⟨rfl,rfl⟩
noncomputable def kC:List Int:=(â 31).map λi:Nat=>(i)
def aii:dU 0 31=kC.map D.int:=by delta kC;rw[Nr,ė];congr 1;funext i;simp
def mV (P A:Int->List Int) (d:Int):D:=.tup [mD (k8.filter λk=>ώ (d∈P k)),mD (k8.filter λk=>ώ (d∈A k))]
def NB (hf:∀k s,fn [b,.int mu,.int k] s=ok (lI (F k)) (s++[.dead])) (e0:env[0]?=ϊ (ϊ b)) (e1:env[1]?=ϊ (ϊ (.int mu))) (q:∀c,Q (sM F) (s++c)) :
  Wp (b9 1 [0,1] (dH (ae (eC (.int (8))) ah)) (gN 0) cB (aB fn (ae (aa 1) (ae (aa 2) (ae (aa 0) ah)))) env s) Q:=by
 rw[ib];refine agT (fB rfl (by decide)) ⟨by exact le_size (by decide),?_⟩;have V:lQ [0,1] env=[ϊ b,ϊ (.int mu)]:=by simp[lQ,e0,e1]
 rw[V];refine Nm (λi Z X=>i<=8->Z=((â i).map λi:Nat=>(i:Int)).map (λk=>lI (F k))/\∃c,X=s++c) (dU 0 8) (λ_=>⟨rfl,[],by simp⟩) (λi d Z X Y W=>?_) λZ X W=>?_
 ·rw[jE] at Y
  split at Y
  ·cases Y
   obtain⟨rfl,c,rfl⟩:=W ⋯;refine⟨_,rfl,?_⟩;refine agT (rfl) ?_;simp only[VC];refine agT (hf _ _) λ_=>⟨?_,c++[.dead],by simp⟩;rw[ζ,Ĕ];simp
  ·cases Y
 ·obtain⟨rfl,c,rfl⟩:=W (agW _)
  exact q c
def NC (hl:ps.length<=1000):Wp (sU [bD ps,.int m] s) λd s'=>d=.lst (kC.map (mV (iu ps m) (gQ ps m)))/\∃c,s'=s++c:=by
 delta sU;rw[cT];refine⟨rfl,?_⟩;rw[pI,cq];refine NB (λk s=>Vf hl) rfl rfl λc=>?_;erw[cQ,Þ,ł,ď,Ĩ,Õ,Nat.reduceSub,õ,ö,cx];rw[pI,cq];refine NB (λk s=>Ww hl) rfl rfl λZ=>?_;erw[cQ,õ,ö,cx,bN,ib,kJ];refine agT (fB rfl (by decide)) ⟨by exact le_size (by decide),?_⟩;refine agT (qO (λ_=>ό) (mV (iu ps m) (gQ ps m)) kC λd Y=>⟨[ϊ _,ϊ (sM _),ϊ (sM _)],rfl,rfl,λ_=>?_⟩) ?_
 ·refine agU ?_
  simp only[VC];refine agT P5 ?_;refine agT P5 ?_;exact⟨by decide,rfl,rfl⟩
 ·exact⟨rfl,c++Z,by simp⟩
noncomputable abbrev jJ (F:Nat->Bool):Cell:=.lst ((â 32).map λd=>D.bl (F d))
def ZL {n:Nat} {f:Nat->α} {d:Int} (h0:0<=d) (h1:d<n):cR ((â n).map f) d=ϊ (f d.toNat):=by
 obtain⟨x,e1,e2⟩:=mO (xs:=(â n).map f) h0 (by simpa using h1);rw[å,Ķ ⋯] at e2;rw[e1];exact e2.symm
section
variable (b:Nat->Bool)
noncomputable def fJ (n:Nat):Bool:=ώ (0<n)&&b (n-1)
def bM:Nat->List (Nat×Nat)
 |0=>[]
 |n+1=>if (b n&&fJ b n)=ό then (bM n).dropLast++[(((bM n).getLast?.getD (0,0)).1,n)] else if b n=ό then bM n++[(n,n)] else bM n
noncomputable def xV:Nat->Nat->Nat
 |0,e=>e
 |f+1,e=>if b (e+1)=ό then xV f (e+1) else e
def kD (n:Nat):Bool:=b n&&!fJ b n
def Gv (f n:Nat):List (Nat×Nat):=((â n).filter (kD b)).map λd=>(d,xV b f d)
variable {b}
theorem ND:∀{f d e},d<=e->(∀x,d<x->x<=e->b x=ό)->b (e+1)=ύ->e-d<f->xV b f d=e
 |0,_,_,_,_,_,h=>by omega
 |f+1,d,e,W,Z,Y,V=>by
  delta xV;by_cases h:d=e
  ·subst h
   rw[Y];simp
  ·rw[Ö (Z _ ⋯ ⋯)]
   exact ND ⋯ (λx U X=>Z x ⋯ X) Y ⋯
def Told (b:Nat->Bool) (f n:Nat):Prop :=
 (fJ b n=ύ/\bM b n=Gv b f n)\/(fJ b n=ό/\∃S d,(â n).filter (kD b)=S++[d]/\d<n/\(∀x,d<=x->x<n->b x=ό)/\bM b n=(S.map λd=>(d,xV b f d))++[(d,n-1)])
theorem P6 (f):∀n,n<=f->Told b f n
 |0,_=>.inl ⟨rfl,rfl⟩
 |n+1,N=>by
  have Y:(â (n+1)).filter (kD b)=(â n).filter (kD b)++if kD b n=ό then [n] else []:=by
   rw[ζ]
   by_cases h:kD b n=ό<;>simp[ŕ,h]
  have W:fJ b (n+1)=b n:=by simp[fJ]
  rcases P6 f n ⋯ with ⟨X,h⟩ | ⟨X,S,d,U,M,T,R⟩
  ·cases Z:b n with
   |false =>
    refine .inl ⟨by rw[W,Z],?_⟩;erw[bM,Z,af7,Æ,ñ,h];delta Gv;rw[Y,show kD b n=ύ by simp[kD,Z]];simp
   |true =>
    refine .inr ⟨by rw[W,Z],(â n).filter (kD b),n,?_,by omega,λx V Q=>?_,?_⟩
    ·rw[Y,show kD b n=ό by simp[kD,Z,X]]
     simp
    ·rw[show x=n by omega];exact Z
    ·erw[bM,Z,X,Bool.and_false,Æ,ñ,ø,h]
     rfl
  ·have P:kD b n=ύ:=by simp[kD,X]
   rw[P] at Y;erw[Æ,ñ,ú] at Y
   cases Z:b n with
   |false =>
    refine .inl ⟨by rw[W,Z],?_⟩;erw[bM,Z,af7,Æ,ñ,R];delta Gv;rw[Y,U,Ĕ];erw[Þ,ł];rw[ND (e:=n-1) ⋯ (λx V Q=>T x ⋯ ⋯) (by rw[show n-1+1=n by omega];exact Z) ⋯]
   |true =>
    refine .inr ⟨by rw[W,Z],S,d,by rw[Y,U],by omega,λx V Q=>?_,?_⟩
    ·by_cases O:x=n
     ·rw[O];exact Z
     ·exact T x V ⋯
    ·erw[bM,Z,X,Ĥ,ø,R]
     simp
end
noncomputable abbrev sg (x:Str):List Nat:=x.cps.toList
def zX (h:sg x=sg y):x=y:=Str.ext' (Array.toList_inj.mp h)
def mP (x y):sg (x++y)=sg x++sg y:=by show (x.cps++y.cps).toList=_;simp
def oo (x):x.length=(sg x).length:=by show x.cps.size=_;simp
noncomputable def jl (c:Nat):List (List Nat)->List Nat
 | []=>[]
 | [x]=>x
 |x::y::r=>x++c::jl c (y::r)
theorem wA (c):∀zs,sg (Į ⟨#[c]⟩ zs)=jl c (zs.map sg)
 | []=>rfl
 | [x]=>rfl
 |x::y::r=>by
  show sg (x++⟨_⟩++Į _ _)=_;rw[mP,mP,wA c _,ġ];rfl
theorem OK:∀{ps qs},ps≠[]->qs≠[]->(∀p∈ps,c∉p)->(∀q∈qs,c∉q)->jl c ps=jl c qs->ps=qs
 | [],_,h,_,_,_,_=>absurd rfl h
 |_::_,[],_,h,_,_,_=>absurd rfl h
 | [p],[q],_,_,_,_,e=>by rw[show p=q from e]
 | [p],q::S::r,_,_,Z,_,e=>by
  exfalso;have:c∈p:=by rw[show p=q++c::jl c _ from e];simp
  exact Z p ∅ this
 |p::R::r,[q],_,_,_,Y,e=>by
  exfalso;have:c∈q:=by rw[<- show p++c::jl c _=q from e];simp
  exact Y q ∅ this
 |p::R::r,q::S::Q,_,_,Z,Y,e=>by
  have key:∀{a b u v},c∉a->c∉b->a++c::u=b++c::v->a=b/\u=v:=by
   intro a
   induction a with
   |nil =>
    intro b u v _ X h
    cases b with
    |nil=>exact⟨rfl,by simpa using h⟩
    |cons y b=>simp at h;exact absurd (by simp[<- h.1]) X
   |cons x a ih =>
    intro b u v T X h
    cases b with
    |nil=>simp at h;exact absurd (by simp[h.1]) T
    |cons y b =>
     erw[ď,œ] at h;obtain⟨W,V⟩:=ih (λz=>T (É _ z)) (λz=>X (É _ z)) h.2;exact⟨by rw[h.1,W],V⟩
  obtain⟨W,V⟩:=key (Z p ∅) (Y q ∅) e;rw[W,OK ∅ ∅ (λx U=>Z x (É _ U)) (λx U=>Y x (É _ U)) V]
def Vg {a b:List Str} (h:a.map sg=b.map sg):a=b:=(List.map_inj_right λx y e=>zX e).mp h
def we {zs} (hn:zs≠[]) (hz:∀z∈zs,c∉sg z):ĺ (Į ⟨#[c]⟩ zs) ⟨#[c]⟩=zs:=by
 refine Vg (OK (c:=c) ?_ (by simpa using hn) (λp Z=>?_) (λp Z=>?_) ?_)
 ·intro e
  have:=PyProof.Rows.split_pos (Į ⟨#[c]⟩ zs) ⟨#[c]⟩;rw[agB] at e;rw[e] at this;simp at this
 ·obtain⟨z,Y,rfl⟩:=é.mp Z
  exact StrLaws.split_free _ _ z Y
 ·obtain⟨z,Y,rfl⟩:=é.mp Z
  exact hz z Y
 ·rw[<- wA,<- wA,agG]
theorem Dl:∀zs,sg (Į "" zs)=(zs.map sg).flatten
 | []=>rfl
 | [x]=>by show sg x=_;simp
 |x::y::r=>by
  show sg (x++""++Į _ _)=_;rw[mP,mP,Dl _];simp[show sg ""=[] from rfl]
def Wx {zs} (hy:y.length<=10) (hn:zs.length<=1000) (hz:∀z∈zs,z.length<=1000):JoinOk y zs=ό:=by
 delta JoinOk Builtin.Str.tooLong;rw[StrLaws.joinTotal];have Z:∀{zs:List Str},(∀z∈zs,z.length<=1000)->(zs.map (·.length)).sum<=zs.length*1000:=by
  intro zs
  induction zs with
  |nil=>simp
  |cons z r ih =>
   intro h;have a:=h z ∅;have b:=ih λx Y=>h x (É _ Y);erw[Þ,List.sum_cons,æ];omega
 have Z:=Z hz;have X:=Nat.mul_le_mul hn hy;have W:=afW;erw[û,decide_eq_false_iff_not];omega
def abZ:(!(Ō "0123456789" ⟨#[c]⟩ 0 (Str.length "0123456789") 1).isEmpty)=ώ (48<=c/\c<=57):=by
 rw[StrLaws.found_one];rw[Ġ];erw[Ã];have e:sg "0123456789"=[48,49,50,51,52,53,54,55,56,57]:=nofun
 show c∈sg _↔_;rw[e];erw[Ñ,ü,or_false];omega
noncomputable def brk (l:List Int):List Int:=((â (l.length-1)).filter λi=>l.getD (i+1) 0==l.getD i 0).map λi:Nat=>1+(i)
def ab0 (h):ar (.lst xs) (.int (-1)) s=ok (xs.getLast h) s:=by
 have e:cR xs (-1)=ϊ (xs.getLast h):=by
  conv=>lhs;rw[<- Ź h]
  exact WX ..
 delta ar jY;rw[show res _ s=.lst xs from rfl];erw[e];rfl
def ZM {c:ag} {ds}:bH (.au c.length) (c++[.lst ds])=ok (.lst ds) (c++[.dead]):=by
 delta bH;have e:(c++[Cell.lst ds])[c.length]?=ϊ (.lst ds):=by simp
 erw[e];simp
def A7 (h:xs.length+ys.length<=1000000):bK (.lst xs) (.lst ys) s=ok (.lst (xs++ys)) s:=by
 have e:AX (.lst xs) (.lst ys)=ϊ (.lst (xs++ys)):=by
  show (if uQ xs ys=ό then ϊ _ else ϋ)=_
  have Z:uQ xs ys=ό:=Ä (le_size h);rw[Ö Z]
 show bW (AX (.lst xs) (.lst ys)) s=_;rw[e];rfl
def Ex.get (h:Ex k s s') (e:s[j]?=ϊ c) (hj:j≠k):s'[j]?=ϊ c:=by
 rw[h.val j (Ï.mp e).1 hj];exact e
def eV.R0 (h:eV n l) (hn:n<=8):eV 8 l:=⟨λx Z=>by have:=h.lo x Z;omega,h.up⟩
open DI.cV
section
variable {s:ag} {l:List Int} {i:Int} {env:Env}
noncomputable abbrev num (i:Int):Str:=Ģ (toString i)
def Ly (h0:0<=i) (h1:i<1000):i.natAbs.log2<1920:=Ÿ (Nat.log2_le_self _) ⋯
def uk (h0:0<=i) (h1:i<1000):iH [.int i] s=ok (.str (num i)) s:=by
 show (if ώ _=ό then ok _ s else ϋ)=_
 rw[Ö (Ä (Ly h0 h1))]
def adF:∀n:Fin 10,num (n.val)=⟨#[48+n.val]⟩:=nofun
def Mu (h0:0<=i) (h1:i<10):num i=⟨#[48+i.toNat]⟩:=by
 obtain⟨n,rfl⟩:=afP h0;exact adF ⟨n,by omega⟩
noncomputable def pw (l:List Int):Str:=⟨(l.map λi=>48+i.toNat).toArray⟩
def cH (l:List Int):Str:=if l=[] then "-" else pw l
def wV:sg (pw l)=l.map λi=>48+i.toNat:=by delta pw;simp
def Yf (h:∀i∈l,0<=i/\i<10):Į "" (l.map num)=pw l:=by
 refine zX ?_;rw[Dl]
 induction l with
 |nil=>rfl
 |cons i r ih =>
  have Z:=h i ∅;rw[Þ,Þ,af0,ih λj Y=>h j (É _ Y),Mu Z.1 Z.2];rfl
theorem strs_map:∀zs,strs? (zs.map D.str)=ϊ zs
 | []=>rfl
 |z::zs=>by show (strs? _).map _=_;rw[strs_map zs];rfl
def AK (hy:y.length<=10) (hn:zs.length<=1000) (hz:∀z∈zs,z.length<=1000):iB y (.lst (zs.map D.str)) s=ok (.str (Į y zs)) s:=by
 delta iB;rw[show res _ s=.lst _ from rfl];dsimp only;rw[strs_map];dsimp only;rw[Ö (Wx hy hn hz)]
def rn (e:f env s=ok (.str y) s):Wp (fI m f g env s) Q=Wp (g env s) λx s=>Wp (m y x s) Q:=by
 delta fI;rw[e,cZ,bU]
def NF (he:cA (aa 0) ea s=ok (l.map D.int) s) (hl:l.length<=100) (h:∀i∈l,0<=i/\i<10):fI iB (eC (.str "")) (b9 1 [] (cA (aa 0)) (gN 0) cB (eB iH (ae (aa 0) ah))) ea s=ok (.str (pw l)) s:=by
 refine agU ?_;rw[rn rfl,ib];refine agT he ⟨le_size (by rw[Ç];omega),?_⟩;refine agT (comp_map _ (λ_=>ό) (λi=>D.str (num i)) l λi Z=>⟨_,rfl,rfl,λ_=>agU ?_⟩) ?_
 ·have:=h i Z
  exact agT (uk this.1 ⋯) ⟨rfl,rfl⟩
 rw[ń.mpr (λ_ _=>rfl),show (l.map λi=>D.str _)=(l.map num).map _ by rw[ė];rfl];refine agT (AK (by decide) (by rw[Ç];omega) λz Y=>?_) ?_
 ·obtain⟨i,Z,rfl⟩:=é.mp Y
  have:=h i Z;rw[Mu this.1 this.2];show 1<=1000;decide
 rw[Yf h];exact⟨rfl,rfl⟩
def D4:(pw l).length=l.length:=by rw[oo,wV,Ç]
def Mv (hl:l.length<=100) (h:∀i∈l,0<=i/\i<10):zj [mD l] s=ok (.str (cH l)) s:=by
 refine agU ?_;refine cT.symm ▸ ⟨rfl,?_⟩;rw[bN];have e:qi (fI iB (eC (.str "")) (b9 1 [] (cA (aa 0)) (gN 0) cB (eB iH (ae (aa 0) ah)))) (eC (.str "-")) [ϊ (mD l)] s=ok (.str (cH l)) s:=by
  delta qi;rw[NF (jD rfl) hl h,cZ];dsimp only;rw[Ö (Ä (by rw[D4];exact le_size ⋯))]
  cases l with
  |nil=>rfl
  |cons i r=>rfl
 exact agT e ⟨rfl,rfl⟩
def Lz (hl:l.length<=100) (h:∀i∈l,0<=i/\i<10):zf [mD l] s=ok (.str (cH l)) s:=by
 refine agU ?_;refine cT.symm ▸ ⟨rfl,?_⟩;show Wp (aH _ [ϊ _] s) _;rw[bN,kI];erw[dZ,bp,cW,aL,aG];refine⟨le_size (by decide),?_⟩;refine agT (show cX _ _ s=ok (.bl (!l.isEmpty)) s from ?_) ?_
 ·delta cX jf
  rw[show res _ s=mD l from rfl,show res _ s=.tup _ from rfl,Ý (by exact Ú),Ö (by
   rw[show lay (mD l)=ό from qN l];have:min (dep (mD l)) (dep (.tup []))<=100:=by have:dep (.tup [])=1:=rfl;omega
   rw[Ä this];rfl)]
  cases l<;>rfl
 erw[cj]
 cases l with
 |nil=>exact⟨_,_,rfl,rfl,rfl⟩
 |cons i r =>
  refine agT (NF (jD rfl) hl h) ?_;exact⟨rfl,rfl⟩
end
section
variable {s:ag} {l h:List Int} {i:Int} {env:Env} {p:Pg} {x y:Str}
def fS (hl:x.length+y.length<=1000000):bK (.str x) (.str y) s=ok (.str (x++y)) s:=by
 show bW (if ώ _=ό then ϊ _ else ϋ) s=_
 rw[Ö (Ä (le_size hl))];rfl
def cw (x y:Str):(x++y).length=x.length+y.length:=Str.length_append x y
def pK:(cH l).length<=l.length+1:=by
 delta cH;split
 ·exact Nat.le_add_left 1 _
 ·rw[D4];omega
def oG:Pg->Str
 | .made _ _ h l=>cH h++"/"++cH l
 | .cE _ _ k=>num k
def jM:Pg->Str
 | .made ..=>"made"
 | .cE ..=>"mended"
noncomputable def u0:Pg->Int
 | .made m ..=>m
 | .cE m ..=>m
def fx (p:Pg):Str:=jM p++" "++num (u0 p)++" "++num p.day++" "++oG p
def gR:Pg->Prop
 | .made m d h l=>(0<=m/\m<4)/\(0<=d/\d<31)/\eV 8 h/\eV 8 l
 | .cE m d k=>(0<=m/\m<4)/\(0<=d/\d<31)/\0<=k/\k<8
def oq (h:cF p=ό):gR p:=by
 cases p with
 |made m d a b =>
  erw[cF,fN,fc,Â,Ã] at h;exact⟨h.1.1,h.1.2,tu h.2.1,tu h.2.2.1⟩
 |cE m d k =>
  erw[cF,fN,fc,markB,Â,Ã] at h;exact⟨h.1.1,h.1.2,h.2⟩
def rp (h:eV 8 ns):∀i∈ns,0<=i/\i<10:=λi Z=>by have:=h.lo i Z;omega
def adG:∀n:Fin 31,(num (n.val)).length<=2:=nofun
def iO (h0:0<=i) (h1:i<31):(num i).length<=2:=by
 obtain⟨n,rfl⟩:=afP h0;exact adG ⟨n,by omega⟩
def Dp (h:gR p):(oG p).length<=20:=by
 cases p with
 |made m d a b =>
  have Z:=h.2.2.1.len;have Y:=h.2.2.2.len;have X:=pK (l:=a);have W:=pK (l:=b);show (cH a++"/"++cH b).length<=20;rw[cw,cw];show (cH a).length+1+(cH b).length<=20;omega
 |cE m d k=>exact Ø (iO h.2.2.1 (by have:=h.2.2.2;omega)) (by decide)
def JV (ha:eV 8 a) (hb:eV 8 b):vL [.tup [mD a,mD b]] s=ok (.str (cH a++"/"++cH b)) s:=by
 have Z:=ha.len;have Y:=hb.len;have X:=pK (l:=a);have W:=pK (l:=b);refine agU ?_;delta vL;simp only[VC];refine agT (Mv ⋯ (rp ha)) ?_;refine agT (fS (show (cH a).length+1<=1000000 by omega)) ?_;refine agT (Mv ⋯ (rp hb)) ?_;refine agT (fS (by rw[cw];show (cH a).length+1 + _<=1000000;omega)) ⟨rfl,rfl⟩
def Mg (l:List Int):Prop:=l.length<=8/\∀i∈l,0<=i/\i<10
def kK (h:eV 8 l):Mg l:=⟨h.len,rp h⟩
def BR (ha:Mg a) (hb:Mg b):qG [.tup [mD a,mD b]] s=ok (.str (cH a++"/"++cH b)) s:=by
 have Z:=ha.1;have Y:=hb.1;have X:=pK (l:=a);have W:=pK (l:=b);refine agU ?_;delta qG;simp only[VC];refine agT (rfl) ?_;refine agT (Lz ⋯ (ha.2)) ?_;refine agT (fS (show (cH a).length+1<=1000000 by omega)) ?_;refine agT (rfl) ?_;refine agT (Lz ⋯ (hb.2)) ?_;refine agT (fS (by rw[cw];show (cH a).length+1 + _<=1000000;omega)) ⟨rfl,rfl⟩
def kF (e:f env s=ok (.str y) s) (hl:acc.length+y.length<=1000000):kB (f::fs) acc env s=kB fs (acc++y) env s:=by
 show ai _ _=_;rw[e,cZ];dsimp only;rw[Ö (Ä (by rw[cw];exact le_size hl))]
def xW (h0:0<=i) (h1:i<1000):gp (.int i) s=ok (.str (num i)) s:=by
 show (if ώ _=ό then ok _ s else ϋ)=_
 rw[Ö (Ä (Ly h0 h1))]
def QU (hl:x.length<=1000000):gp (.str x) s=ok (.str x) s:=Ö (Ä (le_size hl))
def Dq:(jM p).length<=6:=by
 cases p
 ·show Str.length "made"<=6;decide +kernel
 ·show Str.length "mended"<=6;decide +kernel
def lK (h:gR p):0<=u0 p/\u0 p<4:=by cases p<;>exact h.1
def lL (h:gR p):0<=p.day/\p.day<31:=by cases p<;>exact h.2.1
def tQ (h:gR p):(fx p).length<=50:=by
 have Z:=Dq (p:=p);have Y:=iO (lK h).1 (by have:=(lK h).2;omega);have X:=iO (lL h).1 (lL h).2;have W:=Dp h;delta fx;erw[cw];show (jM p).length+1 + _ + 1 + _ + 1 + _<=50;omega
def LA (h:gR p):kB [e1 gp (aa 1),eC (.str " "),e1 gp (aa 2),eC (.str " "),e1 gp (aa 3),eC (.str " "),e1 gp (aa 5)] afE [a0,ϊ (.str (jM p)),ϊ (.int (u0 p)),ϊ (.int p.day),a1,ϊ (.str (oG p))] s=ok (.str (fx p)) s:=by
 have Z:=Dq (p:=p);have Y:=iO (lK h).1 (by have:=(lK h).2;omega);have X:=iO (lL h).1 (lL h).2;have W:=Dp h;have m:=lK h;have d:=lL h;rw[kF (QU ⋯) (by show 0 + _<=_;omega),Str.empty_append];rw[kF rfl (by show _ + 1<=_;omega)];rw[kF (xW m.1 ⋯) (by rw[cw];show _ + 1 + _<=_;omega)];rw[kF rfl (by erw[cw];show _ + 1 + _ + 1<=_;omega)];rw[kF (xW d.1 ⋯) (by erw[cw];show _ + 1 + _ + 1 + _<=_;omega)];rw[kF rfl (by erw[cw];show _ + 1 + _ + 1 + _ + 1<=_;omega)];rw[kF (QU ⋯) (by erw[cw];show _ + 1 + _ + 1 + _ + 1 + _<=_;omega)];have V:=tQ h
 show (if ώ ((fx p).length<=Ô)=ό then ok (D.str (fx p)) s else ϋ)=_
 rw[Ö (Ä (le_size ⋯))]
def Yg (h:gR p):B9 [p.d] s=ok (.str (fx p)) s:=by
 refine agU ?_;refine cT.symm ▸ ⟨rfl,agV λR Z=>?_⟩
 cases p with
 |made m d a b =>
  refine agT (show aR _ _ _ s=ok (.nx [ϊ _,ϊ _,ϊ _,ϊ _,ϊ _,ϋ]) s from rfl) ?_;subst Z;refine agV λR Z=>?_;erw[cq,cQ,kI,dZ,bp,aG,bb,bh];refine agT (rfl) ?_;erw[cj,ø,wp_call,aF,aL,aG,bb];refine agT (JV h.2.2.1 h.2.2.2) ?_;rw[cx];subst Z;rw[bN];exact agT (LA h) ⟨rfl,rfl⟩
 |cE m d k =>
  refine agT (show aR _ _ _ s=ok (.nx [ϊ _,ϊ _,ϊ _,ϊ _,ϊ _,ϋ]) s from rfl) ?_;subst Z;refine agV λR Z=>?_;erw[cq,cQ,kI,dZ,bp,aG,bb,bh];refine agT (rfl) ?_;erw[cj,Æ,ñ,dq,aF,aL,aG,bb];refine agT (uk h.2.2.1 (by have:=h.2.2.2;omega)) ?_;rw[cx];subst Z;rw[bN];exact agT (LA h) ⟨rfl,rfl⟩
def D5 (h:gR p):zS [p.d] s=ok (.str (fx p)) s:=by
 have S:=Dq (p:=p);have Q:=iO (lK h).1 (by have:=(lK h).2;omega);have P:=iO (lL h).1 (lL h).2;have O:=Dp h;have Y:=lK h;have X:=lL h
 have Z:ar p.d (.int 0) s=ok (.str (jM p)) s:=by cases p<;>rfl
 have W:ar p.d (.int 1) s=ok (.int (u0 p)) s:=by cases p<;>rfl
 have V:ar p.d (.int 2) s=ok (.int p.day) s:=by cases p<;>rfl
 have U:jz (aJ (e2 aX (e2 ar (aa 0) (eC (.int 0))) (eC (.str "made")))) (aB qG (ae (e2 ar (aa 0) (eC (.int 3))) ah)) (eB iH (ae (e2 ar (aa 0) (eC (.int 3))) ah)) [ϊ p.d,ϋ] s=ok (.str (oG p)) s:=by
  refine agU ?_;erw[kI,dZ,bp,aG,bh];refine agT Z ?_
  cases p with
  |made m d a b =>
   refine agT (rfl) ?_;erw[cj,ø,wp_call,aF,aL,bp,aG,bh];refine agT (rfl) ?_;exact agT (BR (kK h.2.2.1) (kK h.2.2.2)) ⟨rfl,rfl⟩
  |cE m d k =>
   refine agT (rfl) ?_;erw[cj,Æ,ñ,dq,aF,aL,bp,aG,bh];refine agT (rfl) ?_;exact agT (uk h.2.2.1 (by have:=h.2.2.2;omega)) ⟨rfl,rfl⟩
 refine agU ?_;refine cT.symm ▸ ⟨rfl,agV λR T=>?_⟩;rw[cq];refine agT U ?_;rw[cQ];show eU R _ (.nx [ϊ _,ϊ _]) s;rw[cx];subst T;erw[bN,bp,dq,aF,aL,aG,bb,bh];refine agT Z (agT (fS (by show _ + 1<=_;omega)) ?_);refine agT W (agT (uk Y.1 ⋯) (agT (fS (by erw[cw];show _ + 1 + _<=_;omega)) ?_));refine agT (fS (by erw[cw];show _ + 1 + _ + 1<=_;omega)) ?_;refine agT V (agT (uk X.1 ⋯) (agT (fS (by erw[cw];show _ + 1 + _ + 1 + _<=_;omega)) ?_));refine agT (fS (by erw[cw];show _ + 1 + _ + 1 + _ + 1<=_;omega)) ?_;refine agT (fS (by erw[cw];show _ + 1 + _ + 1 + _ + 1 + _<=_;omega)) ?_;exact⟨rfl,rfl⟩
noncomputable def i6 (c:Nat):Bool:=ώ (48<=c/\c<=57)
def kl (x:Str):Bool:=(ώ (1<=x.length)&&ώ (x.length<=30))&&(sg x).all i6
def aff (hl:x.length<=1000000):eJ [.str x] s=ok (.int x.length) s:=by
 show bW _ s=_
 show bW (if ώ _=ό then ϊ _ else ϋ) s=_
 rw[Ö (Ä (le_size hl))];rfl
def NG (e:f env s=ok (.str x) s):xo f env s=ok ((sg x).map λc=>D.str ⟨#[c]⟩) s:=by
 delta xo;rw[e];rfl
def NH (hl:x.length<=1000000):zg [.str x] s=ok (.bl (kl x)) s:=by
 refine agU ?_;refine cT.symm ▸ ⟨rfl,?_⟩;show Wp (aH _ [ϊ _] s) _;rw[bN,n9,OF,bh];erw[dq,aF,aL,aG];refine agT (aff hl) ?_;erw[Ap,cj];delta kl;by_cases Z:1<=x.length
 ·rw[Ä ⋯,Ä Z]
  erw[bh,Ap,cj];by_cases Y:x.length<=30
  ·rw[Ä ⋯,Ä Y]
   rw[ib];refine agT (NG rfl) ⟨le_size (by rw[Ç];exact hl),?_⟩;refine agT (comp_map (λc=>D.str _) (λ_=>ό) (λc=>D.bl (i6 c)) _ λc _=>⟨_,rfl,rfl,λ_=>?_⟩) ?_
   ·show ok _ s=_
    rw[abZ];rfl
   rw[ń.mpr (λ_ _=>rfl)];exact agT (qZ i6 _ s) ⟨by simp,rfl⟩
  ·rw[Ê ⋯,Ê Y]
   exact⟨rfl,rfl⟩
 ·rw[Ê ⋯,Ê Z]
  exact⟨rfl,rfl⟩
def dI (x:Str):Bool:=kl x&&(ώ ((sg x).head?≠ϊ 48)||ώ (x="0"))
def u4:aX (.str x) (.str y) s=ok (.bl (ώ (x=y))) s:=lr
def afg:cX (.str x) (.str y) s=ok (.bl (!ώ (x=y))) s:=by
 have e:=u4 (x:=x) (y:=y) (s:=s);delta aX at e;delta cX
 cases h:jf _ _ with
 |none=>rw[h] at e;cases e
 |some c =>
  rw[h] at e
  injection e with e
  injection e with e1 _
  injection e1 with e1
  injection e1 with e1
  rw[e1]
def R1:((⟨#[c]⟩:Str)="0")↔c=48:=by
 have e:("0":Str)=⟨#[48]⟩:=nofun
 rw[e];constructor
 ·intro h
  have:=ı sg h;simpa [sg] using this
 ·rintro rfl;rfl
def zq (hl:x.length<=1000000):sR [.str x] s=ok (.bl (dI x)) s:=by
 refine agU ?_;refine cT.symm ▸ ⟨rfl,?_⟩;show Wp (aH _ [ϊ _] s) _;rw[bN,n9];erw[wp_call,aF,aL,aG];refine agT (NH hl) ?_;erw[cj];delta dI
 cases Y:kl x with
 |false=>exact⟨rfl,rfl⟩
 |true =>
  rw[wU];erw[bp,aG,bh];have X:=by delta kl at Y;erw[Â,Ã] at Y;exact Y.1.1
  obtain⟨c,r,W⟩:∃c r,sg x=c::r:=by
   cases V:sg x with
   |nil=>rw[oo,V] at X;simp at X
   |cons c r=>exact⟨c,r,rfl⟩
  refine agT (show ar _ _ s=ok (.str ⟨#[c]⟩) s from ?_) ?_
  ·show bW (if ώ _=ό then (cR (sg x) 0).map λc=>D.str _ else ϋ) s=_
   rw[Ö (Ä (le_size hl)),W];have:cR (c::r) (0)=ϊ c:=by
    obtain⟨y,e1,e2⟩:=mO (xs:=c::r) (i:=0) (by decide) ∅;rw[e1];simpa using e2.symm
   rw[this];rfl
  refine agT afg ?_;erw[cj];rw[W];by_cases Z:c=48
  ·rw[Ä (R1.mpr Z)]
   refine agT u4 ⟨?_,rfl⟩;rw[Z];simp
  ·rw[Ê (λz=>Z (R1.mp z))]
   refine⟨?_,rfl⟩;simp[Z]
def dash:("-":Str)=⟨#[45]⟩:=nofun
def FD:("/":Str)=⟨#[47]⟩:=nofun
def blank:(" ":Str)=⟨#[32]⟩:=nofun
def Dr (hz:z=⟨#[c]⟩) (e:f env s=ok (.str x) s) (hl:x.length<=1000000):fI mK f (eC (.str z)) env s=ok (.lst ((ĺ x ⟨#[c]⟩).map D.str)) s:=by
 subst hz;refine agU ?_;rw[rn e,bh]
 show Wp (if (!((⟨_⟩:Str).length==0)&&ώ _)=ό then ok _ s else ϋ) _
 rw[Ö (by
  rw[Ä (by rw[afW];omega)];rfl),bF]
 exact⟨rfl,rfl⟩
def afh:∀n:Fin 10,abI ⟨#[48+n.val]⟩=ϊ (n.val:Int):=nofun
def ZN (h:i6 c=ό):kc [.str ⟨#[c]⟩] s=ok (.int ((c)-48)) s:=by
 delta i6 at h;rw[Ã] at h;have e:=afh ⟨c-48,by omega⟩;rw[show 48+(c-48)=c by omega] at e
 show (if ώ ((⟨#[c]⟩:Str).length<=640)=ό then (match abI _ with|some n=>ok _ s|none=>ϋ) else ϋ)=_
 rw[e];show ok _ s=_;rw[show ((c-48:Nat))=(c:Int)-48 by omega]
def EH (hn:l≠[]) (h:∀i∈l,0<=i/\i<10):cH l=pw l/\pw l≠"-":=by
 refine⟨Ý hn,λe=>?_⟩
 obtain⟨i,r,rfl⟩:∃i r,l=i::r:=by cases l with|nil=>exact absurd rfl hn|cons i r=>exact⟨i,r,rfl⟩
 have:=ı sg e;rw[wV,dash] at this;simp[sg] at this;omega
def tR (hc:c<45\/c=46\/c=47) (h:∀i∈l,0<=i/\i<10):c∉sg (cH l):=by
 intro Z;by_cases Y:l=[]
 ·subst Y
  rw[show cH _="-" from rfl,dash] at Z;simp[sg] at Z;omega
 ·rw[(EH Y h).1,wV,é] at Z
  omega
def adH:Į z [x,y]=x++z++y:=rfl
def ab1 (ha:∀i∈a,0<=i/\i<10) (hb:∀i∈b,0<=i/\i<10):ĺ (cH a++"/"++cH b) ⟨#[47]⟩=[cH a,cH b]:=by
 rw[<- adH];refine we ∅ λz Z=>?_;erw[Ñ,ü,or_false] at Z
 rcases Z with rfl|rfl
 ·exact tR (.inr (.inr rfl)) ha
 ·exact tR (.inr (.inr rfl)) hb
def OL (h:∀i∈l,0<=i/\i<10) (hl:l.length<=8):(ώ (cH l="-")||kl (cH l))=ό:=by
 by_cases Z:l=[]
 ·subst Z
  rfl
 ·rw[(EH Z h).1]
  have:kl (pw l)=ό:=by
   delta kl;rw[D4];have:=agC.mpr Z;rw[Ä ⋯,Ä ⋯,wV,List.all_map,Ü.mpr λi Y=>?_]
   ·rfl
   ·have:=h i Y
    show i6 (48+i.toNat)=ό;delta i6;rw[Ã];omega
  rw[this,Bool.or_true]
end
section
variable {s:ag} {l h:List Int} {i:Int} {env:Env} {p:Pg} {x y:Str} {ps ds:List Pg}
def afi:∀n:Fin 31,dI (num (n.val))=ό/\(sg (num (n.val))).all i6=ό:=nofun
def EI (h0:0<=i) (h1:i<31):dI (num i)=ό/\(sg (num i)).all i6=ό:=by
 obtain⟨n,rfl⟩:=afP h0;exact afi ⟨n,by omega⟩
def D6 (hx:(sg x).all i6=ό) (hc:i6 c=ύ):c∉sg x:=λZ=>by
 rw[Ü.mp hx c Z] at hc;cases hc
def zY:c∈sg (x++y)↔c∈sg x\/c∈sg y:=by rw[mP,þ]
def Wy (h:gR p) (hc:c<45):c∉sg (oG p):=by
 cases p with
 |made m d a b =>
  intro hm;have hm:c∈sg (cH a++"/"++cH b):=hm;rw[zY,zY] at hm
  rcases hm with (hm|hm)|hm
  ·exact tR (.inl hc) (rp h.2.2.1) hm
  ·rw[FD] at hm
   simp[sg] at hm;omega
  ·exact tR (.inl hc) (rp h.2.2.2) hm
 |cE m d k=>exact D6 (EI h.2.2.1 (by have:=h.2.2.2;omega)).2 (by delta i6;simp;omega)
def Wz (hc:c<45):c∉sg (jM p):=by
 cases p
 ·show c∉sg "made"
  rw[show sg _=[109,97,100,101] by decide +kernel];simp;omega
 ·show c∉sg "mended"
  rw[show sg _=[109,101,110,100,101,100] by decide +kernel];simp;omega
def wordsOf (p:Pg):List Str:=[jM p,num (u0 p),num p.day,oG p]
def KZ (h:gR p) (hc:c<45):∀z∈wordsOf p,c∉sg z:=λz Z=>by
 have m:=lK h;have d:=lL h;have Y:i6 c=ύ:=by delta i6;simp;omega
 erw[wordsOf,Ñ,ü,or_false] at Z
 rcases Z with rfl|rfl|rfl|rfl
 ·exact Wz hc
 ·exact D6 (EI m.1 ⋯).2 Y
 ·exact D6 (EI d.1 d.2).2 Y
 ·exact Wy h hc
def LB:fx p=Į ⟨#[32]⟩ (wordsOf p):=by
 show jM p++" "++num _++" "++num _++" "++oG p=jM p++⟨_⟩++(num _++⟨_⟩++(num _++⟨_⟩++oG p));rw[blank];erw[Ů]
def Vh (h:gR p):ĺ (fx p) ⟨#[32]⟩=wordsOf p:=by
 rw[LB];exact we (by delta wordsOf;simp) (KZ h (by decide))
def textOf (ps:List Pg):Str:=Į "" (ps.map λp=>fx p++"\n")
def LC (h:gR p):(fx p++"\n").length<=51:=by rw[cw];have:=tQ h;show _ + 1<=51;omega
def text_len (h:∀p∈ps,gR p):(textOf ps).length<=ps.length*51:=by
 rw[oo];delta textOf;rw[Dl]
 induction ps with
 |nil=>exact agW 0
 |cons p r ih =>
  have Z:=LC (h p ∅);rw[oo] at Z;have X:=ih λq Y=>h q (É _ Y);rw[Þ,Þ,af0,Ù,æ];omega
def Yh (h:gR p) (hg:g [p.d] s=ok (.str (fx p)) s):e2 bK (aB g (ae (aa 0) ah)) (eC (.str "\n")) [ϊ p.d] s=ok (.str (fx p++"\n")) s:=by
 refine agU ?_;erw[bp,wp_call,aF,aL,aG,bh];refine agT hg (agT (fS (by have:=tQ h;show _ + 1<=_;omega)) ⟨rfl,rfl⟩)
def K0 (hi:it env s=ok (ps.map Pg.d) s) (hl:ps.length<=100) (h:∀p∈ps,gR p) (hg:∀p,gR p->g [p.d] s=ok (.str (fx p)) s):b9 1 [] it (gN 0) cB (e2 bK (aB g (ae (aa 0) ah)) (eC (.str "\n"))) env s=ok (.lst ((ps.map λp=>fx p++"\n").map D.str)) s:=by
 refine agU ?_;rw[ib];refine agT hi ⟨le_size (by rw[Ç];omega),?_⟩;refine agT (comp_map _ (λ_=>ό) (λp=>D.str _) ps λp Z=>⟨_,rfl,rfl,λ_=>Yh (h p Z) (hg p (h p Z))⟩) ?_;rw[ń.mpr (λ_ _=>rfl),ė];exact⟨rfl,rfl⟩
def OM (hl:ps.length<=100) (h:∀p∈ps,gR p):iB "" (.lst ((ps.map λp=>fx p++"\n").map D.str)) s=ok (.str (textOf ps)) s:=AK (by decide) (by rw[Ç];omega) λz Z=>by
 obtain⟨p,Y,rfl⟩:=é.mp Z;have:=LC (h p Y);omega
def zF (hl:ps.length<=1000) (hf:∀p∈ps,js p) (hb:cU ps=ό):cV.sW [bD ps] s=ok .az s:=by
 refine agU ?_;delta cV.sW;simp only[VC];refine agT (Nu hl hf) ?_;rw[hb];simp only[VC,ĳ,Æ,ñ,Ğ]
def EJ (hb:cU ps=ό):(∀p∈ps,cF p=ό)/\ps.length<=24:=by
 delta cU jL at hb;erw[Â,Ã,Ü] at hb;exact⟨hb.1.2.1,hb.1.1⟩
def Yi (hb:cU ps=ό):Ca [bD ps] s=ok (.str (textOf ps)) s:=by
 obtain⟨Z,X⟩:=EJ hb;refine agU ?_;refine cT.symm ▸ ⟨rfl,agV λR Y=>?_⟩;rw[qR];refine agT (zF ⋯ (λp h=>CF (Z p h)) hb) ?_;rw[cx];subst Y;rw[bN,rn rfl];refine agT (K0 (jD rfl) ⋯ (λp h=>oq (Z p h)) λp h=>Yg h) ?_;exact agT (OM ⋯ λp h=>oq (Z p h)) ⟨rfl,rfl⟩
end
def Sf (s:ag) (k:Nat):Prop:=∃(a:Int) (b:Bool),s[k]?=ϊ (.lst [.int a,.bl b])/\0<=a/\(b=ύ->a<2147483647)
def fO (h:Sf s k) (h1:0<m) (h2:m<1073741824):Wp (cV.eD [.au k,.int m] s) λd s'=>∃r,d=.int r/\0<=r/\r<m/\Sf s' k/\Ex k s s':=by
 obtain⟨a,b,e,W,Y⟩:=h;have X:=(Ï.mp e).1
 cases b with
 |true =>
  have Z:(s.set k _)[k]?=ϊ (.lst [.int (a / m),.bl ό]):=í X;refine⟨_,_,?_,a % m,rfl,agD _ ⋯,afQ _ h1,⟨_,ό,Z,Int.ediv_nonneg W ⋯,λz=>by cases z⟩,Ex.set ..⟩;erw[cV.eD,aO,aw,aU,cD,truth,e2,An,Ao,eC,cZ,Þ,ł,ď,Ĩ,Ia _ _ k s e,RW _ _ k s e,æ,ē,ø,aR,gN,uY s h1,qc,QT s h1 h2,QR _ _ _ k s e,aH,õ,ö,Õ]
 |false =>
  have Y:=Y rfl;have ex:0<=(a*48271+29) % 2147483647/\(a*48271+29) % 2147483647<2147483647:=⟨agD _ (by decide),afQ _ (by decide)⟩;generalize V:(a*48271+29) % 2147483647=x at ex;have Z:(s.set k _)[k]?=ϊ (.lst [.int x,.bl ύ]):=í X;generalize U:(x*x+39373*x+7) % 2147483629=y;generalize T:(y*y+16807*y) % 2147483587=z;refine⟨.int (z / 8 % m),_,?_,_,rfl,agD _ ⋯,afQ _ h1,⟨x,ύ,Z,ex.1,λ_=>ex.2⟩,Ex.set ..⟩;have S:gg (.int a) (.int 48271) s=ok _ s:=uZ s (mulOk_of ⋯ ⋯);have R:∀s',gg (.int x) (.int x) s'=ok _ s':=λs'=>uZ s' (mulOk_of ⋯ ⋯);have Q:∀s',gg (.int 39373) (.int x) s'=ok _ s':=λs'=>uZ s' (mulOk_of (by decide) (by decide));have m4:∀s',gg (.int y) (.int y) s'=ok _ s':=λs'=>uZ s' (mulOk_of ⋯ ⋯);have P:∀s',gg (.int 16807) (.int y) s'=ok _ s':=λs'=>uZ s' (mulOk_of (by decide) (by decide));have O:∀n:Int,ar _ _ _=ok _ _:=λ_=>Ia _ _ k _ Z;erw[cV.eD,aO,aw,aU,cD,truth,e2,An,Ao,eC,cZ,Þ,ł,ď,Ĩ,Ia _ _ k s e,RW _ _ k s e,æ,ē,Æ,ñ,ø,bz,aR,gN,qc,QR _ _ _ k s e,aH,õ,ö,Õ,S,R,Q,m4,P,QS,uY _ (show (0)<2147483647 by decide),uY _ (show (0)<2147483629 by decide),uY _ (show (0)<2147483587 by decide),QT _ (show (0)<8 by decide) (by decide),uY _ h1,V,U,T,O 0]
def ZO (h0:0<=i):Wp (cV.zB [.cS ns,.int i] s) λd s'=>d=.au s.length/\Sf s' s.length/\∃c,s'=s++[c]:=by
 obtain⟨c,Z⟩:=ZF (ns:=ns) (s:=s) h0;have Y:∀s,pU (.int 10) (.int 18) s=ok (.int (10 ^ 18)) s:=λs=>by
  have e:AY (.int 10) (.int 18)=ϊ (.int (10 ^ 18)):=by
   show (if (ώ ((0)<=18)&&ώ ((18)<=1000000)&&ώ ((10:Int).natAbs<2 ^ 64))=ό then ϊ _ else ϋ)=_
   rfl
  erw[pU,e,bW]
 delta cV.zB;simp only[VC,Z,Y];by_cases h:(10) ^ 18<=c
 ·rw[Ä h]
  exact⟨by decide,⟨_,ό,by simp;rfl,by omega,λz=>by cases z⟩,_,rfl⟩
 ·rw[Ê h]
  simp only[VC,Æ,ñ,uY _ (show (0)<2147483647 by decide)];exact⟨by decide,⟨_,ύ,by simp;rfl,agD _ (by decide),λ_=>afQ _ (by decide)⟩,_,rfl⟩
def FE (h0:0<=r) (h1:r<ds.length):∃d∈ds,ar (.lst ds) (.int r) s=ok d s:=by
 obtain⟨x,e,e2⟩:=mO h0 h1;exact⟨x,ο e2,by erw[ar,jY,res,e,bW]⟩
def R3 (h0:0<=k) (h1:k<3):∃n:Nat,ar (.lst [.int 2,.int 4,.int 8]) (.int k) s=ok (.int n) s/\2<=n/\n<=8:=by
 obtain⟨d,Z,e⟩:=FE (ds:=[.int 2,.int 4,.int 8]) h0 h1;erw[Ñ,ü,or_false] at Z
 rcases Z with rfl|rfl|rfl
 ·exact⟨2,e,by decide,by decide⟩
 ·exact⟨4,e,by decide,by decide⟩
 ·exact⟨8,e,by decide,by decide⟩
def Yj (h:Sf s k):Wp (gE 1 [ϊ (.au k)] (gN 0) cB (aB cV.eD (ae (aa 1) (ae (eC (.int 3)) ah))) (dU 0 n) s) λxs s'=>∃ns:List Int,xs=ns.map D.int/\ns.length=n/\Sf s' k/\Ex k s s':=by
 refine Nm (λi Z s'=>∃ns,Z=ns.map D.int/\ns.length=i/\Sf s' k/\Ex k s s') _ ⟨[],rfl,rfl,h,Ex.refl ..⟩ (λi d Z s' Y X=>?_) λZ s' X=>?_
 ·obtain⟨ns,rfl,W,V,U⟩:=X
  rw[jE] at Y;split at Y
  ·simp only[VC]
   refine agT (rfl) ?_;refine(fO V (by decide) (by decide)).mono λd R Y=>?_;obtain⟨r,rfl,Q,P,T,S⟩:=Y;exact⟨ns++[r],by simp,by rw[Ù,W];rfl,T,U.trans S⟩
  ·cases Y
 ·rw[n5] at X
  exact X
noncomputable def pick (ns:List Int) (c:Int) (n:Nat):List Int:=((â n).filter λi=>ώ (ns.getD i 0=c)).map λi:Nat=>(i)
def Mw (ns) (c) (n):eV n (pick ns c n):=by
 refine⟨λx Z=>?_,?_⟩
 ·obtain⟨i,Y,rfl⟩:=é.mp Z
  have:=î.mp (ĉ.mp Y).1;omega
 ·delta pick
  rw[List.pairwise_map];exact(List.pairwise_lt_range.filter _).imp λh=>by omega
def NI:gE 1 [ϊ (.lst (ns.map D.int))] (gN 0) (aJ (DI.e2 aX (DI.e2 ar (aa 1) (aa 0)) (eC (.int c)))) (aa 0) (dU 0 ns.length) s=ok ((pick ns c ns.length).map D.int) s:=by
 rw[Nr];have:=comp_map (nt:=1) (caps:=[ϊ (.lst (ns.map D.int))]) (g:=gN 0) (t:=aJ (DI.e2 aX (DI.e2 ar (aa 1) (aa 0)) (eC (.int c)))) (f:=aa 0) (s:=s) (λi:Nat=>D.int (0+(i))) (λi=>ώ (ns.getD i 0=c)) (λi=>D.int i) (â ns.length) λi Z=>⟨_,rfl,?_,λ_=>?_⟩
 ·rw[this]
  delta pick;rw[ė];rfl
 ·have Z:=î.mp Z
  rw[Ŧ];refine agU ?_;simp only[VC];refine agT (show ar _ _ s=ok (.int (ns.getD i 0)) s from ?_) ?_
  ·delta ar jY res
   simp only[];rw[YV (by rw[å,getD_some (d:=0) Z];rfl)];rfl
  ·simp only[VC]
   exact⟨by rw[Ġ];simp,trivial⟩
 ·rw[Ŧ];rfl
def ZP (h:x∈pick ns 1 n) (g:x∈pick ns 2 n):False:=by
 obtain⟨i,Z,rfl⟩:=é.mp h;obtain⟨j,Y,e⟩:=é.mp g;have:i=j:=by omega
 subst this;have X:=(ĉ.mp Z).2;have W:=(ĉ.mp Y).2;erw[Ã] at X W;omega
def D7 (h:Sf s k):Wp (cV.wb [.au k] s) λd s'=>∃a b,d=.tup [mD a,mD b]/\eV 8 a/\eV 8 b/\(∀x∈a,x∉b)/\Sf s' k/\Ex k s s':=by
 refine cT.symm ▸ ⟨rfl,agV λR Z=>?_⟩;simp only[VC];refine⟨by decide,?_⟩;refine(fO h (by decide) (by decide)).mono λd M U=>?_;obtain⟨r,rfl,T,S,Y,Q⟩:=U;obtain⟨n,e,L,W⟩:=R3 T S;refine agT e ?_;subst Z;refine agV λR Z=>?_;simp only[VC];refine agT (fB rfl ⋯) ⟨by rw[n5];exact le_size ⋯,?_⟩;refine(Yj Y).mono λK J P=>?_;obtain⟨V,rfl,O,X,N⟩:=P;subst Z;subst O;refine agV λR Z=>?_;simp only[VC];refine agT (fB rfl ⋯) ⟨by rw[n5];exact le_size ⋯,?_⟩;refine agT NI ?_;refine agT (rfl) ?_;subst Z;simp only[VC];refine agT (fB rfl ⋯) ⟨by rw[n5];exact le_size ⋯,?_⟩;refine agT NI ?_;refine agT (rfl) ?_;exact⟨by decide,_,_,rfl,(Mw V 1 _).R0 W,(Mw V 2 _).R0 W,λx Y X=>ZP Y X,X,Q.trans N⟩
def ab2 (h:Sf s k) (h0:0<n) (h1:n<=31):Wp (cV.DP [.au k,.int n] s) λd s'=>∃p,d=p.d/\cF p=ό/\Sf s' k/\Ex k s s':=by
 refine cT.symm ▸ ⟨rfl,agV λR W=>?_⟩;erw[Þ,ł,Õ,Nat.reduceSub,ď,Ĩ,zU,aF,aL,bp,ic,bh,wp_call,aG,bb];refine(fO h (by decide) (by decide)).mono λd B Z=>?_;obtain⟨m,rfl,m0,K,g1,T⟩:=Z;refine⟨le_size (n:=2) (by decide),?_⟩;refine(fO g1 (by decide) (by decide)).mono λd A Z=>?_;obtain⟨r,rfl,J,I,g2,S⟩:=Z;obtain⟨d,Z,e⟩:=FE (ds:=[.int 0,.int m]) J I;refine agT e ?_;have Y:∃X,d=.int X/\0<=X/\X < 4:=by
  erw[Ñ,ü,or_false] at Z
  rcases Z with rfl|rfl
  ·exact⟨0,rfl,by decide,by decide⟩
  ·exact⟨m,rfl,m0,K⟩
 obtain⟨X,rfl,Y⟩:=Y;refine(fO g2 h0 ⋯).mono λd x Z=>?_;obtain⟨y,rfl,Q,y1,g3,P⟩:=Z;refine⟨_,_,rfl,?_⟩;subst W;refine agV λR W=>?_;simp only[VC];refine(fO g3 (by decide) (by decide)).mono λd w Z=>?_;obtain⟨z,rfl,O,N,M,L⟩:=Z;simp only[VC];split
 ·refine⟨by decide,?_⟩
  refine(fO M (by decide) (by decide)).mono λd s5 Z=>?_;obtain⟨z,rfl,O,N,V,U⟩:=Z;obtain⟨n,e,v,u⟩:=R3 O N;refine agT e ?_;refine(fO V ⋯ ⋯).mono λd t Z=>?_;obtain⟨c,rfl,H,q,G,F⟩:=Z;refine⟨by decide,?_⟩;exact⟨_,rfl,Wu Y ⟨Q,by omega⟩ ⟨H,by omega⟩,G,((((T.trans S).trans P).trans L).trans U).trans F⟩
 ·subst W
  simp only[VC];refine(D7 M).mono λd s5 Z=>?_;obtain⟨a,b,rfl,E,D,C,V,U⟩:=Z;exact⟨by decide,_,rfl,Wv Y ⟨Q,by omega⟩ E D (by decide) C,V,(((T.trans S).trans P).trans L).trans U⟩
def Kp (s s':ag):Prop:=s.length<=s'.length/\∀j,j<s.length->s'[j]?=s[j]?
def Kp.refl (s):Kp s s:=⟨agW _,λ_ _=>rfl⟩
theorem Kp.trans (h:Kp a b) (g:Kp b c):Kp a c:=⟨Ø h.1 g.1,λj Z=>(g.2 j (È Z h.1)).trans (h.2 j Z)⟩
def Kp.app (s c):Kp s (s++c):=⟨by simp,λj Z=>ç Z⟩
def Kp.get (h:Kp s s') {k:Nat} (e:s[k]?=ϊ c):s'[k]?=ϊ c:=by rw[h.2 k (Ï.mp e).1];exact e
def Kp.sf (h:Kp s s') (g:Sf s k):Sf s' k:=by
 obtain⟨a,b,e,r⟩:=g;exact⟨a,b,h.get e,r⟩
theorem Kp.set (h:Kp s s') (hj:s.length<=j) (c):Kp s (s'.set j c):=⟨by rw[Ă];exact h.1,λi Z=>by rw[ð ⋯];exact h.2 i Z⟩
def ot {ns:List Int} (h:lS d s=ϊ (ns.map D.int)):cz (.int x) d s=ok (.bl (ώ (x∈ns))) s/\gC (.int x) d s=ok (.bl (!ώ (x∈ns))) s:=by
 have Z:mS 100 (.int x) (ns.map D.int)=ό:=by erw[mS,lay,qN,dep,Ĥ,č,ģ]
 have e:inD (.int x) (ns.map D.int)=ϊ (ώ (x∈ns)):=by delta inD;rw[Ö Z,DZ]
 delta cz gC;rw[h];erw[e];exact⟨rfl,rfl⟩
def zZ (h:s[j]?=ϊ (.lst ds)):lS (.au j) s=ϊ ds:=by delta lS res;erw[h]
def D8 (h:s[j]?=ϊ (.lst ds)) (hl:ds.length<=1000):lX (.au j) s=ό/\lW (.au j) x s=ok .az (s.set j (.lst (ds++[x]))):=by
 refine⟨by erw[lX,h],?_⟩;delta lW;erw[h,Ä (Ÿ hl (show 1000<Ô by decide)),ø]
section
variable {s:ag} {ps:List Pg} {p:Pg} {m k:Int} {Q:Fl->ag->Prop} {e0 e1 e2 e3 e4 e5 e6 e7 e8:Option D}
def zG {b:Bool}:gg (.lst [.int x]) (.int (if b then 1 else 0)) s=ok (.lst ((if b=ό then [x] else []).map D.int)) s:=by
 cases b<;>rfl
def uq {a b:List Int} (h:a.length+b.length<=1000000):bK (.lst (a.map D.int)) (.lst (b.map D.int)) s=ok (.lst ((a++b).map D.int)) s:=by
 rw[A7 (by simpa only [Ç] using h),Ĕ]
def one_le (x:Int) (b):(if b=ό then [x] else []).length<=1:=by cases b<;>simp
def qA (m k:Int) (p:Pg):List Int:=if qy m k p=ό then [p.day] else []
def qB (m k:Int) (p:Pg):List Int:=if qz m k p=ό then [p.day] else []
def nO (m k:Int) (p:Pg):List Int:=if pq m k p=ό then [p.day] else []
def WA:shown (ps++[p]) m k=shown ps m k++qA m k p:=by
 delta shown qA
 cases h:qy m k p<;>simp[List.filter,h]
def Vi:eT (ps++[p]) m k=eT ps m k++qB m k p:=by
 delta eT qB
 cases h:qz m k p<;>simp[List.filter,h]
def Vj:c8 (ps++[p]) m k=c8 ps m k++nO m k p:=by
 delta c8 nO
 cases h:pq m k p<;>simp[List.filter,h]
def ab3 {r:Env} {a b c} {j} (hj:s[j]?=ϊ (.lst (c.map D.int))) (la:a.length<=900) (lb:b.length<=900) (lc:c.length<=900)
  (hQ:∀s',s'[j]?=ϊ (.lst ((c++nO m k p).map D.int))->(s'=s\/∃x,s'=s.set j x)->Q (.nx (e0::ϊ (.int m)::ϊ (.int k)::ϊ (.lst ((a++qA m k p).map D.int))::ϊ (.lst ((b++qB m k p).map D.int))::ϊ (.au j)::ϊ p.d::r)) s') :
  Wp (BL (e0::ϊ (.int m)::ϊ (.int k)::ϊ (.lst (a.map D.int))::ϊ (.lst (b.map D.int))::ϊ (.au j)::ϊ p.d::r) s) Q:=by
 cases p with
 |cE X Z S =>
  have P:qA m k (.cE X Z S)=[]:=rfl;have O:qB m k (.cE X Z S)=[]:=rfl;rw[P,O,ú,ú] at hQ;refine agV λR N=>?_;simp only[VC,Pg.d];refine agT (rfl) ?_;refine agT (rfl) ?_;simp only[VC,ø];refine agT (rfl) ?_;have rest:∀s',s'[j]?=ϊ _->(s'=s\/∃x,s'=s.set j x)->eU R Q (.nx (e0::ϊ _::ϊ _::ϊ _::ϊ _::ϊ _::ϊ (.tup [.str "mended",.int X,.int Z,.int S])::r)) s':=λs' e x=>by
   subst N;simp only[VC];refine agT (rfl) ?_;refine agT (rfl) ?_;simp only[VC,Æ,ñ];exact hQ s' e x
  simp only[VC];split
  ·rename_i Y
   refine agT (rfl) ?_;simp only[VC];split
   ·rename_i W
    have V:nO m k (.cE X Z S)=[Z]:=by
     delta nO pq;rw[Ö (by simp at Y W;simp[Y,W])];rfl
    rw[V] at rest;obtain⟨Y,W⟩:=D8 hj (by rw[Ç];omega);refine⟨Y,?_⟩;refine agT (rfl) ?_;refine agT W (rest _ ?_ (.inr ⟨_,rfl⟩));rw[í (Ï.mp hj).1];simp
   ·rename_i W
    have V:nO m k (.cE X Z S)=[]:=by
     delta nO pq;rw[Ý (by simp at Y W;simp[Y,W])]
    rw[V,ú] at rest;exact rest s hj (.inl rfl)
  ·rename_i Y
   have V:nO m k (.cE X Z S)=[]:=by
    delta nO pq;rw[Ý (by simp at Y;simp[Y])]
   rw[V,ú] at rest;exact rest s hj (.inl rfl)
 |made X Z U T =>
  have V:nO m k (.made X Z U T)=[]:=rfl;rw[V,ú] at hQ;refine agV λR N=>?_;simp only[VC,Pg.d];refine agT (rfl) ?_;refine agT (show aX _ _ s=ok (.bl ύ) s from rfl) ?_;simp only[VC,Æ,ñ];subst N;simp only[VC];refine agT (rfl) ?_;refine agT (rfl) ?_;simp only[VC,ø];refine agT (rfl) ?_;simp only[VC];split
  ·rename_i Y
   have e1:=Y
   have P:qA m k (.made X Z U T)=if ώ (k∈U)=ό then [Z] else []:=by
    delta qA qy;erw[beq_iff_eq] at e1;erw[e1,ģ,ğ];rfl
   have O:qB m k (.made X Z U T)=if ώ (k∈T)=ό then [Z] else []:=by
    delta qB qz;erw[beq_iff_eq] at e1;erw[e1,ģ,ğ];rfl
   rw[P,O] at hQ;refine agT (rfl) ?_;refine⟨by decide,?_⟩;refine agT (rfl) ?_;refine agT (rfl) ?_;refine agT (pJ) ?_;refine agT (rfl) ?_;refine agT zG ?_;have M:=one_le Z (ώ (k∈U));have L:=one_le Z (ώ (k∈T));refine agT (uq ⋯) ?_;refine agT (rfl) ?_;refine⟨by decide,?_⟩;refine agT (rfl) ?_;refine agT (rfl) ?_;refine agT (pJ) ?_;refine agT (rfl) ?_;refine agT zG ?_;refine agT (uq ⋯) ?_;exact hQ s hj (.inl rfl)
  ·rename_i Y
   have e1:=by simpa using Y
   have P:qA m k (.made X Z U T)=[]:=by delta qA qy;simp[e1]
   have O:qB m k (.made X Z U T)=[]:=by delta qB qz;simp[e1]
   rw[P,O,ú,ú] at hQ;exact hQ s hj (.inl rfl)
def qD (sh la me:Nat->Bool) (d:Nat):Bool:=!(me d&&sh d)&&!(pr sh me d&&la d)
def ou (ps:List Pg) (m k:Int):Bool:=(â 31).all (qD (sN ps m k) (lN ps m k) (mN ps m k))
def ab4 {a b c:List Int} {j y:Nat} {t} (hj:s[j]?=ϊ (.lst (c.map D.int)))
  (hR:(ώ ((y:Int)∈c)&&ώ ((y:Int)∈a))=ό\/((ώ ((y:Int)∈a)||(t&&!ώ ((y:Int)∈c)))&&ώ ((y:Int)∈b))=ό->Q (.rt (.bl ύ)) s)
  (hQ:(ώ ((y:Int)∈c)&&ώ ((y:Int)∈a))=ύ->((ώ ((y:Int)∈a)||(t&&!ώ ((y:Int)∈c)))&&ώ ((y:Int)∈b))=ύ->Q (.nx [e0,e1,e2,ϊ (.lst (a.map D.int)),ϊ (.lst (b.map D.int)),ϊ (.au j),e6,ϊ (.bl (ώ ((y:Int)∈a)||(t&&!ώ ((y:Int)∈c)))),ϊ (.int y)]) s) :
  Wp (JF [e0,e1,e2,ϊ (.lst (a.map D.int)),ϊ (.lst (b.map D.int)),ϊ (.au j),e6,ϊ (.bl t),ϊ (.int y)] s) Q:=by
 have W:=ot (x:=y) (zZ hj);have V:=ot (x:=y) (d:=.lst _) (s:=s) (ns:=a) rfl;have S:=ot (x:=y) (d:=.lst _) (s:=s) (ns:=b) rfl;generalize P:ώ ((y:Int)∈a)=Z at *;generalize O:ώ ((y:Int)∈b)=N at *;generalize M:ώ ((y:Int)∈c)=Y at *;refine agV λR X=>?_;erw[gX,tY,aG,bb,dZ,bp,W.1,V.1,bF,cj]
 have next:(Y&&Z)=ύ->eU R Q _ s:=λU=>by
  rw[cx];subst X;have e:(iZ (DI.e2 cz (aa 8) (aa 3)) (dw (aa 7) (DI.e2 gC (aa 8) (aa 5)))) [e0,e1,e2,ϊ (.lst (a.map D.int)),ϊ (.lst (b.map D.int)),ϊ (.au j),e6,ϊ (.bl t),ϊ (.int y)] s=ok (.bl (Z||(t&&!Y))) s:=by
   refine agU ?_;erw[wU,n9,bp,aG,bb,V.1,W.2,bF,cj]
   cases Z<;>cases t<;>simp
  refine agV λR X=>?_;rw[cq];refine agT e ?_;rw[cQ];erw[õ,ö];rw[cx];subst X;erw[gX,tY,pQ,aG,bb,lJ,dZ,bp,S.1,bF,cj]
  cases T:(Z||(t&&!Y)) with
  |false =>
   rw[T] at hQ;erw[Æ,ñ,cK];exact hQ U rfl
  |true =>
   rw[T] at hQ hR
   cases N with
   |true=>erw[ø,bN,bh];exact hR (.inr rfl)
   |false=>erw[Æ,ñ,cK];exact hQ U rfl
 cases Y with
 |true =>
  cases Z with
  |true=>erw[ø,bN,bh,mL];exact hR (.inl rfl)
  |false=>erw[Æ,ñ,cK];exact next rfl
 |false =>
  erw[Æ,ñ,cK]
  exact next rfl
def yS (sh me:Nat->Bool):Nat->Bool
 |0=>ύ
 |d+1=>pr sh me d
def Mx (sh me) (d):(sh d||(yS sh me d&&!me d))=pr sh me d:=by
 cases d with
 |zero=>simp[yS,pr]
 |succ d=>rfl
def QV {r:Env} (hl:ps.length<=100) (hQ:∀e6 s',s'[s.length]?=ϊ (.lst ((c8 ps m k).map D.int))->Kp s s'->Q (.nx (ϊ (bD ps)::ϊ (.int m)::ϊ (.int k)::ϊ (.lst ((shown ps m k).map D.int))::ϊ (.lst ((eT ps m k).map D.int))::ϊ (.au s.length)::e6::r)) s'):Wp (gn (cA (aa 0)) (gN 6) BL (ϊ (bD ps)::ϊ (.int m)::ϊ (.int k)::ϊ (.lst [])::ϊ (.lst [])::ϊ (.au s.length)::ϋ::r) (s++[.lst []])) Q:=by
 rw[jG];refine agT (jD rfl) ?_;have Y:=Kp.app s [.lst []];have T:(s++[Cell.lst []])[s.length]?=ϊ (.lst (([]).map D.int)):=by simp
 have len:∀{V:List Pg} {f},V.length<=100->((V.filter f).map Pg.day).length<=900:=λh=>by
  rw[Ç];exact Ø (Ļ ..) ⋯
 refine Wp.jr (λi env s'=>∃e6,env=(ϊ _::ϊ _::ϊ _::ϊ (.lst ((shown (ps.take i) m k).map D.int))::ϊ (.lst ((eT (ps.take i) m k).map D.int))::ϊ _::e6::r)/\s'[s.length]?=ϊ (.lst ((c8 (ps.take i) m k).map _))/\Kp s s') _ ⟨_,rfl,T,Y⟩ (λi d env s' U X=>?_) (λenv s' X=>?_)
 ·obtain⟨e6,rfl,Z,kp⟩:=X
  rw[å] at U;obtain⟨p,S,rfl⟩:=afV.mp U;have R:ps.take (i+1)=ps.take i++[p]:=by rw[List.take_add_one,S];rfl
  have W:(ps.take i).length<=100:=by rw[abL];omega
  refine⟨_,rfl,?_⟩;refine ab3 Z (len W) (len W) (len W) λN P O=>?_;rw[R,WA,Vi,Vj];refine⟨_,rfl,P,?_⟩
  rcases O with rfl | ⟨x,rfl⟩
  ·exact kp
  ·exact kp.set (agW _) _
 obtain⟨e6,rfl,Z,kp⟩:=X;rw[Ç,List.take_length] at Z |-;exact hQ e6 s' Z kp
def WB (hl:ps.length<=100):Wp (BM [bD ps,.int m,.int k] s) λd s'=>d=.bl (ou ps m k)/\Kp s s':=by
 refine cT.symm ▸ ⟨rfl,agV λR Z=>?_⟩;refine agT (rfl) ?_;subst Z;refine agV λR Z=>?_;refine QV hl λe6 s' Q kp=>?_;subst Z;refine agV λR Z=>?_;erw[cq,cQ,bh,õ,ö,cx];subst Z;refine agV λR Z=>?_;rw[jG];refine agT (fB rfl (by decide)) ?_;refine Wp.jr (λi env X=>X=s'/\(∀d<i,qD (sN ps m k) (lN ps m k) (mN ps m k) d=ό)/\∃e8,env=[ϊ _,ϊ _,ϊ _,ϊ _,ϊ _,ϊ _,e6,ϊ (.bl (yS (sN ps m k) (mN ps m k) i)),e8]) _ ⟨rfl,λd h=>absurd h (agy _),_,rfl⟩ (λi d env X Y W=>?_) (λenv X W=>?_)
 ·obtain⟨rfl,V,e8,rfl⟩:=W
  rw[jE] at Y;split at Y
  ·rename_i P
   cases Y;rw[Ŧ];refine⟨_,rfl,?_⟩;have S:(ώ _||(yS _ _ i&&!ώ _))=pr _ _ i:=Mx (sN ps m k) (mN ps m k) i;refine ab4 Q ?_ ?_
   ·rw[S]
    intro O;refine⟨?_,kp⟩;congr 1;symm;delta ou;rw[ν];refine⟨i,î.mpr P,?_⟩
    rcases O with h|h
    ·have U:(mN ps m k i&&sN ps m k i)=ό:=h
     delta qD;rw[U];simp
    ·have U:(pr _ _ i&&lN ps m k i)=ό:=h
     delta qD;rw[U];simp
   ·rw[S]
    intro N M;refine⟨rfl,λd Y=>?_,_,rfl⟩;by_cases e:d=i
    ·subst e
     have T:(mN ps m k d&&sN ps m k d)=ύ:=N;have L:(pr _ _ d&&lN ps m k d)=ύ:=M;delta qD;rw[T,L];rfl
    ·exact V d ⋯
  ·cases Y
 ·obtain⟨rfl,V,e8,rfl⟩:=W
  subst Z;simp only[VC];refine⟨?_,kp⟩;congr 1;symm;exact Ü.mpr λd Y=>V d (by exact î.mp Y)
def LD:ou ps m k=ό↔zW (sN ps m k) (lN ps m k) (mN ps m k):=by
 delta ou;rw[Ü];constructor
 ·intro h d e Y P O Z
  have M:∀x,x<=30->qD _ _ _ x=ό:=λx T=>h x (î.mpr ⋯);have X:=M e O;delta qD at X;erw[Â,û,agd] at X
  rcases Z with Z | ⟨rfl,Z⟩
  ·apply Classical.byContradiction
   intro L;have:pr _ (mN ps m k) e=ό:=EG.mpr ⟨d,P,Y,λx V U=>by
    cases T:mN ps m k x with
    |false=>rfl
    |true=>exact(L ⟨x,V,U,T⟩).elim⟩
   rcases X.2 with z|z
   ·rw[this] at z;cases z
   ·rw[Z] at z;cases z
  ·rcases X.1 with z|z
   ·rw[Z] at z;cases z
   ·rw[Y] at z;cases z
 ·intro N d W
  have W:d<=30:=by have:=î.mp W;omega
  delta qD;erw[Â,û,agd];constructor
  ·cases K:mN ps m k d with
   |false=>exact .inl rfl
   |true =>
    right
    cases Y:sN ps m k d with
    |false=>rfl
    |true =>
     obtain⟨x,S,R,_⟩:=N d d Y (agW _) W (.inr ⟨rfl,K⟩);omega
  ·cases J:pr _ _ d with
   |false=>exact .inl rfl
   |true =>
    right
    cases I:lN ps m k d with
    |false=>rfl
    |true =>
     obtain⟨e,V,U,H⟩:=EG.mp J;obtain⟨x,S,R,Q⟩:=N e d U V W (.inl I);rw[H x S R] at Q;cases Q
end
def Ut (hd:rX ps) (h:∀m∈m4,∀k∈k8,zW (sN ps m k) (lN ps m k) (mN ps m k)):rl ps=[]:=by
 delta rl;rw[afR];intro m V;rw[afR];intro k U;rw[agB];delta om;rw[afR];intro d T;rw[agB,List.filter_eq_nil_iff];intro e S Z;have X:=qM.mp T;obtain⟨i,R,rfl⟩:=é.mp S;rw[î] at R;have P:=hd.of X;delta sL at Z;erw[Â,Ť,Ã,û] at Z;have e1:((d.toNat))=d:=by omega
 have e2:(((d+(i)).toNat))=d+(i):=by omega
 obtain⟨x,O,N,W⟩:=h m V k U d.toNat (d+(i)).toNat (by erw[sN,e1,Ã];exact X) ⋯ ⋯ (by
  rcases Z.1 with z | ⟨M,Q⟩
  ·exact .inl (by erw[lN,e2,Ã];exact z)
  ·exact .inr ⟨by omega,by erw[mN,e1,Ã];exact Q⟩)
 have Y:=Z.2;delta Gu at Y;rw[š] at Y;erw[mN,Ã] at W;refine Y _ W ?_;erw[Â,Ã];omega
section
variable {s s':ag} {ps qs:List Pg} {p q:Pg} {a b:Nat} {bs:List (List Pg)} {env aV:Env} {st cp:agS Fl} {d x:D} {y:bE}
def qE (ps:List Pg):Bool:=ώ (ps.length<=24)&&m4.all λm=>k8.all λk=>ou ps m k
def ON (hl:ps.length<=100):Wp (cV.Ci [bD ps] s) λd s'=>d=.bl (qE ps)/\Kp s s':=by
 refine cT.symm ▸ ⟨rfl,agV λR V=>?_⟩;simp only[VC];refine agT (by show ok _ s=_;rw[Ç]) ?_;simp only[VC];by_cases S:(24:Int)<ps.length
 ·rw[Ä S]
  refine⟨?_,Kp.refl s⟩;delta qE;rw[Ê ⋯];rfl
 ·rw[Ê S]
  have N:qE ps=m4.all λm=>k8.all λk=>ou ps m k:=by delta qE;rw[Ä ⋯];rfl
  rw[N];subst V;refine agV λR V=>?_;rw[jG];refine agT (fB (n:=4) rfl (by decide)) ?_;refine Wp.jr (λi env s'=>Kp s s'/\(∀m,m<i->∀k∈k8,ou ps m k=ό)/\∃e1 e2,env=[ϊ _,e1,e2]) _ ⟨Kp.refl s,λm h=>absurd h (agy _),_,_,rfl⟩ (λi d env s' Z Y=>?_) (λenv s' Y=>?_)
  ·obtain⟨kp,U,e1,e2,rfl⟩:=Y
   rw[jE] at Z;split at Z
   ·cases Z
    refine⟨_,rfl,?_⟩;rw[Ŧ];delta Kg;rw[jG];refine agT (fB (n:=8) rfl (by decide)) ?_;refine Wp.jr (λX env s'=>Kp s s'/\(∀k,k<X->ou ps i k=ό)/\∃e2,env=[ϊ _,ϊ _,e2]) _ ⟨kp,λk h=>absurd h (agy _),_,rfl⟩ (λX d env M Z Y=>?_) (λenv M Y=>?_)
    ·obtain⟨kp,T,e2,rfl⟩:=Y
     rw[jE] at Z;split at Z
     ·cases Z
      rw[Ŧ];delta Kf;simp only[VC];refine(WB hl).mono λd L Z=>?_;obtain⟨rfl,Q⟩:=Z;simp only[VC]
      cases P:ou ps i X with
      |false =>
       refine⟨?_,kp.trans Q⟩;congr 1;symm;rw[ν];refine⟨(i),Aq.mpr ⋯,?_⟩;rw[ŭ,ν];exact⟨(X),rm.mpr ⋯,by rw[P];decide⟩
      |true =>
       refine⟨kp.trans Q,λk W=>?_,_,rfl⟩;by_cases e:k=X
       ·subst e;exact P
       ·exact T k ⋯
     ·cases Z
    ·obtain⟨kp,T,e2,rfl⟩:=Y
     refine⟨kp,λm O k W=>?_,_,_,rfl⟩;by_cases e:m=i
     ·subst e
      have K:=rm.mp W;have:=T k.toNat (by rw[n5];omega);rw[show ((k.toNat))=k by omega] at this;exact this
     ·exact U m ⋯ k W
   ·cases Z
  ·obtain⟨kp,U,e1,e2,rfl⟩:=Y
   subst V;simp only[VC];refine⟨?_,kp⟩;congr 1;symm;refine Ü.mpr λm O=>Ü.mpr λk W=>?_;have J:=Aq.mp O;have:=U m.toNat (by rw[n5];omega) k W;rw[show ((m.toNat))=m by omega] at this;exact this
def NJ (h:Laid ps):qE ps=cU ps:=by
 by_cases Z:ps.length<=24
 ·have W:=h.jL Z
  rw[Ġ];delta qE;rw[Ä Z];constructor
  ·intro V
   have e:=Ut (Lw W) λm Y k X=>LD.mp (Ü.mp (Ü.mp V m Y) k X);delta cU;rw[W,e];rfl
  ·intro U
   exact Ü.mpr λm Y=>Ü.mpr λk X=>LD.mpr (ZK U (Aq.mp Y) (rm.mp X))
 ·have T:qE ps=ύ:=by delta qE;rw[Ê Z];rfl
  have S:cU ps=ύ:=by delta cU jL;rw[Ê Z];rfl
  rw[T,S]
def eqB (p q:Pg):Bool:=beq p.d q.d
def My:eqB p p=ό:=by
 delta eqB
 cases p<;>simp[Pg.d,ti,beq,jo,tD]
def eqB_iff:eqB p q=ό↔p=q:=by
 have Z:(Ģ "made"==Ģ "mended")=ύ:=nofun
 have Y:(Ģ "mended"==Ģ "made")=ύ:=nofun
 constructor
 ·delta eqB
  cases p<;>cases q<;>intro h
  ·simp[Pg.d,ti,beq,jo,tD] at h
   obtain⟨rfl,rfl,rfl,rfl⟩:=h;rfl
  ·simp[Pg.d,ti,beq,jo,Z] at h
  ·simp[Pg.d,ti,beq,jo,Y] at h
  ·simp[Pg.d,ti,beq,jo] at h
   obtain⟨rfl,rfl,rfl⟩:=h;rfl
 ·intro h
  rw[h];exact My
def Ar (p:Pg):lay p.d=ό:=by
 have Z:à "made"=ό:=nofun
 have Y:à "mended"=ό:=nofun
 cases p with
 |made m d a b=>erw[Pg.d,lay,DI.dA,ti,qN,Z,Ĥ]
 |cE m d k=>erw[Pg.d,lay,DI.dA,Y,Ĥ]
def Mz (ps:List Pg):DI.dA (ps.map Pg.d)=ό:=by
 induction ps with
 |nil=>rfl
 |cons p r ih=>erw[Þ,DI.dA,Ar,ih,Ĥ]
def mv (p:Pg) (ps:List Pg):Bool:=ps.any λq=>eqB q p
def NK:mv p ps=ό↔p∈ps:=by
 delta mv;rw[Ŭ];exact⟨λ⟨q,Z,Y⟩=>eqB_iff.mp Y ▸ Z,λh=>⟨p,h,My⟩⟩
def D9:cz p.d (bD ps) s=ok (.bl (mv p ps)) s/\gC p.d (bD ps) s=ok (.bl (!mv p ps)) s:=by
 have e:inD p.d (ps.map Pg.d)=ϊ (mv p ps):=by
  delta inD;have Z:=wQ p;rw[Ö (by delta mS;rw[Mz,Ar,Ä ⋯];rfl),List.any_map];rfl
 delta cz gC;rw[show lS _ s=ϊ _ from rfl];erw[e];exact⟨rfl,rfl⟩
def OO:res p.d s=p.d:=by cases p<;>rfl
def ab5:nM p.d=ύ:=by cases p<;>rfl
def adI:cX p.d q.d s=ok (.bl (!eqB p q)) s:=by
 delta cX jf;have Z:=wQ p;rw[OO,OO,ab5,af7,Ý Ú,Ö (by rw[Ar,Ar,Ä ⋯];rfl)];rfl
def ne_nil:cX (bD ps) (.tup []) s=ok (.bl (!ps.isEmpty)) s:=by
 delta cX jf;rw[show res _ s=bD ps from rfl,show res _ s=.tup _ from rfl,Ý (by exact Ú),Ö (by
  rw[show lay (bD ps)=ό from Mz ps];have:min (dep (bD ps)) (dep (.tup []))<=100:=by have:dep (.tup [])=1:=rfl;omega
  rw[Ä this];rfl)]
 cases ps<;>rfl
def MA (hl:ps.length<=1000):bK (bD ps) (.tup [p.d]) s=ok (bD (ps++[p])) s:=by
 have e:bK (.tup (ps.map Pg.d)) (.tup [p.d]) s=ok (.tup (ps.map Pg.d++[p.d])) s:=by
  show bW (if uQ _ _=ό then ϊ _ else ϋ) s=_
  rw[Ö (show uQ _ _=ό from Ä (le_size (by rw[Ç];show ps.length+1<=1000000;omega)))];rfl
 rw[show bD (ps++[p])=.tup (ps.map _++[p.d]) by show D.tup _=_;rw[Ĕ];rfl];exact e
structure Bk (ps):Prop where
 laid:Laid ps
 book:cU ps=ό
def Bk.len (h:Bk ps):ps.length<=24:=by
 have:=h.book;delta cU jL at this;erw[Â,Ã] at this;exact this.1.1
theorem Bk.nil:Bk []:=⟨⟨λ_ h=>absurd h ü,.nil⟩,by decide +kernel⟩
def Yk (h:Laid ps):ps.Nodup:=h.up.imp λZ e=>by
 subst e;rw[dB.yL] at Z;cases Z
def LF (h:Laid ps) (hp:cF p=ό) (hi:p∉ps):Laid (ST.gj dB (ps++[p])):=by
 refine⟨λq Y=>?_,Ye ?_⟩
 ·rcases þ.mp ((ST.qJ _).mem_iff.mp Y) with h'|h'
  ·exact h.pg q h'
  ·rw[Ē.mp h'];exact hp
 ·rw[af5]
  exact⟨Yk h,by simp,λx X y Z e=>hi (by rw[Ē] at Z;rw[<- Z,<- e];exact X)⟩
theorem MB:∀{ps},uC ps=ό->ps.Pairwise λa b=>dB.lt a b=ό
 | [],_=>.nil
 | [a],_=>by simp
 |a::b::r,h=>by
  delta uC at h;erw[agz,agI,ň,agk,Â] at h;have ih:=MB (by exact h.2);refine ò.mpr ⟨λx hx=>?_,ih⟩
  rcases Ñ.mp hx with rfl|hx
  ·exact h.1
  ·exact dB.tr _ _ _ h.1 ((ò.mp ih).1 x hx)
def K1 (hi:p∈ps):cU (ST.gj dB (ps++[p]))=ύ:=by
 cases h:cU _ with
 |false=>rfl
 |true =>
  exfalso;delta cU jL at h;erw[Â,Ã] at h;have up:=MB h.1.2.2;have Z:(ST.gj dB _).Nodup:=up.imp λY e=>by
   subst e;rw[dB.yL] at Y;cases Y
  rw[(ST.qJ _).nodup_iff,af5] at Z;exact Z.2.2 p hi p ∅ rfl
def Kt (h:Laid ps):Laid (ps.filter λq=>!eqB q p):=h.sub List.filter_sublist
def MC (h:∀p∈ps,cF p=ό):∀p∈ps,js p:=λp Z=>CF (h p Z)
end
section
variable {s s':ag} {ps book:List Pg} {p q:Pg} {a b:Nat} {aP bs:List (List Pg)} {env aV:Env} {st cp:agS Fl} {d x:D} {y:bE}
def iz (h:st env s=ok (.nx aV) s'):aw st cp env s=cp aV s':=by delta aw;rw[h];rfl
def j7 (h:st env s=ϊ (.error y,s')):aw st cp env s=ϊ (.error y,s'):=by delta aw;rw[h];rfl
structure Di (s:ag) (a b:Nat) (aP) (book):Prop where
 ha:s[a]?=ϊ (.ins "Diary" [("books",.au b)])
 hb:s[b]?=ϊ (.lst ((aP++[book]).map bD))
 ln:aP.length<=500
 bk:∀ps∈aP++[book],Bk ps
def Di.last (h:Di s a b aP book):Bk book:=h.bk book ∅
def Di.ex (h:Di s a b aP book) (x:Ex k s s') (ka:a≠k) (kb:b≠k):Di s' a b aP book:=⟨x.get h.ha ka,x.get h.hb kb,h.ln,h.bk⟩
def Di.kp (h:Di s a b aP book) (x:Kp s s'):Di s' a b aP book:=⟨x.get h.ha,x.get h.hb,h.ln,h.bk⟩
def QW (ha:s[a]?=ϊ (.ins "Diary" [("books",.au b)])):jQ "Diary" (.au a) s=ϊ (a,([("books",.au b)]:List (Str×D))):=by
 delta jQ;dsimp only;rw[ha];dsimp only;rw[Ö (Ä rfl)]
def As (ha:s[a]?=ϊ (.ins "Diary" [("books",.au b)])):iG "Diary" "books" (.au a) s=ok (.au b) s:=by
 delta iG;rw[QW ha];rfl
def p6 (ha:s[a]?=ϊ (.ins "Diary" [("books",.au b)])) (hm:(([("books",D.au b)]:List (Str×D)).lookup f).isNone=ό) (he:fo env s=ok (.au a) s) (hf:fa env s=ok ds s):fP "Diary" f fn fo fa env s=fn (.au a::ds) s:=by
 delta fP;rw[he,cZ,QW ha];dsimp only;rw[hm,Ö rfl,hf,cZ]
def NL (h:s[b]?=ϊ (.lst ds)):res (.au b) s=.lst ds:=by delta res;dsimp only;rw[h]
def ZQ:ar (.lst (xs++[x])) (.int (-1)) s=ok x s:=by
 rw[ab0 ∅,List.getLast_append_of_ne_nil _ ∅];rfl
def z3:ar (.lst ((aP++[book]).map bD)) (.int (-1)) s=ok (bD book) s:=by
 rw[Ĕ];exact ZQ
def adJ (h:Di s a b aP book):ar (.au b) (.int (-1)) s=ok (bD book) s:=by
 have e:ar (.au b) (.int (-1)) s=ar (.lst ((aP++[book]).map bD)) (.int (-1)) s:=by
  delta ar jY;rw[NL h.hb];rfl
 rw[e,z3]
def A8:jg (.int 1) s=ok (.int (-1)) s:=rfl
def EK (h:Di s a b aP book):qF [.au a] s=ok (bD book) s:=by
 refine agU ?_;refine cT.symm ▸ ⟨rfl,?_⟩;show Wp (aH _ [ϊ _] s) _;rw[bN,bp,oF,aG];refine agT (As h.ha) ?_;refine agT A8 (agT (adJ h) ?_);exact⟨rfl,rfl⟩
def ZR (h:cF p=ό):pG [p.d] s=ok .az s:=by
 refine agU ?_;delta pG;simp only[VC,D2 (CF h),h,ĳ,Æ,ñ,Ğ]
def MD {r:Env} {z} (h:cF p=ό):cP (dY pG (ae (aa 1) ah)) (z::ϊ p.d::r) s=ok (.nx (z::ϊ p.d::r)) s:=by
 show ai (pG [p.d] s) _=_;rw[ZR h];rfl
def NM (h:Di s a b aP book) (hl:ps.length<=100) (hp:∀p∈ps,cF p=ό):zk [.au a,bD ps] s=if cU ps=ό then ok .az (s.set b (.lst ((aP++[book]++[ps]).map bD))) else ϊ (.error ⟨"Clash",ϋ⟩,s):=by
 have e:dM (cD (aB tG (ae (aa 1) ah))) [ϊ (.au a),ϊ (bD ps)] s=ok (!cU ps) s:=by
  refine agU ?_;simp only[VC,Nu ⋯ (MC hp),Ğ]
 show ai (aw _ _ [ϊ _,ϊ _] s) _=_
 cases hb:cU ps with
 |true =>
  rw[hb] at e;rw[iz (show aU _ _ _ _ s=ok (.nx [ϊ _,ϊ _]) s from ?_)]
  ·refine agU ?_
   obtain⟨Z,Y⟩:=D8 h.hb (by have:=h.ln;simp;omega);rw[bU,qR,EE,oF,aG];refine agT (As h.ha) ⟨Z,?_⟩;erw[bb,aG];refine agT Y ?_;rw[bF,Ĕ (l₂:=[ps])];exact⟨rfl,rfl⟩
  ·delta aU
   rw[e];rfl
 |false =>
  rw[hb] at e;rw[j7 (?_)]
  ·rfl
  ·delta aU
   rw[e];rfl
def ZS (h:Di s a b aP book) (hp:cF p=ό):pF [.au a,p.d] s=if cU (ST.gj dB (book++[p]))=ό then ok .az (s.set b (.lst ((aP++[book]++[ST.gj dB (book++[p])]).map bD))) else ϊ (.error ⟨"Clash",ϋ⟩,s):=by
 have W:=h.last.len;show ai (aw _ _ [ϊ _,ϊ _] s) _=_;rw[iz (MD hp)];have Z:ae (eB i9 (ae (eB TK.qX (ae (e2 bK (fP "Diary" "book_now" qF (aa 0) ah) (bc (ae (aa 1) ah))) ah)) ah)) ah [ϊ (.au a),ϊ p.d] s=ok [bD (ST.gj dB (book++[p]))] s:=by
  refine agU ?_;rw[aF,dq,aF,dq,aF,bp];refine agT ((p6 h.ha (by rfl) rfl rfl).trans (EK h)) ?_;erw[cW,aF,aL,bb,aG];refine⟨le_size (n:=1) (by decide),?_⟩;refine agT (MA ⋯) ?_;refine agT (show qX _ s=ok (.lst ((ST.gj dB (book++[p])).map Pg.d)) s from ?_) ?_
  ·show (if ((book++[p]).map _).length<64 then bW _ s else ϋ)=_
   rw[Ç,Ö (by rw[Ù];show book.length+1<64;omega),C4];rfl
  exact⟨_,_,rfl,rfl,rfl⟩
 have Y:∀q∈ST.gj dB _,cF q=ό:=λq X=>by
  rcases þ.mp ((ST.qJ _).mem_iff.mp X) with h'|h'
  ·exact h.last.laid.pg q h'
  ·rw[Ē.mp h'];exact hp
 delta cP;rw[p6 h.ha (by rfl) rfl Z,NM h (by rw[(ST.qJ _).length_eq,Ù];show book.length+1<=100;omega) Y];generalize cU _=c
 cases c<;>rfl
def EL {caps:Env} (hc:caps=[ϊ p.d]) (hl:ps.length<=100):gE 1 caps (gN 0) (aJ (e2 cX (aa 0) (aa 1))) (aa 0) (ps.map Pg.d) s=ok ((ps.filter λq=>!eqB q p).map Pg.d) s:=by
 subst hc;refine comp_map _ (λq=>!eqB q p) _ ps λq _=>⟨[ϊ _,ϊ _],rfl,?_,λ_=>rfl⟩;refine agU ?_;erw[dZ,bp,aG,bb,adI,bF,cj,Ğ]
def WC (h:Di s a b aP book) (hp:cF p=ό):pE [.au a,p.d] s=if (mv p book&&cU (book.filter λq=>!eqB q p))=ό then ok .az (s.set b (.lst ((aP++[book]++[book.filter λq=>!eqB q p]).map bD))) else ϊ (.error ⟨"Clash",ϋ⟩,s):=by
 have V:=h.last.len;show ai (aw _ _ [ϊ _,ϊ _,ϋ] s) _=_;rw[iz (MD hp)];rw[iz (show aR _ _ _ s=ok (.nx [ϊ (.au a),ϊ p.d,ϊ (bD book)]) s from ?_)]
 rotate_left
 ·refine agU ?_
  rw[cq];refine agT ((p6 h.ha (by rfl) rfl rfl).trans (EK h)) ?_;rw[cQ];exact⟨rfl,rfl⟩
 have Z:aJ (e2 gC (aa 1) (aa 2)) [ϊ (.au a),ϊ p.d,ϊ (bD book)] s=ok (!mv p book) s:=by
  refine agU ?_;erw[dZ,bp,aG,bb,D9.2,bF,cj,Ğ]
 cases Y:mv p book with
 |false =>
  rw[Y] at Z;rw[j7 (?_)]
  ·rfl
  ·delta aU
   rw[Z];rfl
 |true =>
  rw[Y] at Z;rw[iz (show aU _ _ _ _ s=ok (.nx [ϊ (.au a),ϊ p.d,ϊ (bD book)]) s from ?_)]
  rotate_left
  ·delta aU
   rw[Z];rfl
  have X:ae (eB i9 (ae (b9 1 [1] (cA (aa 2)) (gN 0) (aJ (e2 cX (aa 0) (aa 1))) (aa 0)) ah)) ah [ϊ (.au a),ϊ p.d,ϊ (bD book)] s=ok [bD (book.filter λq=>!eqB q p)] s:=by
   refine agU ?_;rw[aF,dq,aF,ib];refine agT (jD rfl) ⟨le_size (by rw[Ç];omega),?_⟩;refine agT (EL rfl ⋯) ?_;erw[aL];exact⟨_,_,rfl,rfl,rfl⟩
  delta cP;have sub:(book.filter λq=>!eqB q p).length<=100:=Ø (Ļ ..) ⋯;rw[p6 h.ha (by rfl) rfl X,NM h sub λq W=>h.last.laid.pg q (ĉ.mp W).1];generalize cU _=c
  cases c<;>rfl
def ab6 (h:Di s a b aP book):eJ [.au b] s=ok (.int (aP.length+1)) s:=by
 show bW _ s=_;have:uT (.au b) s=ϊ (.int (aP.length+1)):=by
  delta uT;rw[NL h.hb];dsimp only;rw[Ç,Ù];rfl
 rw[this];rfl
def ZT (h:Di s a b aP book):vN [.au a] s=if aP=[] then ϊ (.error ⟨"NoDeed",ϋ⟩,s) else ok .az (s.set b (.lst (aP.map bD))):=by
 have Z:aJ (e2 aX (eB eJ (ae (e1 (iG "Diary" "books") (aa 0)) ah)) (eC (.int 1))) [ϊ (.au a)] s=ok ((aP.length+1:Int)==1) s:=by
  refine agU ?_;erw[dZ,bp,dq,aF,aL,oF,aG];refine agT (As h.ha) (agT (ab6 h) ?_);simp only[VC,Ğ]
 show ai (aw _ _ [ϊ _] s) _=_;by_cases Y:aP=[]
 ·subst Y
  rw[j7 (?_)]
  ·rfl
  ·delta aU
   rw[Z];rfl
 ·rw[Ý Y]
  have V:=agC.mpr Y;have X:((aP.length+1:Int)==1)=ύ:=beq_eq_false_iff_ne.mpr ⋯;rw[X] at Z;rw[iz (show aU _ _ _ _ s=ok (.nx [ϊ (.au a)]) s from ?_)]
  rotate_left
  ·delta aU
   rw[Z];rfl
  have W:xS (.au b) s=ok (bD book) (s.set b (.lst (aP.map bD))):=by
   delta xS;dsimp only;rw[h.hb];simp
  refine agU ?_;rw[bU,qR,oF,oF,aG];refine agT (As h.ha) (agT W ?_);rw[bF];exact⟨rfl,rfl⟩
def ab7:rJ "Diary" vO env s=ok (.au s.length) (s++[.ins "Diary" [("books",.au (s.length+1))],.lst [.tup []]]):=by
 have e:vO [.au s.length] (s++[.ins "Diary" []])=ok .az (s++[.ins "Diary" [("books",.au (s.length+1))],.lst [.tup []]]):=by
  delta vO aO;show ai (rH _ _ _ _ [ϊ (.au s.length)] (s++[.ins "Diary" []])) _=_;delta rH;have e1:eNew (ae (bc ah) ah) [ϊ (.au s.length)] (s++[.ins "Diary" []])=ok (.au (s.length+1)) (s++[.ins "Diary" [],.lst [.tup []]]):=by
   refine agU ?_;erw[EC,cW,aF,aL];refine⟨le_size (n:=0) (by decide),le_size (n:=1) (by decide),?_,?_⟩
   ·simp
   ·simp
  rw[e1,cZ];show ai (ai (ok (D.au s.length) _) _) _=_;rw[cZ];have e2:jQ "Diary" (.au s.length) (s++[.ins "Diary" [],.lst [.tup []]])=ϊ (s.length,[]):=by
   delta jQ;dsimp only;rw[ô (agW _),Nat.sub_self];rw[List.getElem?_cons_zero];dsimp only;rw[Ö (Ä rfl)]
  rw[e2];dsimp only;rw[Ö (by decide)];have Z:∀(x y z:Cell),List.set (s++[x,y]) s.length z=s++[z,y]:=λx y z=>by simp
  rw[Z];rfl
 delta rJ;rw[e];rfl
end
inductive Dd where
 |tell|jc|iI
noncomputable def Dd.w:Dd->Str
 | .tell=>"tell"
 | .jc=>"strike"
 | .iI=>"undo"
noncomputable abbrev jt:D:=.tup [.str "told",.az]
noncomputable abbrev fe (i:Int):D:=.tup [.str "refused",.int i]
def gG (aP:List (List Pg)) (book:List Pg) (w:Dd) (p:Pg):List (List Pg)×D:=match w with
 | .iI=>if aP=[] then (aP++[book],fe 14) else (aP,jt)
 | .tell=>if cU (ST.gj dB (book++[p]))=ό then (aP++[book]++[ST.gj dB (book++[p])],jt) else (aP++[book],fe 13)
 | .jc=>if (mv p book&&cU (book.filter λq=>!eqB q p))=ό then (aP++[book]++[book.filter λq=>!eqB q p],jt) else (aP++[book],fe 13)
section
variable {s s':ag} {ps book:List Pg} {p q:Pg} {a b:Nat} {aP bs:List (List Pg)} {w:Dd} {d:D}
def Yl (h:Di s a b aP book) (hp:cF p=ό):∃i' b',(gG aP book w p).1=i'++[b']/\i'.length<=aP.length+1/\∀ps∈i'++[b'],Bk ps:=by
 delta gG
 cases w with
 |iI =>
  dsimp only;split
  ·exact⟨aP,book,rfl,by omega,h.bk⟩
  ·rename_i X
   refine⟨_,_,(Ź X).symm,by rw[agj];omega,λps Z=>?_⟩;rw[Ź X] at Z;exact h.bk ps (ï _ Z)
 |tell =>
  dsimp only;split
  ·rename_i Y
   refine⟨_,_,rfl,by simp,λps Z=>?_⟩
   rcases þ.mp Z with z|z
   ·exact h.bk ps z
   ·rw[Ē.mp z]
    refine⟨LF h.last.laid hp λW=>?_,Y⟩;rw[K1 W] at Y;cases Y
  ·exact⟨aP,book,rfl,by omega,h.bk⟩
 |jc =>
  dsimp only;split
  ·rename_i Y
   rw[Â] at Y;refine⟨_,_,rfl,by simp,λps Z=>?_⟩
   rcases þ.mp Z with z|z
   ·exact h.bk ps z
   ·rw[Ē.mp z]
    exact⟨Kt h.last.laid,Y.2⟩
  ·exact⟨aP,book,rfl,by omega,h.bk⟩
def Ym (h:s[b]?=ϊ c):List.set s b c=s:=Ţ λj=>by
 by_cases e:j=b
 ·subst e
  rw[í (Ï.mp h).1,h]
 ·rw[ð (ŧ e)]
def xX {v:Dd}:aX (.str w.w) (.str v.w) s=ok (.bl (match w,v with | .tell,.tell=>ό | .jc,.jc=>ό | .iI,.iI=>ό | _,_=>ύ)) s:=by
 rw[lr];congr 2
 cases w<;>cases v<;>decide +kernel
def Yn:t9 (.lst (xs++[x])) ϋ (ϊ (-1)) s=ok (.lst xs) s:=by
 show ok _ s=_;have:cutD (xs++[x]) ϋ (ϊ (-1))=xs:=by
  delta cutD;have e1:HT.bT (xs++[x]).length 0 ϋ=0:=rfl;have e2:HT.bT (xs++[x]).length (xs++[x]).length (ϊ (-1))=xs.length:=by
   delta HT.bT;rw[Ù];show (-1+((xs.length+1):Int)).toNat=_;omega
  rw[e1,e2,agI,List.take_left'];rfl
 rw[this]
def QX:aX (.bl x) (.bl y) s=ok (.bl (x==y)) s:=by cases x<;>cases y<;>rfl
def step_eq (h:∀ps∈aP++[book],Bk ps) (hl:aP.length<=500) (hp:cF p=ό):Wp (wx [.lst ((aP++[book]).map bD),.str w.w,p.d] s) λd s'=>d=.tup [.lst ((gG aP book w p).1.map bD),(gG aP book w p).2]/\Kp s s':=by
 have X:=h book ∅;have Q:=X.len;have em:(aP++[book]).map bD=aP.map bD++[bD book]:=by rw[Ĕ];rfl
 refine cT.symm ▸ ⟨rfl,agV λR Z=>?_⟩;show Wp (qe _ _ _ [ϊ _,ϊ _,ϊ _,ϋ,ϋ] s) _;rw[zU,aF,bp,aG,oF,bh];refine agT A8 (agT z3 ?_);erw[aF,aL,bh];refine⟨_,_,rfl,?_⟩;erw[õ,ö];subst Z;refine agV λR Z=>?_;erw[gX,dZ,bp,aG,bb,bh];refine agT (xX (v:=.iI)) ?_;have W:eJ [.lst ((aP++[book]).map bD)] s=ok (.int (aP.length+1)) s:=by
  show ok _ s=_;rw[Ç,Ù];rfl
 cases w with
 |iI =>
  erw[cj,ø,bN,kI,dZ,bp,dq,aF,aL,aG,bh];refine agT W ?_;erw[uh,cj];delta gG;by_cases V:aP=[]
  ·subst V
   erw[cW,aF,aL,aG,bh];exact⟨le_size (by decide),le_size (n:=2) (by decide),rfl,Kp.refl s⟩
  ·have P:=agC.mpr V
   rw[Ý V,Ä ⋯];rw[cW,aF,AI,aG,Am];rw[DT (rfl),em];refine agT Yn ?_;erw[cW,aF,aL,bh];exact⟨le_size (by decide),le_size (n:=2) (by decide),rfl,Kp.refl s⟩
 |tell =>
  erw[cj,Æ,ñ,cK];subst Z;refine agV λR Z=>?_;erw[gX,dZ,bp,aG,bb,bh,D9.1,bF];refine agT (xX (v:=.tell)) (agT QX ?_);erw[cj];delta gG
  cases Y:mv p book with
  |true =>
   rw[K1 (NK.mp Y)];erw[ę,ø,bN,cW,aF,aL,aG,bh];exact⟨le_size (by decide),le_size (n:=2) (by decide),rfl,Kp.refl s⟩
  |false =>
   have T:p∉book:=λz=>by rw[NK.mpr z] at Y;cases Y
   rw[cK];subst Z;refine agV λR Z=>?_;rw[cq,dq,aF,ib];refine agT (jD rfl) ⟨le_size (by rw[Ç];omega),?_⟩;refine agT (EL rfl ⋯) ?_;rw[aL];refine agT (rfl) ?_;rw[cQ];erw[õ,ö];subst Z;refine agV λR Z=>?_;erw[gX,dZ,bp,aG,bb,bh];refine agT (xX (v:=.tell)) ?_;erw[cj,ø];rw[cq,dq,aF,dq,aF,bp];erw[bb,aG,cW,aF,aL];refine⟨le_size (n:=1) (by decide),?_⟩;refine agT (MA ⋯) ?_;refine agT (show qX _ s=ok (.lst ((ST.gj dB (book++[p])).map Pg.d)) s from ?_) ?_
   ·show (if ((book++[p]).map _).length<64 then bW _ s else ϋ)=_
    rw[Ç,Ö (by rw[Ù];show book.length+1<64;omega),C4];rfl
   refine agT (rfl) ?_;rw[cQ];erw[õ,ö];subst Z;refine agV λR Z=>?_;erw[gX,wz,pQ,wp_call,aF,aL,bb,aG];refine(ON (by rw[(ST.qJ _).length_eq,Ù];show book.length+1<=100;omega)).mono λd S U=>?_;obtain⟨rfl,kp⟩:=U;rw[NJ (LF X.laid hp T)];erw[lJ]
   cases cU _ with
   |false =>
    erw[Ş,ø,bN,cW,aF,aL,aG,bh];exact⟨le_size (by decide),le_size (n:=2) (by decide),rfl,kp⟩
   |true =>
    erw[ĳ,Æ,ñ,cK];rw[cx];subst Z;erw[bN,cW,aF,aL,bp,ic,aG,bb,bh];refine⟨le_size (n:=1) (by decide),?_⟩;refine agT (A7 (by rw[Ç,Ù];show aP.length+1+1<=_;omega)) ?_;refine⟨le_size (by decide),le_size (n:=2) (by decide),?_,kp⟩;rw[Ö trivial,Ĕ (l₂:=[ST.gj dB _])];rfl
 |jc =>
  erw[cj,Æ,ñ,cK];subst Z;refine agV λR Z=>?_;erw[gX,dZ,bp,aG,bb,bh,D9.1,bF];refine agT (xX (v:=.tell)) (agT QX ?_);erw[cj];delta gG
  cases Y:mv p book with
  |false =>
   erw[ę,ø,bN,cW,aF,aL,aG,bh];exact⟨le_size (by decide),le_size (n:=2) (by decide),rfl,Kp.refl s⟩
  |true =>
   rw[cK,ğ];subst Z;refine agV λR Z=>?_;rw[cq,dq,aF,ib];refine agT (jD rfl) ⟨le_size (by rw[Ç];omega),?_⟩;refine agT (EL rfl ⋯) ?_;rw[aL];refine agT (rfl) ?_;rw[cQ];erw[õ,ö];subst Z;refine agV λR Z=>?_;erw[gX,dZ,bp,aG,bb,bh];refine agT (xX (v:=.tell)) ?_;erw[cj,Æ,ñ,cK];subst Z;refine agV λR Z=>?_;erw[gX,wz,pQ,wp_call,aF,aL,bb,aG];refine(ON (Ø (Ļ ..) ⋯)).mono λd S U=>?_;obtain⟨rfl,kp⟩:=U;rw[NJ (Kt X.laid)];erw[lJ]
   cases cU _ with
   |false =>
    erw[Ş,ø,bN,cW,aF,aL,aG,bh];exact⟨le_size (by decide),le_size (n:=2) (by decide),rfl,kp⟩
   |true =>
    erw[ĳ,Æ,ñ,cK];rw[cx];subst Z;erw[bN,cW,aF,aL,bp,ic,aG,bb,bh];refine⟨le_size (n:=1) (by decide),?_⟩;refine agT (A7 (by rw[Ç,Ù];show aP.length+1+1<=_;omega)) ?_;refine⟨le_size (by decide),le_size (n:=2) (by decide),?_,kp⟩;rw[Ö trivial,Ĕ (l₂:=[book.filter λq=>!eqB q p])];rfl
end
section
variable {s s':ag} {ps book:List Pg} {p q:Pg} {a b k:Nat} {aP bs:List (List Pg)} {w:Dd} {d x:D}
noncomputable def Dd.same:Dd->Dd->Bool
 | .tell,.tell=>ό
 | .jc,.jc=>ό
 | .iI,.iI=>ό
 |_,_=>ύ
def xr:aX (.str w.w) (.str v.w) s=ok (.bl (w.same v)) s:=by
 rw[lr];congr 2
 cases w<;>cases v<;>decide +kernel
def afk:cX (.str w.w) (.str v.w) s=ok (.bl (!w.same v)) s:=by
 have e:=xr (w:=w) (v:=v) (s:=s);delta aX at e;delta cX
 cases h:jf _ _ with
 |none=>rw[h] at e;cases e
 |some c =>
  rw[h] at e
  injection e with e
  injection e with e1 _
  injection e1 with e1
  injection e1 with e1
  rw[e1]
def ZU (h0:0<=r) (h1:r<5):∃w:Dd,ar (.lst [.str "tell",.str "tell",.str "tell",.str "strike",.str "undo"]) (.int r) s=ok (.str w.w) s:=by
 rcases(show r=0\/r=1\/r=2\/r=3\/r=4 by omega) with rfl|rfl|rfl|rfl|rfl
 ·exact⟨.tell,rfl⟩
 ·exact⟨.tell,rfl⟩
 ·exact⟨.tell,rfl⟩
 ·exact⟨.jc,rfl⟩
 ·exact⟨.iI,rfl⟩
def ZV (h0:0<=r) (h1:r<2):∃n,ar (.lst [.int 6,.int 31]) (.int r) s=ok (.int n) s/\0<n/\n<=31:=by
 rcases(show r=0\/r=1 by omega) with rfl|rfl
 ·exact⟨6,rfl,by decide,by decide⟩
 ·exact⟨31,rfl,by decide,by decide⟩
def adK {r:Int} (h0:0<=r) (h1:r<ps.length):∃p∈ps,ar (bD ps) (.int r) s=ok p.d s:=by
 obtain⟨p,e1,e2⟩:=mO h0 h1;refine⟨p,ο e2,?_⟩;show bW (cR _ r) s=_;rw[ZE,e1];rfl
def ZW (h:Sf s k) (hp:∀p∈ps,cF p=ό) (hl:ps.length<=24):Wp (DQ [.au k,bD ps] s) λd s'=>∃(w:Dd) (p:Pg),d=.tup [.str w.w,p.d]/\cF p=ό/\Sf s' k/\Ex k s s':=by
 refine cT.symm ▸ ⟨rfl,agV λR W=>?_⟩;show Wp (aR _ _ [ϊ _,ϊ _,ϋ,ϋ] s) _;erw[cq,cQ,bp,ic,wp_call,aF,aL,aG,bh,õ,ö];refine⟨le_size (by decide),?_⟩;refine(fO h (by decide) (by decide)).mono λd C Z=>?_;obtain⟨r,rfl,X,V,N,M⟩:=Z;obtain⟨w,e⟩:=ZU X V;refine agT e ?_;subst W;refine agV λR W=>?_;erw[cq,cQ,bp,ic,wp_call,aF,aL,aG,bh,õ,ö];refine⟨le_size (by decide),?_⟩;refine(fO N (by decide) (by decide)).mono λd B Z=>?_;obtain⟨r,rfl,X,V,L,K⟩:=Z;obtain⟨n,e,J,I⟩:=ZV X V;refine agT e ?_;refine(ab2 L J I).mono λd P Z=>?_;obtain⟨p,rfl,U,Q,H⟩:=Z;have x:=(M.trans K).trans H;subst W;refine agV λR W=>?_;have go:∀p Y,cF p=ό->Sf Y k->Ex k s Y->eU R (oS λd s'=>∃(w:Dd) (p:Pg),d=.tup [.str w.w,p.d]/\cF p=ό/\Sf s' k/\Ex k s s') (.nx [ϊ (.au k),ϊ (bD ps),ϊ _,ϊ p.d]) Y:=λp Y U T S=>by
  rw[cx];subst W;erw[bN,cW,aF,aL,aG,bb,kJ];exact⟨le_size (n:=2) (by decide),w,p,rfl,U,T,S⟩
 erw[gX,tY,dZ,bp,aG,bb,bh];refine agT (afk (v:=.iI)) ?_;erw[cj]
 cases hw:w.same _ with
 |true=>erw[ĳ,Æ,ñ,cK];exact go p P U Q x
 |false =>
  erw[Ş,ø,cW,aL];refine⟨le_size (by decide),?_⟩;refine agT ne_nil ?_;erw[cj]
  cases G:ps.isEmpty with
  |true=>erw[ĳ,Æ,ñ,cK];exact go p P U Q x
  |false =>
   have A:0<ps.length:=by cases ps with|nil=>cases G|cons _ _=>simp
   erw[Ş,ø,wp_call,aF,aL,aG,bh];refine(fO Q (by decide) (by decide)).mono λd Y Z=>?_;obtain⟨r,rfl,X,V,T,S⟩:=Z;erw[dq,aF,aL,bp,aG,bb,bh];refine agT (xr (v:=.tell)) ?_;refine agT (rfl) ?_
   generalize (if w.same _=ό then (1:Int) else 0)=z
   refine agT (uZ Y (mulOk_of (by decide) (by decide))) ?_;erw[Np,uh,cj];split
   ·erw[cq,cQ,bp,wp_call,dq,aF,aL,aG,bb,õ,ö]
    refine agT (by show ok _ Y=_;rw[Ç]) ?_;refine(fO T ⋯ ⋯).mono λd s5 Z=>?_;obtain⟨r,rfl,X,V,F,E⟩:=Z;obtain⟨O,D,e⟩:=adK X ⋯;refine agT e ?_;exact go O s5 (hp O D) F ((x.trans S).trans E)
   ·rw[cK]
    exact go p Y U T (x.trans S)
end
section
variable {s:ag} {env:Env} {x y z:Str} {ws:List Str} {c:Nat}
theorem OP:∀{ps} {p},p∈ps->p.length<=(jl c ps).length
 | [q],p,h=>by rw[Ē.mp h];exact agW _
 |q::r::t,p,h=>by
  show p.length<=(q++c::jl c _).length;rw[Ù,æ]
  rcases Ñ.mp h with rfl|h
  ·omega
  ·have:=OP h;omega
def wg (h:z∈ĺ x ⟨#[c]⟩):z.length<=x.length:=by
 have e:=agG x ⟨#[c]⟩;rw[oo x,<- e,wA];exact OP (é.mpr ⟨z,h,rfl⟩)
noncomputable abbrev sl (x:Str):List Str:=ĺ x ⟨#[47]⟩
noncomputable abbrev bs (x:Str):List Str:=ĺ x ⟨#[32]⟩
def LG (hl:x.length<=1000):(ĺ x ⟨#[c]⟩).length<=1002:=Ø (agb x _) ⋯
def mW:∀zs:List Str,(zs.map D.str).length=zs.length:=λzs=>Ç _
def lB (z:Str):Bool:=ώ (z="-")||kl z
def j4 (x:Str):Bool:=ώ ((sl x).length=2)&&(sl x).all lB
def A9 (hl:ds.length<=1000000):eJ [.lst ds] s=ok (.int ds.length) s:=rfl
def Ba {n m:Nat}:((n)==(m:Int))=ώ (n=m):=by
 by_cases h:n=m
 ·rw[h];simp
 ·rw[Ê h]
  simpa using λe=>h ⋯
def ab8 {T:(agS D)->agS D} (hl:x.length<=1000) (hF:∀z∈sl x,F [.str z] s=ok (.bl (kl z)) s) (hT:∀C env,C env s=ok (.lst ((sl x).map λz=>D.bl (lB z))) s->T C env s=ok (.bl ((sl x).all lB)) s):aO 1 2 (aw (aR (fI mK (aa 0) (eC (.str "/"))) (gN 1)) (aH (dw (e2 aX (eB eJ (ae (aa 1) ah)) (eC (.int 2))) (T (b9 1 [] (cA (aa 1)) (gN 0) cB (iZ (e2 aX (aa 0) (eC (.str "-"))) (aB F (ae (aa 0) ah)))))))) [.str x] s=ok (.bl (j4 x)) s:=by
 refine agU ?_;refine cT.symm ▸ ⟨rfl,agV λR Z=>?_⟩;rw[cq];refine agT (Dr FD rfl ⋯) ?_;rw[cQ];show eU R _ (.nx [ϊ _,ϊ (.lst ((sl x).map _))]) s;rw[cx];subst Z;have X:(sl x).length<=1002:=LG hl;rw[bN,n9,bp];erw[dq,aF,aL,aG,bb,bh];refine agT (A9 (by rw[mW];omega)) ?_;rw[mW,pR,cj];delta j4;rw[show (((sl x).length:Int)==2)=ώ _ from Ba]
 cases ώ ((sl x).length=2) with
 |false=>exact⟨rfl,rfl⟩
 |true =>
  refine agT (hT _ _ (agU ?_)) ⟨rfl,rfl⟩;rw[ib];refine agT (pH rfl) ⟨le_size (by rw[mW];omega),?_⟩;refine agT (comp_map _ (λ_=>ό) (λz=>D.bl (lB z)) _ λz Y=>⟨[ϊ _],rfl,rfl,λ_=>agU ?_⟩) ?_
  ·erw[wU,bp,aG,bh]
   refine agT u4 ?_;erw[cj];delta lB
   cases ώ (z="-") with
   |true=>exact⟨rfl,trivial⟩
   |false =>
    erw[Æ,ñ,wp_call,aF,aL,aG];exact agT (hF z Y) ⟨rfl,rfl⟩
  rw[ń.mpr (λ_ _=>rfl)];exact⟨rfl,rfl⟩
def LH (hl:x.length<=1000):zb [.str x] s=ok (.bl (j4 x)) s :=
 ab8 (T:=λC=>eB nk (ae C ah)) hl (λz Z=>NH (by have:=wg Z;omega)) λC env e=>agU (by
  rw[dq,aF];refine agT e ?_;rw[aL];exact agT (qZ lB _ s) ⟨rfl,rfl⟩)
def iw:List Str->Bool
 | [w,a,b,v]=>dI a&&dI b&&(if w="made" then j4 v else ώ (w="mended")&&dI v)
 |_=>ύ
def QY (h:ws.length=4):∃w a b v,ws=[w,a,b,v]:=by
 match ws,h with
 | [w,a,b,v],_=>exact⟨w,a,b,v,rfl⟩
def OQ (h:ws.length≠4):iw ws=ύ:=by
 match ws,h with
 | [],_ | [_],_ | [_,_],_ | [_,_,_],_=>rfl
 | [_,_,_,_],h=>exact absurd rfl h
 |_::_::_::_::_::_,_=>rfl
def K2 (hn:ws.length<=2000) (hl:∀z∈ws,z.length<=1000):yZ [.lst (ws.map D.str)] s=ok (.bl (iw ws)) s:=by
 refine agU ?_;refine cT.symm ▸ ⟨rfl,agV λR Z=>?_⟩;show Wp (aU _ _ _ [ϊ _,ϋ,ϋ,ϋ,ϋ] s) _;erw[gX,dZ,bp,dq,aF,aL,aG,bh];refine agT (A9 (by rw[mW];omega)) ?_;rw[mW,OH,cj,show (((ws.length:Int)==4))=ώ _ from Ba];by_cases W:ws.length=4
 ·obtain⟨w,a,b,v,rfl⟩:=QY W
  erw[ĳ,Æ,ñ,cK,cx];subst Z;have U:=hl a ∅;have T:=hl b ∅;have lv:=hl v ∅;refine agV λR Z=>?_;rw[cq,aG];refine⟨[ϊ _,ϊ _,ϊ _,ϊ _,ϊ _],rfl,?_⟩;subst Z;refine agV λR Z=>?_;erw[gX,rk,wz,pQ,wp_call,aF,aL,aG,bb];refine agT (zq ⋯) ?_;rw[lJ]
  cases Y:dI a with
  |false =>
   erw[Ş,ø,bN,bh,mL,kJ];simp[iw,Y]
  |true =>
   refine agT (zq ⋯) ?_;rw[lJ]
   cases X:dI b with
   |false =>
    erw[Ş,ø,bN,bh,mL,kJ];simp[iw,X]
   |true =>
    erw[ĳ,Æ,ñ,cK,cx];subst Z;refine agV λR Z=>?_;erw[gX,dZ,bp,aG,bb,bh];refine agT u4 ?_;rw[cj];by_cases hw:w="made"
    ·rw[Ä hw]
     erw[ø,bN,wp_call,aF,aL,aG,bb];refine agT (LH lv) ?_;simp[mL,kJ,iw,Y,X,hw]
    ·rw[Ê hw]
     erw[Æ,ñ,cK,cx];subst Z;erw[bN,n9,bp,aG,bb,bh];refine agT u4 ?_;rw[cj];by_cases V:w="mended"
     ·rw[Ä V]
      erw[ø,wp_call,aF,aL,aG,bb];refine agT (zq ⋯) ?_;have e:iw [w,a,b,v]=dI v:=by
       show (dI a&&dI b&&if w="made" then j4 v else ώ _&&dI v)=dI v
       rw[Y,X,Ý hw,Ä V];simp
      rw[e];exact⟨rfl,rfl⟩
     ·simp[kJ,iw,Y,X,hw,V]
 ·rw[Ê W]
  erw[Ş,ø,bN,bh,mL,kJ];simp[OQ W]
def fq {t} {st cp} {Q} {b} (hc:t env s=ok b s') (h:if b=ό then Wp (st env s') Q else Wp (cp env s') Q):Wp (aU t st cp env s) Q:=by
 rw[gX];exact agT hc h
def eX {w v} (h:f env s=ok (.str w) s):aJ (e2 aX f (eC (.str v))) env s=ok (ώ (w=v)) s:=by
 refine agU ?_;rw[dZ,bp];refine agT h ?_;rw[bh];refine agT u4 ?_;rw[cj];exact⟨rfl,rfl⟩
def R7:List Str->Bool
 | [v]=>j4 v
 |_=>ύ
def oT:List Str->Bool
 | []=>ύ
 |w::r=>if w="out" then iw r else if w="surely" then ώ (r.length=2)&&r.all dI else if w="where" then R7 r else if w="undo"\/w="book" then r.isEmpty else iw (w::r)
def Ea {r}:ar (.lst ((w::r).map D.str)) (.int 0) s=ok (.str w) s:=by
 have e:cR ((w::r).map D.str) (0)=ϊ (.str w):=by
  obtain⟨y,e1,e2⟩:=mO (xs:=(w::r).map _) (i:=0) (by decide) ∅;rw[e1];simpa using e2.symm
 show bW (cR _ 0) s=_;rw[e];rfl
def NN {r}:t9 (.lst ((w::r).map D.str)) (ϊ 1) ϋ s=ok (.lst (r.map D.str)) s:=by
 show ok _ s=_;have e:cutD ((w::r).map D.str) (ϊ 1) ϋ=r.map D.str:=by
  delta cutD;simp[HT.bT];exact List.take_of_length_le ∅
 rw[e]
theorem LI:∀{zs:List Str},(∀z∈zs,à z=ό)->DI.dA (zs.map D.str)=ό
 | [],_=>rfl
 |z::zs,h=>by
  rw[Þ,DI.dA,LI λy Z=>h y (É _ Z)];simp[lay,h z Ó]
def NO {zs:List Str} (h:∀z∈zs,à z=ό):aX (.lst (zs.map D.str)) (.lst []) s=ok (.bl zs.isEmpty) s:=by
 have e:jf (.lst (zs.map D.str)) (.lst [])=ϊ zs.isEmpty:=by
  delta jf;rw[Ý (by simp[nM]),Ö (by erw[lay,LI h,dA,dep,fE,Ĥ,ğ,Ã];exact Ä (Ø (Nat.min_le_right _ 1) (by decide)))]
  cases zs<;>rfl
 show (match jf (.lst _) (.lst _) with|some b=>ok _ s|none=>ϋ)=_
 rw[e]
theorem OR:∀{ps} {p} {n},p∈ps->n∈p->n∈jl c ps
 | [q],p,n,h,Z=>by rw[Ē.mp h] at Z;exact Z
 |q::r::t,p,n,h,Z=>by
  rcases Ñ.mp h with rfl|h
  ·exact ï _ Z
  ·exact Î _ (É _ (OR h Z))
def qP:à x=ό↔∀n∈sg x,n<1114112:=by
 delta à;rw[<- Array.all_toList,Ü];simp
def Yo (h:z∈ĺ x ⟨#[c]⟩) (hx:à x=ό):à z=ό:=by
 refine qP.mpr λn Z=>qP.mp hx n ?_;have e:=agG x ⟨#[c]⟩;rw[<- e,wA];exact OR (é.mpr ⟨z,h,rfl⟩) Z
def ZX {r} (hn:r.length<=1500) (hl:∀z∈w::r,z.length<=1000) (hk:∀z∈r,à z=ό):zC [.lst ((w::r).map D.str)] s=ok (.bl (oT (w::r))) s:=by
 have Y:=λz h=>hl z (É _ h);refine agU ?_;refine cT.symm ▸ ⟨rfl,agV λR Z=>?_⟩;show Wp (qe 1 2 _ [ϊ _,ϋ,ϋ] s) _;rw[zU];erw[aF,aL,bp,AI,aG,bh,Am];refine agT Ea (agT (rfl) (agT NN ⟨_,_,rfl,?_⟩));show eU R _ (.nx [ϊ _,ϊ _,ϊ _]) s;subst Z;have X:∀{f:agS D} {b} {Q:D->ag->Prop} {R},f [ϊ (.lst ((w::r).map D.str)),ϊ (.str w),ϊ (.lst (r.map D.str))] s=ok _ s->Q (.bl b) s->Wp _ (eU R (oS Q)):=λh q=>by
  rw[bN];exact agT h q
 refine agV λR Z=>fq (eX rfl) ?_;by_cases W:w="out"
 ·rw[Ä W]
  exact X (agU (by erw[wp_call,aF,aL,aG,bb];exact agT (K2 ⋯ Y) ⟨rfl,rfl⟩)) ⟨by rw[show oT (w::r)=iw r from Ö W],rfl⟩
 rw[Ê W,cK];subst Z
 have e1:oT (w::r)=if w="surely" then ώ _&&r.all dI else if w="where" then R7 r else if w="undo"\/w="book" then r.isEmpty else iw _:=Ý W
 refine agV λR Z=>fq (eX rfl) ?_;by_cases V:w="surely"
 ·rw[Ä V]
  refine X (agU ?_) ⟨by rw[e1,Ö V],rfl⟩;erw[n9,bp,dq,aF,aL,aG,bb,bh];refine agT (A9 (by rw[mW];omega)) ?_;rw[mW,pR,cj,show ((r.length:Int)==2)=ώ _ from Ba]
  cases ώ (r.length=2) with
  |false=>exact⟨rfl,rfl⟩
  |true =>
   erw[ib];refine agT (pH rfl) ⟨le_size (by rw[mW];omega),?_⟩;refine agT (comp_map _ (λ_=>ό) (λz=>D.bl (dI z)) r λz S=>⟨[ϊ _],rfl,rfl,λ_=>agU ?_⟩) ?_
   ·erw[wp_call,aF,aL,aG]
    exact agT (zq (by have:=Y z S;omega)) ⟨rfl,rfl⟩
   rw[ń.mpr (λ_ _=>rfl)];exact agT (qZ dI r s) ⟨rfl,rfl⟩
 rw[Ê V,cK];subst Z;rw[Ý V] at e1;refine agV λR Z=>fq (eX rfl) ?_;by_cases U:w="where"
 ·rw[Ä U]
  refine X (agU ?_) ⟨by rw[e1,Ö U],rfl⟩;erw[n9,bp,dq,aF,aL,aG,bb,bh];refine agT (A9 (by rw[mW];omega)) ?_;rw[mW,pR,cj,show ((r.length:Int)==1)=ώ _ from Ba]
  match r,Y with
  | [],_=>exact⟨rfl,rfl⟩
  | [v],Y =>
   erw[wp_call,aF,aL,bp,aG,bb,bh];refine agT Ea (agT (LH (Y v ∅)) ⟨rfl,rfl⟩)
  |a::b::q,_ =>
   exact⟨rfl,rfl⟩
 rw[Ê U,cK];subst Z;rw[Ý U] at e1;have e2:fU (aJ (e2 aX (aa 1) (eC (.str "undo")))) (aJ (e2 aX (aa 1) (eC (.str "book")))) [ϊ (.lst ((w::r).map D.str)),ϊ (.str w),ϊ (.lst (r.map D.str))] s=ok (ώ (w="undo"\/w="book")) s:=by
  refine agU ?_;rw[rk];refine agT (eX rfl) ?_;by_cases h:w="undo"
  ·rw[Ä h]
   exact⟨(Ä (ŷ h)).symm,rfl⟩
  ·rw[Ê h]
   refine agT (eX rfl) ⟨?_,rfl⟩
   by_cases P:w="book"<;>simp[h,P]
 refine agV λR Z=>fq e2 ?_;by_cases T:w="undo"\/w="book"
 ·rw[Ä T]
  refine X (agU ?_) ⟨by rw[e1,Ö T],rfl⟩;erw[bp,aG,bb,ic,aL];refine⟨le_size (by decide),?_⟩;exact agT (NO hk) ⟨rfl,rfl⟩
 rw[Ê T,Ý Ú,cK,cx];subst Z;rw[Ý T] at e1;rw[bN];erw[wp_call,aF,aL,aG];refine agT (K2 (by simp;omega) hl) ⟨by rw[e1],rfl⟩
def Ic {r:List Str} {n:Nat} {u} (h:r[n]?=ϊ u):ar (.lst (r.map D.str)) (.int n) s=ok (.str u) s:=by
 have Z:=(Ï.mp h).1;have e:cR (r.map D.str) (n)=ϊ (.str u):=by
  obtain⟨y,e1,e2⟩:=mO (xs:=r.map _) (i:=(n)) ⋯ (by simp;exact Z);rw[e1];simp[h] at e2;rw[e2]
 show bW (cR _ _) s=_;rw[e];rfl
def adN (x):∃w r,bs x=w::r:=by
 cases h:bs x with
 |nil =>
  have:=PyProof.Rows.split_pos x ⟨#[32]⟩;rw[show ĺ x _=[] from h] at this;simp at this
 |cons w r=>exact⟨w,r,rfl⟩
def vI (x:Str):Int:=(NumText.digitsVal (sg x))
def CG (h:kl x=ό):1<=x.length/\x.length<=30/\∀c∈sg x,i6 c=ό:=by
 delta kl at h;erw[Â,Ã,Ü] at h;exact⟨h.1.1,h.1.2,h.2⟩
def ZY (h:kl x=ό):kc [.str x] s=ok (.int (vI x)) s:=by
 obtain⟨Z,W,Y⟩:=CG h;have e:abI x=ϊ (vI x):=intText_digits (λc X=>ß (Y c X)) (λz=>by rw[oo,show sg x=[] from z] at Z;simp at Z) ⋯
 show (if ώ _=ό then (match abI x with|some n=>ok _ s|none=>ϋ) else ϋ)=_
 rw[Ö (Ä ⋯),e]
def rq (h:dI x=ό):kc [.str x] s=ok (.int (vI x)) s:=ZY (by exact(Â .. ▸ h).1)
def sO (z:Str):List Int:=if z="-" then [] else (sg z).map λc:Nat=>(c)-48
def zr (h:lB z=ό):zu [.str z] s=ok (mD (sO z)) s/\(sO z).length<=30:=by
 by_cases Z:z="-"
 ·have e:sO z=[]:=Ö Z
  rw[e];refine⟨agU ?_,by decide⟩;refine cT.symm ▸ ⟨rfl,agV λR Y=>fq (eX rfl) ?_⟩;rw[Ä Z];erw[bN,cW,aL];exact⟨le_size (by decide),rfl,rfl⟩
 ·have e:sO z=(sg z).map λc:Nat=>(c:Int)-48:=Ý Z
  have X:=by delta lB at h;rw[Ê Z] at h;exact h
  obtain⟨T,W,V⟩:=CG X;rw[e];refine⟨agU ?_,by rw[Ç];exact W⟩;refine cT.symm ▸ ⟨rfl,agV λR Y=>fq (eX rfl) ?_⟩;rw[Ê Z,Ý Ú,cK,cx];subst Y;rw[bN,dq,aF,ib];refine agT (NG rfl) ⟨le_size (by rw[Ç,<- oo];omega),?_⟩;refine agT (comp_map (λc=>D.str _) (λ_=>ό) (λc:Nat=>D.int ((c)-48)) _ λc U=>⟨_,rfl,rfl,λ_=>agU ?_⟩) ?_
  ·exact agT (ZN (V c U)) ⟨rfl,rfl⟩
  rw[ń.mpr (λ_ _=>rfl),aL];refine agT (rfl) ⟨?_,rfl⟩;show D.tup _=D.tup _;rw[ė];rfl
def Yp (h:j4 x=ό):∃a b,sl x=[a,b]/\lB a=ό/\lB b=ό:=by
 delta j4 at h;erw[Â,Ã] at h
 match Z:sl x,h with
 | [a,b],h =>
  erw[agk,List.all_nil,Bool.and_true,Â] at h;exact⟨a,b,rfl,h.2.1,h.2.2⟩
 | [],h=>simp at h
 | [_],h=>simp at h
 |_::_::_::_,h=>simp at h
def kE (x:Str) (i:Nat):List Int:=sO ((sl x).getD i "")
def Ku (hl:x.length<=1000) (h:j4 x=ό):∃a b,a.length<=30/\b.length<=30/\(a=kE x 0/\b=kE x 1)/\∀s,vY [.str x] s=ok (.tup [mD a,mD b]) s:=by
 obtain⟨u,v,e,Z,Y⟩:=Yp h;refine⟨_,_,(zr (s:=[]) Z).2,(zr (s:=[]) Y).2,⟨by delta kE;rw[e];rfl,by delta kE;rw[e];rfl⟩,λs=>agU ?_⟩;refine cT.symm ▸ ⟨rfl,agV λR X=>?_⟩;rw[cq];refine agT (Dr FD rfl ⋯) ?_;rw[show ĺ x _=[u,v] from e];refine⟨[ϊ _,ϊ _,ϊ _],rfl,?_⟩;rw[cx];subst X;erw[bN,cW,wp_call,aF,aL,aG,bb];refine agT (zr Z).1 (agT (zr Y).1 ?_);exact⟨le_size (n:=2) (by decide),rfl,rfl⟩
def oU:List Str->Pg
 | [w,a,b,v]=>if w="made" then .made (vI a) (vI b) (kE v 0) (kE v 1) else .cE (vI a) (vI b) (vI v)
 |_=>.cE 0 0 0
def zw (hl:∀z∈ws,z.length<=1000) (h:iw ws=ό):∃p,js p/\p=oU ws/\∀s,tH [.lst (ws.map D.str)] s=ok p.d s:=by
 have T:ws.length=4:=by
  by_cases e:ws.length=4
  ·exact e
  ·rw[OQ e] at h;cases h
 obtain⟨w,a,b,v,rfl⟩:=QY T
 have X:(dI a&&dI b&&if w="made" then j4 v else ώ _&&dI v)=ό:=h
 erw[Â] at X;obtain⟨⟨W,V⟩,Y⟩:=X;by_cases hw:w="made"
 ·rw[Ö hw] at Y
  obtain⟨i,j,li,Q,U,S⟩:=Ku (hl v ∅) Y;refine⟨.made _ _ i j,⟨by omega,by omega⟩,by rw[show oU [w,a,b,v]=_ from Ö hw,U.1,U.2],λs=>agU ?_⟩;refine cT.symm ▸ ⟨rfl,agV λR Z=>?_⟩;refine agT (show aR _ _ _ s=ok (.nx [ϊ _,ϊ _,ϊ _,ϊ _,ϊ _,ϋ]) s from rfl) ?_;subst Z;refine agV λR Z=>?_;rw[cq,kI];refine agT (eX rfl) ?_;rw[Ä hw];erw[wp_call,aF,aL,aG,bb];refine agT (S s) ?_;erw[cQ,õ,ö];rw[cx];subst Z;erw[bN,cW,dq,aF,aL,aG,bb];refine agT (rq W) (agT (rq V) ?_);refine⟨le_size (n:=4) (by decide),?_,rfl⟩;rw[hw];rfl
 ·rw[Ý hw] at Y
  erw[Â,Ã] at Y;refine⟨.cE _ _ _,trivial,(Ý hw).symm,λs=>agU ?_⟩;refine cT.symm ▸ ⟨rfl,agV λR Z=>?_⟩;refine agT (show aR _ _ _ s=ok (.nx [ϊ _,ϊ _,ϊ _,ϊ _,ϊ _,ϋ]) s from rfl) ?_;subst Z;refine agV λR Z=>?_;rw[cq,kI];refine agT (eX rfl) ?_;rw[Ê hw];refine agT (rq Y.2) ?_;erw[cQ,õ,ö];rw[cx];subst Z;erw[bN,cW,dq,aF,aL,aG,bb];refine agT (rq W) (agT (rq V) ?_);refine⟨le_size (n:=4) (by decide),?_,rfl⟩;rw[Y.1];rfl
def Yq (hl:x.length<=1000) (hk:à x=ό):nT [.str x] s=if oT (bs x)=ό then ok (.lst ((bs x).map D.str)) s else ϊ (.error ⟨"NoRow",ϋ⟩,s):=by
 obtain⟨w,r,Y⟩:=adN x;have U:(w::r).length<=1002:=Y ▸ LG hl;have T:=λz Z=>Ø (wg (show z∈bs x by rw[Y];exact Z)) hl;have S:=λz Z=>Yo (show z∈bs x by rw[Y];exact Z) hk;have W:fI mK (aa 0) _ [ϊ _] s=ok (.lst ((bs x).map _)) s:=Dr blank rfl ⋯;have X:fU (dM (cD (eB nr (ae (aa 0) (ae (eC (.ty "str")) ah))))) (dM (cD (aB zC (ae (fI mK (aa 0) (eC (.str " "))) ah)))) [ϊ (.str x)] s=ok (!oT (bs x)) s:=by
  refine agU ?_;erw[rk,wz,pQ,dq,aF,aL,aG,bh,wp_call];refine agT (rfl) ?_;rw[lJ];refine agT W ?_;rw[Y];refine agT (ZX (by rw[æ] at U;omega) T λz Z=>S z (É _ Z)) ?_;rw[lJ];exact⟨rfl,rfl⟩
 show ai (aw _ _ [ϊ _] s) _=_
 cases V:oT _ with
 |true =>
  rw[V] at X;rw[iz (by delta aU;rw[X];rfl)];delta aH;rw[W];rfl
 |false =>
  rw[V] at X;rw[j7 (by delta aU;rw[X];rfl)];rfl
end
noncomputable abbrev nP (p:Nat×Nat):D:=.tup [.int p.1,.int p.2]
def Gw (h:0<=d/\d<31):ar (.lst ((â 31).map f)) (.int d) s=ok (f d.toNat) s:=by
 erw[ar,jY,res,ZL h.1 h.2,bW]
def QZ:fW (n+1) (-1)=ϊ n:=by
 delta fW;rw[Ý ⋯,Ö ⋯];congr 1;omega
def afl {x:D}:cR (xs++[x]) (-1)=ϊ x:=by
 delta cR;rw[Ù,af8,QZ];simp
def ab9 (h:s[k]?=ϊ (.lst (ds++[x]))):ar (.au k) (.int (-1)) s=ok x s:=by
 delta ar jY res;erw[h,afl];rfl
def ZZ (h:s[k]?=ϊ (.lst (ds++[x]))):nq (.au k) (.int (-1)) y s=ϊ (s.set k (.lst (ds++[y]))):=by
 delta nq;erw[h];have e:fW (ds++[x]).length (-1)=ϊ ds.length:=by rw[Ù,af8,QZ]
 rw[e];simp
theorem zH (b):∀n,(bM b n).length<=n
 |0=>agW _
 |n+1=>by
  have:=zH b n;delta bM;split
  ·erw[Ù,agj,æ,ē]
   omega
  ·split
   ·simp;omega
   ·omega
def WD (h:fJ b n=ό):∃L d e,bM b n=L++[(d,e)]:=by
 rcases P6 n n (agW _) with ⟨Z,_⟩ | ⟨_,S,d,_,_,_,e⟩
 ·rw[h] at Z;cases Z
 ·exact⟨_,_,_,e⟩
def aca:vU [.lst ((â 31).map λi=>.bl (b i))] s=ok (.lst ((bM b 31).map nP)) (s++[.dead]):=by
 refine agU ?_;delta vU;erw[cT,æ,ē,Nat.reduceAdd,Nat.reduceSub,Õ,Þ,ł,ď,Ĩ,true_and,pI,cq,cQ,EC,aL,õ,ö,cx,jG];refine⟨by decide,?_⟩;refine agT (fB (n:=31) rfl (by decide)) ?_;refine Wp.jr (λi env Z=>i<=31->∃a2,env=[ϊ _,ϊ _,a2]/\Z=s++[.lst ((bM b i).map nP)]) _ (λ_=>⟨_,rfl,rfl⟩) (λi d env Z Y W=>?_) (λenv Z W=>?_)
 ·rw[jE] at Y
  split at Y
  ·rename_i N
   cases Y;obtain⟨a2,rfl,rfl⟩:=W ⋯;refine⟨_,rfl,?_⟩;erw[õ,ö,Ŧ];have cell:(s++[Cell.lst ((bM b i).map nP)])[s.length]?=ϊ (.lst ((bM b i).map nP)):=by simp
   have upd:∀c:Cell,(s++[Cell.lst ((bM b i).map nP)]).set s.length c=s++[c]:=λc=>by simp[agc]
   have ln:=zH b i;have app:(b i&&fJ b i)=ύ->Wp (aU (cD (e2 ar (aa 0) (aa 2))) (cP (ki (aa 1) (bc (ae (aa 2) (ae (aa 2) ah))))) bz [ϊ (.lst ((â 31).map λi=>.bl (b i))),ϊ (.au s.length),ϊ (.int i)] (s++[.lst ((bM b i).map nP)])) λX Z=>X=.nx [ϊ (.lst ((â 31).map λi=>.bl (b i))),ϊ (.au s.length),ϊ (.int i)]/\Z=s++[.lst ((bM b (i+1)).map nP)]:=λO=>by
    simp only[VC,Gw (show 0<=(i:Int)/\(i:Int)<31 by omega),Ĭ]
    have V:bM b (i+1)=if (b i&&fJ b i)=ό then (bM b i).dropLast++[(((bM b i).getLast?.getD (0,0)).1,i)] else if b i=ό then bM b i++[(i,i)] else bM b i:=rfl
    rw[V,O]
    cases U:b i with
    |false=>simp
    |true =>
     refine⟨by erw[lX,cell],by decide,agT (show lW _ _ _=ok .az (s++[.lst ((bM b i++[(i,i)]).map nP)]) from ?_) (by first|exact⟨rfl,rfl⟩|rfl)⟩
     delta lW;erw[cell];rw[Ö (by rw[Ã,Ç];exact È (show (bM b i).length<1000 by omega) (le_size (by decide))),upd,Ĕ];rfl
   rw[gX];erw[tY,pQ,bp,aG,bb,Gw (show 0<=(i:Int)/\(i:Int)<31 by omega),Ĭ,bF,lJ]
   cases U:b i with
   |false =>
    exact(app (by rw[U];rfl)).mono λX R h=>by obtain⟨rfl,rfl⟩:=h;exact λ_=>⟨_,rfl,rfl⟩
   |true =>
    erw[ø,dZ,bp,bh,aG,bb,uh,cj];by_cases Q:0<i
    ·rw[Ä ⋯]
     simp only[ø,DY,Gw (show 0<=(i:Int)-1/\(i:Int)-1<31 by omega),bF,lJ];rw[show ((i:Int)-1).toNat=i-1 by omega];have T:fJ b i=b (i-1):=by delta fJ;rw[Ä Q];rfl
     cases S:b (i-1) with
     |false =>
      exact(app (by rw[T,S,Bool.and_false])).mono λX R h=>by obtain⟨rfl,rfl⟩:=h;exact λ_=>⟨_,rfl,rfl⟩
     |true =>
      obtain⟨L,d,e,P⟩:=WD (b:=b) (n:=i) (by rw[T];exact S);rw[P,Ĕ] at cell upd |-;rw[Nn];erw[cW,aF,aL,bp,oF,aG,bb,bh];refine agT (rfl) ?_;refine agT (ab9 cell) ?_;refine agT (rfl) ?_;refine⟨le_size (by erw[æ,ē];decide),agT (rfl) ⟨_,ZZ cell,λ_=>⟨_,rfl,?_⟩⟩⟩;rw[upd]
      have V:bM b (i+1)=if (b i&&fJ b i)=ό then (bM b i).dropLast++[(((bM b i).getLast?.getD (0,0)).1,i)] else if b i=ό then bM b i++[(i,i)] else bM b i:=rfl
      have:bM b (i+1)=L++[(d,i)]:=by
       rw[V,U,T,S,P];simp
      rw[this,Ĕ];rfl
    ·rw[Ê (show ¬ (i:Int) > 0 by omega)]
     erw[Æ,ñ];exact(app (by delta fJ;rw[Ê Q];simp)).mono λX R h=>by obtain⟨rfl,rfl⟩:=h;exact λ_=>⟨_,rfl,rfl⟩
  ·cases Y
 ·obtain⟨a2,rfl,rfl⟩:=W (agW _)
  erw[bN,cx,kJ,ED,aG,bb];exact agT ZM ⟨rfl,rfl⟩
def uE:Wp (dY fn fa env s) Q=Wp (fa env s) λds s=>Wp (fn ds s) Q:=by delta dY;rw[bU]
theorem NP {α:Type} (d) (h):∀(xs:List α) s,(∀x∈xs,∃env,g (d x) kQ=ϊ env/\(∀s,t env s=ok ό s)/\∀s,Wp (act env s) λys s'=>ys=h x/\∃c,s'=s++c) ->
  Wp (jq g t act kQ (xs.map d) s) λys s'=>ys=xs.flatMap h/\∃c,s'=s++c
 | [],s,_=>by
  rw[ł];delta jq;rw[bF];exact⟨rfl,[],by simp⟩
 |x::xs,s,Y=>by
  obtain⟨env,X,W,V⟩:=Y x Ó;rw[Þ];delta jq;rw[X];erw[W,rB,cZ,ø,bU,AH];refine(V s).mono λys T Z=>?_;obtain⟨rfl,c,rfl⟩:=Z;refine(NP d h xs _ λy Z=>Y y (É _ Z)).mono λzs S U=>?_;obtain⟨rfl,R,rfl⟩:=U;rw[bF];exact⟨rfl,_,by rw[ġ]⟩
abbrev gy (h l:List Int):D:=.tup [mD h,mD l]
def jB (ps:List Pg) (m:Int) (h l:List Int) (d:Nat):Bool:=h.all (λk=>!ab (lN ps m k) (mN ps m k) d)&&l.all λk=>!pr (sN ps m k) (mN ps m k) d
structure Sh (h l):Prop where
 a:eV 8 h
 b:eV 8 l
 ap:∀x∈h,x∉l
def ME (hk:eV 8 h):iQ h (k8.filter p)=h.all λk=>!p k:=by
 delta iQ;rw[List.not_any_eq_all_not];rw[Ġ,Ü,Ü];have e:∀x∈h,(!ώ (x∈k8.filter p))=!p x:=λx Z=>by
  congr 1;rw[Ġ,Ã,ĉ];exact⟨λz=>z.2,λz=>⟨rm.mpr (hk.lo x Z),z⟩⟩
 exact⟨λz x Z=>by rw[<- e x Z];exact z x Z,λz x Z=>by rw[e x Z];exact z x Z⟩
def Yr {m} {h l} {d:Nat} (hs:Sh h l) (hd:d<=30):wy [gy h l,mV (iu ps m) (gQ ps m) d] s=ok (.bl (jB ps m h l d)) s:=by
 refine agU ?_;have Z:=hs.a.len;have Y:=hs.b.len;delta wy mV jB;simp only[VC];refine agT (vD ..).1 (agT (vD ..).2 ?_);refine agT (Dg ⋯) ?_;rw[ME hs.a];simp only[VC,Ny hd]
 cases h.all λk=>!ab _ _ d with
 |false=>simp
 |true =>
  erw[ø,ğ];refine agT (vD ..).2 (agT (vD ..).1 ?_);refine agT (Dg ⋯) ?_;rw[ME hs.b];erw[Nx hd,Ğ]
def WE (hs:Sh h l):vM [gy h l] s=ok .az s:=by
 refine agU ?_;have Y:=hs.a.len;have X:=hs.b.len;delta vM;simp only[VC];refine agT (Dh ⋯ ⋯) ?_;rw[tw hs.a (agW _),tw hs.b (agW _),show iQ h l=ό by delta iQ;rw[û,š];intro x Z;simpa using hs.ap x Z];simp only[VC,Ĥ,ĳ,Æ,ñ,Ğ]
def pA (ps:List Pg) (h l:List Int):List D:=m4.flatMap λm=>(bM (jB ps m h l) 31).map λp=>D.tup [.int m,.int p.1,.int p.2]
def EM (ps) (h l):(pA ps h l).length<=124:=by
 refine Ø (tO (b:=31) λm _=>?_) (by decide);rw[Ç];exact zH _ 31
def WG (hl:ps.length<=1000) (hf:∀p∈ps,js p) (hb:cU ps=ό) (hs:Sh h l):Wp (sX [bD ps,gy h l] s) λx s'=>x=.lst (pA ps h l)/\∃c,s'=s++c:=by
 delta sX;rw[cT];refine⟨rfl,?_⟩;rw[pI,qR];erw[wp_call,uE,aF,aL,aG,bb,Þ,ł,ď,Ĩ,Õ,Nat.reduceSub];refine agT (zF hl hf hb) ?_;rw[cx,pI,qR];refine agT (WE hs) ?_;rw[cx,bN,De];refine agT (fB rfl (by decide)) ?_;refine(NP _ (λm=>(bM (jB ps m h l) 31).map λp=>D.tup [.int m,.int p.1,.int p.2]) m4 s λm W=>⟨_,rfl,λ_=>rfl,λs=>?_⟩).mono λV s' Y=>?_
 ·delta more
  rw[bU];have Z:∃c,cA (aB vU (ae (b9 1 [3] (cA (aB sU (ae (aa 4) (ae (aa 0) ah)))) (gN 0) cB (aB wy (ae (aa 1) (ae (aa 0) ah)))) ah)) [ϊ (.int m),ϋ,ϋ,ϊ (gy h l),ϊ (bD ps)] s=ok ((bM (jB ps m h l) 31).map nP) (s++c):=by
   obtain⟨x,s',e,rfl,c,rfl⟩:=NC hl;refine⟨c++[.dead],pH (agU ?_)⟩;erw[wp_call,uE,aF,aL,ib];refine agT (pH (s1:=s++c) (ds:=kC.map (mV (iu ps m) (gQ ps m))) (agU ?_)) ⟨by rw[Ç];exact le_size (by decide),?_⟩
   ·erw[wp_call,uE,aF,aL,aG,bb]
    exact agT e ⟨rfl,rfl⟩
   refine agT (comp_map _ (λ_=>ό) (λd=>.bl (jB ps m h l d.toNat)) kC λd X=>⟨[ϊ _,ϊ _],rfl,rfl,λ_=>?_⟩) ?_
   ·refine agU ?_
    obtain⟨i,Z,rfl⟩:=é.mp X;rw[î] at Z;erw[wp_call,uE,aF,aL,aG,bb];exact agT (Yr hs ⋯) ⟨rfl,rfl⟩
   ·refine agT (aca) ⟨rfl,?_⟩
    rw[ġ]
  obtain⟨c,Z⟩:=Z;refine agT Z ?_;refine agT (ui nP (λ_=>ό) (λp=>[D.tup [.int m,.int p.1,.int p.2]]) _ λp U=>⟨_,rfl,rfl,λ_=>?_⟩) ?_
  ·refine agU ?_
   delta emit;rw[bU];simp only[VC]
   first|exact⟨by decide,rfl,trivial⟩|exact⟨by decide,trivial⟩|decide
  ·rw[filter_tt,<- agA]
   exact⟨rfl,c,rfl⟩
 ·obtain⟨rfl,c,rfl⟩:=Y
  refine⟨le_size (Ø (EM ps h l) (by decide)),?_⟩;exact⟨rfl,c,rfl⟩
section
variable {s s':ag} {env:Env} {x y z:Str} {ws:List Str} {c:Nat} {ps:List Pg} {m d:Int}
def fM (hx:à x=ό) (hy:à y=ό):à (x++y)=ό:=qP.mpr λn Z=>by
 rw[mP] at Z;exact(þ.mp Z).elim (qP.mp hx n) (qP.mp hy n)
theorem Dt (hy:à y=ό):∀{zs},(∀z∈zs,à z=ό)->à (Į y zs)=ό
 | [],_=>show à afE=ό by decide +kernel
 | [z],h=>h z ∅
 |z::u::r,h=>by
  exact fM (fM (h z ∅) hy) (Dt hy λv Z=>h v (É _ Z))
def Z0:∀n:Fin 31,à (num (n.val))=ό:=nofun
def tU (h:0<=i/\i<31):à (num i)=ό:=by
 have:=Z0 ⟨i.toNat,by omega⟩;rw[show (((⟨_,by omega⟩:Fin 31).val))=i by simp;omega] at this;exact this
def z9 (h:∀i∈l,0<=i/\i<10):à (cH l)=ό:=by
 delta cH;split
 ·decide +kernel
 ·refine qP.mpr λn Z=>?_
  obtain⟨i,Y,rfl⟩:=é.mp Z;have:=h i Y;omega
def xY {fn:List D->ag->Res D} {fa} {ds} {y} (h:fa env s=ok ds s) (e:fn ds s=ϊ (.error y,s)):cP (dY fn fa) env s=ϊ (.error y,s):=by
 delta cP dY;rw[h,cZ,e];rfl
def Bb (h:fa env s=ok ds s) (e:fn ds s=ok v s):cP (dY fn fa) env s=ok (.nx env) s:=by
 delta cP dY;rw[h,cZ,e];rfl
def OS:cV.BV [.int m] s=if fN m=ό then ok .az s else ϊ (.error ⟨"NoMould",ϋ⟩,s):=by
 have e:dM (cD (aB tj (ae (aa 0) ah))) [ϊ (.int m)] s=ok (!fN m) s:=by
  refine agU ?_;simp only[VC,Mt,Ğ]
 show ai (aU _ _ _ [ϊ _] s) _=_;delta aU;rw[e]
 cases fN m<;>rfl
def OT:cV.Cj [.int d] s=if fc d=ό then ok .az s else ϊ (.error ⟨"NoDay",ϋ⟩,s):=by
 have e:dM (cD (aB tM (ae (aa 0) ah))) [ϊ (.int d)] s=ok (!fc d) s:=by
  refine agU ?_;simp only[VC,OI,Ğ]
 show ai (aU _ _ _ [ϊ _] s) _=_;delta aU;rw[e]
 cases fc d<;>rfl
def uu (p):eV 8 (k8.filter p):=(show eV 8 k8 from ⟨by decide,by decide⟩).filter p
def OU (h:f env s=ok (.str x) s) (hl:x.length<=1000000) (hg:g env s=ok (.str y) s):qi f g env s=ok (.str (if x.length=0 then y else x)) s:=by
 delta qi;rw[h,cZ];dsimp only;rw[Ö (Ä (le_size hl))];by_cases Z:x.length=0
 ·rw[Ö (by simp[Z]),Ö Z,hg]
 ·rw[Ý (by simp[Z]),Ý Z]
theorem MF {y} {b}:∀{zs},(∀z∈zs,z.length<=b)->(Į y zs).length<=zs.length*(b+y.length)
 | [],_=>by show 0<=_;omega
 | [z],h=>by
  have:=h z ∅;show z.length<=1*(b+y.length);omega
 |z::u::r,h=>by
  have Y:=h z ∅;have X:=MF (y:=y) λv Z=>h v (É _ Z);show (z++y++Į y _).length<=_;rw[cw,cw,æ,Nat.succ_mul];omega
def acb (ha:a.length<=1000) (hb:b.length<=1000):vM [.tup [mD a,mD b]] s=if (fm a&&(fm b&&iQ a b))=ό then ok .az s else ϊ (.error ⟨"NoSheet",ϋ⟩,s):=by
 have e:dM (cD (aB qK (ae (aa 0) ah))) [ϊ (.tup [mD a,mD b])] s=ok (!(fm a&&(fm b&&iQ a b))) s:=by
  refine agU ?_;simp only[VC,Dh ha hb,Ğ]
 show ai (aU _ _ _ [ϊ _] s) _=_;delta aU;rw[e]
 cases fm a&&(fm b&&iQ a b)<;>rfl
end
section
variable {s s':ag} {ps:List Pg} {m k:Int} {Q:Fl->ag->Prop} {e6 nQ:Option D} {j y:Nat} {P A:List Int} {t g:Bool} {env:Env} {f h u:agS D} {a b c:Bool}
abbrev pB (ps:List Pg) (m k:Int) (j:Nat) (e6:Option D) (P A:List Int) (t g:Bool) (nQ:Option D):Env:=[ϊ (bD ps),ϊ (.int m),ϊ (.int k),ϊ (lI (shown ps m k)),ϊ (lI (eT ps m k)),ϊ (.au j),e6,ϊ (lI P),ϊ (lI A),ϊ (.bl t),ϊ (.bl g),nQ]
def Ie (hf:f env s=ok (.bl a) s) (hh:h env s=ok (.bl b) s):iZ f h env s=ok (.bl (a||b)) s:=agU (by
 rw[wU];refine agT hf ?_;rw[cj]
 cases a with
 |true=>exact⟨rfl,rfl⟩
 |false=>exact agT hh ⟨rfl,rfl⟩)
def Q0 (hf:f env s=ok (.bl a) s) (hh:h env s=ok (.bl b) s):dw f h env s=ok (.bl (a&&b)) s:=agU (by
 rw[n9];refine agT hf ?_;rw[cj]
 cases a with
 |false=>exact⟨rfl,rfl⟩
 |true=>exact agT hh ⟨rfl,rfl⟩)
def two {x y z} (hf:f env s=ok x s) (hh:h env s=ok y s) (e:o x y s=ok z s):e2 o f h env s=ok z s:=agU (by
 rw[bp];exact agT hf (agT hh (agT e ⟨rfl,rfl⟩)))
def adO (hj:s[j]?=ϊ (.lst ((c8 ps m k).map D.int))) (hP:P.length<=900) (hz:(sN ps m k y||(t&&!mN ps m k y))=z) (q:Q (.nx (pB ps m k j e6 (P++if z=ό then [(y:Int)] else []) A z g (ϊ (.int y)))) s):Wp (Md (pB ps m k j e6 P A t g (ϊ (.int y))) s) Q:=by
 have e:iZ (e2 cz (aa 11) (aa 3)) (dw (aa 9) (e2 gC (aa 11) (aa 5))) (pB ps m k j e6 P A t g (ϊ _)) s=ok (.bl z) s:=(Ie (two rfl rfl (ot rfl).1) (Q0 rfl (two rfl rfl (ot (zZ hj)).2))).trans (by rw[<- hz];rfl);refine agV λR Z=>?_;rw[cq];refine agT e ?_;rw[cQ];show eU R Q (.nx (pB ps m k j e6 P A z g _)) s;rw[cx];subst Z;rw[cq];erw[bp,aG,bb,ic,aF,aL,dq];refine⟨le_size (n:=1) (by decide),?_⟩;refine agT (rfl) (agT zG ?_);have:=one_le (y) z;refine agT (uq ⋯) ?_;rw[cQ];exact q
def adP (hj:s[j]?=ϊ (.lst ((c8 ps m k).map D.int))) (hA:A.length<=900) (hz:(g||lN ps m k y)=z) (hw:(z||mN ps m k y)=w) (q:Q (.nx (pB ps m k j e6 P ((if w=ό then [(y:Int)] else [])++A) t (z&&!mN ps m k y) (ϊ (.int y)))) s):Wp (Me (pB ps m k j e6 P A t g (ϊ (.int y))) s) Q:=by
 refine agV λR Z=>?_;rw[cq];refine agT ((Ie rfl (two rfl rfl (ot rfl).1)).trans (show _=ok (.bl z) s by rw[<- hz];rfl)) ?_;rw[cQ];show eU R Q (.nx (pB ps m k j e6 P A t z _)) s;subst Z;refine agV λR Z=>?_;rw[cq,bp,bp,ic,aF];erw[aG,bb,aL];refine⟨le_size (n:=1) (by decide),?_⟩;rw[dq,aF];refine agT ((Ie rfl (two rfl rfl (ot (zZ hj)).1)).trans (show _=ok (.bl w) s by rw[<- hw];rfl)) ?_;rw[aL];refine agT (rfl) (agT zG ?_);have:=one_le (y) w;refine agT (uq ⋯) ?_;rw[cQ];rw[cx];subst Z;rw[cq];refine agT (Q0 rfl (two rfl rfl (ot (zZ hj)).2)) ?_;rw[cQ];exact q
abbrev Ig (ps:List Pg) (m k:Int) (i:Nat):List Int:=((â i).filter λd=>pr (sN ps m k) (mN ps m k) d).map λd:Nat=>(d)
def acd:HC (ae (eC (.int 30)) (ae (e1 jg (eC (.int 1))) (ae (e1 jg (eC (.int 1))) ah))) env s=ok downs s:=by rfl
def BH (ps:List Pg) (m k:Int):D:=.tup [lI (iu ps m k),lI (gQ ps m k).reverse]
def MG (hl:ps.length<=100):Wp (zT [bD ps,.int m,.int k] s) λd s'=>d=BH ps m k/\Kp s s':=by
 refine cT.symm ▸ ⟨rfl,agV λR Z=>?_⟩;refine agT (rfl) ?_;subst Z;refine agV λR Z=>?_;refine QV hl λe6 s' U kp=>?_;subst Z;refine agV λR Z=>agT (rfl) ?_;subst Z;refine agV λR Z=>?_;rw[jG];refine agT (fB (n:=31) rfl (by decide)) ?_;refine Wp.jr (λi env W=>W=s'/\∃nQ,env=pB ps m k _ e6 (Ig ps m k i) [] (yS (sN ps m k) (mN ps m k) i) ύ nQ) _ ⟨rfl,_,rfl⟩ (λi d env W Y X=>?_) (λenv W X=>?_)
 ·obtain⟨rfl,nQ,rfl⟩:=X
  rw[jE] at Y;split at Y
  ·cases Y
   rw[Ŧ];refine⟨_,rfl,adO U (Ø tI ⋯) (Mx _ _ i) ⟨rfl,ϊ (.int i),?_⟩⟩
   rw[show Ig ps m k _=Ig ps m k i++(if pr _ _ i=ό then [(i:Int)] else []) from zv]
   rfl
  ·cases Y
 obtain⟨rfl,nQ,rfl⟩:=X;subst Z;refine agV λR Z=>?_;rw[jG];refine agT acd ?_;refine Wp.jr (λi env V=>V=W/\∃nQ,env=pB ps m k _ e6 _ (iM ps m k i).reverse _ (ia (lN ps m k) (mN ps m k) i) nQ) _ ⟨rfl,_,rfl⟩ (λi d env V Y X=>?_) (λenv V X=>?_)
 ·obtain⟨rfl,nQ,rfl⟩:=X
  rw[Lx] at Y;split at Y
  ·cases Y
   have T:((ia (lN ps m k) (mN ps m k) i||lN ps m k (30-i))||mN ps m k (30-i))=ab (lN ps m k) (mN ps m k) (30-i):=by
    delta ab br;rw[show 31-(30-i+1)=i by omega,Bool.or_assoc]
   refine⟨_,rfl,adP U (by rw[List.length_reverse];exact Ø tI ⋯) rfl T ⟨rfl,ϊ (.int ((30-i:Nat))),?_⟩⟩
   rw[show iM ps m k _=iM ps m k i++(if ab _ _ _=ό then [((30-i:Nat):Int)] else []) from zv,List.reverse_append]
   cases ab _ _ _<;>rfl
  ·cases Y
 obtain⟨rfl,nQ,rfl⟩:=X;rw[cx];subst Z;rw[bN,cW];erw[aF,aG,bb,aL];exact⟨le_size (n:=2) (by decide),rfl,kp⟩
theorem NQ {caps} {g} (h):∀(ns:List Int) s,(∀n∈ns,∃env,g (.int n) (Õ nt ϋ++caps)=ϊ env/\∀s,Wp (f env s) λy s'=>y=h n/\Kp s s')->Wp (gE nt caps g cB f (ns.map D.int) s) λys s'=>ys=ns.map h/\Kp s s'
 | [],s,_=>by
  rw[ł];delta gE;rw[bF];exact⟨rfl,Kp.refl s⟩
 |x::Y,s,Z=>by
  obtain⟨env,X,W⟩:=Z x Ó;rw[Þ];delta gE;rw[X];erw[bU];refine agT (rfl) ?_;erw[ø];obtain⟨y,V,e,rfl,U⟩:=W s;erw[bU];refine agT (by rw[e];rfl) ?_;refine(NQ h Y V λy T=>Z y (É _ T)).mono λys Q S=>?_;obtain⟨rfl,R⟩:=S;rw[bF];exact⟨rfl,U.trans R⟩
def adQ (h:0<=k/\k<8):ar (.lst (k8.map F)) (.int k) s=ok (F k) s:=by
 obtain⟨x,e1,e2⟩:=mO (xs:=k8.map F) h.1 (by exact h.2);have:=by
  rw[å] at e2;have Z:k8[k.toNat]?=ϊ k:=by
   delta k8;rw[å,Ķ ⋯];simp;omega
  rw[Z] at e2;exact(agX e2).symm
 subst this;erw[ar,jY,res,e1,bW]
def half {i} {F:Int->List Int} (hi:∀k,ar (BH ps m k) (.int i) s=ok (lI (F k)) s):eB i9 (ae (b9 1 [2,3] (dH (ae (eC (.int 8)) ah)) (gN 0) (aJ (e2 cz (aa 1) (e2 ar (e2 ar (aa 2) (aa 0)) (eC (.int i))))) (aa 0)) ah) [ϊ (bD ps),ϊ (.int m),ϊ (.int d),ϊ (.lst (k8.map (BH ps m))),e6] s=ok (mD (k8.filter λk=>ώ (d∈F k))) s:=agU (by
 rw[dq,aF,ib];refine agT (fB rfl (by decide)) ⟨by exact le_size (by decide),?_⟩;refine agT (qO (λk=>ώ (d∈F k)) (λk=>.int k) k8 λk Z=>⟨_,rfl,agU ?_,λ_=>rfl⟩) ?_
 ·rw[dZ]
  refine agT (two rfl (two (two rfl rfl (adQ (rm.mp Z))) rfl (hi k)) uD) ?_;rw[cj];exact⟨rfl,rfl⟩
 ·rw[aL]
  exact agT (rfl) ⟨rfl,rfl⟩)
def Vk (hl:ps.length<=100):Wp (Cz [bD ps,.int m,.int d] s) λv s'=>v=mV (iu ps m) (gQ ps m) d/\Kp s s':=by
 refine cT.symm ▸ ⟨rfl,agV λR Z=>?_⟩;rw[cq,ib];refine agT (fB rfl (by decide)) ⟨by exact le_size (by decide),?_⟩;refine(NQ (BH ps m) k8 s λk W=>⟨[ϊ _,ϊ _,ϊ _],rfl,λs=>?_⟩).mono λV Y X=>?_
 ·erw[wp_call,aF,aL,aG,bb]
  exact MG hl
 obtain⟨rfl,kp⟩:=X;rw[cQ];subst Z;refine agV λR Z=>?_;rw[cq];refine agT (half λk=>rfl) ?_;rw[cQ];show eU R _ (.nx [ϊ _,ϊ _,ϊ _,ϊ _,ϊ _]) Y;rw[cx];subst Z;rw[bN,cW];erw[aG,bb,aF];refine agT (half λk=>rfl) ?_;rw[aL];refine⟨le_size (n:=2) (by decide),?_,kp⟩;delta mV;erw[List.mem_reverse]
end
noncomputable def nR (z:Bool) (y:Nat) (st:List (Nat×Nat)×Option Nat):List (Nat×Nat)×Option Nat:=match st.2 with
 |none=>if z=ό then (st.1,ϊ y) else st
 |some f=>if z=ό then st else (st.1++[(f,y-1)],ϋ)
def pC (b:Nat->Bool):Nat->List (Nat×Nat)×Option Nat
 |0=>([],ϋ)
 |n+1=>nR (b n) n (pC b n)
theorem OV (b):∀n,(fJ b n=ύ/\pC b n=(bM b n,ϋ))\/(fJ b n=ό/\∃S f,pC b n=(S,ϊ f)/\bM b n=S++[(f,n-1)])
 |0=>.inl ⟨rfl,rfl⟩
 |n+1=>by
  have V:fJ b (n+1)=b n:=by simp[fJ]
  rw[V];have e:pC b (n+1)=nR _ n _:=rfl
  rcases OV b n with ⟨X,Y⟩ | ⟨X,S,f,Y,W⟩
  ·cases Z:b n with
   |false=>exact .inl ⟨rfl,by rw[e,Y];simp[nR,bM,Z]⟩
   |true=>exact .inr ⟨rfl,bM b n,n,by rw[e,Y];simp[nR,Z],by simp[bM,Z,X]⟩
  ·cases Z:b n with
   |false=>exact .inl ⟨rfl,by rw[e,Y];simp[nR,bM,Z,W]⟩
   |true=>exact .inr ⟨rfl,S,f,by rw[e,Y];simp[nR,Z],by simp[bM,Z,X,W]⟩
theorem K3:∀{n},(∀d,d<n->b d=c d)->bM b n=bM c n
 |0,_=>rfl
 |n+1,h=>by
  have:fJ b n=fJ c n:=by
   delta fJ;by_cases Z:0<n
   ·rw[h _ ⋯]
   ·rw[Ê Z,af7,af7]
  have ih:bM b n=bM c n:=K3 λd Y=>h d ⋯;erw[bM,ih,this,h n ⋯]
theorem NR (b):∀n,(pC b n).1.length<=n
 |0=>agW 0
 |n+1=>by
  have:=NR b n;show (nR _ n _).1.length<=_;delta nR
  split<;>split<;>(try erw[Ù,æ,ē])<;>omega
section
variable {s s':ag} {ps:List Pg} {m k:Int} {Q:Fl->ag->Prop} {e5 e6 e7 e8 e9:Option D} {j y:Nat} {B h l:List Int} {L:List D}
noncomputable def oN:Option Nat->D
 |none=>.az
 |some n=>.int n
noncomputable abbrev sP (m:Int) (p:Nat×Nat):D:=.tup [.int m,.int p.1,.int p.2]
abbrev wE (ps:List Pg) (h l:List Int) (j:Nat) (m:Int) (B:List Int) (e5 e6 e7 e8 e9:Option D):Env:=[ϊ (bD ps),ϊ (gy h l),ϊ (.au j),ϊ (.int m),ϊ (lI B),e5,e6,e7,e8,e9]
def xZ (ht:t env s=ok a s) (hu:a=ό->u env s=ok b s):eI t u env s=ok (a&&b) s:=agU (by
 rw[tY];refine agT ht ?_
 cases a with
 |false=>exact⟨rfl,rfl⟩
 |true=>exact agT (hu rfl) ⟨rfl,rfl⟩)
def R8 (ht:t env s=ok a s) (hu:u env s=ok b s):fU t u env s=ok (a||b) s:=agU (by
 rw[rk];refine agT ht ?_
 cases a with
 |true=>exact⟨rfl,rfl⟩
 |false=>exact agT hu ⟨rfl,rfl⟩)
def cG (h:f env s=ok (.bl a) s):aJ f env s=ok a s:=by delta aJ;rw[h];rfl
def ace (hj:s[j]?=ϊ (.lst (L++st.1.map (sP m)))) (hn:L.length+st.1.length<=1000) (hy:y<=31) (h0:∀f,st.2=ϊ f->0<y) (hz:z=(ώ (y<31)&&!ώ ((y:Int)∈B)))
 (q:∀s',s'[j]?=ϊ (.lst (L++(nR z y st).1.map (sP m)))->(s'=s\/∃x,s'=s.set j x)->Q (.nx (wE ps h l j m B e5 e6 e7 (ϊ (oN (nR z y st).2)) (ϊ (.int y)))) s'):Wp (Lq (wE ps h l j m B e5 e6 e7 (ϊ (oN st.2)) (ϊ (.int y))) s) Q:=by
 obtain⟨S,o⟩:=st;have Z:=ot (x:=y) (d:=lI B) (s:=s) rfl;have lt:kS (.int y) (.int 31) s=ok (.bl (ώ (y<31))) s:=by
  show ok _ s=_;rw[show ώ _=ώ (y<31) from decide_eq_decide.mpr ⋯]
 have eq:aX (.int y) (.int 31) s=ok (.bl (!ώ _)) s:=agU (by
  rw[pR];refine⟨?_,rfl⟩;by_cases h:y<31
  ·rw[Ä h,beq_eq_false_iff_ne.mpr ⋯];rfl
  ·rw[Ê h,show (y)=31 by omega];rfl)
 cases o with
 |none =>
  refine fq (b:=z) (s':=s) ?_ ?_
  ·rw[hz]
   exact xZ (a:=ό) (cG rfl) λ_=>xZ (cG (two rfl rfl lt)) λ_=>cG (two rfl rfl Z.2)
  ·cases z with
   |true =>
    exact agT rfl (q s hj (.inl rfl))
   |false =>
    refine fq (xZ (b:=ύ) (cG rfl) λh=>by cases h) ?_;exact agT rfl (q s hj (.inl rfl))
 |some f =>
  refine fq (xZ (b:=ύ) (cG rfl) λh=>by cases h) ?_;refine fq (b:=!z) (s':=s) ?_ ?_
  ·rw[hz,Bool.not_and,Bool.not_not]
   exact xZ (a:=ό) (cG rfl) λ_=>R8 (cG (two rfl rfl eq)) (cG (two rfl rfl Z.1))
  ·cases z with
   |true =>
    exact agT rfl (q s hj (.inl rfl))
   |false =>
    have Y:=D8 (x:=sP m (f,y-1)) hj (by rw[Ù,Ç];exact hn);have W:=h0 f rfl;refine agV λR X=>?_;rw[qR,EE];erw[aG,bb];refine⟨Y.1,?_⟩;erw[cW,aF,aL,bp,aG,bb,bh,DY];refine⟨le_size (n:=3) (by decide),?_⟩;rw[show (y)-1=((y-1:Nat):Int) by omega];refine agT Y.2 ?_;rw[cx];subst X;rw[cq,bh,cQ];refine q _ ?_ (.inr ⟨_,rfl⟩);rw[í (Ï.mp hj).1];show ϊ _=ϊ (Cell.lst (L++(S++[(f,y-1)]).map _));rw[Ĕ,ġ];rfl
abbrev Bc (ps:List Pg) (m:Int) (h l:List Int) (k:Int):List Int:=(if ώ (k∈h)=ό then (gQ ps m k).reverse else [])++if ώ (k∈l)=ό then iu ps m k else []
def NS:(Bc ps m h l k).length<=62:=by
 have Z:(gQ ps m k).reverse.length<=31:=by rw[List.length_reverse];exact tI
 have Y:(iu ps m k).length<=31:=tI;rw[Ù]
 split<;>split<;>(try erw[ē])<;>omega
def P7 (ht:t env s=ok a s) (hf:f env s=ok (lI ns) s):jz t f (cy ah) env s=ok (lI (if a=ό then ns else [])) s:=agU (by
 rw[kI];refine agT ht ?_
 cases a with
 |true=>exact agT hf ⟨rfl,rfl⟩
 |false =>
  exact agT (rfl) ⟨rfl,rfl⟩)
def acf (hl:ps.length<=100) (hB:B.length<=900) (q:∀s' e6 e7,Kp s s'->Q (.nx (wE ps h l j m (B++Bc ps m h l k) (ϊ (.int k)) e6 e7 e8 e9)) s'):Wp (Lp (wE ps h l j m B (ϊ (.int k)) e6 e7 e8 e9) s) Q:=by
 refine agV λR Z=>?_;rw[cq,wp_call];erw[aF,aL,aG,bb];refine(MG hl).mono λd Y X=>?_;obtain⟨rfl,kp⟩:=X;refine⟨wE ps h l j m B _ _ _ e8 e9,rfl,?_⟩;rw[cx];subst Z;rw[cq,bp,bp];have a1:=NS (ps:=ps) (m:=m) (h:=h) (l:=l) (k:=k);rw[Ù] at a1;erw[aG,bb];refine agT (P7 (cG (two rfl (rfl) pJ)) rfl) ?_;refine agT (uq ⋯) ?_;refine agT (P7 (cG (two rfl (rfl) pJ)) rfl) ?_;refine agT (uq (by rw[Ù];omega)) ?_;rw[cQ,ġ];exact q Y _ _ kp
def nA (ps:List Pg) (m:Int) (h l:List Int) (i:Nat):List Int:=(â i).flatMap λk:Nat=>Bc ps m h l k
def MH:nA ps m h l (i+1)=nA ps m h l i++Bc ps m h l i:=by
 delta nA;rw[ζ,List.flatMap_append,List.flatMap_singleton]
theorem NT:∀{i},(nA ps m h l i).length<=i*62
 |0=>agW 0
 |i+1=>by
  have Z:=NT (i:=i);have Y:=NS (ps:=ps) (m:=m) (h:=h) (l:=l) (k:=(i));rw[MH,Ù];omega
def acg (hs:Sh h l) {d:Nat} (hd:d<=30):(!ώ ((d:Int)∈nA ps m h l 8))=jB ps m h l d:=by
 have pm:∀k,(d:Int)∈iu ps m k↔pr _ _ d=ό:=λk=>by rw[<- Nx hd,Ã]
 have am:∀k,(d:Int)∈(gQ ps m k).reverse↔ab _ _ d=ό:=λk=>by rw[<- Ny hd,Ã,List.mem_reverse]
 have key:(d:Int)∈nA ps m h l 8↔jB ps m h l d=ύ:=by
  delta nA jB;rw[adM,agd,ν,ν];constructor
  ·rintro ⟨k,-,hk⟩
   rcases þ.mp hk with hk|hk
   ·split at hk
    ·rename_i Y
     exact .inl ⟨k,ß Y,by rw[(am k).mp hk];decide⟩
    ·cases hk
   ·split at hk
    ·rename_i Y
     exact .inr ⟨k,ß Y,by rw[(pm k).mp hk];decide⟩
    ·cases hk
  ·have up:∀{x},0<=x/\x<8->x.toNat∈â 8/\((x.toNat):Int)=x:=λZ=>⟨î.mpr ⋯,by omega⟩
   rintro (⟨x,Z,X⟩ | ⟨x,Z,X⟩)
   ·obtain⟨W,V⟩:=up (by have:=hs.a.lo x Z;omega)
    refine⟨_,W,ï _ ?_⟩;rw[V,Ö (Ä Z)];exact(am x).mpr (by simpa using X)
   ·obtain⟨W,V⟩:=up (by have:=hs.b.lo x Z;omega)
    refine⟨_,W,Î _ ?_⟩;rw[V,Ö (Ä Z)];exact(pm x).mpr (by simpa using X)
 cases U:jB ps m h l d with
 |true=>rw[Ê λz=>by rw[key.mp z] at U;cases U];rfl
 |false=>rw[Ä (key.mpr U)];rfl
def where3 (hl:ps.length<=100) (hs:Sh h l) (hj:s[j]?=ϊ (.lst L)) (hn:L.length<=900)
 (q:∀s' B e5 e6 e7 e8 e9,s'[j]?=ϊ (.lst (L++(bM (jB ps m h l) 31).map (sP m)))->Ex j s s'->Q (.nx (wE ps h l j m B e5 e6 e7 e8 e9)) s'):Wp (Lr [ϊ (bD ps),ϊ (gy h l),ϊ (.au j),ϊ (.int m),B0,e5,e6,e7,e8,e9] s) Q:=by
 refine agV λR X=>agT (rfl) ?_;subst X;refine agV λR X=>?_;rw[jG];refine agT (fB (n:=8) rfl (by decide)) ?_;refine Wp.jr (λi env V=>i<=8->∃e5 e6 e7,env=wE ps h l j m (nA ps m h l i) e5 e6 e7 e8 e9/\Kp s V) _ (λ_=>⟨_,_,_,rfl,Kp.refl s⟩) (λi d env V Z Y=>?_) (λenv V Y=>?_)
 ·rw[jE] at Z
  split at Z
  ·cases Z
   obtain⟨e5,e6,e7,rfl,kp⟩:=Y ⋯;rw[Ŧ];refine⟨_,rfl,acf hl (Ø NT ⋯) λW e6 e7 M _=>⟨ϊ (.int i),e6,e7,?_,kp.trans M⟩⟩;rw[MH]
  ·cases Z
 obtain⟨e5,e6,e7,rfl,kp⟩:=Y (agW _);subst X;refine agV λR X=>agT (rfl) ?_;rw[cx];subst X;rw[jG];refine agT (fB (n:=32) rfl (by decide)) ?_;have S:=kp.get hj;generalize P:(λy:Nat=>ώ (y<31)&&!ώ ((y:Int)∈nA ps m h l 8))=b;refine Wp.jr (λi env W=>i<=32->∃e9,env=wE ps h l j m (nA ps m h l 8) e5 e6 e7 (ϊ (oN (pC b i).2)) e9/\W[j]?=ϊ (.lst (L++(pC b i).1.map (sP m)))/\Ex j V W) _ (λ_=>⟨_,rfl,by simpa [pC] using S,Ex.refl ..⟩) (λi d env W Z Y=>?_) (λenv W Y=>?_)
 ·rw[jE] at Z
  split at Z
  ·cases Z
   obtain⟨e9,rfl,U,T⟩:=Y ⋯;rw[Ŧ];have ln:=NR b i;refine⟨_,rfl,ace U ⋯ ⋯ (λf K=>?_) (by rw[<- P]) λF J I _=>⟨_,rfl,J,?_⟩⟩
   ·cases i with
    |zero=>cases K
    |succ n=>omega
   ·rcases I with rfl | ⟨x,rfl⟩
    ·exact T
    ·exact T.trans (Ex.set ..)
  ·cases Z
 rw[n5] at Y;obtain⟨e9,rfl,U,T⟩:=Y (agW _);have N:b 31=ύ:=by rw[<- P];rfl
 have O:bM b 32=bM (jB ps m h l) 31:=by
  have:bM b 32=bM b 31:=by
   show (if (b 31&&fJ b 31)=ό then _ else if b 31=ό then _ else _)=_
   rw[N];rfl
  rw[this];exact K3 λd Z=>by rw[<- P,<- acg hs ⋯];simp[Z]
 have H:pC b 32=(bM b 32,ϋ):=by
  rcases OV b 32 with ⟨-,h⟩ | ⟨h,-⟩
  ·exact h
  ·have:fJ b 32=b 31:=by simp[fJ]
   rw[this,N] at h;cases h
 rw[H,O] at U;exact q _ _ _ _ _ _ _ U (Ex.trans ⟨kp.1,λi G _=>kp.2 i G⟩ T)
def WH (hl:ps.length<=100) (hs:Sh h l):Wp (C7 [bD ps,gy h l] s) λv s'=>v=.lst (pA ps h l)/\Kp s s':=by
 refine cT.symm ▸ ⟨rfl,agV λR W=>?_⟩;refine agT (rfl) ?_;subst W;refine agV λR W=>?_;rw[jG];refine agT (fB (n:=4) rfl (by decide)) ?_;have V:∀{i},i<=4->(((â i).map λi:Nat=>(i:Int)).flatMap λm=>(bM (jB ps m h l) 31).map (sP m)).length<=i*31:=λ{i} P=>by
  induction i with
  |zero=>exact agW 0
  |succ i ih =>
   rw[ζ,Ĕ,List.flatMap_append,Ù];have:=zH (jB ps (i) h l) 31;erw[Þ,ł,List.flatMap_cons,List.flatMap_nil,ú,Ç];omega
 refine Wp.jr (λi env Z=>i<=4->∃U T e5 e6 e7 e8 e9,env=[ϊ _,ϊ _,ϊ _,U,T,e5,e6,e7,e8,e9]/\Z[s.length]?=ϊ (.lst (((â i).map λi:Nat=>(i:Int)).flatMap λm=>(bM (jB ps m h l) 31).map (sP m)))/\Ex s.length s Z) _ (λ_=>⟨_,_,_,_,_,_,_,rfl,by simp,Ex.app ..⟩) (λi d env Z Y S=>?_) (λenv Z S=>?_)
 ·rw[jE] at Y
  split at Y
  ·cases Y
   obtain⟨U,T,e5,e6,e7,e8,e9,rfl,Q,X⟩:=S ⋯;refine⟨_,rfl,where3 hl hs Q (Ø (V ⋯) ⋯) λM B e5 e6 e7 e8 e9 O N _=>⟨_,_,_,_,_,_,_,rfl,?_,X.trans N⟩⟩;rw[O,ζ,Ĕ];simp
  ·cases Y
 obtain⟨U,T,e5,e6,e7,e8,e9,rfl,Q,X⟩:=S (agW _);rw[cx];subst W;rw[bN,ED];erw[aG,bb];refine agT (by erw[bH,Q];rfl) ⟨rfl,Kp.set ⟨X.len,λi P=>X.val i P ⋯⟩ (agW _) _⟩
end
section
variable {s:ag} {x y z:Str} {l a b:List Int} {i m d:Int} {p:Pg} {ws:List Str}
def nB (i:Int):Prop:=dI (num i)=ό/\vI (num i)=i
noncomputable def mw:List Int:=((â 32).map λn:Nat=>(n:Int))++[10 ^ 29]
def ach:(mw.all λi=>dI (num i)&&ώ (vI (num i)=i))=ό:=nofun
def xt (h:i∈mw):nB i:=by
 have:=Ü.mp ach i h;rw[Â,Ã] at this;exact this
def Gx (h0:0<=i) (h1:i<32):nB i:=xt (ï _ (é.mpr ⟨i.toNat,î.mpr ⋯,by omega⟩))
def nB.vF (h:nB i):1<=(num i).length/\(num i).length<=30/\∀c∈sg (num i),i6 c=ό:=by
 have:=h.1;exact CG (Â .. ▸ this).1
def nB.free (h:nB i):32∉sg (num i):=λZ=>by
 have:=h.vF.2.2 32 Z
 revert this
 decide
def nB.Sa (h:nB i):à (num i)=ό:=qP.mpr λn Z=>by
 have:=ß (h.vF.2.2 n Z);omega
abbrev sT (a b:List Int):Str:=cH a++"/"++cH b
def NU (h:Mg l):sO (cH l)=l:=by
 by_cases Z:l=[]
 ·subst Z
  rfl
 ·obtain⟨e1,e2⟩:=EH Z h.2
  delta sO;rw[e1,Ý e2,wV,ė];refine(agu λi Y=>?_).trans (List.map_id l);have:=h.2 i Y;show ((48+i.toNat))-48=i;omega
def P8 (ha:Mg a) (hb:Mg b):sl (sT a b)=[cH a,cH b]:=ab1 ha.2 hb.2
def FF (ha:Mg a) (hb:Mg b):j4 (sT a b)=ό:=by
 delta j4;rw[P8 ha hb];erw[agk,List.all_nil,Bool.and_true];rw[show lB _=ό from OL ha.2 ha.1,show lB _=ό from OL hb.2 hb.1];rfl
def AL (ha:Mg a) (hb:Mg b):kE (sT a b) 0=a/\kE (sT a b) 1=b:=by
 delta kE;rw[P8 ha hb];exact⟨NU ha,NU hb⟩
def Z1 (ha:Mg a) (hb:Mg b):32∉sg (sT a b):=λhm=>by
 rw[zY,zY] at hm
 rcases hm with (hm|hm)|hm
 ·exact tR (.inl (by decide)) ha.2 hm
 ·revert hm;decide +kernel
 ·exact tR (.inl (by decide)) hb.2 hm
def EN (ha:Mg a) (hb:Mg b):(sT a b).length<=19:=by
 have Z:=pK (l:=a);have Y:=pK (l:=b);have X:=ha.1;have W:=hb.1;rw[cw,cw];show _ + 1 + _<=19;omega
def OW (ha:Mg a) (hb:Mg b):à (sT a b)=ό:=fM (fM (z9 ha.2) nofun) (z9 hb.2)
def Ys (h:gR p):iw (wordsOf p)=ό/\oU (wordsOf p)=p:=by
 have m:=lK h;have d:=lL h;have X:=Gx m.1 ⋯;have W:=Gx d.1 ⋯
 have S:iw (wordsOf p)=(dI _&&dI _&&if jM p="made" then j4 _ else ώ _&&dI _):=rfl
 rw[S,X.1,W.1]
 cases p with
 |made Z Y a b =>
  have V:=kK h.2.2.1;have U:=kK h.2.2.2;refine⟨FF V U,?_⟩;show Pg.made (vI (num Z)) (vI (num Y)) (kE (sT a b) 0) (kE (sT a b) 1)=_;rw[(AL V U).1,(AL V U).2,show vI (num Z)=Z from X.2,show vI (num Y)=Y from W.2]
 |cE Z Y k =>
  have T:=Gx h.2.2.1 (by have:=h.2.2.2;omega);refine⟨T.1,?_⟩;show Pg.cE (vI (num Z)) (vI (num Y)) (vI (num k))=_;rw[show vI (num Z)=Z from X.2,show vI (num Y)=Y from W.2,T.2]
def aci (h:gR p):bs ("out "++fx p)=("out":Str)::wordsOf p:=by
 have e:"out "++fx p=Į ⟨#[32]⟩ (("out")::wordsOf p):=by
  show _="out"++⟨_⟩++Į _ _;rw[<- LB];rfl
 rw[e];refine we ∅ λz hz=>?_
 rcases Ñ.mp hz with rfl|hz
 ·decide +kernel
 ·exact KZ h (by decide) z hz
inductive Ask where
 |book
 |ie (m d:Int)
 |i7 (a b:List Int)
def ju:Ask->Str
 | .book=>"book"
 | .ie m d=>"surely "++num m++" "++num d
 | .i7 a b=>"where "++sT a b
def kT:Ask->List Str
 | .book=>["book"]
 | .ie m d=>["surely",num m,num d]
 | .i7 a b=>["where",sT a b]
def yd:Ask->D
 | .book=>.tup []
 | .ie m d=>.tup [.int m,.int d]
 | .i7 a b=>gy a b
noncomputable def rY:List (List Int×List Int):=[([8],[]),([0],[0]),([1,0],[])]
def mY:Ask->Prop
 | .book=>True
 | .ie m d=>(0<=m/\nB m)/\0<=d/\nB d
 | .i7 a b=>(Mg a/\Mg b)/\(Sh a b\/(a,b)∈rY)
def OX (h:mY q):bs (ju q)=kT q:=by
 cases q with
 |book=>decide +kernel
 |ie m d =>
  have e:ju (.ie m d)=Į ⟨#[32]⟩ (kT (.ie m d)):=by
   show "surely "++num m++" "++num d="surely"++⟨_⟩++(num m++⟨_⟩++num d);rw[<- blank,show ("surely ":Str)="surely"++" " by decide +kernel];erw[Ů]
  rw[e];refine we (by simp[kT]) λz Z=>?_;erw[kT,Ñ,ü,or_false] at Z
  rcases Z with rfl|rfl|rfl
  ·decide +kernel
  ·exact h.1.2.free
  ·exact h.2.2.free
 |i7 a b =>
  have e:ju (.i7 a b)=Į ⟨#[32]⟩ (kT (.i7 a b)):=by
   rfl
  rw[e];refine we (by simp[kT]) λz Z=>?_;erw[kT,Ñ,ü,or_false] at Z
  rcases Z with rfl|rfl
  ·decide +kernel
  ·exact Z1 h.1.1 h.1.2
def Z2 (h:mY q):oT (kT q)=ό:=by
 cases q with
 |book=>decide +kernel
 |ie m d =>
  show (dI _&&(dI _&&ό))=ό;rw[h.1.2.1,h.2.2.1];rfl
 |i7 a b=>exact FF h.1.1 h.1.2
def acj (h:mY q):(ju q).length<=1000/\à (ju q)=ό:=by
 cases q with
 |book=>decide +kernel
 |ie m d =>
  have Z:=h.1.2.vF.2.1;have Y:=h.2.2.vF.2.1;refine⟨?_,fM (fM (fM nofun h.1.2.Sa) nofun) h.2.2.Sa⟩;show ("surely "++num m++" "++num d).length<=1000;rw[cw,cw,cw];show 7 + _ + 1 + _<=1000;omega
 |i7 a b =>
  have Z:=EN h.1.1 h.1.2;refine⟨?_,fM nofun (OW h.1.1 h.1.2)⟩;show ("where "++sT a b).length<=1000;rw[cw];show 6 + _<=1000;omega
end
section
variable {s s':ag} {env:Env} {x y z:Str} {ws:List Str} {c:Nat} {ps:List Pg} {m d:Int}
noncomputable abbrev gH (y:Str):D:=.tup [.str "told",.str y]
def MI:∀{zs},zs≠[]->(∀z∈zs,0<z.length)->0<(Į y zs).length
 | [],h,_=>absurd rfl h
 | [z],_,h=>h z ∅
 |z::u::r,_,h=>by
  show 0<(z++y++Į y _).length;rw[cw,cw];have:=h z ∅;omega
def pT:D->Str
 | .tup [.int a,.int b,.int c]=>num a++","++num b++","++num c
 |_=>""
def rZ (d:D):Prop:=∃a b c,d=.tup [.int a,.int b,.int c]/\(0<=a/\a<31)/\(0<=b/\b<31)/\(0<=c/\c<31)
def xu {d} (h:rZ d):(0<(pT d).length/\(pT d).length<=10)/\à (pT d)=ό:=by
 obtain⟨a,b,c,rfl,Z,Y,X⟩:=h;have W:=iO Z.1 Z.2;have V:=iO Y.1 Y.2;have lc:=iO X.1 X.2;refine⟨?_,fM (fM (fM (fM (tU Z) nofun) (tU Y)) nofun) (tU X)⟩;show 0<(num a++","++num b++","++num c).length/\(num a++","++num b++","++num c).length<=10;erw[cw];show 0 < _ + 1 + _ + 1 + _/\_ + 1 + _ + 1 + _<=10;omega
def vG (ds:List D):Str:=if ds.isEmpty=ό then "none" else Į " " (ds.map pT)
def places_len {ds:List D} (hn:ds.length<=200) (hd:∀d∈ds,rZ d):(Į " " (ds.map pT)).length<=1000000:=by
 have:=MF (y:=" ") λz Z=>by
  obtain⟨d,Y,rfl⟩:=é.mp Z;exact(xu (hd d Y)).1.2
 rw[Ç] at this;have X:(" ":Str).length=1:=rfl;rw[X] at this;omega
def Kv {ds:List D} (hn:ds.length<=200) (hd:∀d∈ds,rZ d):iB " " (.lst (ds.map λd=>D.str (pT d))) s=ok (.str (Į " " (ds.map pT))) s:=by
 have Z:=AK (s:=s) (y:=" ") (zs:=ds.map pT) (by decide) (by rw[Ç];omega) λz Y=>by
  obtain⟨d,X,rfl⟩:=é.mp Y;have:=(xu (hd d X)).1;omega
 rw[ė] at Z;exact Z
def Z3 (hd:∀d∈ds,rZ d):à (vG ds)=ό:=by
 delta vG;split
 ·decide +kernel
 ·refine Dt nofun λz Z=>?_
  obtain⟨d,Y,rfl⟩:=é.mp Z;exact(xu (hd d Y)).2
def WI (hn:ds.length<=200) (hd:∀d∈ds,rZ d):BS [.lst ds] s=ok (.str (vG ds)) s:=by
 have V:fI iB (eC (.str " ")) (b9 3 [] (cA (aa 0)) (gT [gN 0,gN 1,gN 2]) cB (kB [(e1 gp (aa 0)),(eC (.str ",")),(e1 gp (aa 1)),(eC (.str ",")),(e1 gp (aa 2))] afE)) [ϊ (.lst ds)] s=ok (.str (Į " " (ds.map pT))) s:=by
  refine agU ?_;rw[rn rfl,ib];refine agT (rfl) ⟨le_size ⋯,?_⟩;have Z:=comp_map (nt:=3) (caps:=lQ [] [ϊ (.lst ds)]) (g:=gT [gN 0,gN 1,gN 2]) (t:=cB) (f:=kB [(e1 gp (aa 0)),(eC (.str ",")),(e1 gp (aa 1)),(eC (.str ",")),(e1 gp (aa 2))] afE) (λd=>d) (λ_=>ό) (λd=>D.str (pT d)) ds λd Y=>by
   obtain⟨a,b,c,rfl,X,W,Z⟩:=hd d Y;refine⟨_,rfl,rfl,λ_=>?_⟩;have T:=iO X.1 X.2;have S:=iO W.1 W.2;have lc:=iO Z.1 Z.2;rw[kF (xW X.1 ⋯) (by show 0 + _<=_;omega),kF rfl (by rw[cw];show 0 + _ + 1<=_;omega),kF (xW W.1 ⋯) (by erw[cw];show 0 + _ + 1 + _<=_;omega),kF rfl (by erw[cw];show 0 + _ + 1 + _ + 1<=_;omega),kF (xW Z.1 ⋯) (by erw[cw];show 0 + _ + 1 + _ + 1 + _<=_;omega)]
   show (if ώ _=ό then ok _ s else ϋ)=_
   rw[Ö (Ä (le_size (by erw[cw];show 0 + _ + 1 + _ + 1 + _<=_;omega))),show afE++num a=num a from zX (by rw[mP];rfl)];rfl
  rw[List.map_id'] at Z;refine agT Z ?_;rw[ń.mpr (λ_ _=>rfl)];exact agT (Kv hn hd) ⟨rfl,rfl⟩
 refine agU ?_;refine cT.symm ▸ ⟨rfl,?_⟩;rw[bN];refine agT (OU V (places_len hn hd) rfl) ⟨?_,rfl⟩
 cases ds with
 |nil=>rfl
 |cons d r =>
  have:0<(Į " " ((d::r).map pT)).length:=MI ∅ λz U=>by
   obtain⟨d,Y,rfl⟩:=é.mp U;exact(xu (hd d Y)).1.1
  rw[Ý ⋯];rfl
theorem OY:∀n p,p∈bM f n->p.1<n/\p.2<n
 |0,p,h=>by cases h
 |n+1,p,h=>by
  have ih:=OY (f:=f) n;delta bM at h;split at h
  ·rcases þ.mp h with h|h
   ·have:=ih p (List.dropLast_subset _ h)
    omega
   ·rw[Ē.mp h]
    refine⟨?_,by show n<n+1;omega⟩
    cases Z:(bM f n).getLast? with
    |none=>show 0<n+1;omega
    |some q =>
     have:=ih q (List.mem_of_getLast? Z);show q.1<n+1;omega
  ·split at h
   ·rcases þ.mp h with h|h
    ·have:=ih p h
     omega
    ·rw[Ē.mp h]
     exact⟨by show n<n+1;omega,by show n<n+1;omega⟩
   ·have:=ih p h
    omega
def wW {d} (hd:d∈pA ps h l):rZ d:=by
 obtain⟨m,Z,hd⟩:=adM.mp hd;obtain⟨p,Y,rfl⟩:=é.mp hd;have X:=OY _ p Y;have W:=by
  have:∀m∈m4,(0)<=m/\m<4:=by decide
  exact this m Z
 exact⟨m,_,_,rfl,by omega,by omega,by omega⟩
def OZ {fn g:List D->ag->Res D} {fa} {ds} {u} (h:fa env s=ok ds s) (e:fn ds s=ϊ (.error u,s)):aH (aB g (ae (dY fn fa) ah)) env s=ϊ (.error u,s):=by
 show ai (ai (ai (ai _ fn) _) _) _=_;rw[h,cZ,e];rfl
abbrev aE (ps:List Pg) (ws:List Str):Env:=[ϊ (bD ps),ϊ (.lst (ws.map D.str))]
noncomputable def iU:List (Str×Int):=[("NoPage",2),("Clash",13),("NoDeed",14),("NoMould",4),("NoDay",5),("NoSheet",1)]
def km (ps:List Pg) (m d:Int):D:=if fN m=ό then (if fc d=ό then gH (sT (k8.filter λk=>ώ (d∈iu ps m k)) (k8.filter λk=>ώ (d∈gQ ps m k))) else fe 5) else fe 4
def u5 (ps:List Pg) (a b:List Int):D:=if (fm a&&(fm b&&iQ a b))=ό then gH (vG (pA ps a b)) else fe 1
def ye (r:Res D) (s:ag) (v:D):Prop:=(∃(y:Str) (c:List Cell),v=gH y/\à y=ό/\r=ok (.str y) (s++c))\/∃k n,(k,n)∈iU/\v=fe n/\r=ϊ (.error ⟨k,ϋ⟩,s)
def Vl (hl:ps.length<=1000) (hf:∀p∈ps,js p) (hb:cU ps=ό):(∃k n,(k,n)∈iU/\km ps m d=fe n/\cV.zD [bD ps,.int m,.int d] s=ϊ (.error ⟨k,ϋ⟩,s))\/∃c,km ps m d=gH (sT (k8.filter λk=>ώ (d∈iu ps m k)) (k8.filter λk=>ώ (d∈gQ ps m k)))/\cV.zD [bD ps,.int m,.int d] s=ok (mV (iu ps m) (gQ ps m) d) (s++c):=by
 show (∃k n,_/\_/\ai (aw _ _ [ϊ _,ϊ _,ϊ _] s) _=_)\/∃c,_/\ai (aw _ _ [ϊ _,ϊ _,ϊ _] s) _=_;rw[iz (Bb rfl (zF hl hf hb))];by_cases Y:fN m=ό
 ·rw[iz (Bb rfl (by rw[OS,Ö Y]))]
  by_cases Z:fc d=ό
  ·rw[iz (Bb rfl (by rw[OT,Ö Z]))]
   refine .inr ?_;have X:=by delta fc at Z;simpa using Z
   obtain⟨v,V,e,rfl,c,rfl⟩:=NC hl;refine⟨c,by delta km;rw[Ö Y,Ö Z],?_⟩;refine agU ?_;rw[bU,bN,bp];erw[wp_call,aF,aL,aG,bb];refine agT e ?_;obtain⟨v,e1,e2⟩:=mO (xs:=kC.map (mV (iu ps m) (gQ ps m))) X.1 (by exact X.2);have:=by
    rw[å] at e2;have W:kC[d.toNat]?=ϊ d:=by
     delta kC;rw[å,Ķ ⋯];simp;omega
    rw[W] at e2;exact(agX e2).symm
   subst this;refine agT (show ar _ _ _=ok (mV (iu ps m) (gQ ps m) d) (s++c) by erw[ar,jY,res,e1,bW]) ?_;rw[bF];exact⟨rfl,rfl⟩
  ·refine .inl ⟨"NoDay",5,by simp[iU],by delta km;rw[Ö Y,Ý Z],?_⟩
   rw[j7 (xY rfl (by rw[OT,Ý Z]))];rfl
 ·refine .inl ⟨"NoMould",4,by simp[iU],by delta km;rw[Ý Y],?_⟩
  rw[j7 (xY rfl (by rw[OS,Ý Y]))];rfl
def Vm (ha:dI a=ό) (hb:dI b=ό) (hl:ps.length<=1000) (hf:∀p∈ps,js p) (iN:cU ps=ό):ye (qQ [bD ps,.lst (([("surely":Str),a,b]).map D.str)] s) s (km ps (vI a) (vI b)):=by
 have Z:∀{n} {u},([("surely":Str),a,b])[n]?=ϊ u->e2 ar (aa 1) (eC _) (aE ps _) s=ok _ s:=λh=>agU (by
  exact agT (Ic h) ⟨rfl,rfl⟩)
 have X:ae (aa 0) (ae (eB kc (ae (e2 ar (aa 1) (eC (.int 1))) ah)) (ae (eB kc (ae (e2 ar (aa 1) (eC (.int 2))) ah)) ah)) (aE ps [("surely"),a,b]) s=ok [bD ps,.int (vI a),.int (vI b)] s:=by
  refine agU ?_;rw[aF,aG,aF,dq,aF];refine agT (Z rfl) ?_;rw[aL];refine agT (rq ha) ?_;rw[aF,dq,aF];refine agT (Z rfl) ?_;rw[aL];refine agT (rq hb) ?_;rw[aL];exact⟨rfl,rfl⟩
 have W:aJ (e2 aX _ _) _ s=ok ό s:=(eX (Z (n:=0) rfl)).trans (by rw[Ä rfl])
 rcases Vl hl hf iN with ⟨k,n,V,Y,e⟩ | ⟨c,Y,e⟩
 ·refine .inr ⟨k,n,V,Y,?_⟩
  show ai (aw _ _ _ s) _=_;rw[j7 (?_)]
  ·rfl
  ·exact OZ X e
 ·refine .inl ⟨_,c,Y,OW (kK (uu _)) (kK (uu _)),agU ?_⟩
  show Wp (ai _ _) _;rw[bU];refine agV λR U=>fq W ?_;rw[bN,wp_call,aF,uE];refine agT X (agT e ?_);rw[aL];refine agT (JV (uu _) (uu _)) ?_;rw[mL,bF];exact⟨rfl,rfl⟩
def WJ (hv:j4 v=ό) (hlv:v.length<=1000) (hl:ps.length<=1000) (hf:∀p∈ps,js p) (iN:cU ps=ό):ye (qQ [bD ps,.lst (([("where":Str),v]).map D.str)] s) s (u5 ps (kE v 0) (kE v 1)):=by
 obtain⟨i,j,li,L,⟨X,W⟩,S⟩:=Ku hlv hv;rw[<- X,<- W];have V:∀{n} {u},([("where":Str),v])[n]?=ϊ u->e2 ar (aa 1) (eC _) (aE ps _) s=ok _ s:=λh=>agU (by
  exact agT (Ic h) ⟨rfl,rfl⟩)
 have T:ae (aa 0) (ae (aB vY (ae (e2 ar (aa 1) (eC (.int 1))) ah)) ah) (aE ps [("where"),v]) s=ok [bD ps,gy i j] s:=by
  refine agU ?_;rw[aF,aG,aF,wp_call,aF];refine agT (V rfl) ?_;rw[aL];refine agT (S s) ?_;rw[aL];exact⟨rfl,rfl⟩
 have e1:aJ (e2 aX (e2 ar _ (eC (.int 0))) (eC (.str "surely"))) _ s=ok ύ s:=(eX (V rfl)).trans (by rw[Ê nofun]);have Q:aJ (e2 aX _ _) _ s=ok ό s:=(eX (V (n:=0) rfl)).trans (by rw[Ä rfl]);show ye (ai (aw _ _ (aE ps _) s) _) s _;rw[iz (by delta aU;rfl)];by_cases Z:(fm i&&(fm j&&iQ i j))=ό
 ·have Y:=Z
  erw[Â] at Y;have P:Sh i j:=⟨tu Y.1,tu Y.2.1,λx O N=>by
   have:=Y.2.2;delta iQ at this;rw[û,š] at this;exact this x O (Ä N)⟩
  obtain⟨d,K,e,rfl,c,rfl⟩:=WG hl hf iN P;have M:=WI (s:=s++c) (Ø (EM ps i j) (by decide)) λd U=>wW U;refine .inl ⟨_,c,Ö Z,Z3 λd U=>wW U,agU ?_⟩;rw[bU];refine agV λR J=>fq Q ?_;rw[bN,wp_call,aF,uE];refine agT T (agT e ?_);rw[aL];refine agT M ?_;rw[mL,bF];exact⟨rfl,rfl⟩
 ·refine .inr ⟨"NoSheet",1,by simp[iU],Ý Z,?_⟩
  have e:sX [bD ps,gy i j] s=ϊ (.error ⟨"NoSheet",ϋ⟩,s):=by
   delta sX aO;rw[iz (Bb rfl (zF hl hf iN)),j7 (xY rfl (by rw[acb ⋯ ⋯,Ý Z]))];rfl
  rw[j7 (?_)]
  ·rfl
  ·exact OZ T e
def vH (ps:List Pg):Str:=if ps.isEmpty=ό then "-" else textOf ps
def MJ (h:gR p):à (fx p)=ό:=by
 have m:=lK h;have d:=lL h;have Z:à " "=ό:=nofun
 have Y:à "made"=ό:=nofun
 have X:à "mended"=ό:=nofun
 have w:à (jM p)=ό:=by
  cases p with
  |made _ _ _ _=>exact Y
  |cE _ _ _=>exact X
 have l:à (oG p)=ό:=by
  cases p with
  |made W V a c=>exact fM (fM (z9 (rp h.2.2.1)) nofun) (z9 (rp h.2.2.2))
  |cE W V k=>exact tU ⟨h.2.2.1,by have:=h.2.2.2;omega⟩
 exact fM (fM (fM (fM (fM (fM w Z) (tU ⟨m.1,by omega⟩)) Z) (tU d)) Z) l
def Z4 (iN:cU ps=ό):à (vH ps)=ό:=by
 obtain⟨Z,X⟩:=EJ iN;delta vH;split
 ·decide +kernel
 ·refine Dt nofun λz Y=>?_
  obtain⟨p,h,rfl⟩:=é.mp Y;exact fM (MJ (oq (Z p h))) nofun
def Yt (iN:cU ps=ό):qQ [bD ps,.lst (([("book":Str)]).map D.str)] s=ok (.str (vH ps)) s:=by
 have Y:e2 ar (aa 1) (eC (.int 0)) (aE ps [("book")]) s=ok _ s:=agU (by
  erw[bp,aG,bb,bh];exact agT (Ic rfl) ⟨rfl,rfl⟩)
 have lt:(textOf ps).length<=1000000:=by
  obtain⟨X,V⟩:=EJ iN;have:=text_len λp h=>oq (X p h);omega
 refine agU ?_;refine cT.symm ▸ ⟨rfl,?_⟩;refine agV λR Z=>fq (eX Y) ?_;rw[Ê nofun,cK];subst Z;refine agV λR Z=>fq (eX Y) ?_;rw[Ê nofun,Ý Ú,cK,cx];subst Z;rw[bN];refine agT (OU (Yi iN) lt rfl) ⟨?_,rfl⟩
 cases ps with
 |nil=>rfl
 |cons p r =>
  have:0<(textOf (p::r)).length:=MI ∅ λz W=>by
   obtain⟨q,U,rfl⟩:=é.mp W;rw[cw];show 0 < _ + 1;omega
  rw[Ý ⋯];rfl
def yf (ps:List Pg):Ask->D
 | .book=>gH (vH ps)
 | .ie m d=>km ps m d
 | .i7 a b=>u5 ps a b
def Z5 (hq:mY q) (hl:ps.length<=1000) (hf:∀p∈ps,js p) (iN:cU ps=ό):ye (qQ [bD ps,.lst ((kT q).map D.str)] s) s (yf ps q):=by
 cases q with
 |book=>exact .inl ⟨_,_,rfl,Z4 iN,by rw[ú];exact Yt iN⟩
 |ie m d =>
  have:=Vm (s:=s) hq.1.2.1 hq.2.2.1 hl hf iN;rw[hq.1.2.2,hq.2.2.2] at this;exact this
 |i7 a b =>
  have:=WJ (s:=s) (FF hq.1.1 hq.1.2) (Ø (EN hq.1.1 hq.1.2) (by decide)) hl hf iN;rw[(AL hq.1.1 hq.1.2).1,(AL hq.1.1 hq.1.2).2] at this;exact this
end
section
variable {s s':ag} {env:Env} {x y z w:Str} {ws r:List Str} {ps book:List Pg} {p:Pg} {a b d:Nat} {aP:List (List Pg)}
def NV (hf:js p) (hp:cF p=ύ):pG [p.d] s=ϊ (.error ⟨"NoPage",ϋ⟩,s):=by
 have e:dM (cD (aB tF (ae (aa 0) ah))) [ϊ p.d] s=ok ό s:=by
  refine agU ?_;simp only[VC,D2 hf,hp,Ş,Ğ]
 show ai (aU _ _ _ [ϊ _] s) _=_;delta aU;rw[e];rfl
def Z6 (hf:js p) (hp:cF p=ύ):pF [.au d,p.d] s=ϊ (.error ⟨"NoPage",ϋ⟩,s):=by
 delta pF aO;rw[j7 (xY rfl (NV hf hp))];rfl
def WK (hf:js p) (hp:cF p=ύ):pE [.au d,p.d] s=ϊ (.error ⟨"NoPage",ϋ⟩,s):=by
 delta pE aO;rw[j7 (xY rfl (NV hf hp))];rfl
structure Ds (s:ag) (a d b:Nat) (aP) (book):Prop where
 hd:s[a]?=ϊ (.ins "Desk" [("diary",.au d)])
 di:Di s d b aP book
def Ds.ne (h:Ds s a d b aP book):a≠b:=λe=>by
 have Z:=h.hd;have Y:=h.di.hb;rw[e,Y] at Z;cases Z
def adR (h:s[a]?=ϊ (.ins "Desk" [("diary",.au d)])):iG "Desk" "diary" (.au a) s=ok (.au d) s:=by
 delta iG jQ;dsimp only;rw[h];rfl
def Au (h:s[a]?=ϊ (.ins "Desk" [("diary",.au d)])):e1 (iG "Desk" "diary") (aa 0) [ϊ (.au a),e1',jV] s=ok (.au d) s:=by
 show ai (ok _ s) _=_;exact adR h
def P9 (hl:ds.length=np) (he:ds.map ϊ++Õ (ns-np) ϋ=env) (h:B env s=ok (.rt v) s'):aO np ns B ds s=ok v s':=by
 delta aO;rw[Ö hl,he,h];rfl
def Qa {B:agS Fl} {ds} {u} (hl:ds.length=np) (he:ds.map ϊ++Õ (ns-np) ϋ=env) (h:B env s=ϊ (.error u,s')):aO np ns B ds s=ϊ (.error u,s'):=by
 delta aO;rw[Ö hl,he,h];rfl
def ack (h:st env s=ok (.rt v) s'):aw st cp env s=ok (.rt v) s':=by delta aw;rw[h];rfl
def EO (h:t env s=ok ό s):aU t st cp env s=st env s:=by delta aU;rw[h];rfl
def uF (h:t env s=ok ύ s):aU t st cp env s=cp env s:=by delta aU;rw[h];rfl
def acm (h:nT [v] s=ok W s):aR (dY nT (ae (aa 1) ah)) (gN 2) [ϊ (.au a),ϊ v,ϋ] s=ok (.nx [ϊ (.au a),ϊ v,ϊ W]) s:=by
 show ai (ai (ok _ s) nT) _=_;rw[cZ,h];rfl
noncomputable abbrev dE (a:Nat) (x:Str) (ws:List Str):Env:=[ϊ (.au a),ϊ (.str x),ϊ (.lst (ws.map D.str))]
def oV:e2 ar (aa 2) (eC (.int 0)) (dE a x (w::r)) s=ok (.str w) s:=agU (by
 exact agT Ea ⟨rfl,rfl⟩)
def Qb:fU (aJ (e2 aX (e2 ar (aa 2) (eC (.int 0))) (eC (.str "made")))) (aJ (e2 aX (e2 ar (aa 2) (eC (.int 0))) (eC (.str "mended")))) (dE a x (w::r)) s=ok (ώ (w="made"\/w="mended")) s:=by
 refine agU ?_;rw[rk];refine agT (eX oV) ?_;by_cases h:w="made"
 ·rw[Ä h]
  exact⟨(Ä (ŷ h)).symm,rfl⟩
 ·rw[Ê h]
  refine agT (eX oV) ⟨?_,rfl⟩
  by_cases Z:w="mended"<;>simp[h,Z]
def Yu (G:Ds s a d b aP book) (hw:w="made"\/w="mended") (ep:tH [.lst ((w::r).map D.str)] s=ok p.d s):ifs (dE a x (w::r)) s=ai (pF [.au d,p.d] s) λ_ s=>ok (.nx (dE a x (w::r))) s:=by
 delta ifs;rw[uF ((eX oV).trans (by rw[Ê λe=>by rw[e] at hw;revert hw;decide +kernel])),uF ((eX oV).trans (by rw[Ê λe=>by rw[e] at hw;revert hw;decide +kernel])),EO (Qb.trans (by rw[Ä hw]))];delta cP;rw[p6 G.di.ha (by rfl) (Au G.hd) (agU (by
  rw[aF,wp_call,aF];erw[aG,bb];rw[aL];refine agT ep ?_;rw[aL];exact⟨rfl,rfl⟩))]
def Eb (G:Ds s a d b aP book) (h1:¬ w="undo") (h2:¬ w="out") (h3:¬ (w="made"\/w="mended")):ifs (dE a x (w::r)) s=ai (qQ [bD book,.lst ((w::r).map D.str)] s) λd s=>ok (.rt d) s:=by
 delta ifs;rw[uF ((eX oV).trans (by rw[Ê h1])),uF ((eX oV).trans (by rw[Ê h2])),uF (Qb.trans (by rw[Ê h3]))];have e1:ae (fP "Diary" "book_now" qF (e1 (iG "Desk" "diary") (aa 0)) ah) (ae (aa 2) ah) (dE a x (w::r)) s=ok [bD book,.lst ((w::r).map D.str)] s:=by
  refine agU ?_;rw[aF];refine agT ((p6 G.di.ha (by rfl) (Au G.hd) rfl).trans (EK G.di)) ?_;erw[aF,aL,aG,bb,Ğ]
 delta aH dY;rw[e1,cZ]
def Z7 (h:w="made"\/w="mended"):¬ w="surely"/\¬ w="where"/\¬ (w="undo"\/w="book")/\¬ w="out":=by
 rcases h with rfl|rfl<;>decide +kernel
def Z8 (G:Ds s a d b aP book) (ep:tH [.lst (r.map D.str)] s=ok p.d s):ifs (dE a x (("out")::r)) s=ai (pE [.au d,p.d] s) λ_ s=>ok (.nx (dE a x (("out")::r))) s:=by
 delta ifs;rw[uF ((eX oV).trans (by rw[Ê nofun])),EO ((eX oV).trans (by rw[Ä rfl]))];delta cP;rw[p6 G.di.ha (by rfl) (Au G.hd) (agU (by
  rw[aF,wp_call,aF,AI];erw[aG,bb,Am];refine agT (rfl) (agT NN ?_);rw[aL];refine agT ep ?_;rw[aL];exact⟨rfl,rfl⟩))]
def Met (x:Str) (a:Nat) (s:ag) (v:D) (s':ag):Prop:=(∃y,v=gH y/\à y=ό/\nU [.au a,.str x] s=ok (.str y) s')\/∃k n,(k,n)∈iU/\v=fe n/\nU [.au a,.str x] s=ϊ (.error ⟨k,ϋ⟩,s')
def zI (hl:x.length<=1000) (hk:à x=ό) (hb:bs x=ws) (hr:oT ws=ό):aR (dY nT (ae (aa 1) ah)) (gN 2) [ϊ (.au a),ϊ (.str x),ϋ] s=ok (.nx (dE a x ws)) s:=acm (by rw[Yq hl hk,hb,Ö hr])
def Du (hw:aR (dY nT (ae (aa 1) ah)) (gN 2) [ϊ (.au a),ϊ (.str x),ϋ] s=ok (.nx (dE a x ws)) s) {r:Res D} (hi:ifs (dE a x ws) s=ai r λ_ s=>ok (.nx (dE a x ws)) s):(r=ok .az s'->Met x a s (gH "ok") s')/\∀k n,(k,n)∈iU->r=ϊ (.error ⟨k,ϋ⟩,s')->Met x a s (fe n) s':=by
 refine⟨λe=>.inl ⟨_,rfl,by decide +kernel,?_⟩,λk n Z e=>.inr ⟨k,n,Z,rfl,?_⟩⟩
 ·refine P9 (env:=[ϊ _,ϊ _,ϋ]) rfl rfl ?_
  rw[iz hw,iz (hi.trans (by rw[e];rfl))];rfl
 ·refine Qa (env:=[ϊ _,ϊ _,ϋ]) rfl rfl ?_
  rw[iz hw,j7 (hi.trans (by rw[e];rfl))]
def Z9 (hw:aR (dY nT (ae (aa 1) ah)) (gN 2) [ϊ (.au a),ϊ (.str x),ϋ] s=ok (.nx (dE a x ws)) s) {r} {v} (hi:ifs (dE a x ws) s=ai r λd s=>ok (.rt d) s) (h:ye r s v):∃c,Met x a s v (s++c):=by
 rcases h with ⟨y,c,Z,Y,e⟩ | ⟨k,n,X,Z,e⟩
 ·refine⟨c,.inl ⟨y,Z,Y,?_⟩⟩
  refine P9 (env:=[ϊ _,ϊ _,ϋ]) rfl rfl ?_;rw[iz hw,ack (hi.trans (by rw[e];rfl))]
 ·refine⟨[],.inr ⟨k,n,X,Z,?_⟩⟩
  rw[ú];refine Qa (env:=[ϊ _,ϊ _,ϋ]) rfl rfl ?_;rw[iz hw,j7 (hi.trans (by rw[e];rfl))]
def aaa (G:Ds s a d b aP book) {q} (hq:mY q):∃c,Met (ju q) a s (yf book q) (s++c):=by
 have Y:=MC G.di.last.laid.pg;have Z:book.length<=1000:=by have:=G.di.last.len;omega
 obtain⟨X,W⟩:=acj hq;have hw:=zI (a:=a) (s:=s) X W (OX hq) (Z2 hq);refine Z9 hw ?_ (Z5 hq Z Y G.di.last.book)
 cases q with
 |book=>exact Eb G nofun nofun nofun
 |ie m d=>exact Eb G nofun nofun nofun
 |i7 a b=>exact Eb G nofun nofun nofun
def MK (G:Ds s a d b aP book) (hl:x.length<=1000) (hk:à x=ό) (hb:bs x=w::r) (hw:w="made"\/w="mended") (hp:iw (w::r)=ό):(pF [.au d,(oU (w::r)).d] s=ok .az s'->Met x a s (gH "ok") s')/\∀k n,(k,n)∈iU->pF [.au d,(oU (w::r)).d] s=ϊ (.error ⟨k,ϋ⟩,s')->Met x a s (fe n) s':=by
 have Z:=λz Y=>Ø (wg (show z∈bs x by rw[hb];exact Y)) hl;obtain⟨X,W,V,U⟩:=Z7 hw;have T:oT (w::r)=ό:=by
  show (if w="out" then _ else _)=ό
  rw[Ý U,Ý X,Ý W,Ý V];exact hp
 obtain⟨p,R,rfl,S⟩:=zw Z hp;exact Du (zI hl hk hb T) (Yu G hw (S s))
def NW (G:Ds s a d b aP book) (hl:x.length<=1000) (hk:à x=ό) (hb:bs x=("out":Str)::r) (hp:iw r=ό):(pE [.au d,(oU r).d] s=ok .az s'->Met x a s (gH "ok") s')/\∀k n,(k,n)∈iU->pE [.au d,(oU r).d] s=ϊ (.error ⟨k,ϋ⟩,s')->Met x a s (fe n) s':=by
 have Z:=λz Y=>Ø (wg (show z∈bs x by rw[hb];exact É _ Y)) hl;obtain⟨p,W,rfl,X⟩:=zw Z hp;exact Du (zI hl hk hb (by exact hp)) (Z8 G (X s))
def ML (G:Ds s a d b aP book):(vN [.au d] s=ok .az s'->Met "undo" a s (gH "ok") s')/\∀k n,(k,n)∈iU->vN [.au d] s=ϊ (.error ⟨k,ϋ⟩,s')->Met "undo" a s (fe n) s':=by
 refine Du (ws:=["undo"]) (zI nofun nofun nofun nofun) ?_;delta ifs;rw[EO ((eX oV).trans (by rw[Ä rfl]))];delta cP;rw[p6 G.di.ha (by rfl) (Au G.hd) rfl]
def Sb:Dd->Pg->Str
 | .tell,p=>fx p
 | .jc,p=>"out "++fx p
 | .iI,_=>"undo"
def u6 (v:D):D:=if beq v jt=ό then gH "ok" else v
def aia:u6 (fe i)=fe i:=Ý (by
 exact Ú)
def aib:u6 jt=gH "ok":=Ö nofun
def Yv (G:Ds s a d b aP book) (hp:cF p=ό) (w):Met (Sb w p) a s (u6 (gG aP book w p).2) (s.set b (.lst ((gG aP book w p).1.map bD))):=by
 have same:=Ym G.di.hb;have X:=oq hp;obtain⟨W,Y⟩:=Ys X;have ln:=tQ X;have lk:=MJ X
 cases w with
 |iI =>
  have e:=ZT G.di;delta gG;dsimp only;split
  ·rename_i Z
   rw[Ö Z] at e;rw[same];exact(ML G).2 _ 14 (by simp[iU]) e
  ·rename_i Z
   rw[Ý Z] at e;exact(ML G).1 e
 |tell =>
  have e:=ZS G.di hp;rw[<- Y] at e
  have hw:jM p="made"\/jM p="mended":=by cases p<;>simp[jM]
  have M:=λs'=>MK (s':=s') G ⋯ lk (Vh X) hw W;delta gG;dsimp only;split
  ·rename_i Z
   rw[Ö (by rw[Y];exact Z)] at e;refine(M _).1 (e.trans ?_);rw[Y]
  ·rename_i Z
   rw[Ý (by rw[Y];exact Z)] at e;rw[same];exact(M _).2 _ 13 (by simp[iU]) e
 |jc =>
  have e:=WC G.di hp;rw[<- Y] at e;have M:=λs'=>NW (s':=s') G (by rw[cw];show 4 + _<=1000;omega) (fM nofun lk) (aci X) W;delta gG;dsimp only;split
  ·rename_i Z
   rw[Ö (by rw[Y];exact Z)] at e;refine(M _).1 (e.trans ?_);rw[Y]
  ·rename_i Z
   rw[Ý (by rw[Y];exact Z)] at e;rw[same];exact(M _).2 _ 13 (by simp[iU]) e
def xw:List Str:=["made 4 0 -/-","made 0 31 -/-","made 0 0 8/-","made 0 0 10/-","made 0 0 1/1","mended 0 0 8","mended 0 "++Txt.mul "9" 30++" 1","made 0 0 "++Txt.mul "1" 30++"/-","mended 9 9 9","made 0 0 -/00"]
noncomputable def Gy:List Str:=xw.map (λx=>("":Str)++x)++xw.map λx=>("out ":Str)++x
def Q2 (x:Str):Bool:=ώ (x.length<=1000)&&(à x&&match bs x with
 | []=>ύ
 |w::r=>if w="out" then iw r&&!cF (oU r) else (ώ (w="made")||ώ (w="mended"))&&(iw (w::r)&&!cF (oU (w::r))))
def aab:Gy.all Q2=ό:=nofun
def aac (G:Ds s a d b aP book) (hx:x∈Gy):Met x a s (fe 2) s:=by
 have h:=Ü.mp aab x hx;delta Q2 at h;rw[Â,Â,Ã] at h;obtain⟨X,U,Z⟩:=h
 cases Y:bs x with
 |nil=>rw[Y] at Z;cases Z
 |cons w r =>
  have T:=λz W=>Ø (wg (show z∈bs x by rw[Y];exact W)) X;rw[Y] at Z;dsimp only at Z;by_cases hw:w="out"
  ·subst hw
   rw[Ö rfl,Â,û] at Z;obtain⟨p,V,e,-⟩:=zw (λz W=>T z (É _ W)) Z.1;exact(NW G X U Y Z.1).2 _ 2 (by simp[iU]) (WK (e ▸ V) Z.2)
  ·rw[Ý hw,Â,Â,û,Ť,Ã,Ã] at Z
   obtain⟨p,V,e,-⟩:=zw T Z.2.1;exact(MK G X U Y Z.1 Z.2.1).2 _ 2 (by simp[iU]) (Z6 (e ▸ V) Z.2.2)
def Vn:∃c,rJ "Desk" vV env s=ok (.au s.length) (s++c)/\∃d b,Ds (s++c) s.length d b [] []/\s.length<=b:=by
 have e:vV [.au s.length] (s++[.ins "Desk" []])=ok .az (s++[.ins "Desk" [("diary",.au (s.length+1))],.ins "Diary" [("books",.au (s.length+2))],.lst [.tup []]]):=by
  delta vV aO;show ai (rH _ _ _ _ [ϊ (.au s.length)] (s++[.ins "Desk" []])) _=_;delta rH;have Z:=ab7 (env:=[ϊ (.au s.length)]) (s:=s++[.ins "Desk" []]);rw[show (s++[Cell.ins "Desk" []]).length=s.length+1 by simp] at Z;rw[Z,cZ];show ai (ai (ok (D.au s.length) _) _) _=_;rw[cZ];have e2:jQ "Desk" (.au s.length) (s++[.ins "Desk" []]++[.ins "Diary" [("books",.au (s.length+1+1))],.lst [.tup []]])=ϊ (s.length,[]):=by
   delta jQ;dsimp only;rw[ġ,ô (agW _),Nat.sub_self];rw[ď,List.getElem?_cons_zero];dsimp only;rw[Ö (Ä rfl)]
  rw[e2];dsimp only;rw[Ö (by decide)];have Y:∀(x y z u:Cell),List.set (s++[x]++[y,z]) s.length u=s++[u,y,z]:=λx y z u=>by simp
  rw[Y];rfl
 refine⟨[.ins "Desk" [("diary",.au (s.length+1))],.ins "Diary" [("books",.au (s.length+2))],.lst [.tup []]],?_,s.length+1,s.length+2,⟨by simp,?_⟩,by omega⟩
 ·delta rJ
  rw[e];rfl
 ·refine⟨by simp,by simp,by decide,λps X=>?_⟩
  have:ps=[]:=by simpa using X
  subst this;exact Bk.nil
variable {f g:agS D} {fa:agS (List D)}
def adT (hd:s[a]?=ϊ (.ins "Desk" [("diary",.au d)])) (he:f env s=ok (.au a) s) (hf:fa env s=ok ds s):fP "Desk" "say" fn f fa env s=fn (.au a::ds) s:=by
 have e:jQ "Desk" (.au a) s=ϊ (a,([("diary",.au d)]:List (Str×D))):=by
  delta jQ;dsimp only;rw[hd];dsimp only;rw[Ö (Ä rfl)]
 delta fP;rw[he,cZ,e];dsimp only;rw[Ö (by rfl),hf,cZ]
def NX {fb} {r} (h0:s[0]?=ϊ (.tb "law")) (ht:mU env caps=ϊ ds) (h:iP .az (fb (ds.map ϊ)) [.az] s=ok r s'):oQ "law" caps fb iP env s=ok r s':=by
 delta oQ;rw[ht];rw[h0];dsimp only;rw[h];rfl
def NY (h0:s[0]?=ϊ (.tb "law")) (ht:mU env caps=ϊ ds) (hd:s[a]?=ϊ (.ins "Desk" [("diary",.au d)])) (he:f (ds.map ϊ) s=ok (.au a) s) (hf:fa (ds.map ϊ) s=ok [.str x] s) (h:Met x a s v s'):oQ "law" caps (fP "Desk" "say" nU f fa) iP env s=ok v s':=by
 have em:=adT (fn:=nU) hd he hf
 rcases h with ⟨y,rfl,-,e⟩ | ⟨k,n,Z,rfl,e⟩
 ·exact NX h0 ht (EF (em.trans e))
 ·refine NX h0 ht (iy ?_ (em.trans e))
  erw[iU,Ñ,ü,or_false,Prod.mk.injEq] at Z
  rcases Z with ⟨rfl,rfl⟩ | ⟨rfl,rfl⟩ | ⟨rfl,rfl⟩ | ⟨rfl,rfl⟩ | ⟨rfl,rfl⟩ | ⟨rfl,rfl⟩<;>simp
def O0 (h:Met x a s1 v s2):cX v v s=ok (.bl ύ) s:=by
 have Z:à "told"=ό:=nofun
 have Y:à "refused"=ό:=nofun
 delta cX jf
 rcases h with ⟨y,rfl,X,-⟩ | ⟨k,n,W,rfl,-⟩
 ·rw[show res _ s=gH y from rfl,Ý (by simp[nM]),Ö (by simp[lay,dA,Z,X,dep,fE])]
  have:beq (gH y) (gH y)=ό:=by
   show (beq (.str "told") (.str "told")&&(beq _ _&&ό))=ό;rw[show beq (.str y) (.str y)=ό from Ä rfl];rfl
  rw[this];rfl
 ·rw[show res _ s=fe n from rfl,Ý (by simp[nM]),Ö (by simp[lay,dA,Y,dep,fE])]
  have:beq (fe n) (fe n)=ό:=by
   show (beq (.str "refused") (.str "refused")&&((n==n)&&ό))=ό;rw[ę];rfl
  rw[this];rfl
end
section
variable {s s':ag} {env:Env} {x y z:Str} {k:Nat} {book:List Pg} {aP:List (List Pg)} {p:Pg}
def aad:(mw.all λi=>ώ (0<=i)&&ώ (i.natAbs.log2<1920))=ό:=nofun
def FG (h:i∈mw):0<=i/\i.natAbs.log2<1920:=by
 have:=Ü.mp aad i h;rw[Â,Ã,Ã] at this;exact this
def O1 (h:i∈mw):iH [.int i] s=ok (.str (num i)) s:=by
 show (if ώ _=ό then ok _ s else ϋ)=_
 rw[Ö (Ä (FG h).2)]
def Av (h0:0<=i) (h1:i<32):i∈mw:=ï _ (é.mpr ⟨i.toNat,î.mpr ⋯,by omega⟩)
def adU:pU (.int 10) (.int 29) s=ok (.int (10 ^ 29)) s:=by
 have e:AY (.int 10) (.int 29)=ϊ (.int (10 ^ 29)):=by
  show (if (ώ ((0)<=29)&&ώ ((29)<=1000000)&&ώ ((10:Int).natAbs<2 ^ 64))=ό then ϊ _ else ϋ)=_
  rfl
 erw[pU,e,bW]
def Yw (r0:0<=r) (r1:r<8) (t0:0<=t) (t1:t<4):Wp (oB (.int r) (.int 3) s) λq s'=>s'=s/\∃m∈mw,ar (.lst [.int t,.int 4,.int (10 ^ 29)]) q s=ok (.int m) s:=by
 have a1:=Av t0 ⋯;have a2:(4)∈mw:=Av (by decide) (by decide);have Z:(10 ^ 29)∈mw:=Î _ (Ē.mpr rfl)
 rcases(show r=0\/r=1\/r=2\/r=3\/r=4\/r=5\/r=6\/r=7 by omega) with rfl|rfl|rfl|rfl|rfl|rfl|rfl|rfl
 ·exact⟨_,_,rfl,rfl,_,a1,rfl⟩
 ·exact⟨_,_,rfl,rfl,_,a1,rfl⟩
 ·exact⟨_,_,rfl,rfl,_,a1,rfl⟩
 ·exact⟨_,_,rfl,rfl,_,a2,rfl⟩
 ·exact⟨_,_,rfl,rfl,_,a2,rfl⟩
 ·exact⟨_,_,rfl,rfl,_,a2,rfl⟩
 ·exact⟨_,_,rfl,rfl,_,Z,rfl⟩
 ·exact⟨_,_,rfl,rfl,_,Z,rfl⟩
def acn (r0:0<=r) (r1:r<8) (t0:0<=t) (t1:t<31):Wp (oB (.int r) (.int 7) s) λq s'=>s'=s/\∃m∈mw,ar (.lst [.int t,.int 31]) q s=ok (.int m) s:=by
 have a1:=Av t0 ⋯;have a2:(31)∈mw:=Av (by decide) (by decide);by_cases h:r=7
 ·subst h
  exact⟨_,_,rfl,rfl,_,a2,rfl⟩
 ·rcases(show r=0\/r=1\/r=2\/r=3\/r=4\/r=5\/r=6 by omega) with rfl|rfl|rfl|rfl|rfl|rfl|rfl<;>exact⟨_,_,rfl,rfl,_,a1,rfl⟩
def aae (h:Sf s k):Wp (DR [.au k] s) λv s'=>∃q,mY q/\v=.tup [.str (ju q),yd q]/\Sf s' k/\Ex k s s':=by
 refine cT.symm ▸ ⟨rfl,agV λR Y=>?_⟩;show Wp (aR _ _ [ϊ _,ϋ,ϋ,ϋ,ϋ] s) _;erw[cq,bp,ic,aF,aL,wp_call,aG,bh];refine(fO h (by decide) (by decide)).mono λv s1 Z=>?_;obtain⟨t,rfl,t0,t1,B,A⟩:=Z;refine agT adU ⟨le_size (n:=3) (by decide),?_⟩;refine(fO B (by decide) (by decide)).mono λv s2 Z=>?_;obtain⟨r,rfl,X,W,z,y⟩:=Z;refine(Yw X W t0 t1).mono λv w Z=>?_;obtain⟨rfl,m,T,e⟩:=Z;refine agT e ?_;rw[cQ];show eU R _ (.nx [ϊ _,ϊ _,ϋ,ϋ,ϋ]) w;subst Y;clear X W t0 t1;refine agV λR Y=>?_;erw[cq,bp,ic,aF,aL,wp_call,aG,bh];refine(fO z (by decide) (by decide)).mono λv s4 Z=>?_;obtain⟨t,rfl,t0,t1,u,p⟩:=Z;refine⟨le_size (n:=2) (by decide),?_⟩;refine(fO u (by decide) (by decide)).mono λv s5 Z=>?_;obtain⟨r,rfl,X,W,o,l⟩:=Z;refine(acn X W t0 t1).mono λv j Z=>?_;obtain⟨rfl,d,Z,e⟩:=Z;refine agT e ?_;rw[cQ];show eU R _ (.nx [ϊ _,ϊ _,ϊ _,ϋ,ϋ]) j;subst Y;clear X W t0 t1;refine agV λR Y=>?_;erw[cq,bp,ic,cW,aF,aL,wp_call,aG,bh];refine(D7 o).mono λv s7 S=>?_;obtain⟨a1,H,rfl,G,F,Q,i,g⟩:=S;refine(D7 i).mono λv s8 P=>?_;obtain⟨a2,E,rfl,D,C,O,f,c⟩:=P;refine⟨le_size (by decide),le_size (by decide),le_size (by decide),le_size (by decide),le_size (by decide),le_size (by decide),le_size (by decide),le_size (by decide),le_size (by decide),le_size (n:=5) (by decide),?_⟩;refine(fO f (by decide) (by decide)).mono λv N M=>?_;obtain⟨r,rfl,X,W,h9,x9⟩:=M;have es:∃a b,mY (.i7 a b)/\ar (.lst [gy a1 H,gy a2 E,gy [8] [],gy [0] [0],gy [1,0] []]) (.int r) N=ok (gy a b) N:=by
  have V:Mg [8]/\Mg []/\Mg [0]/\Mg [1,0]:=by delta Mg;decide
  rcases(show r=0\/r=1\/r=2\/r=3\/r=4 by omega) with rfl|rfl|rfl|rfl|rfl
  ·exact⟨a1,H,⟨⟨kK G,kK F⟩,.inl ⟨G,F,Q⟩⟩,rfl⟩
  ·exact⟨a2,E,⟨⟨kK D,kK C⟩,.inl ⟨D,C,O⟩⟩,rfl⟩
  ·exact⟨_,_,⟨⟨V.1,V.2.1⟩,.inr (by decide)⟩,rfl⟩
  ·exact⟨_,_,⟨⟨V.2.2.1,V.2.2.1⟩,.inr (by decide)⟩,rfl⟩
  ·exact⟨_,_,⟨⟨V.2.2.2,V.2.1⟩,.inr (by decide)⟩,rfl⟩
 obtain⟨a,b,U,e⟩:=es;refine agT e ?_;rw[cQ];show eU R _ (.nx [ϊ _,ϊ _,ϊ _,ϊ _,ϋ]) N;subst Y;refine agV λR Y=>?_;erw[cq,aF,aL,wp_call,aG,bh];refine(fO h9 (by decide) (by decide)).mono λv L K=>?_;obtain⟨r,rfl,X,W,J,I⟩:=K;have x:=((((((A.trans y).trans p).trans l).trans g).trans c).trans x9).trans I;rw[cQ];show eU R _ (.nx [ϊ _,ϊ _,ϊ _,ϊ _,ϊ _]) L;subst Y;refine agV λR Y=>fq (cG (two rfl rfl (agU (by rw[pR];exact⟨rfl,rfl⟩)))) ?_;split
 ·exact agT (rfl) ⟨.book,trivial,rfl,J,x⟩
 rw[cK];subst Y;refine agV λR Y=>fq (cG (two rfl rfl (agU (by rw[pR];exact⟨rfl,rfl⟩)))) ?_;split
 ·have l1:=(xt T).vF.2.1
  have l2:=(xt Z).vF.2.1;erw[bN,cW,aF,aL,bp,dq,aG,bb,bh];refine agT (O1 T) (agT (fS (show 7 + _<=_ by omega)) (agT (fS (by rw[cw];show 7 + _ + 1<=_;omega)) (agT (O1 Z) (agT (fS (by rw[cw,cw];show 7 + _ + 1 + _<=_;omega)) ⟨le_size (n:=2) (by decide),le_size (n:=2) (by decide),?_⟩))));exact⟨.ie m d,⟨⟨(FG T).1,xt T⟩,(FG Z).1,xt Z⟩,rfl,J,x⟩
 rw[cK,cx];subst Y;have l1:(cH a++"/"++cH b).length<=19:=EN U.1.1 U.1.2;erw[bN,cW,aF,aL,bp,wp_call,aG,bb,bh];refine agT (BR U.1.1 U.1.2) (agT (fS (show 6 + _<=_ by omega)) ⟨le_size (n:=2) (by decide),?_⟩);exact⟨_,U,rfl,J,x⟩
def Q3 (h:MulOk x n):pP (.str x) (.int n) s=ok (.str (Txt.mul x n)) s:=by
 delta pP;dsimp only;rw[Ö h]
def Qc:MulOk "9" 30/\MulOk "1" 30:=by
 delta MulOk;decide +kernel
def aco (r0:0<=r) (r1:r<2):∃x:Str,(x=""\/x="out ")/\ar (.lst [.str "",.str "out "]) (.int r) s=ok (.str x) s:=by
 rcases(show r=0\/r=1 by omega) with rfl|rfl
 ·exact⟨_,.inl rfl,rfl⟩
 ·exact⟨_,.inr rfl,rfl⟩
def aaf:(xw.all λx=>ώ (x.length<=1000))=ό:=nofun
def adV (aP:List (List Pg)) (book:List Pg) (x:Str) (B:List (List Pg)) (v:D):Prop:=(x∈Gy/\B=aP++[book]/\v=fe 2)\/∃w p,cF p=ό/\x=Sb w p/\B=(gG aP book w p).1/\v=(gG aP book w p).2
def Yx (h:Sf s k) (hb:∀ps∈aP++[book],Bk ps) (hl:aP.length<=500):Wp (Cy [.au k,.lst ((aP++[book]).map bD)] s) λv s'=>∃x B u,v=.tup [.str x,.tup [.lst (B.map bD),u]]/\adV aP book x B u/\Sf s' k/\Ex k s s':=by
 have O:=hb book ∅;refine cT.symm ▸ ⟨rfl,agV λR X=>?_⟩;show Wp (aR _ _ [ϊ _,ϊ _,ϋ,ϋ,ϋ,ϋ] s) _;rw[cq,wp_call,aF,aG,aF,bp];erw[aG,bb,oF,bh];refine agT A8 (agT z3 ?_);rw[aL];refine(ZW h O.laid.pg O.len).mono λv g Z=>?_;obtain⟨w,p,rfl,W,J,I⟩:=Z;refine⟨[ϊ _,ϊ _,ϊ _,ϊ _,ϋ,ϋ],rfl,?_⟩;subst X;refine agV λR X=>?_;rw[gX,dZ,bp,wp_call];erw[aF,aL,aG,bh];refine(fO J (by decide) (by decide)).mono λv Y Z=>?_;obtain⟨r,rfl,N,M,L,H⟩:=Z;have x:=I.trans H;rw[pR,cj];split
 ·refine agV λT V=>agT (rfl) ?_
  subst V;have G:aR (e2 bK (aa 4) (cy (ae (e2 bK (e2 bK (eC (.str "mended 0 ")) (e2 pP (eC _) (eC _))) (eC (.str " 1"))) (ae (e2 bK (e2 bK (eC (.str "made 0 0 ")) (e2 pP (eC _) (eC _))) (eC (.str "/-"))) (ae (eC (.str "mended 9 9 9")) (ae (eC (.str "made 0 0 -/00")) ah)))))) (gN 4) [ϊ _,ϊ _,ϊ _,ϊ _,ϊ (.lst ((xw.take 6).map D.str)),ϋ] Y=ok (.nx [ϊ (.au k),ϊ (.lst ((aP++[book]).map bD)),ϊ (.str w.w),ϊ p.d,ϊ _,ϋ]) Y:=agU (by
   have f:(Txt.mul "9" 30).length<=100/\(Txt.mul "1" 30).length<=100:=nofun
   erw[cq,bp,ic,aF,aL,aG,bb,bh];refine agT (Q3 Qc.1) (agT (fS (show 9 + _<=_ by omega)) (agT (fS (by rw[cw];show 9 + _ + 2<=_;omega)) (agT (Q3 Qc.2) (agT (fS (show 9 + _<=_ by omega)) (agT (fS (by rw[cw];show 9 + _ + 2<=_;omega)) ⟨le_size (by decide),?_⟩)))));refine agT (A7 (by decide)) ?_;rw[cQ];exact⟨rfl,rfl⟩)
  refine agV λT V=>agT G ?_;subst V;refine agV λT V=>?_;erw[cq,bp,wp_call,aF,aL,aG,bb,bh];refine(fO L (by decide) (by decide)).mono λv S Z=>?_;obtain⟨r,rfl,N,M,F,E⟩:=Z;obtain⟨y,C,e⟩:=FE (ds:=xw.map _) N M;obtain⟨z,P,rfl⟩:=é.mp C;refine agT e ?_;rw[cQ];show eU T _ (.nx [ϊ _,ϊ _,ϊ _,ϊ _,ϊ _,ϊ _]) S;rw[cx];subst V;have c:=ß (Ü.mp aaf z P);erw[bN,cW,ic,bp,wp_call,aF,aL,aG,bb,bh];refine⟨le_size (by decide),?_⟩;refine(fO F (by decide) (by decide)).mono λv b Z=>?_;obtain⟨t,rfl,t0,t1,A,o⟩:=Z;obtain⟨u,K,e⟩:=aco t0 t1;refine agT e ?_
  have a:u.length<=4:=by rcases K with rfl|rfl<;>decide
  refine agT (fS ⋯) ⟨le_size (by decide),le_size (n:=2) (by decide),le_size (n:=2) (by decide),?_⟩;refine⟨_,_,_,rfl,.inl ⟨?_,rfl,rfl⟩,A,(x.trans E).trans o⟩
  rcases K with rfl|rfl
  ·exact ï _ (é.mpr ⟨z,P,rfl⟩)
  ·exact Î _ (é.mpr ⟨z,P,rfl⟩)
 rw[cK];subst X;have go:∀{x} {Q:D->ag->Prop} {e} {env},e env Y=ok (.str x) Y->env=[ϊ (.au k),ϊ (.lst ((aP++[book]).map bD)),ϊ (.str w.w),ϊ p.d,ϋ,ϋ]->(∀s',Kp Y s'->Q _ s')->Wp (bc (ae e (ae (aB wx (ae (aa 1) (ae (aa 2) (ae (aa 3) ah)))) ah)) env Y) Q:=λm l q=>by
  rw[cW,aF];refine agT m ?_;subst l;erw[aF,wp_call,aL,aG,bb];refine(step_eq hb hl W).mono λv S Z=>?_;obtain⟨rfl,kp⟩:=Z;exact⟨le_size (n:=2) (by decide),q S kp⟩
 have fin:∀s',Kp Y s'->Sf s' k/\Ex k s s':=λs' kp=>⟨kp.sf L,x.trans ⟨kp.1,λi j _=>kp.2 i j⟩⟩;refine agV λR X=>fq (cG (two rfl rfl (xr (v:=.iI)))) ?_
 cases w with
 |iI =>
  rw[bN];exact go rfl rfl λs' kp=>⟨_,_,_,rfl,.inr ⟨_,p,W,rfl,rfl,rfl⟩,fin s' kp⟩
 |tell =>
  rw[Ý (show ¬ Dd.same .tell .iI=ό from Ú),cK,cx];subst X;rw[bN];refine go (x:=fx p) (agU ?_) rfl λs' kp=>⟨_,_,_,rfl,.inr ⟨_,p,W,rfl,rfl,rfl⟩,fin s' kp⟩;have U:=oq W;have ln:=tQ U;erw[bp,ic,dq,aF,aL,wp_call,aG,bb,bh];refine⟨le_size (by decide),agT (xr (v:=.jc)) (agT (rfl) (agT (rfl) (agT (D5 U) (agT (fS (show 0 + _<=_ by omega)) ⟨by rw[show ("")++fx p=fx p from zX (by rw[mP];rfl)],rfl⟩))))⟩
 |jc =>
  rw[Ý (show ¬ Dd.same .jc .iI=ό from Ú),cK,cx];subst X;rw[bN];refine go (agU ?_) rfl λs' kp=>⟨_,_,_,rfl,.inr ⟨_,p,W,rfl,rfl,rfl⟩,fin s' kp⟩;have U:=oq W;have ln:=tQ U;erw[bp,ic,dq,aF,aL,wp_call,aG,bb,bh];refine⟨le_size (by decide),agT (xr (v:=.jc)) (agT (rfl) (agT (rfl) (agT (D5 U) (agT (fS (show 4 + _<=_ by omega)) ⟨rfl,rfl⟩))))⟩
end
section
variable {s s':ag} {env:Env} {x y z:Str} {ps:List Pg} {a b:List Int} {m d:Int} {q:Ask} {f g:agS D}
def afn (h:sg x=c0::c1::c2::c3::c4::c5::c6::r):oR 1 x ϋ (ϊ 6)=⟨#[c0,c1,c2,c3,c4,c5]⟩:=by
 have Z:x.length=r.length+7:=by rw[oo,h];rfl
 have Y:ε ϋ (ϊ 6) 1 x.length=[0,1,2,3,4,5]:=by
  show sliceRange 0 (if (1) > 0 then max 0 _ else _) 1=_
  rw[Ö (by decide),Ý (by decide),show max (0:Int) _=6 by omega];decide +kernel
 have X:∀i,x.cps[i]?=(c0::c1::c2::c3::c4::c5::c6::r)[i]?:=λi=>by rw[<- h,ĸ]
 delta oR;rw[Y,Ý (by simp[Z])];simp[X]
def O2 (he:f env s=ok (.str x) s) (h:sg x=c0::c1::c2::c3::c4::c5::c6::r):A4 f mi (lV (eC (.int 6))) env s=ok (.str ⟨#[c0,c1,c2,c3,c4,c5]⟩) s:=by
 delta A4;rw[he,cZ];show yR (.str x) ϋ _ s=_;delta yR;dsimp only;rw[afn h];exact Ö (Ä (le_size (n:=6) (by decide)))
def adW {x y} {b} (e:aX x y s=ok (.bl b) s):cX x y s=ok (.bl (!b)) s:=by
 delta aX at e;delta cX
 cases h:jf _ _ with
 |none=>rw[h] at e;cases e
 |some c =>
  rw[h] at e
  injection e with e
  injection e with e1 _
  injection e1 with e1
  injection e1 with e1
  rw[e1]
def acp:cz (gy a b) (.lst (rY.map λp=>gy p.1 p.2)) s=ok (.bl (ώ ((a,b)∈rY))) s:=by
 have e:inD (gy a b) (rY.map λp=>gy p.1 p.2)=ϊ (ώ ((a,b)∈rY)):=by
  delta inD;rw[Ö (by
   have X:lay (gy a b)=ό:=by erw[lay,DI.dA,qN,Ĥ]
   delta mS;rw[X,Ä (?_)]
   ·rfl
   ·have:=wQ (.made 0 0 a b)
    simp[Pg.d,dep,fE,ti] at this |-;omega),List.any_map]
  congr 1;rw[Ġ,Ã,Ŭ];constructor
  ·rintro ⟨⟨u,v⟩,Z,W⟩
   have:eqB (.made 0 0 u v) (.made 0 0 a b)=ό:=by
    have Y:=W;simp[eqB,Pg.d,ti,beq,jo,tD] at Y |-;exact Y
   cases eqB_iff.mp this;exact Z
  ·intro Z
   refine⟨_,Z,?_⟩;simp[beq,jo,tD]
 delta cz;rw[show lS _ s=ϊ _ from rfl];erw[e];rfl
abbrev BI (ps:List Pg) (q:Ask) (e4:Option D):Env:=[ϊ (bD ps),ϊ (.tup [.str (ju q),yd q]),ϊ (.str (ju q)),ϊ (yd q),e4]
def MM (hq:mY q) (h:(kT q).length≠1):ju q≠"book":=λe=>by
 have:=ı bs e;rw[OX hq] at this;exact h (by rw[this];decide +kernel)
def aag (h:rZ D0) (he:env=[ϊ D0]):fI iB (eC (.str ",")) (b9 1 [] (cA (aa 0)) (gN 0) cB (eB iH (ae (aa 0) ah))) env s=ok (.str (pT D0)) s:=by
 obtain⟨a,b,c,rfl,Y,X,W⟩:=h;subst he;have V:=iO Y.1 Y.2;have U:=iO X.1 X.2;have lc:=iO W.1 W.2;have mem:∀i∈[a,b,c],(0)<=i/\i<1000/\(num i).length<=2:=λi Z=>by
  erw[Ñ,ü,or_false] at Z
  rcases Z with rfl|rfl|rfl
  ·exact⟨Y.1,by omega,V⟩
  ·exact⟨X.1,by omega,U⟩
  ·exact⟨W.1,by omega,lc⟩
 refine agU ?_;rw[rn rfl,ib];refine agT (rfl) ⟨le_size (n:=3) (by decide),?_⟩;refine agT (qO (λ_=>ό) (λi=>D.str (num i)) [a,b,c] λi Z=>⟨_,rfl,rfl,λ_=>agU ?_⟩) ?_
 ·exact agT (uk (mem i Z).1 (mem i Z).2.1) ⟨rfl,rfl⟩
 have T:=AK (s:=s) (y:=",") (zs:=[a,b,c].map num) (by decide) (show 3<=1000 by decide) λz S=>by
  obtain⟨i,Z,rfl⟩:=é.mp S;have:=(mem i Z).2.2;omega
 refine agT T ⟨?_,rfl⟩;show D.str (num a++","++(num b++","++num c))=D.str (num a++","++num b++","++num c);erw[Ů]
def aah (hb:Bk ps) (hq:mY q):Wp (v5 [bD ps,.tup [.str (ju q),yd q]] s) λv s'=>v=yf ps q/\Kp s s':=by
 have H:=hb.len;refine cT.symm ▸ ⟨rfl,agV λR Z=>agT (show aR _ _ _ s=ok (.nx (BI ps q ϋ)) s from rfl) ?_⟩;subst Z;refine agV λR Z=>fq (eX rfl) ?_
 cases q with
 |book =>
  erw[bN,cW,aF,aL,bh,kI,dZ,bp,aG];refine⟨le_size (by decide),agT ne_nil ?_⟩;rw[cj]
  cases P:ps.isEmpty with
  |true =>
   refine⟨le_size (by decide),?_,Kp.refl s⟩;show gH _=gH _;rw[show vH ps="-" from Ö P]
  |false =>
   rw[rn rfl];refine agT (K0 (jD rfl) ⋯ (λp h=>oq (hb.laid.pg p h)) λp h=>D5 h) ?_;refine agT (OM ⋯ λp h=>oq (hb.laid.pg p h)) ⟨le_size (n:=2) (by decide),?_,Kp.refl s⟩;show gH _=gH _;rw[show vH ps=textOf ps from Ý (by rw[P];decide)]
 |ie m d =>
  rw[Ê (MM hq (by simp[kT])),cK];subst Z;have W:sg (ju (.ie m d))=115::117::114::101::108::121::32::sg (num m++" "++num d):=by
   show sg ("surely "++num m++" "++num d)=_;rw[Ů,Ů,mP,<- Ů];rfl
  refine agV λR Z=>fq (eX (O2 rfl W)) ?_;have g1:∀e,aJ (e2 kR (e2 ar (aa 3) (eC (.int 0))) (eC (.int 3))) (BI ps (.ie m d) e) s=ok (!fN m) s:=λe=>cG (two (two rfl rfl (rfl)) rfl (agU (by
   rw[uh];refine⟨?_,rfl⟩;have:=hq.1.1;delta fN;rw[Ä this];by_cases h:m<4
   ·rw[Ä h,Ê ⋯];rfl
   ·rw[Ê h,Ä ⋯];rfl)))
  have g2:aJ (e2 kR (e2 ar (aa 3) (eC (.int 1))) (eC (.int 30))) (BI ps (.ie m d) ϋ) s=ok (!fc d) s:=cG (two (two rfl rfl (rfl)) rfl (agU (by
   rw[uh];refine⟨?_,rfl⟩;have:=hq.2.1;delta fc;rw[Ä this];by_cases h:d<31
   ·rw[Ä h,Ê ⋯];rfl
   ·rw[Ê h,Ä ⋯];rfl)))
  refine agV λL K=>fq (R8 (g1 ϋ) g2) ?_;have bad:(!fN m||!fc d)=ό->Wp _ (eU L (eU R (oS λv s'=>v=yf ps (.ie m d)/\Kp s s'))):=λX=>by
   rw[bN,cW,aF,bh,aF,kI];refine agT (g1 ϋ) ?_
   cases V:fN m with
   |false =>
    rw[Ö (by decide),bh,aL];exact⟨le_size (n:=2) (by decide),by show _=km ps m d;delta km;rw[V];rfl,Kp.refl s⟩
   |true =>
    rw[V] at X
    have Y:fc d=ύ:=by cases h:fc d<;>simp[h] at X |-
    rw[Ý (by decide),bh,aL];exact⟨le_size (n:=2) (by decide),by show _=km ps m d;delta km;rw[V,Y];rfl,Kp.refl s⟩
  cases X:(!fN m||!fc d) with
  |true =>
   exact bad X
  |false =>
   rw[Ý Ú,cK,cx];subst K
   have V:fN m=ό:=by cases h:fN m<;>simp[h] at X |-
   have Y:fc d=ό:=by cases h:fc d<;>simp[h] at X |-
   rw[bN,cW,aF,bh,aF,wp_call,aF,wp_call];erw[aF,aL,bp,aG,bb,bh];refine agT (rfl) (agT (rfl) ?_);refine(Vk ⋯).mono λv T O=>?_;obtain⟨rfl,kp⟩:=O;refine agT (BR (kK (uu _)) (kK (uu _))) ⟨le_size (n:=2) (by decide),?_,kp⟩;show _=km ps m d;delta km;rw[V,Y];rfl
 |i7 a b =>
  rw[Ê (MM hq (by simp[kT])),cK];subst Z;have W:∃c r,sg (ju (.i7 a b))=119::104::101::114::101::32::c::r:=by
   have N:1<=(sT a b).length:=by rw[cw,cw];show 1<=_ + 1 + _;omega
   rw[oo] at N
   cases U:sg (sT a b) with
   |nil=>rw[U] at N;simp at N
   |cons c r =>
    refine⟨c,r,?_⟩;show sg ("where "++sT a b)=_;rw[mP,U];rfl
  obtain⟨c,r,W⟩:=W;refine agV λR Z=>fq (eX (O2 rfl W)) ?_;rw[Ê nofun,cK];subst Z;refine agV λR Z=>fq (cG (two rfl (rfl) acp)) ?_;by_cases S:(a,b)∈rY
  ·rw[Ä S]
   refine agT (rfl) ⟨?_,Kp.refl s⟩;show fe 1=u5 ps a b;have:(rY.all λp=>!(fm p.1&&(fm p.2&&iQ p.1 p.2)))=ό:=nofun
   have h:=Ü.mp this _ S;rw[û] at h;delta u5;rw[h];rfl
  ·have Q:=hq.2.resolve_right S
   rw[Ê S,cK];subst Z;refine agV λR Z=>?_;rw[cq,ib];obtain⟨v,T,e,rfl,kp⟩:=WH (ps:=ps) ⋯ Q;have ln:=EM ps a b;refine agT (pH (agU (by
    rw[wp_call];erw[aF,aL,aG,bb];exact agT e ⟨rfl,rfl⟩))) ⟨le_size ⋯,?_⟩
   have U:=comp_map (nt:=1) (g:=gN 0) (t:=cB) (s:=T) (λd=>d) (λ_=>ό) (λd=>D.str _) (pA ps a b) λd Y=>⟨_,rfl,rfl,λ_=>aag (wW Y) rfl⟩;rw[List.map_id'] at U;refine agT U ?_;rw[filter_tt,cQ];show eU R _ (.nx (BI ps _ _)) T;rw[cx];subst Z;have O:yf ps (.i7 a b)=gH (vG (pA ps a b)):=by
    show u5 ps a b=_;delta u5;rw[Ö];rw[tw Q.a (by decide),tw Q.b (by decide),ğ,ğ];delta iQ;rw[û,š];exact λx X J=>Q.ap x X (ß J)
   rw[O];have M:=adW (NO (s:=T) (zs:=(pA ps a b).map pT) λz I=>by
    obtain⟨d,Y,rfl⟩:=é.mp I;exact(xu (wW Y)).2)
   rw[ė] at M;erw[bN,cW,ic,aF,aL,bh,kI,dZ,bp,aG,bb];refine⟨le_size (by decide),agT M ?_⟩;rw[cj];delta vG;rw[List.isEmpty_map]
   cases P:(pA ps a b).isEmpty with
   |true =>
    exact⟨le_size (by decide),rfl,kp⟩
   |false =>
    rw[rn rfl];erw[aG,bb];refine agT (Kv ⋯ λd Y=>wW Y) ⟨le_size (n:=2) (by decide),rfl,kp⟩
end
section
variable {s s':ag} {env:Env} {x y z:Str} {book kf:List Pg} {aP iV:List (List Pg)} {k a d b:Nat} {p:Pg} {w:Dd}
def Sf.exb (h:Sf s k) (x:Ex b s s') (kb:k≠b):Sf s' k:=by
 obtain⟨i,c,e,r⟩:=h;exact⟨i,c,x.get e kb,r⟩
def wB {i j:Nat} (h1:s[i]?=ϊ c1) (h2:s[j]?=ϊ c2) (h:c1=c2->False):i≠j:=λe=>by
 rw[e,h2] at h1;exact h (agX h1).symm
structure In (s:ag) (k a d b) (aP) (book):Prop where
 tb:s[0]?=ϊ (.tb "law")
 st:Sf s k
 ds:Ds s a d b aP book
 kb:k≠b
def In.draw (h:In s k a d b aP book) (x:Ex k s s') (st:Sf s' k):In s' k a d b aP book:=by
 obtain⟨i,c,e,r⟩:=id h.st;exact⟨x.get h.tb (wB h.tb e (by intro z;cases z)),st,⟨x.get h.ds.hd (wB h.ds.hd e (by intro z;cases z)),h.ds.di.ex x (wB h.ds.di.ha e (by intro z;cases z)) (ŧ h.kb)⟩,h.kb⟩
theorem In.kp (h:In s k a d b aP book) (x:Kp s s'):In s' k a d b aP book:=⟨x.get h.tb,x.sf h.st,⟨x.get h.ds.hd,h.ds.di.kp x⟩,h.kb⟩
def In.afo (h:In s k a d b aP book) (hp:cF p=ό) (hl:aP.length<500):∃i' b',(gG aP book w p).1=i'++[b']/\i'.length<=aP.length+1/\In (s.set b (.lst ((gG aP book w p).1.map bD))) k a d b i' b':=by
 obtain⟨i',b',e,Z,hb⟩:=Yl h.ds.di hp;have x:=Ex.set b s (.lst ((gG aP book w p).1.map bD));refine⟨i',b',e,Z,x.get h.tb (wB h.tb h.ds.di.hb (by intro z;cases z)),h.st.exb x h.kb,⟨x.get h.ds.hd h.ds.ne,x.get h.ds.di.ha (wB h.ds.di.ha h.ds.di.hb (by intro z;cases z)),?_,by omega,hb⟩,h.kb⟩;rw[í (Ï.mp h.ds.di.hb).1,e]
abbrev lE (sc:D) (i:Int) (k a:Nat) (B:List (List Pg)) (e5 e6 e7 e8 e9:Option D):Env:=[ϊ sc,ϊ (.int i),ϊ (.au k),ϊ (.au a),ϊ (.lst (B.map bD)),e5,e6,e7,e8,e9]
variable {sc:D} {i:Int} {e5 e6 e7 e8 e9:Option D} {Q:Fl->ag->Prop}
def MN (h:In s k a d b aP book) (hq:mY q) (ht:mU env caps=ϊ ds) (he:f (ds.map ϊ) s=ok (.au a) s) (hf:fa (ds.map ϊ) s=ok [.str (ju q)] s) (hB:env[4]?=ϊ (ϊ (.lst ((aP++[book]).map bD)))) (hg:∀s,g env s=ok (.tup [.str (ju q),yd q]) s) (hQ:∀s',In s' k a d b aP book->Q (.nx env) s'):Wp (aU (aJ (e2 cX (oQ "law" caps (fP "Desk" "say" nU f fa) iP) (aB v5 (ae (e2 ar (aa 4) (e1 jg (eC (.int 1)))) (ae g ah))))) (aH (eC (.bl ύ))) bz env s) Q:=by
 obtain⟨c,M⟩:=aaa h.ds hq;rw[gX,dZ,bp];refine agT (NY h.tb ht h.ds.hd he hf M) ?_;rw[wp_call,aF,bp];have Z:aa 4 env (s++c)=ok (.lst ((aP++[book]).map bD)) (s++c):=by delta aa;rw[hB]
 refine agT Z ?_;refine agT A8 (agT z3 ?_);rw[aF];refine agT (hg _) ?_;rw[aL];refine(aah h.ds.di.last hq).mono λv Y X=>?_;obtain⟨rfl,kp⟩:=X;refine agT (O0 M) ?_;rw[cj,cK];exact hQ Y (h.kp ((Kp.app s c).trans kp))
def acq:(gG aP book w p).2=jt\/∃j,(gG aP book w p).2=fe j:=by
 delta gG
 cases w<;>dsimp only<;>split<;>first|exact .inl rfl|exact .inr ⟨_,rfl⟩
def acr (h:v=jt\/∃j,v=fe j):aX v jt s=ok (.bl (beq v jt)) s:=by
 have Z:à "told"=ό:=nofun
 have Y:à "refused"=ό:=nofun
 delta aX jf
 rcases h with rfl | ⟨j,rfl⟩
 ·rw[show res jt s=jt from rfl,Ý (by simp[nM]),Ö (by simp[lay,dA,Z,dep,fE])]
 ·rw[show res jt s=jt from rfl,show res _ s=fe j from rfl,Ý (by simp[nM]),Ö (by simp[lay,dA,Z,Y,dep,fE])]
def Yy (h:In s k a d b aP book) (hn:aP.length<400) (hQ:∀e6 e7 e8 e9 s' iV kf,In s' k a d b iV kf->iV.length<=aP.length+1->Q (.nx (lE sc i k a (iV++[kf]) e5 e6 e7 e8 e9)) s'):Wp (OD (lE sc i k a (aP++[book]) e5 e6 e7 e8 e9) s) Q:=by
 refine agV λR Z=>?_;rw[cq,wp_call];erw[aF,aL,aG,bb];refine(Yx h.st h.ds.di.bk ⋯).mono λv V U=>?_;obtain⟨x,B,u,rfl,O,K,J⟩:=U;have Y:=h.draw J K;refine⟨_,rfl,?_⟩;subst Z;have I:u=jt\/∃j,u=fe j:=by
  rcases O with ⟨-,-,rfl⟩ | ⟨w,p,-,-,-,rfl⟩
  ·exact .inr ⟨_,rfl⟩
  ·exact acq
 have H:∃X iV kf,B=iV++[kf]/\iV.length<=aP.length+1/\In X k a d b iV kf/\Met x a V (u6 u) X:=by
  rcases O with ⟨G,rfl,rfl⟩ | ⟨w,p,N,rfl,rfl,rfl⟩
  ·exact⟨V,aP,book,rfl,by omega,Y,by exact aac Y.ds G⟩
  ·obtain⟨F,E,e,T,W⟩:=Y.afo N ⋯
   exact⟨_,F,E,e,T,W,Yv Y.ds N w⟩
 obtain⟨X,iV,kf,rfl,T,W,M⟩:=H;refine agV λR Z=>fq (cG (two rfl (rfl) (acr I))) ?_
 suffices g:eU R Q (.nx (lE sc i k a _ e5 _ (ϊ (u6 u)) e8 e9)) V by
  delta u6 at g
  cases L:beq u jt with
  |true =>
   rw[L] at g;exact agT rfl g
  |false =>
   rw[L] at g;exact agT rfl g
 subst Z;refine agV λR Z=>fq (b:=ύ) (s':=X) (agU ?_) ?_
 ·rw[dZ,bp]
  refine agT (NY Y.tb rfl Y.ds.hd rfl rfl M) ?_;refine agT (rfl) (agT (O0 M) ?_);rw[cj];exact⟨rfl,rfl⟩
 rw[cK];subst Z;refine agV λR Z=>?_;rw[cq,wp_call];erw[aF,aL,aG,bb];refine(aae W.st).mono λv y U=>?_;obtain⟨q,D,rfl,C,A⟩:=U;rw[cQ];rw[cx];subst Z;rw[jG];refine agT (fB rfl (by decide)) ?_;refine Wp.jr (λt env s'=>In s' k a d b iV kf/\∃e9,env=lE sc i k a _ e5 _ _ _ e9) _ ⟨W.draw A C,_,rfl⟩ (λt r env s' hd S=>?_) (λenv s' S=>?_)
 ·obtain⟨P,e9,rfl⟩:=S
  refine⟨_,rfl,?_⟩;exact MN P D rfl rfl rfl rfl (λ_=>rfl) λs5 z=>⟨z,_,rfl⟩
 ·obtain⟨P,e9,rfl⟩:=S
  exact hQ _ _ _ _ _ _ _ P T
def WL {c1:Nat} {ns} (g0:s[0]?=ϊ (.tb "law")) (q:∀e2 e3 e4 e5 e6 e7 e8 e9 s',s'[0]?=ϊ (.tb "law")->Q (.nx [ϊ (.cS ns),ϊ (.int c1),e2,e3,e4,e5,e6,e7,e8,e9]) s'):Wp (OE [ϊ (.cS ns),ϊ (.int c1),f2,f3,f4,f5,f6,f7,f8,f9] s) Q:=by
 refine agV λR Z=>?_;rw[cq];erw[wp_call,aF,aL,aG,bb];refine(ZO ⋯).mono λI z Y=>?_;obtain⟨rfl,X,W,rfl⟩:=Y;rw[cQ];have g1:(s++[W])[0]?=ϊ (.tb "law"):=by rw[ç (Ï.mp g0).1];exact g0
 have V:s.length<(s++[W]).length:=by simp
 subst Z;generalize s++[W]=U at X g1 V;generalize s.length=k at X V;refine agV λR Z=>?_;rw[cq,cW,aF];obtain⟨H,M,L,K,J,T⟩:=Vn;refine agT M ?_;erw[aF,aL,ic,cW];refine⟨le_size (by decide),le_size (by decide),le_size (n:=2) (by decide),lE _ c1 k _ ([]++[[]]) f5 f6 f7 f8 f9,rfl,?_⟩;subst Z;have S:Kp U (U++H):=Kp.app ..;have P:In _ k _ L K _ _:=⟨S.get g1,S.sf X,J,by omega⟩;generalize U.length=a at P;clear S J M X g1 T V;refine agV λR Z=>?_;obtain⟨v,y,e3,t,rfl,t0,t1,G,F⟩:=fO (m:=25) P.st (by decide) (by decide);rw[jG];refine agT (ZG (n:=t.toNat) (i:=t) (agU (by
  rw[aF,wp_call];erw[aF,aL,aG,bb,bh];exact agT e3 ⟨rfl,rfl⟩)) ⋯ ⋯) ?_
 refine Wp.jr (λn env s'=>∃e5 e6 e7 e8 e9 iV kf,In s' k a L K iV kf/\iV.length<=n/\env=lE _ c1 k a (iV++[kf]) e5 e6 e7 e8 e9) _ ⟨_,_,_,_,_,_,_,P.draw F G,agW 0,rfl⟩ (λn I env s' Y O=>?_) (λenv s' O=>?_)
 ·obtain⟨e5,e6,e7,e8,e9,iV,kf,N,x,rfl⟩:=O
  rw[jE] at Y;split at Y
  ·refine⟨_,rfl,?_⟩
   exact Yy N ⋯ λe6 e7 e8 e9 w E D C B=>⟨_,_,_,_,_,_,_,C,by omega,rfl⟩
  ·cases Y
 obtain⟨e5,e6,e7,e8,e9,iV,kf,N,-,rfl⟩:=O;subst Z;exact MN (q:=.book) N trivial rfl rfl rfl rfl (λ_=>rfl) λs5 A=>q _ _ _ _ _ _ _ _ _ A.tb
end
def Yz (ns) (hn:ns.length<=63):∃s,cV.Fh [.cS ns] [.tb "law"]=ϊ (.ok (.bl ό),s):=by
 suffices h:Wp (cV.Fh _ _) λd _=>d=.bl ό by
  obtain⟨d,s,e,rfl⟩:=h;exact⟨s,e⟩
 refine cT.symm ▸ ⟨rfl,agV λR O=>?_⟩;rw[jG];have Y:∃n,dH (ae (eB xc (ae (eC (.int 1)) (ae (eB xg (ae (eB eJ (ae (aa 0) ah)) (ae (eC (.int 2)) ah))) ah))) ah) [ϊ (.cS ns),ϋ,ϋ,ϋ,ϋ,ϋ,ϋ,ϋ,ϋ,ϋ] [.tb "law"]=ok (dU 0 n) [.tb "law"]:=by
  have e:∃n:Nat,n<=1000/\(ae (eB xc (ae (eC (.int 1)) (ae (eB xg (ae (eB eJ (ae (aa 0) ah)) (ae (eC (.int 2)) ah))) ah))) ah) [ϊ (.cS ns),ϋ,ϋ,ϋ,ϋ,ϋ,ϋ,ϋ,ϋ,ϋ] [.tb "law"]=ok [.int n] [.tb "law"]:=by
   refine⟨(if (if (2:Int)<ns.length then (2:Int) else ns.length) > 1 then (if (2:Int)<ns.length then (2:Int) else ns.length) else 1).toNat,by split<;>split<;>omega,?_⟩
   rw[Int.toNat_of_nonneg (by split<;>split<;>omega)]
   rfl
  obtain⟨n,L,N⟩:=e;exact⟨n,fB N ⋯⟩
 obtain⟨n,Y⟩:=Y;refine agT Y ?_;refine Wp.jr (λi env s=>s[0]?=ϊ _/\∃e1 e2 X W V U T S Q,env=[ϊ _,e1,e2,X,W,V,U,T,S,Q]) _ ⟨rfl,_,_,_,_,_,_,_,_,_,rfl⟩ (λi d env s Z P=>?_) (λenv s P=>?_)
 ·obtain⟨g,e1,e2,X,W,V,U,T,S,Q,rfl⟩:=P
  rw[jE] at Z;split at Z
  ·cases Z
   refine⟨_,rfl,?_⟩;exact WL g λe2 X W V U T S Q K M=>⟨M,_,_,_,_,_,_,_,_,_,rfl⟩
  ·cases Z
 ·subst O
  simp only[VC]
open PySem.W
noncomputable def qT (K:Ň) (c:Str) (fs:List Str):Bool:=match nsIn K Ð c with
 |some (ϊ (.ref C))=>plainGet K C afE&&hasDictIn K C&&plainOver K C&&(match findIn K (.ref C) "__setattr__" with|some (ϊ (.builtin x))=>ώ (x="object.__setattr__") | _=>ύ)&&fs.all (λf=>match findIn K (.ref C) f with|some ϋ=>ό | _=>ύ)&&makesIn K C&&keepIn K (.ref C)
 |_=>ύ
section
variable {K:Ň} {c m q f:Str} {fs ps:List Str} {st:Stmt} {h:ū} {mg:Str->Option á}
def Gz (e:qT K c fs=ό):∃C,nsIn K Ð c=ϊ (ϊ (.ref C))/\k9 K C/\(∀f∈fs,pM K C f)/\makesIn K C=ό/\keepIn K (.ref C)=ό:=by
 delta qT at e;split at e
 ·rename_i C Y
  erw[Â,Ü] at e;obtain⟨⟨⟨⟨⟨⟨X,W⟩,V⟩,Z⟩,U⟩,T⟩,S⟩:=e;refine⟨C,Y,⟨X,W,V,?_⟩,λf R=>?_,T,S⟩
  ·split at Z
   ·rename_i x Q
    rw[Q,ß Z]
   ·cases Z
  ·have q:=U f R
   split at q
   ·assumption
   ·cases q
 ·cases e
def Qd (e:qT K c fs=ό) (hf:f∈fs):xR K c f:=by
 obtain⟨C,Z,Y,X,_⟩:=Gz e;exact⟨C,Z,Y,X f hf⟩
def Dm (K:Ň) (c m q:Str) (st:Stmt):Prop:=∃(C f:ă) (Z:á) (Y:Option ă) (sl:Array _) (kV X pm:á) (an:Option ă) (cd W:á),nsIn K Ð c=ϊ (ϊ (.ref C))/\findIn K (.ref C) m=ϊ (ϊ (.ref f))/\K.lookup f=ϊ ⟨Z,Y,.func (fnOf m q (lF st) (gS st) (cI st) .none kV X pm an cd W),sl⟩/\codeIn K cd q=ό/\keepIn K (.ref f)=ό/\isFn K (.ref f)=ό
def adX {C f} {oc} {od} {sl} {kV dc pm} {an} {cd ct} (a:nsIn K Ð c=ϊ (ϊ (.ref C))) (b:findIn K (.ref C) m=ϊ (ϊ (.ref f))) (l:K.lookup f=ϊ ⟨oc,od,.func (fnOf m q (lF st) (gS st) (cI st) .none kV dc pm an cd ct),sl⟩) (d:codeIn K cd q=ό) (k:keepIn K (.ref f)=ό) (i:isFn K (.ref f)=ό):Dm K c m q st:=⟨C,f,oc,od,sl,kV,dc,pm,an,cd,ct,a,b,l,d,k,i⟩
def uG (e:qT K c fs=ό) (D:Dm K c m q st) (hb:∀kV doc pm an bw ct us,us.length=ps.length->bindArgs (fnOf m q (lF st) (gS st) (cI st) .none kV doc pm an bw ct) ⟨us,[]⟩=pure (ps.zip us)):GM K c m q st ps:=by
 obtain⟨C,f,X,W,sl,kV,V,pm,an,cd,ct,a,b,l,d,k,i⟩:=D;obtain⟨U,Z,Y,_⟩:=Gz e;rw[a] at Z;cases Z;have F:=Ab l d k;exact⟨C,f,_,a,Y,⟨b,i,k⟩,⟨F,F.binds hb⟩⟩
def Qe (X:K.In h) (G:h.Ns Ð mg) (e:qT K c fs=ό) (D:Dm K c "__init__" q st) (hb:∀kV doc pm an bw ct us,us.length=ps.length->bindArgs (fnOf "__init__" q (lF st) (gS st) (cI st) .none kV doc pm an bw ct) ⟨us,[]⟩=pure (ps.zip us)):GK K mg c q st ps:=by
 obtain⟨C,f,V,U,sl,kV,T,pm,an,cd,ct,a,b,l,d,k,i⟩:=D;obtain⟨S,Z,_,_,Y,W⟩:=Gz e;rw[a] at Z;cases Z;have F:=Ab l d k;exact⟨C,f,_,a,mg_of X G a,⟨Y,b,i,W⟩,⟨F,F.binds hb⟩⟩
end
end DI
end
namespace DI.cV
open PySem L2 DI
noncomputable def adY:List Str:=["NoMarks","NoSheet","NoPage","NoBook","NoMould","NoDay","NoSort","NoNumber","NoSheets","NoRun","NoLaying","NoHeap","NoCount","Clash","NoDeed","NoText","NoRow","TooMany","Lacking"]
def Df (K:Ň) (x:Str) (st:Stmt):Prop:=∃(f:ă) (Z:á) (Y:Option ă) (sl:Array (Option á)) (kV X pm:á) (an:Option ă) (cd W:á),ë K Ð x=ϊ (ϊ (.ref f))/\K.lookup f=ϊ ⟨Z,Y,.func (Ŏ x x (lF st) (gS st) (cI st) .none kV X pm an cd W),sl⟩/\χ K cd x=ό/\Ņ K (.ref f)=ό
def adZ {K:Ň} {x:Str} {st:Stmt} {f:ă} {oc:á} {od:Option ă} {sl:Array (Option á)} {kV dc pm:á} {an:Option ă} {cd ct:á} (a:ë K Ð x=ϊ (ϊ (.ref f))) (l:K.lookup f=ϊ ⟨oc,od,.func (Ŏ x x (lF st) (gS st) (cI st) .none kV dc pm an cd ct),sl⟩) (c:χ K cd x=ό) (k:Ņ K (.ref f)=ό):Df K x st:=⟨f,oc,od,sl,kV,dc,pm,an,cd,ct,a,l,c,k⟩
def rM {K:Ň} {x:Str} {i:Int} {t:Tok} (e:ë K Ð x=ϊ (ϊ (.int i t))):∃t,ë K Ð x=ϊ (ϊ (.int i t)):=⟨t,e⟩
def Qf {K:Ň} {x y:Str} {t:Tok} (e:ë K Ð x=ϊ (ϊ (.str y t))):∃t,ë K Ð x=ϊ (ϊ (.str y t)):=⟨t,e⟩
def bC {K:Ň} {h:ū} {mg:Str->Option á} {x:Str} {st:Stmt} {ps:List Str} (X:K.In h) (G:h.Ns Ð mg) (D:Df K x st) (hb:∀(kV doc pm:á) (an:Option ă) (bw ct:á) (us:List á),us.length=ps.length->bindArgs (Ŏ x x (lF st) (gS st) (cI st) .none kV doc pm an bw ct) ⟨us,[]⟩=pure (ps.zip us)):∃f fd,Gd K mg x st ps f fd:=by
 obtain⟨f,Z,Y,sl,kV,W,pm,an,cd,ct,a,l,c,k⟩:=D;have F:=Ab (st:=st) l c k;exact⟨f,_,Ĵ X G a,F,F.binds hb⟩
def ck {P:List á->Prop} (h:∀a0:á,P [a0]) (us:List á) (hl:us.length=1):P us:=by
 cases us with
 |nil=>simp at hl
 |cons a0 Z =>
 cases Z with
 |cons _ _=>simp at hl
 |nil =>
 exact h a0
def gY {P:List á->Prop} (h:∀a0 a1:á,P [a0,a1]) (us:List á) (hl:us.length=2):P us:=by
 cases us with
 |nil=>simp at hl
 |cons a0 Z =>
 cases Z with
 |nil=>simp at hl
 |cons a1 Y =>
 cases Y with
 |cons _ _=>simp at hl
 |nil =>
 exact h a0 a1
def mZ {P:List á->Prop} (h:∀a0 a1 a2:á,P [a0,a1,a2]) (us:List á) (hl:us.length=3):P us:=by
 cases us with
 |nil=>simp at hl
 |cons a0 Z =>
 cases Z with
 |nil=>simp at hl
 |cons a1 Y =>
 cases Y with
 |nil=>simp at hl
 |cons a2 X =>
 cases X with
 |cons _ _=>simp at hl
 |nil =>
 exact h a0 a1 a2
def ad0 {P:List á->Prop} (h:∀a0 a1 a2 a3:á,P [a0,a1,a2,a3]) (us:List á) (hl:us.length=4):P us:=by
 cases us with
 |nil=>simp at hl
 |cons a0 Y =>
 cases Y with
 |nil=>simp at hl
 |cons a1 X =>
 cases X with
 |nil=>simp at hl
 |cons a2 W =>
 cases W with
 |nil=>simp at hl
 |cons a3 Z =>
 cases Z with
 |cons _ _=>simp at hl
 |nil =>
 exact h a0 a1 a2 a3
def all_mk {P:ù} {w:ĩ} {K:Ň} {h:ū} {mg:Str->Option á} {fa:ă} (X:K.In h) (G:h.Ns Ð mg) (hfa:mg "law"=ϊ (.ref fa))
  (d0:Df K "_law_cell_at" (top 84))
  (d1:Df K "_law_state" (top 85))
  (d2:Df K "_law_take" (top 86))
  (d3:Df K "_law_sheet" (top 87))
  (d4:Df K "_law_page" (top 88))
  (d5:Df K "_law_deed" (top 100))
  (d6:Df K  ahb (top 89))
  (d7:Df K "_law_is_book" (top 90))
  (d8:Df K "_law_step" (top 99))
  (d9:Df K  ahc (top 96))
  (Ij:Df K  ahd (top 97))
  (Ik:Df K "_law_line" (top 98))
  (Il:Df K "_law_row_of" (top 103))
  (Im:Df K "_law_asks" (top 101))
  (Io:Df K "_law_classes" (top 94))
  (Ip:Df K "are_figures" (top 73))
  (Iq:Df K "is_sheet_word" (top 72))
  (Ir:Df K "is_number_word" (top 71))
  (Iu:Df K "are_page_words" (top 70))
  (Iv:Df K "is_row" (top 80))
  (Iw:Df K "words_of" (top 79))
  (Iy:Df K "marks_of" (top 76))
  (Iz:Df K "sheet_of" (top 75))
  (IA:Df K "page_of" (top 74))
  (IC:Df K "marks_text" (top 67))
  (ID:Df K "sheet_text" (top 68))
  (IE:Df K "places_text" (top 82))
  (IF:Df K "is_rising" (top 30))
  (IG:Df K "is_number" (top 25))
  (IH:Df K "is_below" (top 26))
  (II:Df K "is_mark" (top 27))
  (kC:Df K "are_marks" (top 37))
  (IJ:Df K "are_apart" (top 39))
  (IK:Df K "is_sheet" (top 38))
  (IL:Df K "is_mould" (top 28))
  (IM:Df K "is_day" (top 29))
  (IQ:Df K "is_page" (top 40))
  (IS:Df K "are_laid" (top 41))
  (IT:Df K "days_seen" (top 46))
  (IU:Df K "days_mended" (top 47))
  (IV:Df K "is_any_behind" (top 45))
  (IW:Df K "clashes" (top 44))
  (IY:Df K "faults_of" (top 43))
  (IZ:Df K "is_book" (top 42))
  (I0:Df K "need_book" (top 50))
  (Ja:Df K "page_text" (top 69))
  (Jb:Df K "book_text" (top 66))
  (Jc:Df K "need_mould" (top 31))
  (Jd:Df K "need_day" (top 32))
  (Je:Df K "days_present" (top 58))
  (Jf:Df K "days_absent" (top 59))
  (Jg:Df K "marks_on" (top 57))
  (Jh:Df K "sure_sheets" (top 56))
  (Ji:Df K "surely" (top 54))
  (Jj:Df K "need_sheet" (top 48))
  (Jk:Df K "stretches" (top 61))
  (Jl:Df K "agree" (top 60))
  (Jm:Df K "places_of" (top 55))
  (Jn:Df K "answer" (top 81))
  (Jo:Df K "need_page" (top 49))
  (Jp:Df K "_law_met" (top 95))
  (Jq:Df K "_law_days" (top 91))
  (Jr:Df K "_law_where" (top 93))
  (Js:Df K "_law_surely" (top 92))
  (Jt:Df K "_law_answer" (top 102))
  (CH:∃t,ë K Ð "NOTHING"=ϊ (ϊ (.str "-" t)))
  (CI:∃t,ë K Ð "FIGURES"=ϊ (ϊ (.str "0123456789" t)))
  (nY:qT K "Diary" ["books"]=ό)
  (wC:qT K "Desk" ["diary"]=ό)
  (Ju:Dm K "Diary" "undo" "Diary.undo" (fz (top 52) 3))
  (Jv:Dm K "Diary" "book_now" "Diary.book_now" (fz (top 52) 4))
  (Jw:Dm K "Diary" "keep" "Diary.keep" (fz (top 52) 5))
  (yP:Dm K "Diary" "strike" "Diary.strike" (fz (top 52) 2))
  (yQ:Dm K "Diary" "tell" "Diary.tell" (fz (top 52) 1))
  (Jx:Dm K "Desk" "say" "Desk.say" (fz (top 78) 1))
  (Jy:Dm K "Diary" "__init__" "Diary.__init__" (fz (top 52) 0))
  (Jz:Dm K "Desk" "__init__" "Desk.__init__" (fz (top 78) 0))
  (dl:Df K "law" (top 104))
  (Ec:∃t,ë K Ð "MARKS"=ϊ (ϊ (.int (8) t)))
  (Dv:∃t,ë K Ð "MOULDS"=ϊ (ϊ (.int (4) t)))
  (ER:∃t,ë K Ð "DAYS"=ϊ (ϊ (.int (31) t)))
  (Ed:∃t,ë K Ð "PAGES"=ϊ (ϊ (.int (24) t)))
  (FH:∃t,ë K Ð "HAS"=ϊ (ϊ (.int (0) t)))
  (Ee:∃t,ë K Ð "LACKS"=ϊ (ϊ (.int (1) t)))
  (CJ:∃t,ë K Ð "LONGEST"=ϊ (ϊ (.int (30) t)))
  (B1:ë K Ð "ValueError"=ϊ ϋ)
  (FI:ë K Ð "all"=ϊ ϋ)
  (FJ:ë K Ð "any"=ϊ ϋ)
  (ES:ë K Ð "bool"=ϊ ϋ)
  (FK:ë K Ð "int"=ϊ ϋ)
  (B4:ë K Ð "isinstance"=ϊ ϋ)
  (FL:ë K Ð "len"=ϊ ϋ)
  (FN:ë K Ð "max"=ϊ ϋ)
  (FO:ë K Ð "min"=ϊ ϋ)
  (Ef:ë K Ð "range"=ϊ ϋ)
  (Cn:ë K Ð "reversed"=ϊ ϋ)
  (FP:ë K Ð "set"=ϊ ϋ)
  (Dw:ë K Ð "sorted"=ϊ ϋ)
  (FQ:ë K Ð "str"=ϊ ϋ)
  (Eg:ë K Ð "tuple"=ϊ ϋ)
  (FR:ë K Ð "zip"=ϊ ϋ)
  (xf:mJ K bZ adY "MouldError"=ό) (tf:EA K "law"=ό)
  : ∃(c T:ă) (fd:FuncData),agN K "law"=ϊ (c,T)/\K.lookup T=ϋ/\(∀(s:Û) (v:á),BindsTo s fd ⟨[v],[]⟩ [(ag2,v)])/\∀base:ū,K.In base->base.Ns Ð mg->base.BuiltinsAt mg T->dD P w K mg base fg 15 fa fd [ag2] (Ak K T):=by
 have g0:=bC (ps:=[ag2,"_law_k"]) X G d0 λ_ _ _ _ _ _=>gY λ_ _=>rfl;have g1:=bC (ps:=[ag2,"_law_k"]) X G d1 λ_ _ _ _ _ _=>gY λ_ _=>rfl;have g2:=bC (ps:=[agY,"_law_many"]) X G d2 λ_ _ _ _ _ _=>gY λ_ _=>rfl;have g3:=bC (ps:=[agY]) X G d3 λ_ _ _ _ _ _=>ck λ_=>rfl;have g4:=bC (ps:=[agY,"_law_days_here"]) X G d4 λ_ _ _ _ _ _=>gY λ_ _=>rfl;have g5:=bC (ps:=[agY,ag5]) X G d5 λ_ _ _ _ _ _=>gY λ_ _=>rfl;have g6:=bC (ps:=[agZ,ag1,ag0]) X G d6 λ_ _ _ _ _ _=>mZ λ_ _ _=>rfl;have g7:=bC (ps:=[agZ]) X G d7 λ_ _ _ _ _ _=>ck λ_=>rfl;have g8:=bC (ps:=[ag6,ag8,ag3]) X G d8 λ_ _ _ _ _ _=>mZ λ_ _ _=>rfl;have g9:=bC (ps:=["_law_marks"]) X G d9 λ_ _ _ _ _ _=>ck λ_=>rfl;have Z:=bC (ps:=[ag7]) X G Ij λ_ _ _ _ _ _=>ck λ_=>rfl;have Y:=bC (ps:=[ag3]) X G Ik λ_ _ _ _ _ _=>ck λ_=>rfl;have W:=bC (ps:=[agY,ag6]) X G Il λ_ _ _ _ _ _=>gY λ_ _=>rfl;have V:=bC (ps:=[agY]) X G Im λ_ _ _ _ _ _=>ck λ_=>rfl;have U:=bC (ps:=["_law_e"]) X G Io λ_ _ _ _ _ _=>ck λ_=>rfl;have S:=bC (ps:=["word"]) X G Ip λ_ _ _ _ _ _=>ck λ_=>rfl;have R:=bC (ps:=["word"]) X G Iq λ_ _ _ _ _ _=>ck λ_=>rfl;have Q:=bC (ps:=["word"]) X G Ir λ_ _ _ _ _ _=>ck λ_=>rfl;have O:=bC (ps:=["words"]) X G Iu λ_ _ _ _ _ _=>ck λ_=>rfl;have N:=bC (ps:=["words"]) X G Iv λ_ _ _ _ _ _=>ck λ_=>rfl;have M:=bC (ps:=["row"]) X G Iw λ_ _ _ _ _ _=>ck λ_=>rfl;have L:=bC (ps:=["word"]) X G Iy λ_ _ _ _ _ _=>ck λ_=>rfl;have J:=bC (ps:=["word"]) X G Iz λ_ _ _ _ _ _=>ck λ_=>rfl;have I:=bC (ps:=["words"]) X G IA λ_ _ _ _ _ _=>ck λ_=>rfl;have H:=bC (ps:=["marks"]) X G IC λ_ _ _ _ _ _=>ck λ_=>rfl;have E:=bC (ps:=["sheet"]) X G ID λ_ _ _ _ _ _=>ck λ_=>rfl;have D:=bC (ps:=["places"]) X G IE λ_ _ _ _ _ _=>ck λ_=>rfl;have C:=bC (ps:=["things"]) X G IF λ_ _ _ _ _ _=>ck λ_=>rfl;have B:=bC (ps:=["thing"]) X G IG λ_ _ _ _ _ _=>ck λ_=>rfl;have A:=bC (ps:=["thing","many"]) X G IH λ_ _ _ _ _ _=>gY λ_ _=>rfl;have z:=bC (ps:=["thing"]) X G II λ_ _ _ _ _ _=>ck λ_=>rfl;have y:=bC (ps:=["thing"]) X G kC λ_ _ _ _ _ _=>ck λ_=>rfl;have x:=bC (ps:=["marks","others"]) X G IJ λ_ _ _ _ _ _=>gY λ_ _=>rfl;have u:=bC (ps:=["thing"]) X G IK λ_ _ _ _ _ _=>ck λ_=>rfl;have r:=bC (ps:=["thing"]) X G IL λ_ _ _ _ _ _=>ck λ_=>rfl;have q:=bC (ps:=["thing"]) X G IM λ_ _ _ _ _ _=>ck λ_=>rfl;have p:=bC (ps:=["thing"]) X G IQ λ_ _ _ _ _ _=>ck λ_=>rfl;have o:=bC (ps:=["thing"]) X G IS λ_ _ _ _ _ _=>ck λ_=>rfl;have n:=bC (ps:=["pages","mould","mark","half"]) X G IT λ_ _ _ _ _ _=>ad0 λ_ _ _ _=>rfl;have m:=bC (ps:=["pages","mould","mark"]) X G IU λ_ _ _ _ _ _=>mZ λ_ _ _=>rfl;have j:=bC (ps:=["days","day","later"]) X G IV λ_ _ _ _ _ _=>mZ λ_ _ _=>rfl;have i:=bC (ps:=["pages","mould","mark"]) X G IW λ_ _ _ _ _ _=>mZ λ_ _ _=>rfl;have g:=bC (ps:=["pages"]) X G IY λ_ _ _ _ _ _=>ck λ_=>rfl;have d:=bC (ps:=["thing"]) X G IZ λ_ _ _ _ _ _=>ck λ_=>rfl;have b:=bC (ps:=["thing"]) X G I0 λ_ _ _ _ _ _=>ck λ_=>rfl;have g45:=bC (ps:=["page"]) X G Ja λ_ _ _ _ _ _=>ck λ_=>rfl;have g46:=bC (ps:=["book"]) X G Jb λ_ _ _ _ _ _=>ck λ_=>rfl;have g47:=bC (ps:=["thing"]) X G Jc λ_ _ _ _ _ _=>ck λ_=>rfl;have g48:=bC (ps:=["thing"]) X G Jd λ_ _ _ _ _ _=>ck λ_=>rfl;have g49:=bC (ps:=["book","mould","mark"]) X G Je λ_ _ _ _ _ _=>mZ λ_ _ _=>rfl;have g50:=bC (ps:=["book","mould","mark"]) X G Jf λ_ _ _ _ _ _=>mZ λ_ _ _=>rfl;have g51:=bC (ps:=["days_by_mark","day"]) X G Jg λ_ _ _ _ _ _=>gY λ_ _=>rfl;have g52:=bC (ps:=["book","mould"]) X G Jh λ_ _ _ _ _ _=>gY λ_ _=>rfl;have g53:=bC (ps:=["book","mould","day"]) X G Ji λ_ _ _ _ _ _=>mZ λ_ _ _=>rfl;have g54:=bC (ps:=["thing"]) X G Jj λ_ _ _ _ _ _=>ck λ_=>rfl;have g55:=bC (ps:=["holds"]) X G Jk λ_ _ _ _ _ _=>ck λ_=>rfl;have g56:=bC (ps:=["sheet","sure"]) X G Jl λ_ _ _ _ _ _=>gY λ_ _=>rfl;have g57:=bC (ps:=["book","sheet"]) X G Jm λ_ _ _ _ _ _=>gY λ_ _=>rfl;have g58:=bC (ps:=["book","words"]) X G Jn λ_ _ _ _ _ _=>gY λ_ _=>rfl
 have g59:=bC (ps:=["thing"]) X G Jo λ_ _ _ _ _ _=>ck λ_=>rfl;have g60:=bC (ps:=["_law_call"]) X G Jp λ_ _ _ _ _ _=>ck λ_=>rfl;have g61:=bC (ps:=[agZ,ag1,ag0]) X G Jq λ_ _ _ _ _ _=>mZ λ_ _ _=>rfl;have g62:=bC (ps:=[agZ,ag7]) X G Jr λ_ _ _ _ _ _=>gY λ_ _=>rfl;have g63:=bC (ps:=[agZ,ag1,ag4]) X G Js λ_ _ _ _ _ _=>mZ λ_ _ _=>rfl;have g64:=bC (ps:=[ag5,ag9]) X G Jt λ_ _ _ _ _ _=>gY λ_ _=>rfl;have qS:∃t,mg "MARKS"=ϊ (.int (8) t):=by obtain⟨t,e⟩:=Ec;exact⟨t,Ĵ X G e⟩
 have v7:∃t,mg "MOULDS"=ϊ (.int (4) t):=by obtain⟨t,e⟩:=Dv;exact⟨t,Ĵ X G e⟩
 have qY:∃t,mg "DAYS"=ϊ (.int (31) t):=by obtain⟨t,e⟩:=ER;exact⟨t,Ĵ X G e⟩
 have C9:∃t,mg "PAGES"=ϊ (.int (24) t):=by obtain⟨t,e⟩:=Ed;exact⟨t,Ĵ X G e⟩
 have ug:∃t,mg "HAS"=ϊ (.int (0) t):=by obtain⟨t,e⟩:=FH;exact⟨t,Ĵ X G e⟩
 have tN:∃t,mg "LACKS"=ϊ (.int (1) t):=by obtain⟨t,e⟩:=Ee;exact⟨t,Ĵ X G e⟩
 have Ck:∃t,mg "LONGEST"=ϊ (.int (30) t):=by obtain⟨t,e⟩:=CJ;exact⟨t,Ĵ X G e⟩
 have TR:=ÿ X G B1;have ad1:=ÿ X G FI;have ad2:=ÿ X G FJ;have acs:=ÿ X G ES;have ad3:=ÿ X G FK;have TU:=ÿ X G B4;have ad4:=ÿ X G FL;have ad5:=ÿ X G FN;have ad6:=ÿ X G FO;have aai:=ÿ X G Ef;have Vo:=ÿ X G Cn;have ad7:=ÿ X G FP;have YA:=ÿ X G Dw;have ad8:=ÿ X G FQ;have aaj:=ÿ X G Eg;have ad9:=ÿ X G FR;have tm:∃t,mg "NOTHING"=ϊ (.str "-" t):=by obtain⟨t,e⟩:=CH;exact⟨t,Ĵ X G e⟩
 have Cm:∃t,mg "FIGURES"=ϊ (.str "0123456789" t):=by obtain⟨t,e⟩:=CI;exact⟨t,Ĵ X G e⟩
 have m0:=uG (ps:=["self"]) nY Ju λ_ _ _ _ _ _=>ck λ_=>rfl;have m1:=uG (ps:=["self"]) nY Jv λ_ _ _ _ _ _=>ck λ_=>rfl;have m2:=uG (ps:=["self","pages"]) nY Jw λ_ _ _ _ _ _=>gY λ_ _=>rfl;have m3:=uG (ps:=["self","page"]) nY yP λ_ _ _ _ _ _=>gY λ_ _=>rfl;have m4:=uG (ps:=["self","page"]) nY yQ λ_ _ _ _ _ _=>gY λ_ _=>rfl;have m5:=uG (ps:=["self","row"]) wC Jx λ_ _ _ _ _ _=>gY λ_ _=>rfl;have m6:=Qe (ps:=["self"]) X G nY Jy λ_ _ _ _ _ _=>ck λ_=>rfl;have m7:=Qe (ps:=["self"]) X G wC Jz λ_ _ _ _ _ _=>ck λ_=>rfl;obtain⟨f,oc,od,sl,kV,dc,pm,an,cd,ct,a,l,c,k⟩:=dl;have e:=hfa.symm.trans (Ĵ X G a);cases e;have F:=Ab (st:=(top 104)) l c k;have GL:Gd K mg "law" (top 104) [ag2] _ _:=⟨Ĵ X G a,F,F.binds λ_ _ _ _ _ _=>ck λ_=>rfl⟩;obtain⟨c0,T0,ht,hC,hT⟩:=Zu tf;exact⟨c0,T0,_,ht,hT,λs v=>.of_eq rfl,λbase _ _ hB=>Zt (abR ⟨TR,ad1,ad2,acs,ad3,TU,ad4,ad5,ad6,aai,Vo,ad7,YA,ad8,aaj,ad9,hU X G xf (by decide +kernel),hU X G xf (by decide +kernel),hU X G xf (by decide +kernel),hU X G xf (by decide +kernel),hU X G xf (by decide +kernel),hU X G xf (by decide +kernel),hU X G xf (by decide +kernel),hU X G xf (by decide +kernel),hU X G xf (by decide +kernel),hU X G xf (by decide +kernel),hU X G xf (by decide +kernel),hU X G xf (by decide +kernel),hU X G xf (by decide +kernel),hU X G xf (by decide +kernel),hU X G xf (by decide +kernel),hU X G xf (by decide +kernel),hU X G xf (by decide +kernel),hU X G xf (by decide +kernel),hU X G xf (by decide +kernel),adu xf,qh X G xf (by decide +kernel),qh X G xf (by decide +kernel),qh X G xf (by decide +kernel),qh X G xf (by decide +kernel),qh X G xf (by decide +kernel),qh X G xf (by decide +kernel),qh X G xf (by decide +kernel),qh X G xf (by decide +kernel),ae8 X G xf,qS,v7,qY,C9,ug,tN,Ck,tm,Cm,Qd nY (by decide),Qd wC (by decide),m0,m1,m2,m3,m4,m5,m6,m7,g0,g1,g2,g3,g4,g5,g6,g7,g8,g9,Z,Y,W,V,U,S,R,Q,O,N,M,L,J,I,H,E,D,C,B,A,z,y,x,u,r,q,p,o,n,m,j,i,g,d,b,g45,g46,g47,g48,g49,g50,g51,g52,g53,g54,g55,g56,g57,g58,g59,g60,g61,g62,g63,g64⟩ ht hC hB GL a) ht Yz⟩
def walk {l:PySem.W.OpenLaw} {q:ù} {loose:List Str} {XP:(Str->Option á)->ū->Prop} {YP:ĩ->ū->Prop} {d:DefRec} {K:Params->Ň} (hn:l.most=ϊ 63) (yt:d.params.defaults=[]) (hd:(PyProof.Rows.recsOf q).find? (λe=>e.name==d.name)=ϊ d)
  (hY:∀(w:ĩ) (h:ū),YP w h->(K w.params).In h)
  (F:∀(w:ĩ) (mg:Str->Option á) (fa:ă) (h:ū),(K w.params).In h->h.Ns Ð mg->mg d.name=ϊ (.ref fa) ->
   ∃(c T:ă) (fd:FuncData),agN (K w.params) d.name=ϊ (c,T)/\(K w.params).lookup T=ϋ/\(∀(s:Û) (u:á),BindsTo s fd ⟨[u],[]⟩ [(ag2,u)])/\∀base:ū,(K w.params).In base->base.Ns Ð mg->base.BuiltinsAt mg T->dD l.prog w (K w.params) mg base fg 15 fa fd [ag2] (Ak (K w.params) T)) :
  PySem.W.WalkO q loose XP YP l.row.toRowW d [] (λf vs=>PySem.call f vs) :=
 L2.abx (n:=63) (k:=15) (x:= ag2) (CX:=λ_=>fg) (sp:=λw=>Ak (K w.params)) hn (by decide) yt ⟨rfl,by decide,by decide,rfl⟩ hY hd F (λ_ _ _ a Z Y X V=>⟨a,Z,rfl,V,Y,X,λ_=>rfl⟩) λ_ _ _ _ _ z=>z
end DI.cV
open PySem PySem.W PyProof.Rows
namespace PySem.W.Fast
def te2513820314521388251:=trivial
def te6288582735539179728:=trivial
def te2195800021331728572:=trivial
def te8403559534865787773:=trivial
def te15500001179271910561:=trivial
def te4678103353419205127:=trivial
def te8593344485492926597:=trivial
def te16206850233861740884:=trivial
def te13052408679150730464:=trivial
end PySem.W.Fast
set_option maxRecDepth 100000 in
set_option maxHeartbeats 0 in
theorem PySem.Challenge.cw_twinmoulds_k51_a_desk_and_its_rows_holds : PySem.Challenge.rw_twinmoulds_k51_a_desk_and_its_rows.Holds := by
 w_on;o_law;k_head;(case hw=>w_witness2)
 k_fill
 refine DI.cV.walk (l:=PySem.Challenge.rw_twinmoulds_k51_a_desk_and_its_rows) rfl rfl rfl (λw h Y=>PySem.W.km_in_of Y) ?F
 case F =>
  intro w V U h Z G X;refine' DI.cV.all_mk Z G X ?d0 ?d1 ?d2 ?d3 ?d4 ?d5 ?d6 ?d7 ?d8 ?d9 ?Ij ?Ik ?Il ?Im ?Io ?Ip ?Iq ?Ir ?Iu ?Iv ?Iw ?Iy ?Iz ?IA ?IC ?ID ?IE ?IF ?IG ?IH ?II ?kC ?IJ ?IK ?IL ?IM ?IQ ?IS ?IT ?IU ?IV ?IW ?IY ?IZ ?I0 ?Ja ?Jb ?Jc ?Jd ?Je ?Jf ?Jg ?Jh ?Ji ?Jj ?Jk ?Jl ?Jm ?Jn ?Jo ?Jp ?Jq ?Jr ?Js ?Jt ?CH ?CI ?nY ?wC ?Ju ?Jv ?Jw ?yP ?yQ ?Jx ?Jy ?Jz ?dl ?Ec ?Dv ?ER ?Ed ?FH ?Ee ?CJ ?B1 ?FI ?FJ ?ES ?FK ?B4 ?FL ?FN ?FO ?Ef ?Cn ?FP ?Dw ?FQ ?Eg ?FR ?xf ?tf
  (case d0|d1|d2|d3|d4|d5|d6|d7|d8|d9|Ij|Ik|Il|Im|Io|Ip|Iq|Ir|Iu|Iv|Iw|Iy|Iz|IA|IC|ID|IE|IF|IG|IH|II|kC|IJ|IK|IL|IM|IQ|IS|IT|IU|IV|IW|IY|IZ|I0|Ja|Jb|Jc|Jd|Je|Jf|Jg|Jh|Ji|Jj|Jk|Jl|Jm|Jn|Jo|Jp|Jq|Jr|Js|Jt|dl=>refine' DI.cV.adZ ?a ?l ?c ?k;(case a=>k_is);(case l=>k_is);(case c=>k_is);(case k=>k_is))
  (case Ec=>refine' DI.cV.rM ?e;(case e=>k_is))
  (case Dv=>refine' DI.cV.rM ?e;(case e=>k_is))
  (case ER=>refine' DI.cV.rM ?e;(case e=>k_is))
  (case Ed=>refine' DI.cV.rM ?e;(case e=>k_is))
  (case FH=>refine' DI.cV.rM ?e;(case e=>k_is))
  (case Ee=>refine' DI.cV.rM ?e;(case e=>k_is))
  (case CJ=>refine' DI.cV.rM ?e;(case e=>k_is))
  (case B1|FI|FJ|ES|FK|B4|FL|FN|FO|Ef|Cn|FP|Dw|FQ|Eg|FR=>k_is)
  (case CH=>refine' DI.cV.Qf ?e;(case e=>k_is))
  (case CI=>refine' DI.cV.Qf ?e;(case e=>k_is))
  (case nY=>kernel_rfl)
  (case wC=>kernel_rfl)
  (case Ju|Jv|Jw|yP|yQ|Jx|Jy|Jz=>refine' DI.adX ?a ?b ?l ?c ?k ?f;(case a=>k_is);(case b=>k_is);(case l=>k_is);(case c=>k_is);(case k=>k_is);(case f=>k_is))
  (case xf=>kernel_rfl)
  (case tf=>kernel_rfl)
