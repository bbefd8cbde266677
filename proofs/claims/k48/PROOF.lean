import PyProof.Rows.All
import Wide.All
import OpenK.AllK
import Wide.FinOn
import Lean
import PyProof.EqAt
import PyProof.EqKinds
import PyProof.TupleCall
import PyProof.NeData
import PyProof.P3In
import PyProof.FactsAll.set
import PyProof.CollectWalk
import PyProof.FactsAll.range
import PyProof.MinMaxWalk
import KE.KMinKey
import PyProof.WalkInts
import PyProof.Rows.CallKwBuiltin
import KE.KLam
import KE.KSortTup
import PyProof.Rows.Range3
import PyProof.ListRange
import PyProof.DictRoadsH
import KE.KDictList
import PyProof.Rows.SortKeyStr
import PyProof.DictCompW
import PyProof.DictWalks
import PyProof.Rows.CompDC
import PyProof.SumAny
import PyProof.TupleOfGen
import PyProof.CollectIter
import KE.KTryMore
import OpenK.KOwn
import PyProof.ExcBaseAll.ValueError
import KE.KNestM
import PyProof.NsDelKeeps
import PyProof.ExcAttrAll.ValueError
import PyProof.Conv_int_bool
import PyProof.InstStoreFacts
import KE.KIntText
import PyProof.StrLawsTight
import PyProof.StrLawsChain
import PyProof.StrLawsIn
import PySem.Challenge.RW_twinmoulds_k48_whole_pages_in_any_order
set_option compiler.extract_closed false
set_option bootstrap.genMatcherCode false
set_option genInjectivity false
set_option genSizeOfSpec false
set_option Elab.async false
set_option linter.all false
set_option maxRecDepth 100000
set_option maxHeartbeats 4000000
open Decidable renaming decide→ώ
open Option renaming some→ϊ,none→ϋ
open Bool renaming true→ό,false→ύ
open PySem renaming wpAny_bind→À,wpAny_pure→Ä,starEach→É,mainGlobals→Ð,sizeLine→Õ,Shared→Ý,Value→ã,model→ê,wpAny→ë,Program→ø,bootBuiltins→ü,Addr→þ,foldedSetIterable→Ă,wpAny_call_entry→ă,wpAny_holding→Ć,wpAny_callSpecial?_slot→Ĉ,wpAny_newObj_type→ď,Around→đ,compareOp→Ē,wpAny_mono→ė,backTo→Ġ,eval→Ħ,wpAny_field→ī,World→Ĭ,attributeBase→ĭ,mem_of_lookup→Ķ,wpAny_seqItems→Ŀ,keywordEach→ŀ,rawInt→ł,codeAny_builtin→Ń,codeAny_mono→ń,assignEach→Ņ,binaryOp→ņ,Expr→ŕ,wpAny_truthy_bool→Ŗ,letOwnedTupleGo→ŗ,wpAny_Call_Name_kw→Ŝ,wpAny_setField_rec→ŝ,codeAny_call_builtin→ţ,wpAny_pyIter_list→Ť,call_meets→Ŧ,wpAny_setState_of→Ũ,Heap→ū,wpAny_standAt→Ŭ,wpAny_attempt→Ů,wpAny_setEntries_of→ů,wpAny_rule→ŵ,wpAny_setField→Ŷ,intKind→ŷ,codeAny→Ÿ,Keyword→Ź,Builtin→ż,backToKw→ž,sizeLine_eq→ε,swapsWithSole→ς,swappedStores→υ,fits_of_scanBound→χ,holding→ω,intText?→af8,wpAny_of_eq→agg,wpAny_call→agi,wpAny_typeOf→agl,standAt→agm,wpAny_passesOwn→ago,behindInMarks→agp,cellsFrom→agt,scanBound→agv,pickOrder→agw,wpAny_pyIter_rangeiter→agB,IsPair→agD,sliceBounds→agI,wpAny_storeSet_of→agN,wpAny_bindName→agP,wpAny_askSetting→agY,checkBuiltinCall→agZ,wpAny_newList→ag0,getMethod→ag3,codeAny_of_tree→ahb,Scope→ahl,assign→ahs,pyNext→aht
open PySem.Heap renaming get?_push_of_some→Á,get?_push_size→Ì,lt_size→Í,size_push→ý,get?_update_self→Ě,SameBut→Ĩ,get?_update_ne→ű,get?_update_other→Ż,ExtBut→agf,get?_some_iff→agy,FlyingW→agS
open Bool renaming and_eq_true→Â,false_eq_true→Ê,false_ne_true→Ú,not_eq_true'→Ċ,and_self→Ğ,eq_iff_iff→Ī,true_and→ĵ,not_true→Œ,not_eq_true→Ŵ,or_eq_true→θ,false_and→agQ,and_eq_false_iff→agV,not_false→ahm
open List renaming length_map→Æ,getElem?_eq_some_iff→Ç,mem_cons_of_mem→Ë,length_append→Ï,getElem?_eq_getElem→Ñ,mem_append_right→Ò,replicate→Ó,mem_cons→Ô,mem_cons_self→Ö,map_cons→Û,size_toArray→Ü,all_eq_true→Þ,getElem?_map→à,getElem?_set_self→â,range→ä,length_cons→å,getElem?_append_left→æ,getElem?_set_ne→ç,mem_range→î,mem_map→ï,append_nil→ð,getElem?_append_right→ñ,mem_append_left→ó,not_mem_nil→õ,pairwise_cons→ö,length_set→ù,mem_filter→ÿ,mem_append→Ā,length_nil→Ą,cons_append→Č,map_append→Ď,append_assoc→Đ,set_cons_succ→ē,set_cons_zero→Ĕ,lookup_cons→Ė,mem_singleton→ę,getElem?_eq_none→ě,map_map→Ĝ,nil_append→ġ,getElem?_replicate→Į,map_nil→ĳ,getElem?_range→ķ,filter_eq_self→Ĺ,length_filter_le→Ľ,length_replicate→ň,length_singleton→Ŋ,length_eq_zero_iff→ő,filter_cons→ř,zip_cons_cons→ş,drop_eq_getElem_cons→Ţ,any_eq_false→ť,ext_getElem?→ŧ,length_take→ų,take_of_length_le→Ž,nodup_cons→ζ,range_succ→ξ,all_eq_false→ψ,mem_of_getElem?→abI,any_eq_true→aga,mem_flatMap→agb,filterMap_cons→agd,getElem_of_mem→age,mem_filterMap→agn,flatMap_eq_nil_iff→agA,lookup→agG,take_sublist→agH,flatten_cons→agJ,nodup_append→agO,set_append_right→agU,getElem_mem→agX,of_mem_zip→ag4,replicate_succ→ag6,forIn_cons→ag8,map_congr_left→ag9,map_eq_flatMap→ahe,map_eq_nil_iff→ahf,getD→aho
open Nat renaming lt_of_lt_of_le→È,le_trans→Ø,ne_of_lt→ß,lt_irrefl→ò,zero_le→ć,lt_succ_of_lt→Ģ,lt_succ_self→ō,ne_of_gt→ś,lt_of_le_of_lt→Ş,le_succ→ŭ,le_of_not_lt→af9,not_lt_zero→ahd,le_of_eq→ahi
open PySem.PyData renaming strOk→è,eqv→į,depthAll→ahc
open And renaming intro→ì
open PySem.W renaming nsIn→í,mg_none_of→ā,mg_of→ı,keepIn→ľ,Frag→Ň,fnOf→Ŕ,findIn→Š,tabIn→Ű,cellsFrom_some→ź,instObj→δ,lookIn→adL,codeIn→adM,hideAll_get→agc,callWith_K→ags,emptyDict→agF,plainGet→agW,plainGet_of→ag2,hasDictIn→ahn,excIn→ahr
open Array renaming length_toList→û,getElem?_toList→ĺ,toList_push→agM
open PySem.PassesOwn renaming never→ą
open False renaming elim→ĉ
open PySem.Obj renaming data_mapFields→ċ,isFreed_of_fields→ŋ,cls_mapFields→agK,mapSeq→ag1
open PySem.Builtin.Range renaming rangeFitsLong→č,rangeSize→Ŏ
open PySem.SetTable renaming below→ĕ
open PyProof.Rows renaming slot_tuple_getitem→Ę,callWith_type1→ĩ,envOfC→ĸ,firstMet→Ő,assignInOrder_cons→Ś,split_le→agT,IntsAre→ag5,seqObj→ahj,AllBare→ahq
open PySem.Heap.SameBut renaming update→ĝ
open PySem.Str renaming ofString→ģ,join→Ĳ,empty→agq
open Ne renaming symm→Ĥ
open Int renaming toNat_natCast→İ,zero_add→Ū,eq_ofNat_of_zero_le→Ų,emod_lt_of_pos→agz,emod_nonneg→ahg
open PySem.Txt renaming split→ļ
open ForInStep renaming yield→Ł
open List.cons renaming injEq→Ō
open PySem.Builtin.Str renaming occurrences→ŏ
open PySem.F renaming plainAttrs_list→œ,slot_tuple_iterator_next→Ř,called_set→ι,slot_range_reversed→ν,args_tuple_add_2→agk,entry_tuple_add→agu,slot_tuple_add→agC,slot_int_rmul→ag7,slot_zip_next→aha
open PySem.Builtin.SmallTypes renaming nextOf→š
open Function renaming comp_def→ũ
open Or renaming inl→ſ
open Option renaming map_some→η,isNone_iff_eq_none→af7,isSome_iff_exists→agj,map_eq_some_iff→agE
open PySem.Builtin.List renaming listExtendWith→μ
open PySem.Value renaming type→ο,bool→agh,ref→ahu
open PySem.Around renaming under_plainId→abL
open PySem.Builtin.Slice renaming sliceAdjust→adS,slicePlaces→aft
open PySem.Calls renaming call_function_entry→af6,spliced_cons→agr
open PySem.Code renaming quiet_builtin→agx
open PySem.SetTable.below renaming go→agL
open List.Pairwise renaming sublist→agR
open PySem.Builtin.Tuple renaming tupleItemsOf→ahh
open PySem.StrLaws renaming join_split→ahk
open PySem.SetTable.probe renaming go→ahp
def Ã:=@decide_eq_true
def Å:=@decide_eq_true_eq
def Î:=@decide_eq_false
def Ù:=@if_pos
def á:=@of_decide_eq_true
def é:=@if_neg
def ô:=@if_false
def ú:=@if_true
def ğ:=@and_self
def ĥ:=@decide_true
def ħ:=@congrArg
def Ĵ:=@beq_self_eq_true
def Ļ:=@bne_self_eq_false
def ahz:=@Nat.le_refl
def ahA:=@Option.some.inj
abbrev ahB:PySem.Str:="_law_filled"
abbrev ahC:PySem.Str:="_law_state_here"
abbrev ahD:PySem.Str:="_law_pages"
abbrev ahE:PySem.Str:="_law_mark"
abbrev ahF:PySem.Str:="_law_mould"
abbrev ahG:PySem.Str:="_law_script"
abbrev ahH:PySem.Str:="_law_page_here"
abbrev ahI:PySem.Str:="_law_day"
abbrev ahJ:PySem.Str:="_law_diary"
abbrev ahK:PySem.Str:="_law_desk"
abbrev ahL:PySem.Str:="_law_many"
abbrev ahM:PySem.Str:="_law_sheet_here"
abbrev ahN:PySem.Str:="_law_book_here"
abbrev ahO:PySem.Str:="_law_days_here"
abbrev ahP:PySem.Str:="_law_line_here"
abbrev ahQ:PySem.Str:="_law_marks_text"
abbrev ahR:PySem.Str:="_law_sheet_text"
abbrev ahS:PySem.Str:="_law_mark_stands"
noncomputable section
def hold{G:Prop}(h:∀P:Prop,(G->P)->P):G:=h G id
local macro_rules | `(tactic| obtain ⟨$a,$b,$c,$d,$xs,*⟩ := $h)=>`(tactic| (refine hold λP k=>?_;rcases $h:term with ⟨$a,$b,$c,$d,$xs,*⟩<;>(refine k ?_;clear k P)))
local macro_rules | `(tactic| obtain ⟨$a,$b,$c,$d⟩ := $h)=>`(tactic| (refine hold λP k=>?_;rcases $h:term with ⟨$a,$b,$c,$d⟩<;>(refine k ?_;clear k P)))
local macro_rules | `(tactic| rcases $h:term with ⟨$a,$b,$c,$xs,*⟩ | $q)=>`(tactic| (refine hold λP k=>?_;obtain ⟨$a,$b,$c,$xs,*⟩ | $q := $h<;>(refine k ?_;clear k P)))
local macro_rules | `(⋯)=>`(by omega)
local macro_rules | `(∅)=>`(by simp)
local macro_rules | `(nofun)=>`(by decide +kernel)
local macro_rules | `(tactic| delta $x* $[$l]?)=>`(tactic| unfold $x* $[$l]?)
local macro_rules | `(tactic| erw[$[$x:term],*] $[$l:location]?)=>`(tactic| simp only[$[$x:term],*] $[$l:location]?)
local macro_rules | `(tactic| let $d:letDecl)=>do
  let p:=d.raw[0]
  let `(($a,$xs,*)):=p[0] | Lean.Macro.throwUnsupported
  let r<-(#[a]++xs.getElems).mapM λs=>match s with
    |`($i:ident)=>`(rcasesPat|$i:ident)
    |_=>`(rcasesPat|_)
  `(tactic| obtain ⟨$[$r:rcasesPat],*⟩ := $(⟨p[4]⟩))
local macro_rules | `(#v[$xs,*])=>`(List.toArray [$xs,*])
local macro_rules | `(#[$xs,*])=>`(⟨$xs,*⟩)
local macro_rules | `(tactic| omega) => `(tactic| lia)
open PySem.W (Frag)
namespace L2
open PySem PySem.Spec PyProof.Rows
abbrev Key:=Sum Int Str
noncomputable def Qi:Key->ã->Bool
 | .inl k,v=>Value.isInt k v
 | .inr x,v=>Value.isStrOf x v
noncomputable def aeR (w:Ĭ):Key->Int
 | .inl k=>hashInt k
 | .inr x=>hashStr w x
def mV:∀{k} {v},Qi k v=ό->(∃i t,k=Sum.inl i/\v=Value.int i t)\/(∃x t,k=Sum.inr x/\v=Value.str x t)
 | .inl i,v,h=>by
  let(t,e):=Value.isInt_shape h;exact .inl #[i,t,rfl,e]
 | .inr x,v,h=>by
  let(t,e):=Value.isStrOf_shape h;exact .inr #[x,t,rfl,e]
def aa6 (a b):ώ ((Sum.inl a:Key)=Sum.inl b)=(a==b):=by
 by_cases e:a=b
 .subst e;simp
 .have h:¬ (Sum.inl a:Key)=Sum.inl b:=λq=>e (Sum.inl.inj q)
  rw[Î h];exact(beq_eq_false_iff_ne.mpr e).symm
def aa7 (a b):ώ ((Sum.inr a:Key)=Sum.inr b)=ώ (a=b):=by
 by_cases e:a=b
 .simp
 .have h:¬ (Sum.inr a:Key)=Sum.inr b:=λq=>e (Sum.inr.inj q)
  rw[Î h,Î e]
def aiP (a) (b):ώ ((Sum.inl a:Key)=Sum.inr b)=ύ:=Î (λq=>nomatch q)
def aiQ (a) (b):ώ ((Sum.inr a:Key)=Sum.inl b)=ύ:=Î (λq=>nomatch q)
def Ak (prog) (w):PySem.KeyKind prog w Key where
 is:=Qi
 hash:=aeR w
 inj:=λv a b X Y=>by
  rcases mV X with ⟨i,t,rfl,rfl⟩ | ⟨x,t,rfl,rfl⟩
  .rcases mV Y with ⟨j,u,rfl,e⟩ | ⟨y,u,rfl,e⟩
   .injection e with e1 _;rw[e1]
   .exact nomatch e
  .rcases mV Y with ⟨j,u,rfl,e⟩ | ⟨y,u,rfl,e⟩
   .exact nomatch e
   .injection e with e1 _;rw[e1]
 byValue:=λk v h=>by
  rcases mV h with ⟨i,t,rfl,rfl⟩ | ⟨x,t,rfl,rfl⟩<;>rfl
 pyHash:=λZ h=>by
  rcases mV Z with ⟨i,t,rfl,rfl⟩ | ⟨x,t,rfl,rfl⟩
  .exact wpAny_pyHash_int h
  .exact wpAny_pyHash_str h
 eqBool:=λW Z h=>by
  rcases mV W with ⟨i,t,rfl,rfl⟩ | ⟨x,t,rfl,rfl⟩
  .rcases mV Z with ⟨j,u,rfl,rfl⟩ | ⟨y,u,rfl,rfl⟩
   .rw[aa6] at h;exact wpAny_eqBool_int h
   .exact SeqAt.EqAt.int_str i t y u _ _ _ _ h
  .rcases mV Z with ⟨j,u,rfl,rfl⟩ | ⟨y,u,rfl,rfl⟩
   .exact SeqAt.EqAt.str_int x t j u _ _ _ _ h
   .rw[aa7] at h;exact wpAny_eqBool_str h
 «strs»:=λk x t v h=>by
  rcases mV h with ⟨i,u,rfl,e⟩ | ⟨y,u,rfl,e⟩
  .exact nomatch e
  .injection e with e1 _
   subst e1
   cases v<;>rfl
set_option genInjectivity true in
inductive V where
 |ax|bl (b:Bool)|int (i:Int)|str (x:Str)|jM (b:Array UInt8)|BL (b:UInt64)|ref (a:þ)|ty (n:String)
 deriving DecidableEq
def RelV:V->ã->Prop
 | .ax,u=>u=Value.none
 | .bl b,u=>u=agh b
 | .int i,u=>∃t,u=Value.int i t
 | .str x,u=>∃t,u=Value.str x t
 | .jM b,u=>∃t,u=Value.bytes b t
 | .BL b,u=>∃t,u=Value.float b t
 | .ref a,u=>u=ahu a
 | .ty n,u=>u=ο n
abbrev Vals:List V->List ã->Prop:=Paired RelV
theorem Vals.length (r:Vals xs us):xs.length=us.length:=Paired.length r
theorem Vals.get:∀{xs} {us} {i:Nat} {x},Vals xs us->xs[i]?=ϊ x->∃u,us[i]?=ϊ u/\RelV x u
 |_,_,_,_,.nil,e=>by simp at e
 |_,_,0,_,.cons r _,e=>by simp at e;subst e;exact#[_,rfl,r]
 |_,_,i+1,x,.cons _ t,e=>by
  let(u,Z,Y):=Vals.get t (by simpa using e);exact#[u,by simpa using Z,Y]
theorem Vals.set (r:RelV x u):∀{xs} {us} i,Vals xs us->Vals (xs.set i x) (us.set i u)
 |_,_,_,.nil=>.nil
 |_,_,0,.cons _ t=>.cons r t
 |_,_,i+1,.cons q t=>.cons q (Vals.set r i t)
theorem Vals.append:∀{xs ys} {us ws},Vals xs us->Vals ys ws->Vals (xs++ys) (us++ws)
 |_,_,_,_,.nil,s=>s
 |_,_,_,_,.cons r t,s=>.cons r (Vals.append t s)
theorem Vals.take:∀{xs} {us} n,Vals xs us->Vals (xs.take n) (us.take n)
 |_,_,0,_=>.nil
 |_,_,_ + 1,.nil=>.nil
 |_,_,n+1,.cons r t=>.cons r (Vals.take n t)
theorem Vals.drop:∀{xs} {us} n,Vals xs us->Vals (xs.drop n) (us.drop n)
 |_,_,0,r=>r
 |_,_,_ + 1,.nil=>.nil
 |_,_,n+1,.cons _ t=>Vals.drop n t
def oM:Option V->Option ã->Prop
 |some v,ϊ u=>RelV v u
 |none,ϋ=>True
 |_,_=>False
def KV:List (κ×V)->List (κ×ã)->Prop:=Paired λp q=>p.1=q.1/\RelV p.2 q.2
noncomputable def kV:Key->V
 | .inl i=>.int i
 | .inr x=>.str x
inductive HO where
 |lst (xs:List V)
 |tup (xs:List V)
 |dK (bu:List (Key×V))|dT (bu:List (List Key×V))
 |set (S:Int->Bool) (n:Nat)
 |ins (C dx:þ) (fs:List (Str×V))
 |own (x:þ)
 |xd (fs:List (Str×V))
 |met (f x:þ)
 |eT (lo hi:Int)
 |bx (o:Obj) (u:HO)
 |cK (ps:Array ã)
 |ext (φ:ū->Prop)
abbrev Hp:=þ->Option HO
noncomputable def upd (H:Hp) (a:þ) (o:HO):Hp:=λb=>if b=a then ϊ o else H b
def cY:upd H a o a=ϊ o:=by delta upd;rw[Ù rfl]
def bB (h:b≠a):upd H a o b=H b:=by delta upd;rw[é h]
def eh {H:Hp} {a b} {o} (h:H a=ϊ o) (h':H b=ϋ):a≠b:=by
 intro e;subst e;rw[h] at h';cases h'
section
variable (P:ø) (w:Ĭ)
def gm (H:Hp) (h:ū) (a:þ):HO->Prop
 | .lst Z=>Z.length<=Õ/\∃(ak:List ã) (n:Nat),Vals Z ak/\h.get? a=ϊ { cls:=.type "list",data:=.seq ak.toArray n }
 | .tup Z=>Z.length<=Õ/\∃ak,Vals Z ak/\IsTup h a ak.toArray
 | .dK X=>X.length<=Õ/\(a==sysModules)=ύ/\∃T,KV X T/\h.DictOf (Ak P w) a T
 | .dT X=>X.length<=Õ/\(a==sysModules)=ύ/\∃Z,
   Paired (λp q=>p.1=q.1/\H q.2.1=ϊ (.tup (p.1.map kV))/\RelV p.2 q.2.2) X Z /\
   ∃o R N,h.get? a=ϊ o/\o.ExactDict/\o.data=.dict R N/\R.toList=Z.map (entryOfKey (tupleKind (Ak P w)))/\(Z.map (·.1)).Nodup
 | .set S n=>h.SetOf (ŷ P w) a S n
 | .ins C V fs=>H V=ϊ (.own a)/\fs.length<=1000/\V≠a/\h.get? a=ϊ (δ C V) /\
   ∃Y,h.Ns1 V Y/\(∀f,oM (fs.lookup f) (Y f))/\PySem.Within Y (fs.map (·.1))
 | .own _=>∃o,h.get? a=ϊ o
 | .xd fs=>∃Y,h.Ns1 a Y/\∀f,oM (fs.lookup f) (Y f)
 | .eT lo hi=>∃t u v,h.get? a=ϊ { cls:=.type "range",data:=.fields #v[.int lo t,.int hi u,.int 1 v] }
 | .bx o u=>h.get? a=ϊ o/\gm H h a u
 | .cK M=>h.get? a=ϊ { cls:=.none,data:=.fields M }
 | .met f x=>h.get? a=ϊ (PySem.W.methodObj (.ref f) (.ref x))
 | .ext U=>U h/\(∃o,h.get? a=ϊ o)/\∀Q O,U Q->(∀o,Q.get? a=ϊ o->O.get? a=ϊ o)->U O
def dG (H:Hp) (h:ū):Prop:=∀a o,H a=ϊ o->gm P w H h a o
end
section
variable {P:ø} {w:Ĭ} {H H':Hp} {h h':ū} {a:þ} {o:HO}
theorem gm.lt (x:gm P w H h a o):a<h.objs.size:=by
 cases o with
 |lst Z=>let(_,_,_,_,e):=x;exact Í e
 |tup Z=>let(_,_,_,p):=x;exact p.lt
 |dK Y=>let(_,_,_,_,o,_,_,e,_):=x;exact Í e
 |dT Y=>let(_,_,_,_,o,_,_,e,_):=x;exact Í e
 |set S n=>let(o,_,_,_,e,_):=x;exact Í e
 |ins C X fs=>let(_,_,_,e,_):=x;exact Í e
 |own y=>let(_,e):=x;exact Í e
 |xd fs=>obtain⟨_,⟨_,_,_,e,_⟩,_⟩:=x;exact Í e
 |eT lo hi=>let(_,_,_,e):=x;exact Í e
 |bx W u=>let(e,_):=x;exact Í e
 |cK V=>exact Í (x)
 |met f y=>exact Í (x)
 |ext U=>obtain⟨_,⟨_,e⟩,_⟩:=x;exact Í e
theorem Paired.Rr {F G}:∀{Rt:List α} {l₂:List β},Paired F Rt l₂->(∀a b,F a b->G a b)->Paired G Rt l₂
 |_,_,.nil,_=>.nil
 |_,_,.cons r t,f=>.cons (f _ _ r) (Paired.Rr t f)
def gm.iX (x:gm P w H h a o) (k:∀b u,(b=a\/H b=ϊ (.own a))->h.get? b=ϊ u->h'.get? b=ϊ u)
  (ho:∀b,H b=ϊ (.own a)->H' b=ϊ (.own a)) (ht:∀b xs,H b=ϊ (.tup xs)->H' b=ϊ (.tup xs)):gm P w H' h' a o:=by
 induction o with
 |lst xs=>let(z,ak,n,r,e):=x;exact#[z,ak,n,r,k _ _ (.inl rfl) e]
 |tup xs=>let(z,ak,r,Z,e,c):=x;exact#[z,ak,r,Z,k _ _ (.inl rfl) e,c]
 |dK T=>let(z,y,R,r,Z,Y,X,e,c):=x;exact#[z,y,R,r,Z,Y,X,k _ _ (.inl rfl) e,c]
 |dT T =>
  let(z,y,xs,r,Z,Y,X,e,c):=x;exact#[z,y,xs,Paired.Rr r λp q z=>#[z.1,ht _ _ z.2.1,z.2.2],Z,Y,X,k _ _ (.inl rfl) e,c]
 |set S n=>let(Z,Y,X,t,e,c):=x;exact#[Z,Y,X,t,k _ _ (.inl rfl) e,c]
 |ins C Q fs =>
  obtain⟨d,z,ne,e,W,⟨V,Y,X,e2,c⟩,r⟩:=x;exact#[ho _ d,z,ne,k _ _ (.inl rfl) e,W,#[V,Y,X,k _ _ (.inr d) e2,c],r]
 |own y=>let(Z,e):=x;exact#[Z,k _ _ (.inl rfl) e]
 |xd fs=>obtain⟨W,⟨V,Y,X,e,c⟩,r⟩:=x;exact#[W,#[V,Y,X,k _ _ (.inl rfl) e,c],r]
 |eT lo hi=>let(t,u,v,e):=x;exact#[t,u,v,k _ _ (.inl rfl) e]
 |bx Z u ih=>let(e,q):=x;exact#[k _ _ (.inl rfl) e,ih q]
 |cK O =>
  have e:=x;exact k a _ (.inl rfl) e
 |met f y =>
  have e:=x;exact k a _ (.inl rfl) e
 |ext N=>obtain⟨p,⟨o,e⟩,U⟩:=x;exact#[U _ _ p λo q=>k _ _ (.inl rfl) q,#[o,k _ _ (.inl rfl) e],U]
theorem dG.lt (x:dG P w H h) (e:H a=ϊ o):a<h.objs.size:=(x a o e).lt
def dG.fresh (x:dG P w H h) (e:h.objs.size<=a):H a=ϋ:=by
 cases q:H a with
 |none=>rfl
 |some u=>exact absurd (È (x.lt q) e) (ò _)
def dG.kept (x:dG P w H h) (k:∀b u,h.get? b=ϊ u->h'.get? b=ϊ u):dG P w H h':=λa o e =>
 (x a o e).iX (λb u _ q=>k b u q) (λ_ q=>q) λ_ _ q=>q
def dG.laid (x:dG P w H h) (k:∀b u,h.get? b=ϊ u->h'.get? b=ϊ u) (hp:h.objs.size<=a) (new:gm P w (upd H a o) h' a o):dG P w (upd H a o) h':=λb u e=>by
 have Z:=x.fresh hp;by_cases Y:b=a
 .subst Y;rw[cY] at e;cases e;exact new
 .rw[bB Y] at e
  exact(x b u e).iX (λc v _ q=>k c v q) (λc q=>by rw[bB (eh q Z)];exact q) λc X q=>by rw[bB (eh q Z)];exact q
end
def Rd (H:Hp) (a:þ) (u:HO):Prop:=H a=ϊ u\/∃o,H a=ϊ (.bx o u)
def Rd.ok (r:Rd H a u) (x:dG P w H h):gm P w H h a u:=by
 rcases r with r | ⟨o,r⟩
 .exact x a u r
 .let(_,q):=x a _ r
  exact q
def BM:Option HO->Prop
 |some (.lst _)=>True
 |some (.dK _)=>True
 |some (.dT _)=>True
 |some (.set ..)=>True
 |some (.ins ..)=>True
 |some (.ext _)=>True
 |_=>False
section
variable {P:ø} {w:Ĭ} {H:Hp} {h h':ū} {x e:þ} {o':HO}
def dG.write (ok:dG P w H h) (mu:BM (H x)) (he:e=x\/H e=ϊ (.own x)) (k:∀b u,b≠e->h.get? b=ϊ u->h'.get? b=ϊ u) (vw:∃u,h'.get? e=ϊ u)
  (new:gm P w (upd H x o') h' x o'):dG P w (upd H x o') h':=λb u q=>by
 have V:∀c y,H c=ϊ (.own y)->c≠x:=λc y r z=>by subst z;rw[r] at mu;exact mu
 have W:∀c Z,H c=ϊ (.tup Z)->c≠x:=λc Z r z=>by subst z;rw[r] at mu;exact mu
 by_cases Y:b=x
 .subst Y;rw[cY] at q;cases q;exact new
 .rw[bB Y] at q
  by_cases X:b=e
  .have U:H b=ϊ (.own x):=by
    rcases he with z|z
    .exact absurd (X.trans z) Y
    .rw[X];exact z
   rw[q] at U;cases U;let(v,T):=vw;exact#[v,by rw[X];exact T]
  .refine(ok b u q).iX (λc v hc r=>k c v ?_ r) (λc r=>by rw[bB (V c b r)];exact r) λc Z r=>by rw[bB (W c Z r)];exact r
   rcases hc with rfl|hc
   .exact X
   .rintro rfl
    rcases he with z|z
    .exact V c b hc z
    .rw[hc] at z;cases z;exact Y rfl
end
structure Un (fs ex:List þ) (H H':Hp) (h h':ū):Prop where
 keep:∀b o,h.get? b=ϊ o->H b=ϋ->b∉fs->b∉ex->h'.get? b=ϊ o
 slot:∀b o,h.get? b=ϊ o->H b=ϋ->b∈fs->b∉ex->∃sl,h'.get? b=ϊ { o with slots:=sl }
 free:∀b o,h.get? b=ϊ o->H b=ϋ->b∉ex->H' b=ϋ
 there:∀b o,h.get? b=ϊ o->b∉ex->∃o',h'.get? b=ϊ o'
 gK:∀b xs,H b=ϊ (.tup xs)->H' b=ϊ (.tup xs)
 fQ:∀b o u,H b=ϊ (.bx o u)->H' b=ϊ (.bx o u)
 gM:∀b ps,H b=ϊ (.cK ps)->∃more,H' b=ϊ (.cK (ps++more))
section
variable {fs fs' ex ex':List þ} {H H1 H2:Hp} {h h1 h2 h':ū} {a x e:þ} {o:HO}
def Un.any (u:Un fs ex H H1 h h1) (q:h.get? b=ϊ ob) (n:H b=ϋ) (hx:b∉ex):∃sl,h1.get? b=ϊ { ob with slots:=sl }:=by
 by_cases Z:b∈fs
 .exact u.slot b ob q n Z hx
 .exact#[_,u.keep b ob q n Z hx]
def Un.kept (k:∀b u,h.get? b=ϊ u->h'.get? b=ϊ u):Un fs ex H H h h' :=
 #[λb Z q _ _ _=>k b Z q,λb Z q _ _ _=>#[_,k b Z q],λ_ _ _ n _=>n,λb Z q _=>#[Z,k b Z q],λ_ _ q=>q,λ_ _ _ q=>q,λ_ Y q=>#[#v[],by rw[q];simp]]
def Un.refl:Un fs ex H H h h:=Un.kept λ_ _ q=>q
def Un.laid (k:∀b u,h.get? b=ϊ u->h'.get? b=ϊ u) (hp:h.objs.size<=a) (hn:H a=ϋ):Un fs ex H (upd H a o) h h' where
 keep:=λb u q _ _ _=>k b u q
 slot:=λb u q _ _ _=>#[_,k b u q]
 free:=λb u q n _=>by rw[bB (ß (È (Í q) hp))];exact n
 there:=λb u q _=>#[u,k b u q]
 gK:=λb Z q=>by rw[bB (eh q hn)];exact q
 fQ:=λb u Z q=>by rw[bB (eh q hn)];exact q
 gM:=λb Y q=>#[#v[],by rw[bB (eh q hn),q];simp]
def Un.write (mu:BM (H x)) (he:e=x\/H e=ϊ (.own x)) (k:∀b u,b≠e->h.get? b=ϊ u->h'.get? b=ϊ u) (vw:∃u,h'.get? e=ϊ u):Un fs ex H (upd H x o) h h':=by
 have Y:∀b,H b=ϋ->b≠x:=λb n z=>by subst z;rw[n] at mu;exact mu
 have X:∀b,H b=ϋ->b≠e:=λb n z=>by
  subst z
  rcases he with r|r
  .exact Y b n r
  .rw[n] at r;cases r
 have Z:∀b u,H b=ϊ u->¬ BM (ϊ u)->b≠x:=λb u q nm z=>by subst z;rw[q] at mu;exact nm mu
 refine#[λb u q n _ _=>k b u (X b n) q,λb u q n _ _=>#[_,k b u (X b n) q],λb u q n _=>by rw[bB (Y b n)];exact n,λb u q _=>?_,
  λb V q=>by rw[bB (Z b _ q λz=>z)];exact q,λb u V q=>by rw[bB (Z b _ q λz=>z)];exact q,λb U q=>#[#v[],by rw[bB (Z b _ q λz=>z),q];simp]]
 by_cases W:b=e
 .subst W;exact vw
 .exact#[u,k b u W q]
end
noncomputable def Hv (h:ū) (H:Hp):List þ:=(ä h.objs.size).filter λa=>(H a).isSome
def uZ (h:ū) (H:Hp):ū:=PySem.W.hideAll h (Hv h H)
def Wn (h) (H):(uZ h H).objs.size=h.objs.size:=PySem.W.hideAll_size ..
def DD (e:h.get? b=ϊ o) (n:H b=ϋ):(uZ h H).get? b=ϊ o :=
 agc _ e λZ=>by
  have q:=(ÿ.mp Z).2;rw[n] at q;simp at q
def Zt (e:(uZ h H).get? b=ϊ o):h.get? b=ϊ o/\H b=ϋ:=by
 have Z:=PySem.W.of_hideAll _ e;refine#[Z,?_]
 cases q:H b with
 |none=>rfl
 |some x =>
  have Y:b∈Hv h H:=ÿ.mpr #[î.mpr (Í Z),by simp[q]];have z:(uZ h H).get? b=ϋ:=PySem.W.hideAll_none _ Y;rw[z] at e;cases e
noncomputable def Zu (g h:ū) (L:þ):List (þ×Obj):=(ä h.objs.size).filterMap λa=>if a=L\/(g.get? a).isSome=ό then ϋ else (h.get? a).map λo=>(a,o)
def rest (g h:ū) (L d:þ):List (þ×Obj):=(Zu g h L).filter λp=>ώ (p.1≠d)
structure Mod (K:Ň) (mg) (base):Prop where
 lu:K.In base
 glob:base.Ns Ð mg
 blt:∃mb,base.Ns builtinsNs mb/\∀x:Str,x≠"__name__"->mb x=ü x
 nolimit:base.NoLimit
structure Cx where
 prog:ø
 w:Ĭ
 K:Ň
 mg:Str->Option ã
 base:ū
 A:đ
 N:List Str
 ef:Ý
 my:Hp
 env:Env
 outer:List Env
 stack:List Env
 ex:List þ
 fn:Str->Bool
 calm:Bool
 pn:List (þ×Obj)
 xe:ã->Ý->Prop
noncomputable def dU (l:List Env):List þ:=l.filterMap (·.frame)
abbrev Cx.fs (X:Cx):List þ:=dU X.outer
def qp (sc:ahl) (x:Str):Prop:=sc.names.lookup x=ϊ .local\/sc.names.lookup x=ϊ .cell\/sc.names.lookup x=ϊ .free
def Loc (sc:ahl) (x:Str):Prop:=sc.names.lookup x=ϊ .local\/sc.names.lookup x=ϊ .cell
def Look (env:Env) (h:ū) (m:Str->Option ã) (x:Str) (u:ã):Prop :=
 (env.kindOf x=ϊ .local/\m x=ϊ u)\/((env.kindOf x=ϊ .cell\/env.kindOf x=ϊ .free)/\∃c,env.cells.lookup x=ϊ c/\h.IsCell c (ϊ u))
structure Cx.Ok (X:Cx):Prop where
 mod:Mod X.K X.mg X.base
 kind:X.env.scope.kind=.function
 glob:X.env.globals=Ð
 blt:X.env.builtins=builtinsNs
 above:X.ef.heap.objs.size<=X.env.locals
 inj:∀x y c,X.env.cells.lookup x=ϊ c->X.env.cells.lookup y=ϊ c->x=y
 has:∀x,(X.env.kindOf x=ϊ .cell\/X.env.kindOf x=ϊ .free)->∃c,X.env.cells.lookup x=ϊ c
 vz:∀x c,X.fn x=ό->X.env.cells.lookup x=ϊ c->X.ef.heap.objs.size<=c
 hd:X.calm=ό->X.A.handled=ϋ
 frames:X.A.frames=ϊ X.stack
 nK:X.stack=X.outer\/(X.stack=X.env::X.outer/\X.env.frame=ϊ X.env.locals)
 Sb:∀b∈X.ex,b≠X.env.locals/\∀x c,X.env.cells.lookup x=ϊ c->c≠b
 bs:∀b o,X.base.get? b=ϊ o->X.ef.heap.get? b=ϊ o/\X.my b=ϋ
 jq:X.base.objs.size<=X.ef.heap.objs.size
 p9:∀b o,X.base.get? b=ϊ o->b∉X.ex
 Bq:∀b∈X.ex,b∉X.fs
 jj:X.ef.heap.FunFrames X.base X.outer
 mE:∀b∈X.fs,X.my b=ϋ
structure Inv (X:Cx) (π) (σ:List _) (H) (s:Ý):Prop where
 ok:X.Ok
 os:s.os=X.ef.os
 bare:ahq s.gens
 base:Un X.fs X.ex X.my H X.ef.heap s.heap
 loc:∃m,s.heap.Ns X.env.locals m/\∀(i:Nat) x v,X.N[i]?=ϊ x->σ[i]?=ϊ (ϊ v)->qp X.env.scope x->∃u,RelV v u/\Look X.env s.heap m x u
 cell:∀x c,X.env.cells.lookup x=ϊ c->∃v,s.heap.IsCell c v
 free:H X.env.locals=ϋ
 jD:∀x c,X.env.cells.lookup x=ϊ c->H c=ϋ
 pin:∀p∈X.pn++π,s.heap.get? p.1=ϊ p.2/\H p.1=ϋ/\p.1≠X.env.locals/\p.1∉X.fs/\∀v,p.2.data≠.cell v
 aK:dG X.prog X.w H s.heap
 len:σ.length=X.N.length
section
variable {X:Cx} {π:List (þ×Obj)} {σ:List (Option V)} {H H':Hp} {s:Ý} {h':ū}
def Cx.Ok.aeT (ok:X.Ok) (e:X.base.get? b=ϊ o):b∉X.fs:=λZ=>by
 have:=(ok.jj.mem Z).1;rw[e] at this;cases this
theorem Inv.bs (I:Inv X π σ H s):∀b o,X.base.get? b=ϊ o->s.heap.get? b=ϊ o/\H b=ϋ:=λb o e =>
 #[I.base.keep b o (I.ok.bs b o e).1 (I.ok.bs b o e).2 (I.ok.aeT e) (I.ok.p9 b o e),I.base.free b o (I.ok.bs b o e).1 (I.ok.bs b o e).2 (I.ok.p9 b o e)]
def Inv.bk (I:Inv X π σ H s):∀b o,X.base.get? b=ϊ o->s.heap.get? b=ϊ o:=λb o e=>(I.bs b o e).1
theorem Inv.mod (I:Inv X π σ H s):Mod X.K X.mg X.base:=I.ok.mod
def Inv.gb (I:Inv X π σ H s):X.K.In s.heap:=I.ok.mod.lu.keeps I.bk
theorem Inv.lt (I:Inv X π σ H s):X.env.locals<s.heap.objs.size:=let ⟨_,Z,_⟩:=I.loc;Z.lt
def Inv.sz (I:Inv X π σ H s):X.ef.heap.objs.size<=s.heap.objs.size:=Ø I.ok.above (Nat.le_of_lt I.lt)
def Inv.Br (I:Inv X π σ H s) {a:þ} (h:s.heap.objs.size<=a):a∉X.fs:=λZ=>by
 let(_,o,Y,_):=I.ok.jj.mem Z;exact absurd (È (Í Y) (Ø I.sz h)) (ò _)
def Inv.lA (I:Inv X π σ H s):∀x c,X.env.cells.lookup x=ϊ c->c≠X.env.locals:=λx c e z=>by
 let(v,o,Z,Y):=I.cell x c e;obtain⟨m,⟨U,T,S,W,V,_⟩,_⟩:=I.loc;rw[z,W] at Z;cases Z;rw[V] at Y;cases Y
theorem Inv.jj (I:Inv X π σ H s):s.heap.FunFrames X.base X.outer:=by
 have all:∀l,(∀b∈dU l,b∈X.fs)->X.ef.heap.FunFrames X.base l->s.heap.FunFrames X.base l:=by
  intro l
  induction l with
  |nil=>intro _ _;trivial
  |cons env r ih =>
   intro V U;obtain⟨T,⟨L,o,Z,S,R,Q⟩,P⟩:=U;have Y:=V L (by delta dU;rw[agd,Z];exact Ö);let(sl,e):=I.base.slot L o R (I.ok.mE L Y) Y λz=>I.ok.Bq L z Y;exact#[T,#[L,_,Z,S,e,Q],ih (λb W=>V b (by delta dU;rw[agd,Z];exact Ë _ W)) P]
 exact all _ (λ_ W=>W) I.ok.jj
theorem Inv.stack (I:Inv X π σ H s):s.heap.FunFrames X.base X.stack:=by
 rcases I.ok.nK with e | ⟨e,Z⟩
 .rw[e];exact I.jj
 .rw[e]
  let(m,Y,_):=I.loc;refine .cons (by rw[I.ok.kind];decide) Z Y ?_ I.jj;exact Heap.get?_none_of_le (Ø I.ok.jq I.ok.above)
def Inv.m8 (I:Inv X π σ H s):∀b∈dU X.stack,b∈X.env.locals::X.fs:=λb Z=>by
 rcases I.ok.nK with e | ⟨e,Y⟩
 .rw[e] at Z;exact Ë _ Z
 .rw[e] at Z
  delta dU at Z;rw[agd,Y] at Z;exact Z
def Inv.wK (I:Inv X π σ H s):∀b∈dU X.stack,H b=ϋ:=λb hb=>by
 rcases Ô.mp (I.m8 b hb) with e|hb
 .rw[e];exact I.free
 .let(_,o,Z,_):=I.ok.jj.mem hb
  exact I.base.free b o Z (I.ok.mE b hb) λz=>I.ok.Bq b z hb
def Inv.step {d'} {ch:List þ} (I:Inv X π σ H s)
  (nL:∀b∈ch,(b∈X.ex\/X.ef.heap.objs.size<=b)/\b≠X.env.locals/\(∀x c,X.env.cells.lookup x=ϊ c->c≠b)/\∀p∈X.pn++π,p.1≠b)
  (keep:∀b o,b≠X.env.locals->b∉X.fs->b∉ch->s.heap.get? b=ϊ o->H b=ϋ->h'.get? b=ϊ o)
  (slot:∀b o,b≠X.env.locals->b∈X.fs->b∉ch->s.heap.get? b=ϊ o->H b=ϋ->∃sl,h'.get? b=ϊ { o with slots:=sl }) (free:∀b o,b∉ch->s.heap.get? b=ϊ o->H b=ϋ->H' b=ϋ)
  (there:∀b o,b∉ch->s.heap.get? b=ϊ o->∃o',h'.get? b=ϊ o')
  (gK:∀b xs,H b=ϊ (.tup xs)->H' b=ϊ (.tup xs)) (fQ:∀b o u,H b=ϊ (.bx o u)->H' b=ϊ (.bx o u)) (gM:∀b ps,H b=ϊ (.cK ps)->∃more,H' b=ϊ (.cK (ps++more)))
  (ns:∀m,s.heap.Ns X.env.locals m->h'.Ns X.env.locals m) (aK:dG X.prog X.w H' h') (hg:ahq g') :
  Inv X π σ H' { s with heap:=h',gens:=g',drawn:=d',toks:=t' }:=by
 have S:∀b o,X.ef.heap.get? b=ϊ o->b≠X.env.locals:=λb o e=>ß (È (Í e) I.ok.above);have U:∀b o,X.ef.heap.get? b=ϊ o->b∉X.ex->b∉ch:=λb o e Z Y=>by
  rcases(nL b Y).1 with z|z
  .exact Z z
  .exact absurd (È (Í e) z) (ò _)
 have cellK:∀x c,X.env.cells.lookup x=ϊ c->∀v,s.heap.IsCell c v->h'.IsCell c v:=λx c e v ⟨o,W,T⟩=>by
  have V:=λz=>(nL c z).2.2.1 x c e rfl;by_cases R:c∈X.fs
  .let(sl,q):=slot c o (I.lA x c e) R V W (I.jD x c e)
   exact#[_,q,T]
  .exact#[o,keep c o (I.lA x c e) R V W (I.jD x c e),T]
 refine#[I.ok,I.os,hg,#[λb o e n Y Z=>?_,λb o e n Y Z=>?_,λb o e n Z=>?_,λb o e Z=>?_,λb xs e=>gK b xs (I.base.gK b xs e),λb o xs e=>fQ b o xs (I.base.fQ b o xs e),λb ps e=>?_],?_,λx c e=>?_,?_,λx c e=>?_,λp Q=>?_,aK,I.len]
 .exact keep b o (S b o e) Y (U b o e Z) (I.base.keep b o e n Y Z) (I.base.free b o e n Z)
 .let(sl,e1):=I.base.slot b o e n Y Z
  let(O,e2):=slot b _ (S b o e) Y (U b o e Z) e1 (I.base.free b o e n Z);exact#[O,e2]
 .let(o',e1):=I.base.there b o e Z
  exact free b o' (U b o e Z) e1 (I.base.free b o e n Z)
 .let(o',e1):=I.base.there b o e Z
  exact there b o' (U b o e Z) e1
 .let(L,e1):=I.base.gM b ps e
  let(K,e2):=gM b _ e1;exact#[_,by rw[e2,Array.append_assoc]]
 .let(m,N,M):=I.loc
  refine#[m,ns m N,λi x v e1 e2 e3=>?_];let(u,r,l):=M i x v e1 e2 e3;refine#[u,r,?_]
  rcases l with l | ⟨k,c,e,z⟩
  .exact .inl l
  .exact .inr #[k,c,e,cellK x c e _ z]
 .let(v,z):=I.cell x c e
  exact#[v,cellK x c e v z]
 .obtain⟨m,⟨o,_,_,W,_⟩,_⟩:=I.loc
  exact free _ o (λz=>(nL _ z).2.1 rfl) W I.free
 .let(v,o,W,T):=I.cell x c e
  exact free c o (λz=>(nL c z).2.2.1 x c e rfl) W (I.jD x c e)
 .let(e,n,ne,P,d):=I.pin p Q
  have V:=λz=>(nL _ z).2.2.2 p Q rfl;exact#[keep _ _ ne P V e n,free _ _ V e n,ne,P,d]
def Inv.un (I:Inv X π σ H s) (u:Un X.fs [] H H' s.heap h') (aK:dG X.prog X.w H' h'):Inv X π σ H' { s with heap:=h',toks:=t' }:=by
 obtain⟨m,⟨o,Q,P,Y,r⟩,_⟩:=id I.loc;let(sl,V):=u.any Y I.free ∅
 exact I.step (ch:=[]) (λ_ z=>nomatch z) (λb o _ Z _ e n=>u.keep b o e n Z ∅) (λb o _ Z _ e n=>u.slot b o e n Z ∅) (λb o _ e n=>u.free b o e n ∅) (λb o _ e=>u.there b o e ∅) u.gK u.fQ u.gM (λO U=>by
  let(N,T,S,W,R):=U;rw[Y] at W;cases W;exact#[_,T,S,V,R]) aK I.bare
def Inv.call {d'} {ch} (I:Inv X π σ H s) (u:Un (dU X.stack) ch H H' s.heap h') (aK:dG X.prog X.w H' h') (hg:ahq g')
  (nL:∀b∈ch,(b∈X.ex\/X.ef.heap.objs.size<=b)/\b≠X.env.locals/\(∀x c,X.env.cells.lookup x=ϊ c->c≠b)/\∀p∈X.pn++π,p.1≠b) :
  Inv X π σ H' { s with heap:=h',gens:=g',drawn:=d',toks:=t' }:=by
 obtain⟨m,⟨o,P,O,W,r⟩,_⟩:=id I.loc;let(sl,Y):=u.any W I.free λz=>(nL _ z).2.1 rfl;exact I.step nL (λb o Y U Z e n=>u.keep b o e n (λz=>(Ô.mp (I.m8 b z)).elim Y U) Z) (λb o _ _ Z e n=>u.any e n Z) (λb o Z e n=>u.free b o e n Z) (λb o Z e=>u.there b o e Z) u.gK u.fQ u.gM (λN T=>by
  let(M,S,R,V,Q):=T;rw[W] at V;cases V;exact#[_,S,R,Y,Q]) aK hg
def Inv.turned {it} (I:Inv X π σ H s) (k:∀b o,b≠it->s.heap.get? b=ϊ o->h'.get? b=ϊ o) (hn:H it=ϋ) (hL:it≠X.env.locals)
  (h1:it∈X.ex\/X.ef.heap.objs.size<=it) (h2:∀x c,X.env.cells.lookup x=ϊ c->c≠it) (h3:∀p∈X.pn++π,p.1≠it):Inv X π σ H { s with heap:=h',toks:=t' }:=by
 have Y:∀b u,H b=ϊ u->b≠it:=λb u e z=>by rw[z,hn] at e;cases e
 refine I.step (ch:=[it]) (λb W=>?_) (λb o _ _ Z e _=>k b o (λz=>Z (by simp[z])) e) (λb o _ _ Z e _=>#[_,k b o (λz=>Z (by simp[z])) e]) (λ_ _ _ _ n=>n)
  (λb o Z e=>#[o,k b o (λz=>Z (by simp[z])) e]) (λ_ _ e=>e) (λ_ _ _ e=>e) (λb R e=>#[#v[],by rw[e];simp]) (λm V=>?_) (λb u e=>?_) I.bare
 .have e:=by simpa using W
  subst e;exact#[h1,hL,h2,h3]
 .let(o,U,T,S,r):=V
  exact#[o,U,T,k _ o (Ĥ hL) S,r]
 .refine(I.aK b u e).iX (λc v Z q=>k c v ?_ q) (λ_ q=>q) λ_ _ q=>q
  rcases Z with z|z
  .rw[z];exact Y b u e
  .exact Y c _ z
def Inv.tok (I:Inv X π σ H s) (t):Inv X π σ H { s with toks:=t }:=I.un Un.refl I.aK
theorem Inv.kept (I:Inv X π σ H s) (k:∀b u,s.heap.get? b=ϊ u->h'.get? b=ϊ u):Inv X π σ H { s with heap:=h',toks:=t' }:=I.un (Un.kept k) (I.aK.kept k)
theorem Inv.laid {a:þ} {o} {t'} (I:Inv X π σ H s) (k:∀b u,s.heap.get? b=ϊ u->h'.get? b=ϊ u) (hp:s.heap.objs.size<=a) (new:gm X.prog X.w (upd H a o) h' a o) :
  Inv X π σ (upd H a o) { s with heap:=h',toks:=t' }:=I.un (Un.laid k hp (I.aK.fresh hp)) (I.aK.laid k hp new)
theorem Inv.write (I:Inv X π σ H s) (mu:BM (H x)) (he:e=x\/H e=ϊ (.own x)) (k:∀b u,b≠e->s.heap.get? b=ϊ u->h'.get? b=ϊ u) (vw:∃u,h'.get? e=ϊ u)
 (new:gm X.prog X.w (upd H x o) h' x o):Inv X π σ (upd H x o) { s with heap:=h',toks:=t' }:=I.un (Un.write mu he k vw) (I.aK.write mu he k vw new)
def Inv.qY (I:Inv X π σ H s) (h:∀p∈adj,s.heap.get? p.1=ϊ p.2/\H p.1=ϋ/\p.1≠X.env.locals/\p.1∉X.fs/\∀v,p.2.data≠.cell v):Inv X adj σ H s :=
 #[I.ok,I.os,I.bare,I.base,I.loc,I.cell,I.free,I.jD,λp Z=>(Ā.mp Z).elim (λz=>I.pin p (ó _ z)) (h p),I.aK,I.len]
def DE {N:List Str} (hN:N.Nodup) {i j:Nat} {x} (a:N[i]?=ϊ x) (b:N[j]?=ϊ x):i=j:=by
 let(Z,e1):=Ç.mp a;let(Y,e2):=Ç.mp b;exact(List.getElem_inj hN).mp (e1.trans e2.symm)
def Wo {A} {E} {i} {x} {v} {u} {Q} (I:Inv X π σ H s) (hN:X.N.Nodup) (hi:X.N[i]?=ϊ x) (hx:Loc X.env.scope x) (r:RelV v u)
  (h:∀s',Inv X π (σ.set i (ϊ v)) H s'->(∃a,Ĩ a s.heap s'.heap/\(a=X.env.locals\/X.env.cells.lookup x=ϊ a))->Q () s') (hf:X.fn x=ό\/X.env.scope.names.lookup x=ϊ .local:=by first|exact .inl rfl|exact .inr rfl|assumption):ë M A (storeName X.env x u) Q E s:=by
 let(m,T,F):=id I.loc;have l:(X.env.scope.kind==.class||(X.env.scope.kind==.module&&X.env.locals != X.env.globals))=ύ:=by rw[I.ok.kind];rfl
 have D:i < σ.length:=by rw[I.len];exact(Ç.mp hi).1
 have lA:=I.lA;have tracked:∀{a} {h'},(∃o,s.heap.get? a=ϊ o/\H a=ϋ)->Ĩ a _ h'->dG _ _ H h':=λg Z b f e=>by
  let(_,_,C):=g;refine(I.aK b f e).iX (λc V hc q=>(Z.2 c ?_).trans q) (λ_ q=>q) λ_ _ q=>q;rintro rfl
  rcases hc with rfl|hc
  .rw[C] at e;cases e
  .rw[C] at hc;cases hc
 rcases hx with hk|hk
 .refine wpAny_storeName_local hk T (λh' mF Z=>?_) l
  let(oL,_,_,yx,_):=id T;refine h _ #[I.ok,I.os,I.bare,#[λb o e n Y hx=>?_,λb o e n Y hx=>?_,I.base.free,λb o e hx=>?_,I.base.gK,I.base.fQ,I.base.gM],#[_,mF,λj y S e1 e2 e3=>?_],λy c e=>?_,I.free,I.jD,λp R=>?_,tracked #[oL,yx,I.free] Z,by simpa using I.len] #[_,Z,.inl rfl]
  .exact(Z.2 b (ß (È (Í e) I.ok.above))).trans (I.base.keep b o e n Y hx)
  .let(sl,e1):=I.base.slot b o e n Y hx
   exact#[sl,(Z.2 b (ß (È (Í e) I.ok.above))).trans e1]
  .let(P,e1):=I.base.there b o e hx
   exact#[P,(Z.2 b (ß (È (Í e) I.ok.above))).trans e1]
  .by_cases W:j=i
   .subst W
    rw[hi] at e1;cases e1;rw[â D] at e2;cases e2;exact#[u,r,.inl #[hk,by simp]]
   .rw[ç (Ĥ W)] at e2
    let(O,L,q):=F j y S e1 e2 e3;refine#[O,L,?_]
    rcases q with ⟨k,e⟩ | ⟨k,c,e,z⟩
    .refine .inl #[k,?_]
     have:y≠x:=λe=>W (DE hN e1 (e ▸ hi));simp[this,e]
    .exact .inr #[k,c,e,z.sameBut Z (lA y c e)]
  .let(V,z):=I.cell y c e
   exact#[V,z.sameBut Z (lA y c e)]
  .let(e,n,ne,K,d):=I.pin p R
   exact#[(Z.2 _ ne).trans e,n,ne,K,d]
 .have J:X.fn x=ό:=by
   rcases hf with z|z
   .exact z
   .rw[z] at hk;cases hk
  let(c,hc):=I.ok.has x (.inl hk);let(V,z):=I.cell x c hc;refine wpAny_storeName_cell I.ok.kind hk hc z (λh' B Z=>?_);let(oc,w,G):=id z;refine h _ #[I.ok,I.os,I.bare,#[λb o e n Y hx=>?_,λb o e n Y hx=>?_,I.base.free,λb o e hx=>?_,I.base.gK,I.base.fQ,I.base.gM],#[m,T.sameBut Z (Ĥ (lA x c hc)),λj y S e1 e2 e3=>?_],λy U e=>?_,I.free,I.jD,λp R=>?_,tracked #[oc,w,I.jD x c hc] Z,by simpa using I.len] #[c,Z,.inr hc]
  .exact(Z.2 b (ß (È (Í e) (I.ok.vz x c J hc)))).trans (I.base.keep b o e n Y hx)
  .let(sl,e1):=I.base.slot b o e n Y hx
   exact#[sl,(Z.2 b (ß (È (Í e) (I.ok.vz x c J hc)))).trans e1]
  .let(P,e1):=I.base.there b o e hx
   exact#[P,(Z.2 b (ß (È (Í e) (I.ok.vz x c J hc)))).trans e1]
  .by_cases W:j=i
   .subst W
    rw[hi] at e1;cases e1;rw[â D] at e2;cases e2;exact#[u,r,.inr #[.inl hk,c,hc,B]]
   .rw[ç (Ĥ W)] at e2
    let(O,L,q):=F j y S e1 e2 e3;refine#[O,L,?_]
    rcases q with q | ⟨k,U,e,z'⟩
    .exact .inl q
    .refine .inr #[k,U,e,z'.sameBut Z ?_]
     rintro rfl;exact W (DE hN e1 (I.ok.inj _ _ _ e hc ▸ hi))
  .by_cases t:U=c
   .subst t;exact#[_,B]
   .let(w2,z2):=I.cell y U e
    exact#[w2,z2.sameBut Z t]
  .let(e,n,ne,K,d):=I.pin p R
   refine#[(Z.2 _ ?_).trans e,n,ne,K,d];intro q;rw[q,w] at e;have q':=ahA e;exact d V (by rw[<- q'];exact G)
def pK (I:Inv X π σ H s) (hN:X.N.Nodup) (hi:X.N[i]?=ϊ x) (hx:Loc X.env.scope x) (r:RelV v u)
 (h:∀s',Inv X π (σ.set i (ϊ v)) H s'->Q () s') (hf:X.fn x=ό\/X.env.scope.names.lookup x=ϊ .local:=by first|exact .inl rfl|exact .inr rfl|assumption):ë M A (storeName X.env x u) Q E s :=
 Wo I hN hi hx r (λs' Z _=>h s' Z) hf
def Inv.xx (I:Inv X π σ H s) (ho:s'.os=s.os) (u:Un (dU X.stack) ch H H' s.heap s'.heap) (aK:dG X.prog X.w H' s'.heap) (hg:ahq s'.gens)
 (nL:∀b∈ch,(b∈X.ex\/X.ef.heap.objs.size<=b)/\b≠X.env.locals/\(∀x c,X.env.cells.lookup x=ϊ c->c≠b)/\∀p∈X.pn++π,p.1≠b):Inv X π σ H' s':=by
 let(h',Z,Y,W,V):=s';have e:=ho;subst e;exact I.call u aK hg nL
end
abbrev XK:=ã->Option þ->Hp->Prop
abbrev St:=List (Option V)
abbrev VK:=V->Hp->Prop
abbrev TE:=St->Hp->VK->Prop
abbrev TT:=St->Hp->(Bool->Hp->Prop)->Prop
abbrev TA:=St->Hp->(List V->Hp->Prop)->Prop
structure Ends where
 nx:St->Hp->Prop
 rt:VK
 bk:St->Hp->Prop:=λ_ _=>False
 ct:St->Hp->Prop:=λ_ _=>False
abbrev TS:=Ends->St->Hp->Prop
def EP (X:Cx) (π:List (þ×Obj)) (σ:St) (Q:VK) (u:ã) (s':Ý):Prop:=∃v Z,Inv X π σ Z s'/\RelV v u/\Q v Z
def TP (X:Cx) (π:List (þ×Obj)) (σ:St) (Q:Bool->Hp->Prop) (b:Bool) (s':Ý):Prop:=∃Z,Inv X π σ Z s'/\Q b Z
def AP (X:Cx) (π:List (þ×Obj)) (σ:St) (Q:List V->Hp->Prop) (us:List ã) (s':Ý):Prop:=∃Z Y,Inv X π σ Y s'/\Vals Z us/\Q Z Y
def SP (X:Cx) (π:List (þ×Obj)) (D:Ends) (f:Flow) (s':Ý):Prop :=
 match f with
 | .next=>∃ Y Z,Inv X π Y Z s'/\D.nx Y Z
 | .brk=>∃ Y Z,Inv X π Y Z s'/\D.bk Y Z
 | .cont=>∃ Y Z,Inv X π Y Z s'/\D.ct Y Z
 | .ret u=>∃v Y Z,Inv X π Y Z s'/\RelV v u/\D.rt v Z
def PE (X:Cx) (e:ŕ) (t:TE):Prop :=
 ∀Z s (σ:St) H Q,Inv X Z σ H s->t σ H Q->ë (ê X.prog X.w) X.A (Ħ e X.env) (EP X Z σ Q) X.xe s
def PT (X:Cx) (e:ŕ) (t:TT):Prop :=
 ∀Z s (σ:St) H Q,Inv X Z σ H s->t σ H Q->ë (ê X.prog X.w) X.A (isTrue e X.env (Ħ e X.env)) (TP X Z σ Q) X.xe s
def PW (X:Cx) (e:ŕ) (t:TT):Prop :=
 ∀whole Z s (σ:St) H Q,Inv X Z σ H s->t σ H Q->ë (ê X.prog X.w) X.A (isTrue e X.env whole) (TP X Z σ Q) X.xe s
def PW.pt (h:PW X e t):PT X e t:=h _
def PA (X:Cx) (es:List ŕ) (t:TA):Prop :=
 ∀pos Z s (σ:St) H Q,Inv X Z σ H s->t σ H Q->ë (ê X.prog X.w) X.A (spliced (Ġ pos (É es X.env))) (AP X Z σ Q) X.xe s
def PS (X:Cx) (st:Stmt) (t:TS):Prop :=
 ∀ ⦃Z⦄ s (σ:St) H D,Inv X Z σ H s->t D σ H->ë (ê X.prog X.w) X.A (exec st X.env) (SP X Z D) X.xe s
def dW (X:Cx) (st:List Stmt) (t:TS):Prop :=
 ∀ ⦃Z⦄ s (σ:St) H D,Inv X Z σ H s->t D σ H->ë (ê X.prog X.w) X.A (execs st X.env) (SP X Z D) X.xe s
def aQ {t:Sem α} {Q Q'} {M} {A} {E} {s} (h:ë M A t Q E s) (hQ:∀a s,Q a s->Q' a s):ë M A t Q' E s:=ė h hQ λ_ _ x=>x
section
variable {X:Cx}
def aeV (i:Nat):TE:=fun σ H Q=>∃v,σ[i]?=ϊ (ϊ v)/\Q v H
def tC (v:V):TE:=λ_ H Q=>Q v H
def E4 {pos} (hN:X.N[i]?=ϊ x) (hv:qp X.env.scope x) (hd:(x==("__debug__"))=ύ:=by decide) (fe:(x==("__classdict__"))=ύ:=by decide):PE X (.Name x pos) (aeV i):=by
 intro W s σ H Q I h;let(v,e,h):=h;let(m,V,U):=I.loc;let(u,r,l):=U i x v hN e hv;have fin:EP X W σ Q u s:=#[v,H,I,r,h]
 rcases l with ⟨hk,T⟩ | ⟨hk,c,Z,Y⟩
 .exact wpAny_Name (wpAny_loadName_local I.ok.kind hk V T fin) hd
 .rcases hk with hk|hk
  .exact wpAny_Name (wpAny_loadName_cell I.ok.kind hk Z Y fin) hd
  .exact wpAny_Name (wpAny_loadName_free I.ok.kind hk Z Y fin fe) hd
def aa8:PE X (.Constant (.int i) j pos) (tC (.int i)):=λ_ _ _ H _ I h=>wpAny_Constant_int #[.int i,H,I.tok _,#[_,rfl],h]
def FE:PE X (.Constant (.bool b) j pos) (tC (.bl b)):=λ_ _ _ H _ I h=>Constant_bool #[.bl b,H,I,rfl,h]
def aa9:PE X (.Constant .none j pos) (tC .ax):=λ_ _ _ H _ I h=>Constant_none #[.ax,H,I,rfl,h]
def aba:PE X (.Constant (.str x) j pos) (tC (.str x)):=λ_ _ _ H _ I h=>Calls.Constant_str #[.str x,H,I.tok _,#[_,rfl],h]
def Gl (X:Cx) (x:Str):Prop:=X.env.kindOf x=ϊ .globalImplicit
def qZ {π} {s} {σ:St} {H} {x} {u} {pos} {Q} (I:Inv X π σ H s) (hg:Gl X x) (hm:X.mg x=ϊ u) (h:Q u s)
  (hd:(x==("__debug__"))=ύ:=by decide):ë (ê X.prog X.w) X.A (Ħ (.Name x pos) X.env) Q E s :=
 Calls.Name_function_global I.ok.kind hg (Calls.loadGlobal_global (by rw[I.ok.glob];exact I.mod.glob.keeps I.bk) hm h) hd
def pP {E} {π} {s} {σ:St} {H} {x} {u} {pos} {Q} (I:Inv X π σ H s) (hg:Gl X x) (hm:X.mg x=ϋ) (hv:ü x=ϊ u) (h:Q u s)
  (hn:x≠"__name__":=by decide) (hd:(x==("__debug__"))=ύ:=by decide):ë (ê X.prog X.w) X.A (Ħ (.Name x pos) X.env) Q E s:=by
 let(W,Z,Y):=I.mod.blt;exact Calls.Name_function_global I.ok.kind hg (Calls.loadGlobal_builtin (by rw[I.ok.glob];exact I.mod.glob.keeps I.bk) hm (by rw[I.ok.blt];exact Z.keeps I.bk) ((Y x hn).trans hv) h) hd
def Ej (hg:Gl X x) (hm:X.mg x=ϊ u) (r:RelV v u) (hd:(x==("__debug__"))=ύ:=by decide):PE X (.Name x pos) (tC v) :=
 λ_ _ _ H _ I h=>qZ I hg hm #[v,H,I,r,h] hd
def NT {u} {pos} (hg:Gl X x) (hm:X.mg x=ϋ) (hv:ü x=ϊ u) (r:RelV v u) (hn:x≠"__name__":=by decide) (hd:(x==("__debug__"))=ύ:=by decide):PE X (.Name x pos) (tC v) :=
 λ_ _ _ H _ I h=>pP I hg hm hv #[v,H,I,r,h] hn hd
variable {a b:ŕ} {ta tb:TE} {pos:Pos}
variable {tA BQ:TT} {rest:List ŕ}
def fj (t u:TT):TT:=fun σ H Q=>t σ H λc Z=>if c=ό then u σ Z Q else Q ύ Z
def ff (t u:TT):TT:=fun σ H Q=>t σ H λc Z=>if c=ό then Q ό Z else u σ Z Q
def eQ (t:TT):TT:=fun σ H Q=>t σ H λc Z=>Q (!c) Z
def Zv (ha:PT X a tA):PW X (.BoolOp .And [a] pos) tA:=by
 intro Y Z s σ H Q I h;refine isTrue_and (aQ (ha Z s σ H Q I h) λc W e=>?_)
 cases c with
 |true=>exact isTrue_and_nil e
 |false=>exact e
def abb (ha:PT X a tA):PW X (.BoolOp .Or [a] pos) tA:=by
 intro Y Z s σ H Q I h;refine isTrue_or (aQ (ha Z s σ H Q I h) λc W e=>?_)
 cases c with
 |false=>exact isTrue_or_nil e
 |true=>exact e
def abc (ha:PT X a tA) (hb:PW X (.BoolOp .And (b::rest) pos) BQ):PW X (.BoolOp .And (a::b::rest) pos) (fj tA BQ):=by
 intro U Z s σ H Q I h;refine isTrue_and (aQ (ha Z s σ H _ I h) λc T ⟨Y,W,V⟩=>?_)
 cases c with
 |true=>exact hb U Z T σ Y Q W V
 |false=>exact#[Y,W,V]
def adk (ha:PT X a tA) (hb:PW X (.BoolOp .Or (b::rest) pos) BQ):PW X (.BoolOp .Or (a::b::rest) pos) (ff tA BQ):=by
 intro U Z s σ H Q I h;refine isTrue_or (aQ (ha Z s σ H _ I h) λc T ⟨Y,W,V⟩=>?_)
 cases c with
 |true=>exact#[Y,W,V]
 |false=>exact hb U Z T σ Y Q W V
def abd (ha:PT X a tA):PT X (.UnaryOp .Not a pos) (eQ tA):=by
 intro Z s σ H Q I h;exact isTrue_not (ha Z s σ H (λc Y=>Q _ Y) I h)
def adl (ta tb:TE):TE:=fun σ H Q=>ta σ H λx Z=>∃c,x=.bl c/\if c=ό then tb σ Z Q else Q (.bl ύ) Z
def aeW (ta tb:TE):TE:=fun σ H Q=>ta σ H λx Z=>∃c,x=.bl c/\if c=ό then Q (.bl ό) Z else tb σ Z Q
def adm (ta:TE):TE:=fun σ H Q=>ta σ H λx Z=>∃c,x=.bl c/\Q (.bl (!c)) Z
def abe (h:PE X a t):PE X (.BoolOp op [a] pos) t:=λZ s σ H Q I hw=>BoolOp_one (h Z s σ H Q I hw)
def abf (ha:PE X a ta) (hb:PE X (.BoolOp .And (b::rest) pos) tb):PE X (.BoolOp .And (a::b::rest) pos) (adl ta tb):=by
 intro Y s σ H Q I h;refine BoolOp_and (aQ (ha Y s σ H _ I h) λv U ⟨x,W,V,T,Z⟩=>?_);let(c,rfl,Z):=Z;cases T;refine Ŗ ?_
 cases c with
 |true=>exact hb Y U σ W Q V Z
 |false=>exact#[.bl ύ,W,V,rfl,Z]
def adn (ha:PE X a ta) (hb:PE X (.BoolOp .Or (b::rest) pos) tb):PE X (.BoolOp .Or (a::b::rest) pos) (aeW ta tb):=by
 intro Y s σ H Q I h;refine BoolOp_or (aQ (ha Y s σ H _ I h) λv U ⟨x,W,V,T,Z⟩=>?_);let(c,rfl,Z):=Z;cases T;refine Ŗ ?_
 cases c with
 |false=>exact hb Y U σ W Q V Z
 |true=>exact#[.bl ό,W,V,rfl,Z]
def abg (ha:PE X a ta):PE X (.UnaryOp .Not a pos) (adm ta):=by
 intro Y s σ H Q I h;refine UnaryOp_ (aQ (ha Y s σ H _ I h) λv T ⟨x,W,V,U,Z⟩=>?_);let(c,rfl,Z):=Z;cases U;exact not_of (Ŗ #[.bl _,W,V,rfl,Z])
def tIf (t:TT) (ta tb:TE):TE:=fun σ H Q=>t σ H λc Z=>if c=ό then ta σ Z Q else tb σ Z Q
def XG (hc:PT X c tA) (ha:PE X a ta) (hb:PE X b tb):PE X (.IfExp c a b pos) (tIf tA ta tb):=by
 intro Z s σ H Q I h;refine wpAny_IfExp (aQ (hc Z s σ H _ I h) λd Y ⟨W,V,U⟩=>?_)
 cases d with
 |true=>exact ha Z Y σ W Q V U
 |false=>exact hb Z Y σ W Q V U
end
def bV (K:Ň) (H:Hp) (a:þ) (xs:List V):Prop :=
 Rd H a (.lst xs) \/
  ∃(o:Obj) (ak:Array ã) (n:Nat),K.lookup a=ϊ o/\o.cls=.type "list"/\o.dict=ϋ/\o.data=.seq ak n/\ak.size<=Õ/\Vals xs ak.toList
def bZ (K:Ň) (H:Hp) (a:þ) (xs:List V):Prop :=
 Rd H a (.tup xs) \/
  ∃(o:Obj) (ak:Array ã) (n:Nat),K.lookup a=ϊ o/\o.cls=.type "tuple"/\o.data=.seq ak n/\ak.size<=Õ/\Vals xs ak.toList
noncomputable def aeX:ã->Option V
 | .none=>ϊ .ax
 | .bool b=>ϊ (.bl b)
 | .int i _=>ϊ (.int i)
 | .str x _=>ϊ (.str x)
 | .bytes b _=>ϊ (.jM b)
 | .float b _=>ϊ (.BL b)
 | .ref a=>ϊ (.ref a)
 | .type n=>ϊ (.ty n)
 |_=>ϋ
def RelV.abs (r:RelV x u):aeX u=ϊ x:=by
 cases x with
 |ax=>cases r;rfl
 |bl _=>cases r;rfl
 |int _=>let(t,rfl):=r;rfl
 |str _=>let(t,rfl):=r;rfl
 |jM _=>let(t,rfl):=r;rfl
 |BL _=>let(t,rfl):=r;rfl
 |ref _=>cases r;rfl
 |ty _=>cases r;rfl
def RelV.inj (r:RelV x u) (q:RelV y u):x=y:=ahA (r.abs.symm.trans q.abs)
theorem Vals.inj:∀{xs ys} {us},Vals xs us->Vals ys us->xs=ys
 |_,_,_,.nil,.nil=>rfl
 |_,_,_,.cons r t,.cons Z Y=>by rw[r.inj Z,Vals.inj t Y]
section
variable {X:Cx} {π:List (þ×Obj)} {σ:St} {H:Hp} {s:Ý} {a:þ} {xs ys:List V}
def bV.of {K} (h:H a=ϊ (.lst xs)):bV K H a xs:=.inl (.inl h)
def bZ.of {K} (h:H a=ϊ (.tup xs)):bZ K H a xs:=.inl (.inl h)
def Inv.list (I:Inv X π σ H s) (h:bV X.K H a xs):∃ak,Vals xs ak/\PlainL s.heap a ak.toArray/\xs.length<=Õ:=by
 rcases h with h | ⟨o,ak,n,Z,Y,W,V,U,r⟩
 .let(z,ak,n,r,e):=h.ok I.aK
  exact#[ak,r,#[_,n,e,rfl,rfl,rfl],z]
 .refine#[_,r,#[o,n,I.gb a o Z,Y,W,by simpa using V],?_]
  have e:=r.length;erw[û] at e;omega
def Inv.tuple (I:Inv X π σ H s) (h:bZ X.K H a xs):∃ak,Vals xs ak/\IsTup s.heap a ak.toArray/\xs.length<=Õ:=by
 rcases h with h | ⟨o,ak,n,Z,Y,W,V,r⟩
 .let(z,ak,r,p):=h.ok I.aK
  exact#[ak,r,p,z]
 .refine#[_,r,#[o,I.gb a o Z,Y,n,by simpa using W],?_]
  have e:=r.length;erw[û] at e;omega
def Inv.MO (I:Inv X π σ H s) (h:bV X.K H a xs) (h':bV X.K H a ys):xs=ys:=by
 obtain⟨ak,r,⟨o,n,e,_,_,d⟩,_⟩:=I.list h;obtain⟨U,W,⟨T,S,Z,_,_,Y⟩,_⟩:=I.list h';rw[e] at Z;cases Z;rw[d] at Y
 injection Y with V _
 have:=by simpa using ħ Array.toList V
 subst this;exact r.inj W
def Inv.L3 (I:Inv X π σ H s) (h:bZ X.K H a xs) (h':bZ X.K H a ys):xs=ys:=by
 obtain⟨ak,r,⟨o,e,_,n,d⟩,_⟩:=I.tuple h;obtain⟨U,W,⟨T,Z,_,S,Y⟩,_⟩:=I.tuple h';rw[e] at Z;cases Z;rw[d] at Y
 injection Y with V _
 have:=by simpa using ħ Array.toList V
 subst this;exact r.inj W
end
noncomputable abbrev Cx.ie (X:Cx) (E:ã->Ý->Prop):Cx:={ X with xe:=E }
noncomputable abbrev Cx.oZ (X:Cx):Cx:=X.ie λ_ _=>False
theorem Cx.Ok.ie {X:Cx} (ok:X.Ok) (E):(X.ie E).Ok :=
 #[ok.mod,ok.kind,ok.glob,ok.blt,ok.above,ok.inj,ok.has,ok.vz,ok.hd,ok.frames,ok.nK,ok.Sb,ok.bs,ok.jq,ok.p9,ok.Bq,ok.jj,ok.mE]
def Cx.Ok.ou {X:Cx} {E} (ok:(X.ie E).Ok):X.Ok :=
 #[ok.mod,ok.kind,ok.glob,ok.blt,ok.above,ok.inj,ok.has,ok.vz,ok.hd,ok.frames,ok.nK,ok.Sb,ok.bs,ok.jq,ok.p9,ok.Bq,ok.jj,ok.mE]
section
variable {X:Cx} {π:List (þ×Obj)} {σ:St} {H:Hp} {s:Ý} {E:ã->Ý->Prop}
theorem Inv.ie (I:Inv X π σ H s) (E):Inv (X.ie E) π σ H s:=#[I.ok.ie E,I.os,I.bare,I.base,I.loc,I.cell,I.free,I.jD,I.pin,I.aK,I.len]
theorem Inv.ou (I:Inv (X.ie E) π σ H s):Inv X π σ H s:=#[I.ok.ou,I.os,I.bare,I.base,I.loc,I.cell,I.free,I.jD,I.pin,I.aK,I.len]
theorem SP.ou (h:SP (X.ie E) π D f s'):SP X π D f s':=by
 cases f with
 |next=>let(Y,Z,I,q):=h;exact#[_,Z,I.ou,q]
 |brk=>let(Y,Z,I,q):=h;exact#[_,Z,I.ou,q]
 |cont=>let(Y,Z,I,q):=h;exact#[_,Z,I.ou,q]
 |ret u=>let(v,Y,Z,I,r,q):=h;exact#[v,_,Z,I.ou,r,q]
theorem dW.oZ {st} {t} (h:dW X.oZ st t):dW X st t:=λπ s σ H D I hw =>
 ė (h s σ H D (I.ie _) hw) (λ_ _ q=>q.ou) λ_ _ z=>ĉ z
end
section
variable {X:Cx} {st:Stmt} {rest:List Stmt} {t u:TS} {e:ŕ} {te:TE} {pos:Pos}
def ado:TS:=λD σ H=>D.nx σ H
def aeY (t u:TS):TS:=λD σ H=>t { D with nx:=u D } σ H
def Zw:dW X [] ado:=λ_ _ σ H _ I h=>wpAny_execs_nil #[σ,H,I,h]
def XH (h1:PS X st t) (h2:dW X rest u):dW X (st::rest) (aeY t u):=by
 intro V s σ H D I h;refine wpAny_execs_cons (aQ (h1 s σ H _ I h) λf Z q=>?_)
 cases f with
 |next =>
  let(U,Y,W,q):=q;exact h2 Z _ Y D W q
 |ret v=>exact q
 |brk=>exact q
 |cont=>exact q
def Zx (h1:PS X st t):dW X [st] t:=by
 intro Z s σ H D I h;refine wpAny_execs_cons (aQ (h1 s σ H D I h) λf Y q=>?_)
 cases f with
 |next=>exact wpAny_execs_nil q
 |ret v=>exact q
 |brk=>exact q
 |cont=>exact q
def Inv.quiet {σ:St} {H} {s} (I:Inv X π σ H s):interactive X.env=ύ:=by simp[interactive,I.ok.kind]
def adp (te:TE):TS:=λD σ H=>te σ H λ_ Z=>D.nx σ Z
def Zy (he:PE X e te) (hs:swapsWith e ϋ pos.line X.env=pure ύ:=by rfl):PS X (.Expr e pos) (adp te):=by
 intro Z s σ H D I h;exact wpAny_Expr_any (aQ (he Z s σ H _ I h) λv U ⟨x,Y,W,T,V⟩=>#[σ,Y,W,V]) I.quiet hs
def aeZ (te:TE):TS:=λD σ H=>te σ H D.rt
def abh (he:PE X e te):PS X (.Return (ϊ e) pos) (aeZ te):=by
 intro Z s σ H D I h;exact wpAny_Return_some (aQ (he Z s σ H _ I h) λv T ⟨x,Y,W,V,U⟩=>#[x,σ,Y,W,V,U])
def ae0 (c:TT) (t u:TS):TS:=λD σ H=>c σ H λb Z=>if b=ό then t D σ Z else u D σ Z
def adq {a b} {tc} (hc:PT X c tc) (ha:dW X a t) (hb:dW X b u):PS X (.If c a b pos) (ae0 tc t u):=by
 intro U s σ H D I h;refine wpAny_If (aQ (hc U s σ H _ I h) λd Z ⟨Y,W,V⟩=>?_)
 cases d with
 |true=>exact ha Z σ Y D W V
 |false=>exact hb Z σ Y D W V
end
abbrev TG:=V->St->Hp->(St->Hp->Prop)->Prop
abbrev qq:=List V->St->Hp->(St->Hp->Prop)->Prop
def PG (X:Cx) (target:ŕ) (t:TG):Prop :=
 ∀Z s (σ:St) H v u Q,Inv X Z σ H s->RelV v u->t v σ H Q ->
  ë (ê X.prog X.w) X.A (ahs target X.env u) (λ_ V=>∃ Y W,Inv X Z Y W V/\Q Y W) X.xe s
def lB (X:Cx) (ts:List ŕ) (t:qq):Prop :=
 ∀Z s (σ:St) H Y W Q,Inv X Z σ H s->Vals Y W->t Y σ H Q ->
  ë (ê X.prog X.w) X.A (assignInOrder ((Ņ ts X.env).map (·.2)) W) (λ_ T=>∃ V U,Inv X Z V U T/\Q V U) X.xe s
abbrev Rw:=V->V->V->Hp->(Hp->Prop)->Prop
def Rx (X:Cx) (t:Rw):Prop :=
 ∀Z s (σ:St) H o i v Y W u Q,Inv X Z σ H s->RelV o Y->RelV i W->RelV v u->t o i v H Q ->
  ë (ê X.prog X.w) X.A (setItem Y W u) (λ_ U=>∃V,Inv X Z σ V U/\Q V) X.xe s
section
variable {X:Cx} {pos:Pos}
def rD (i:Nat):TG:=λv σ H Q=>Q (σ.set i (ϊ v)) H
def iT (hN:X.N.Nodup) (hi:X.N[i]?=ϊ x) (hx:Loc X.env.scope x) (hf:X.fn x=ό\/X.env.scope.names.lookup x=ϊ .local:=by first|exact .inl rfl|exact .inr rfl|assumption):PG X (.Name x pos) (rD i):=by
 intro Y s σ H v u Q I r h;exact wpAny_assign_Name (pK I hN hi hx r (λW Z=>#[_,H,Z,h]) hf)
def GH:qq:=λZ σ H Q=>Z=[]/\Q σ H
def FF (t:TG) (u:qq):qq:=λZ σ H Q=>∃v r,Z=v::r/\t v σ H fun Y X=>u r Y X Q
def wL:lB X [] GH:=by
 intro Z s σ H Y W Q I r h;let(e,h):=h;subst e;exact assignInOrder_nil #[σ,H,I,h]
def mZ {es} {t} {u} (h1:PG X e t) (h2:lB X es u)
  (hs:(Ņ (e::es) X.env).map (·.2)=ahs e X.env::(Ņ es X.env).map (·.2):=by rfl):lB X (e::es) (FF t u):=by
 intro Z s σ H R P Q I r h;let(v,O,e1,h):=h;subst e1
 cases r with
 |cons r Y =>
  rw[hs];refine Ś (aQ (h1 Z s σ H _ _ _ I r h) λ_ W ⟨V,U,T,S⟩=>?_);exact h2 Z W _ U _ _ Q T Y S
def GI (K:Ň) (n:Nat) (t:qq):TG:=λv σ H Q=>∃a Z,v=.ref a/\bZ K H a Z/\Z.length=n/\t Z σ H Q
def wY {k} {n} (hc:X.calm=ό) (h:lB X es t)
 (hn:(Ņ es X.env).length=n:=by rfl) (gu:(Ņ es X.env).findIdx? (·.1)=ϋ:=by rfl):PG X (.Tuple es k pos) (GI X.K n t):=by
 intro Y s σ H v u Q I r hw;let(a,W,e1,V,U,hw):=hw;subst e1;cases r;let(ak,Z,T,P):=I.tuple V;refine assign_Tuple_tuple (I.ok.hd hc) T (by simp[hn,<- U,Z.length]) gu λO S=>?_;have R:=I.kept (t':=s.toks) λb o e=>S b o (ß (Í e)) e;exact h Y _ σ H W _ Q R (by simpa using Z) hw
def ae1 (to ti:TE) (t:Rw):TG:=λv σ H Q=>to σ H λo Z=>ti σ Z λi Y=>t o i v Y λX=>Q σ X
def abi {to ti} {t} (ho:PE X o to) (hi:PE X i ti) (hs:Rx X t)
  (ha:∀v,ahs (.Subscript o i pos) X.env v=(do
   let ov <- ω [v] (Ħ o X.env)
   let iv <- ω [v,ov] (Ħ i X.env)
   agm pos
   ω [v,ov,iv] (setItem ov iv v)
   release [v,ov,iv] []):=by intro _;rfl):PG X (.Subscript o i pos) (ae1 to ti t):=by
 intro Z s σ H v u Q I r h;refine À (Ć (aQ (ho Z s σ H _ I h) λov Y ⟨x,W,V,U,T⟩=>?_));refine À (Ć (aQ (hi Z Y σ W _ V T) λiv S ⟨y,R,P,O,N⟩=>?_));refine À (Ŭ (À (Ć (aQ (hs Z S σ R x y v ov iv u _ P U O r N) λ_ J ⟨M,L,K⟩=>?_))));exact wpAny_release #[σ,M,L,K]
def xW (te:TE) (g:TG):TS:=λD σ H=>te σ H λx Z=>g x σ Z D.nx
def O3 {tg e} {te} {g} (he:PE X e te) (hg:PG X tg g) (hs:ς [tg] e pos.line X.env=pure ύ:=by rfl) (hw:υ [tg] e X.env=pure ϋ:=by rfl)
  (h1:(Ņ [tg] X.env).map (·.2)=[ahs tg X.env]:=by rfl):PS X (.Assign [tg] e pos) (xW te g):=by
 intro Z s σ H D I h;refine wpAny_Assign_stores (aQ (he Z s σ H _ I h) λv Y ⟨x,W,V,U,T⟩=>?_) hs hw;rw[h1];exact aQ (hg Z Y σ W x v _ V U T) λ_ S q=>q
def abj {e} {te} {pos'} (hN:X.N.Nodup) (hi:X.N[i]?=ϊ x) (hx:Loc X.env.scope x) (he:PE X e te) (hs:swapsWith e (ϊ (.Name x pos')) pos.line X.env=pure ύ:=by rfl) (hf:X.fn x=ό\/X.env.scope.names.lookup x=ϊ .local:=by first|exact .inl rfl|exact .inr rfl|assumption) :
  PS X (.Assign [.Name x pos'] e pos) (xW te (rD i)):=by
 intro Z s σ H D I h;refine wpAny_Assign_Name (aQ (he Z s σ H _ I h) λv S ⟨y,Y,W,V,U⟩=>?_) hs;exact pK W hN hi hx V (λR T=>#[_,Y,T,U]) hf
def ae2 (i j:Nat) (ta:TA):TS:=λD σ H=>ta σ H λZ Y=>∃v w,Z=[v,w]/\D.nx ((σ.set i (ϊ v)).set j (ϊ w)) Y
def abk {x y} {a b} {ta} {px py pt} {kt k2 jr} (hc:X.calm=ό) (hN:X.N.Nodup) (hi:X.N[i]?=ϊ x) (hj:X.N[j]?=ϊ y) (gg:i≠j)
  (hx:X.env.scope.names.lookup x=ϊ .local) (hy:X.env.scope.names.lookup y=ϊ .local) (ha:PA X [a,b] ta)
  (hw:υ [.Tuple [.Name x px,.Name y py] kt pt] (.Tuple [a,b] k2 jr) X.env=pure (ϊ [x,y]))
  (hs:ς [.Tuple [.Name x px,.Name y py] kt pt] (.Tuple [a,b] k2 jr) pos.line X.env=pure ύ:=by rfl) :
  PS X (.Assign [.Tuple [.Name x px,.Name y py] kt pt] (.Tuple [a,b] k2 jr) pos) (ae2 i j ta):=by
 intro U s σ H D I h;refine À (Ŭ ?_);refine À (Ä ?_);refine À (Tuple_ (aQ (ha _ U s σ H _ I h) λR W ⟨C,T,Q,P,V⟩=>?_));let(v,w,e1,V):=V;subst e1;obtain⟨Z,Y,rfl,O,M⟩:∃Z Y,R=[Z,Y]/\RelV v Z/\RelV w Y:=by
  cases P with
  |cons p q =>
   cases q with
   |cons L K =>
    cases K;exact#[_,_,rfl,p,L]
 refine ď ?_ (by show 2<=Õ;decide)
 have J:Inv X U σ T { W with heap:=W.heap.push { cls:=.type "tuple",data:=.seq [Z,Y].toArray } }:=Q.kept λb o e=>Á _ e
 rw[hw];refine À (Ä ?_);refine À (ŵ (À (unpackItems_tuple (items:=#v[Z,Y]) (I.ok.hd hc) (IsTup.new _ _) λB G=>?_)));have F:=J.kept (t':=W.toks) λb o e=>G b o (ß (Í e)) e;refine À (Ś (agP (pK F hN hj (.inl hy) M (λA E=>?_) (.inr hy))));refine Ś (agP (pK E hN hi (.inl hx) O (λz S=>assignInOrder_nil (Ä ?_)) (.inr hx)));rw[List.set_comm _ _ (Ĥ gg)] at S;exact#[_,T,S,V]
end
structure It where
 go:Nat->Hp->Prop
 vB:Nat->Hp->V->Hp->Prop
 stop:Nat->Hp->Prop
def gn (X:Cx) (π:List (þ×Obj)) (H:Hp) (b:þ):Prop :=
 H b=ϋ/\b≠X.env.locals/\b∉X.fs/\(b∈X.ex\/X.ef.heap.objs.size<=b)/\(∀x c,X.env.cells.lookup x=ϊ c->c≠b)/\∀p∈X.pn++π,p.1≠b
def Inv.rS {π} {σ:St} {H H'} {s} {b:þ} (I:Inv X π σ H s) (hb:s.heap.objs.size<=b) (hn:H' b=ϋ):gn X π H' b:=by
 refine#[hn,ś (È I.lt hb),I.Br hb,.inr (Ø I.sz hb),λx c e z=>?_,λp Z z=>?_]
 .let(v,q):=I.cell x c e
  exact absurd (È q.lt (by rw[z];exact hb)) (ò _)
 .exact absurd (È (Í (I.pin p Z).1) (by rw[z];exact hb)) (ò _)
structure Turn (P) (w) (K) (tg) (J:It) (fp:List þ) (it) (tn:Nat->ū->Prop):Prop where
 mem:it∈fp
 obj:∀i h,tn i h->∀b∈fp,∃o,h.get? b=ϊ o/\∀v,o.data≠.cell v
 keep:∀i h h',tn i h->(∀b∈fp,∀o,h.get? b=ϊ o->h'.get? b=ϊ o)->tn i h'
 item:∀X,X.prog=P->X.w=w->X.K=K->X.calm=ό->∀i π s (σ:St) H E,Inv X π σ H s->(∀b∈fp,gn X π H b)->tn i s.heap->J.go i H ->
  ë (ê P w) X.A (aht (.ref it)) (λr s1=>∃u,r=ϊ u /\
   ë (ê P w) X.A (ŗ tg (.ref it) u) (λ_ s2=>∃x H',Inv X π σ H' s2/\RelV x u/\J.vB i H x H'/\tn (i+1) s2.heap/\∀b∈fp,H' b=ϋ) E s1) E s
 done:∀X,X.prog=P->X.w=w->X.K=K->X.calm=ό->∀i π s (σ:St) H E,Inv X π σ H s->(∀b∈fp,gn X π H b)->tn i s.heap->J.stop i H ->
  ë (ê P w) X.A (aht (.ref it)) (λr s1=>r=ϋ/\Inv X π σ H s1) E s
 self:∀A i s Q E,tn i s.heap->Q (.ref it) s->ë (ê P w) A (pyIter (.ref it)) Q E s
abbrev TI:=St->Hp->(It->Hp->Prop)->Prop
def Sg (X:Cx) (π:List (þ×Obj)) (σ:St) (tg:ŕ) (R:It->Hp->Prop) (i3:ã) (s2:Ý):Prop :=
 ∃(it:þ) (Y:List þ) (W:Nat->ū->Prop) (J:It) (Z:Hp),i3=.ref it/\Inv X π σ Z s2/\Turn X.prog X.w X.K tg J Y it W/\W 0 s2.heap/\(∀b∈Y,gn X π Z b)/\R J Z
def PI (X:Cx) (tg iter:ŕ) (wi:TI):Prop :=
 ∀Z s (σ:St) H R,Inv X Z σ H s->wi σ H R ->
  ë (ê X.prog X.w) X.A (Ħ iter X.env) (λv Y=>ë (ê X.prog X.w) X.A (pyIter v) (Sg X Z σ tg R) X.xe Y) X.xe s
def xA (ho:s.heap.get? it=ϊ o) (hc:o.cls=.type n) (hd:o.data=.fields vs)
 (hn:["enumerate","zip","dict_itemiterator","dict_reverseitemiterator","odict_iterator","itertools.zip_longest","itertools.pairwise"].contains n=ύ) (hQ:Q () s):ë M A (ŗ tg (.ref it) u) Q E s:=by
 cases tg<;>first
  |exact Ä hQ
  |(cases u<;>first
    |exact Ä hQ
    |(refine À (wpAny_load ho ?_)
      rw[hc,hd]
      show ë M A (if (["enumerate","zip","dict_itemiterator","dict_reverseitemiterator","odict_iterator","itertools.zip_longest","itertools.pairwise"].contains n&&vs[0]?==ϊ _)=ό then _ else _) Q E s
      rw[é (by intro h;rw[hn] at h;cases h)];exact Ä hQ))
noncomputable def Hx (K:Ň) (a:þ):It :=
 #[λi H=>∃Z x,bV K H a Z/\Z[i]?=ϊ x,λi H x Y=>Y=H/\∀Z,bV K H a Z->Z[i]?=ϊ x,λi H=>∃Z,bV K H a Z/\Z.length<=i]
noncomputable def Hy (K:Ň) (a:þ):It :=
 #[λi H=>∃Z x,bZ K H a Z/\Z[i]?=ϊ x,λi H x Y=>Y=H/\∀Z,bZ K H a Z->Z[i]?=ϊ x,λi H=>∃Z,bZ K H a Z/\Z.length<=i]
noncomputable def yz (lo:Int) (n:Nat):It:=#[λi _=>i<n,λi H x Z=>Z=H/\x=.int (lo+i),λi _=>n<=i]
def Wq {K} {tg} (a it):Turn P w K tg (Hx K a) [it] it (λi h=>h.IsListIter it a i) where
 mem:=by simp
 obj:=λi h Z b Y=>by
  have e:=by simpa using Y
  subst e;let(o,e,c,d):=Z;exact#[o,e,λv z=>by rw[d] at z;cases z]
 keep:=λi h M Z k=>Z.at λo e=>k it ∅ o e
 item:=by
  intro X U hw T L i G s σ H E I W Z S;subst U hw T;let(F,x,V,R):=S;let(ak,Q,p,D):=I.list V;let(u,C,B):=Q.get R;let(f0,f1,f2,O,f4,N):=W it ∅;refine wpAny_pyNext_list_item Z p.isList (by simpa using C) λM J A=>?_;have y:=I.turned (t':=s.toks) (λb o Y e=>(A.2 b Y).trans e) f0 f1 O f4 N;let(o,e,c,d):=id J;exact#[u,rfl,xA e c d (by decide) #[x,H,y,B,#[rfl,λq t=>by rw[I.MO t V];exact R],J,λb Y=>(W b Y).1]]
 done:=by
  intro X U hw T L i G s σ H E I W Z S;subst U hw T;let(F,V,R):=S;let(ak,Q,p,D):=I.list V;let(f0,f1,f2,O,f4,N):=W it ∅;have n:=Q.length;exact wpAny_pyNext_list_end (I.ok.hd L) Z p.isList (by simp;omega) λM r=>#[rfl,I.turned (λb o Y e=>r b o Y e) f0 f1 O f4 N]
 self:=λ_ _ _ _ _ Z h=>wpAny_pyIter_listiter Z h
def Vm {K} {tg} (a it):Turn P w K tg (Hy K a) [it] it (λi h=>h.IsTupleIter it a i) where
 mem:=by simp
 obj:=λi h Z b Y=>by
  have e:=by simpa using Y
  subst e;let(o,e,c,d):=Z;exact#[o,e,λv z=>by rw[d] at z;cases z]
 keep:=λi h M Z k=>Z.at λo e=>k it ∅ o e
 item:=by
  intro X U hw T L i G s σ H E I W Z S;subst U hw T;let(F,x,V,R):=S;let(ak,Q,p,D):=I.tuple V;let(u,C,B):=Q.get R;let(f0,f1,f2,O,f4,N):=W it ∅;refine wpAny_pyNext_tuple_item Z (p) (by simpa using C) λM J A=>?_;have y:=I.turned (t':=s.toks) (λb o Y e=>(A.2 b Y).trans e) f0 f1 O f4 N;let(o,e,c,d):=id J;exact#[u,rfl,xA e c d (by decide) #[x,H,y,B,#[rfl,λq t=>by rw[I.L3 t V];exact R],J,λb Y=>(W b Y).1]]
 done:=by
  intro X U hw T L i G s σ H E I W Z S;subst U hw T;let(F,V,R):=S;let(ak,Q,p,D):=I.tuple V;let(f0,f1,f2,O,f4,N):=W it ∅;have n:=Q.length;exact wpAny_pyNext_tuple_end (I.ok.hd L) Z (p) (by simp;omega) λM r=>#[rfl,I.turned (λb o Y e=>r b o Y e) f0 f1 O f4 N]
 self:=λ_ _ _ _ _ Z h=>wpAny_pyIter_tupleiter Z h
def Vn {K} {tg} (it) (lo) (n):Turn P w K tg (yz lo n) [it] it (λi h=>IsRangeIter h it (lo+(i)*1) ((n)-(i)) 1) where
 mem:=by simp
 obj:=λi h Z b Y=>by
  have e:=by simpa using Y
  subst e;exact#[_,Z,λv z=>by
   have J:=z;cases J]
 keep:=λi h U Z k=>k it ∅ _ Z
 item:=by
  intro X O hw N T i M s σ H E I V Z S;subst O hw N;let(f0,f1,f2,R,f4,Q):=V it ∅;have W:=Walks.range (prog:=X.prog) (w:=X.w) (I.ok.hd T) it lo 1 n;refine W.item i s _ _ S Z λv U G F L D=>?_;let(t,rfl):=F
  have C:Inv X M σ H { s with heap:=U,toks:=G }:=I.turned (λb o Y e=>D b o (by simpa using Y) e) f0 f1 R f4 Q
  refine#[_,rfl,xA L rfl rfl (by decide) #[.int _,H,C,#[t,?_],#[rfl,rfl],L,λb Y=>(V b Y).1]];rw[Int.mul_one]
 done:=by
  intro X O hw N T i M s σ H E I V Z S;let(f0,f1,f2,R,f4,Q):=V it ∅;exact wpAny_pyNext_range_end (I.ok.hd T) Z (by have:n<=i:=S;omega) λU B=>#[rfl,I.turned (λb o Y e=>B b o Y e) f0 f1 R f4 Q]
 self:=λ_ _ _ _ _ Z h=>agB Z h
section
variable {X:Cx} {tg:ŕ}
def Qk (K:Ň) (tl:TE):TI:=fun σ H R=>tl σ H λx Z=>∃a,x=.ref a/\(∃Y,bV K Z a Y)/\R (Hx K a) Z
def Ry (K:Ň) (tl:TE):TI:=fun σ H R=>tl σ H λx Z=>∃a,x=.ref a/\(∃Y,bZ K Z a Y)/\R (Hy K a) Z
def Zz (hl:PE X l tl):PI X tg l (Qk X.K tl):=by
 intro Y s σ H R I h;refine aQ (hl Y s σ H _ I h) λv Q ⟨x,W,Z,V,U⟩=>?_;obtain⟨a,e,⟨P,T⟩,q⟩:=U;subst e;cases V;let(ak,O,p,N):=Z.list T;refine Ť p.isList ?_;refine#[_,_,_,_,W,rfl,Z.kept λb o e=>Á _ e,Wq a _,#[_,Ì _ rfl,rfl,rfl],λb S=>?_,q];have e:=by simpa using S
 subst e;exact Z.rS (ahz _) (Z.aK.fresh (ahz _))
def abl (hl:PE X l tl):PI X tg l (Ry X.K tl):=by
 intro Y s σ H R I h;refine aQ (hl Y s σ H _ I h) λv Q ⟨x,W,Z,V,U⟩=>?_;obtain⟨a,e,⟨P,T⟩,q⟩:=U;subst e;cases V;let(ak,O,p,N):=Z.tuple T;refine wpAny_pyIter_tuple (p) ?_;refine#[_,_,_,_,W,rfl,Z.kept λb o e=>Á _ e,Vm a _,#[_,Ì _ rfl,rfl,rfl],λb S=>?_,q];have e:=by simpa using S
 subst e;exact Z.rS (ahz _) (Z.aK.fresh (ahz _))
def MP {σ:St} {H} {s} {R} {E} {lo hi} {t u v} {tk} (I:Inv X π σ H s) (h1:-(2 ^ 62)<=lo) (h2:lo<2 ^ 62) (h3:-(2 ^ 62)<=hi) (h4:hi<2 ^ 62)
  (q:R (yz lo (hi-lo).toNat) H):ë (ê X.prog X.w) X.A (pyIter (.ref s.heap.objs.size)) (Sg X π σ tg R) E { s with heap:=s.heap.push { cls:=.type "range",data:=.fields #v[.int lo t,.int hi u,.int 1 v] },toks:=tk }:=by
 refine wpAny_pyIter_range (IsRange.new ..) (small_one h1 h2 h3 h4) ?_
 have Z:Inv X π σ H { s with heap:=s.heap.push { cls:=.type "range",data:=.fields #v[.int lo t,.int hi u,.int 1 v] },toks:=tk }:=I.kept λb o e=>Á _ e
 refine#[_,_,_,_,H,rfl,
  Z.kept λb o e=>Á _ e,Vn _ lo _,?_,λb Y=>?_,q]
 .have e1:lo+((0:Nat))*1=lo:=by simp
  have e2:(((hi-lo).toNat))-((0:Nat))=Ŏ lo hi 1:=by rw[rangeSize_one];split<;>omega
  rw[e1,e2];exact Ì _ rfl
 .have e:b=(s.heap.push { cls:=.type "range",data:=.fields #v[.int lo t,.int hi u,.int 1 v] }).objs.size:=by simpa using Y
  subst e;exact Z.rS (ahz _) (Z.aK.fresh (ahz _))
def ads (ta:TA):TI:=fun σ H R=>ta σ H λZ Y=>∃j,Z=[.int j]/\-(2 ^ 62)<=j/\j<2 ^ 62/\R (yz 0 j.toNat) Y
def adt (ta:TA):TI:=fun σ H R=>ta σ H λZ Y=>∃i j,Z=[.int i,.int j]/\(-(2 ^ 62)<=i/\i<2 ^ 62/\-(2 ^ 62)<=j/\j<2 ^ 62)/\R (yz i (j-i).toNat) Y
def Wr {p pos} (hg:Gl X "range") (hm:X.mg "range"=ϋ) (ha:PA X [a] ta) (hs:É [a] X.env=[(ύ,Ħ a X.env)]:=by rfl):PI X tg (.Call (.Name "range" p) [a] [] pos) (ads ta):=by
 intro Y s σ H R I h;refine Call_ (pP I hg hm boot_range (ĩ (aQ (ha pos Y s σ H _ I h) λS Q ⟨P,O,W,V,Z⟩=>?_) hs rfl));let(j,e,Z,U,q):=Z;subst e
 cases V with
 |cons r T =>
  cases T;let(t,rfl):=r;exact call_range_1 (MP W ⋯ ⋯ Z U (by simpa using q))
def Ws {p pos} (hg:Gl X "range") (hm:X.mg "range"=ϋ) (ha:PA X [a,b] ta) (hs:É [a,b] X.env=[(ύ,Ħ a X.env),(ύ,Ħ b X.env)]:=by rfl) (cS:É [b] X.env=[(ύ,Ħ b X.env)]:=by rfl) :
  PI X tg (.Call (.Name "range" p) [a,b] [] pos) (adt ta):=by
 intro W s σ H R I h;refine Call_ (pP I hg hm boot_range (ĩ (aQ (ha pos W s σ H _ I h) λO N ⟨M,L,V,U,Z⟩=>?_) (by rw[hs,cS]) (by rw[cS];rfl)));obtain⟨i,j,e,⟨Z,T,S,Q⟩,q⟩:=Z;subst e
 cases U with
 |cons r Y =>
  cases Y with
  |cons P Y =>
   cases Y;let(t,rfl):=r;let(K,rfl):=P;exact call_range_2 (MP V Z T S Q q)
def Rz (wi:TI) (g:TG) (tb:TS):TS:=λD σ H=>wi σ H λJ V=>∃W:Nat->Nat->St->Hp->Prop,(∃m,W 0 m σ V)/\∀i m σ H,W i m σ H ->
 (J.stop i H/\D.nx σ H)\/(J.go i H/\∃N,(∀ Y Z,N Y Z->∃X,X < m/\W (i+1) X Y Z)/\∀x Z,J.vB i H x Z->g x σ Z fun U T=>tb { D with nx:=N,ct:=N,bk:=D.nx } U T)
noncomputable def uw (fp:List þ) (h:ū):List (þ×Obj):=fp.filterMap λb=>(h.get? b).map λo=>(b,o)
def tF (hb:b∈fp) (e:h.get? b=ϊ o):(b,o)∈uw fp h:=agn.mpr #[b,hb,by rw[e];rfl]
def L4 (hp:p∈uw fp h):p.1∈fp/\h.get? p.1=ϊ p.2:=by
 let(b,Z,e):=agn.mp hp
 cases q:h.get? b with
 |none=>rw[q] at e;cases e
 |some o =>
  rw[q] at e;have Y:=ahA e;subst Y;exact#[Z,q]
def Inv.pinned {σ:St} {H} {s} {fp} (I:Inv X π σ H s) (hf:∀b∈fp,gn X π H b) (ho:∀b∈fp,∃o,s.heap.get? b=ϊ o/\∀v,o.data≠.cell v):Inv X (π++uw fp s.heap) σ H s :=
 I.qY λp W=>(Ā.mp W).elim (λz=>I.pin p (Ò _ z)) λz=>by
  let(Z,e):=L4 z;let(f0,f1,f2,_):=hf _ Z;let(o,Y,d):=ho _ Z;rw[e] at Y;cases Y;exact#[e,f0,f1,f2,d]
def Inv.oh {σ:St} {H} {s} (I:Inv X (π++pl) σ H s):Inv X π σ H s:=I.qY λp Z=>I.pin p (Ò _ (ó _ Z))
def abm {body} {wi} {g} {tb} {pos} (hp:PassesOwn (ê X.prog X.w) X.A X.env X.xe) (hc:X.calm=ό) (hi:PI X tg iter wi) (hg:PG X tg g) (hb:dW X body tb)
  (hs:∀x,Ă iter X.env x=pure x:=by intro _;rfl):PS X (.For tg iter body [] pos) (Rz wi g tb):=by
 intro S s σ H D I h;refine wpAny_For (aQ (hi S s σ H _ I h) λv s1 q=>aQ q λi3 s2 p=>?_) hs;obtain⟨it,O,G,J,l,e,k,T,j,f2,W,⟨m0,c⟩,turn⟩:=p;subst e;have stat:∀{V},(∀b∈O,V b=ϋ)->∀b∈O,gn X S V b:=λa b hb=>#[a b hb,(f2 b hb).2];refine codeAny_forLoop_any (λn F=>∃i Q V,Inv X S Q V F/\G i F.heap/\(∀b∈O,V b=ϋ)/\W i n Q V) ?_ m0 #[0,σ,l,k,j,λb hb=>(f2 b hb).1,c];intro n E qz;let(i,Si,M,C,B,z,w3):=qz
 rcases turn i n _ M w3 with ⟨stop,qn⟩ | ⟨go,N,hN,step⟩
 .refine ago hp (aQ (T.done X rfl rfl rfl hc i S E _ M _ C (stat z) B stop) λr s4 ⟨L,I4⟩=>?_)
  subst L;exact wpAny_execs_nil #[_,M,I4,qn]
 .refine ago hp (aQ (T.item X rfl rfl rfl hc i S E _ M _ C (stat z) B go) λr s4 ⟨u,L,h4⟩=>?_)
  subst L;refine ago hp (aQ h4 λ_ s5 ⟨x,y,I5,r5,y5,K,yA⟩=>?_);have yB:=I5.pinned (stat yA) (T.obj _ _ K);refine ago hp (aQ (hg _ s5 _ y x u _ yB r5 (step x y y5)) λ_ s6 ⟨σ6,H6,I6,q6⟩=>?_);refine ago hp (aQ (hb s6 _ H6 _ I6 q6) λf t U=>?_);have again:∀{R} {Z},Inv X _ _ Z t->N _ Z->∃m,m<n/\∃i Q V,Inv X S Q V t/\G i _/\(∀b∈O,V b=ϋ)/\W i m Q V:=λ{R Z} Y P=>by
   let(m',hm,w7):=hN _ Z P;refine#[m',hm,_,R,Z,Y.oh,T.keep _ _ _ K λb hb o e=>(Y.pin _ (Ò _ (Ò _ (tF hb e)))).1,λb hb=>?_,w7];let(o,e,d):=T.obj _ _ K b hb;exact(Y.pin _ (Ò _ (Ò _ (tF hb e)))).2.1
  cases f with
  |next=>let(R,Z,Y,P):=U;exact again Y P
  |cont=>let(R,Z,Y,P):=U;exact again Y P
  |brk=>let(R,Z,Y,U):=U;exact#[_,Z,Y.oh,U]
  |ret v=>let(x7,R,Z,Y,r7,U):=U;exact#[x7,_,Z,Y.oh,r7,U]
end
abbrev R2:=V->V->Hp->VK->Prop
def bP (X:Cx) (f:ã->ã->Sem ã) (r:R2):Prop :=
 ∀Z s (σ:St) H x y v u Q,Inv X Z σ H s->RelV x v->RelV y u->r x y H Q ->
  ë (ê X.prog X.w) X.A (f v u) (EP X Z σ Q) X.xe s
def yC (X:Cx) (f:ã->Sem ã) (r:V->Hp->VK->Prop):Prop :=
 ∀Z s (σ:St) H x v Q,Inv X Z σ H s->RelV x v->r x H Q ->
  ë (ê X.prog X.w) X.A (f v) (EP X Z σ Q) X.xe s
def dB (X:Cx) (f:ã) (r:List V->Hp->VK->Prop):Prop :=
 ∀Z s (σ:St) H Y W Q,Inv X Z σ H s->Vals Y W->r Y H Q ->
  ë (ê X.prog X.w) X.A (call f W) (EP X Z σ Q) X.xe s
def ae3 (X:Cx) (r:V->Hp->(Bool->Hp->Prop)->Prop):Prop :=
 ∀Z s (σ:St) H x v Q,Inv X Z σ H s->RelV x v->r x H Q ->
  ë (ê X.prog X.w) X.A (truthy v) (TP X Z σ Q) X.xe s
def yD (r:R2) (ta tb:TE):TE:=fun σ H Q=>ta σ H λx Z=>tb σ Z λy Y=>r x y Y Q
def tUn (r:V->Hp->VK->Prop) (ta:TE):TE:=fun σ H Q=>ta σ H λx Z=>r x Z Q
def rI (C:Int->Int->Prop) (g:Int->Int->V):R2:=λx y H Q=>∃i j,x=.int i/\y=.int j/\C i j/\Q (g i j) H
def su (g:Int->Int->V):R2:=λx y H Q=>∃i j,x=.int i/\y=.int j/\Q (g i j) H
def rU (g:Int->V):V->Hp->VK->Prop:=λx H Q=>∃i,x=.int i/\Q (g i) H
section
variable {X:Cx} {a b c:ŕ} {ta tb tc:TE} {pos:Pos}
def GJ (ha:PE X a ta) (hb:PE X b tb) {π} {s} {σ:St} {H} {R:V->V->Hp->Prop} (I:Inv X π σ H s)
  (h:ta σ H λx H1=>tb σ H1 λy H2=>R x y H2) {Q} {f:ã->ã->Sem ã}
  (hf:∀v u s2 x y H2,Inv X π σ H2 s2->RelV x v->RelV y u->R x y H2->ë (ê X.prog X.w) X.A (f v u) Q X.xe s2) :
  ë (ê X.prog X.w) X.A (Ħ a X.env) (λv bU=>ë (ê X.prog X.w) X.A (Ħ b X.env) (λu u0=>ë (ê X.prog X.w) X.A (f v u) Q X.xe u0) X.xe bU) X.xe s:=by
 refine aQ (ha π s σ H _ I h) λv Z ⟨x,H1,Y,W,U⟩=>?_;refine aQ (hb π Z σ H1 _ Y U) λu s2 ⟨y,H2,T,S,P⟩=>?_;exact hf v u s2 x y H2 T W S P
def adu (ho:bP X (ņ op) r) (ha:PE X a ta) (hb:PE X b tb):PE X (.BinOp a op b pos) (yD r ta tb):=by
 intro Z s σ H Q I h;exact wpAny_BinOp (GJ ha hb I h λv u Y x y W V U T q=>ho Z Y σ W x y v u Q V U T q)
def adv {r} (ho:yC X (unaryOp op) r) (ha:PE X a ta):PE X (.UnaryOp op a pos) (tUn r ta):=by
 intro Z s σ H Q I h;exact UnaryOp_ (aQ (ha Z s σ H _ I h) λv Y ⟨x,W,V,U,T⟩=>ho Z Y σ W x v Q V U T)
def BR {C} {g:Int->Int->Int}
 (rule:∀i j t u s Q E,C i j->Q (.int (g i j) s.toks) { s with toks:=s.toks+1 }->ë (ê X.prog X.w) X.A (f (.int i t) (.int j u)) Q E s) :
  bP X f (rI C λi j=>.int (g i j)):=by
 intro U s σ H x y v u Q I Z Y h;let(i,j,rfl,rfl,W,q):=h;let(t,rfl):=Z;let(V,rfl):=Y;exact rule i j t V s _ _ W #[.int _,H,I.tok _,#[_,rfl],q]
def RA {g:Int->Int->Int}
 (rule:∀i j t u s Q E,Q (.int (g i j) s.toks) { s with toks:=s.toks+1 }->ë (ê X.prog X.w) X.A (f (.int i t) (.int j u)) Q E s) :
  bP X f (su λi j=>.int (g i j)):=by
 intro V s σ H x y v u Q I Z Y h;let(i,j,rfl,rfl,q):=h;let(t,rfl):=Z;let(W,rfl):=Y;exact rule i j t W s _ _ #[.int _,H,I.tok _,#[_,rfl],q]
def GN {g:Int->Int->Bool}
 (rule:∀i j t u s Q E,Q (.bool (g i j)) s->ë (ê X.prog X.w) X.A (f (.int i t) (.int j u)) Q E s) :
  bP X f (su λi j=>.bl (g i j)):=by
 intro V s σ H x y v u Q I Z Y h;let(i,j,rfl,rfl,q):=h;let(t,rfl):=Z;let(W,rfl):=Y;exact rule i j t W s _ _ #[.bl _,H,I,rfl,q]
def ae4 (i j:Int):Prop:=0<j/\j<1073741824
def ae5 (i j:Int):Prop:=0<=j/\j<=1000000/\i.natAbs<2 ^ 64
def Bs (i j:Int):Prop:=(-(2 ^ 64)<i/\i<2 ^ 64)\/(-(2 ^ 64)<j/\j<2 ^ 64)
def Bs.ok (h:Bs i j):IntMulOk i j:=by
 rcases h with ⟨Z,Y⟩ | ⟨Z,Y⟩
 .exact .of_left (intBits_le_64 Z Y)
 .exact .of_right (intBits_le_64 Z Y)
def abn:bP X (ņ .Add) (su λi j=>.int (i+j)):=RA λ_ _ _ _ _ _ _ q=>add_int q
def abo:bP X (ņ .Sub) (su λi j=>.int (i-j)):=RA λ_ _ _ _ _ _ _ q=>sub_int q
def abp:bP X (ņ .Mult) (rI Bs λi j=>.int (i*j)):=BR λ_ _ _ _ _ _ _ Z q=>mul_int q Z.ok
def ZA:bP X (ņ .FloorDiv) (rI ae4 λi j=>.int (i / j)):=BR λi j _ _ _ _ _ Z q=>by
 have Y:=Z.1;have W:=Z.2;exact floordiv_int ⋯ (by rw[Int.fdiv_eq_ediv_of_nonneg i ⋯];exact q) (.inl (PyProof.noPylong_small ⋯))
def abq:bP X (ņ .Mod) (rI (λ_ j=>0<j) λi j=>.int (i % j)):=BR λi j _ _ _ _ _ Z q=>by
 exact mod_int' ⋯ (by rw[Int.fmod_eq_emod_of_nonneg i ⋯];exact q)
def abr:bP X (ņ .Pow) (rI ae5 λi j=>.int (i ^ j.toNat)):=BR λ_ _ _ _ _ _ _ Z q=>pow_int_small Z.1 Z.2.1 Z.2.2 q
def unI {g:Int->Int}
 (rule:∀i t s Q E,Q (.int (g i) s.toks) { s with toks:=s.toks+1 }->ë (ê X.prog X.w) X.A (f (.int i t)) Q E s) :
  yC X f (rU λi=>.int (g i)):=by
 intro Y s σ H x v Q I Z h;let(i,rfl,q):=h;let(t,rfl):=Z;exact rule i t s _ _ #[.int _,H,I.tok _,#[_,rfl],q]
def abt:yC X (unaryOp .USub) (rU λi=>.int (-i)):=unI λ_ _ _ _ _ q=>neg_int q
end
noncomputable def GO:V->V->Bool
 | .ax,.ax=>ό | .ax,.int _=>ό | .int _,.ax=>ό | .ax,.bl _=>ό | .bl _,.ax=>ό | .ax,.str _=>ό | .str _,.ax=>ό
 | .int _,.int _=>ό | .bl _,.bl _=>ό | .str _,.str _=>ό | .jM _,.jM _=>ό
 | .int _,.str _=>ό | .str _,.int _=>ό | .bl _,.str _=>ό | .str _,.bl _=>ό
 |_,_=>ύ
def rEq:R2:=λx y H Q=>GO x y=ό/\Q (.bl (ώ (x=y))) H
def rNe:R2:=λx y H Q=>GO x y=ό/\Q (.bl (!ώ (x=y))) H
def NU:ώ (V.int i=V.int j)=(i==j):=by
 rw[Ī];simp
def O4:ώ (V.bl i=V.bl j)=(i==j):=by
 rw[Ī];simp
def Ek:ώ (V.str i=V.str j)=(i==j):=by
 rw[Ī];simp
def NV:ώ (V.jM i=V.jM j)=(i.toList==j.toList):=by
 rw[Ī];cases i;cases j;simp
section
variable {X:Cx} {a b c:ŕ} {ta tb tc:TE} {pos:Pos}
def c9 {σ:St} {H} {s} {Q} {k k'} (I:Inv X π σ H s) (q:Q (.bl k) H) (e:k=k'):EP X π σ Q (.bool k') s:=by
 subst e;exact#[.bl k,H,I,rfl,q]
def adw:bP X (Ē .Eq) rEq:=by
 intro T s σ H x y v u Q I U Z h;let(V,q):=h
 cases x with
 |ax =>
  cases U
  cases y with
  |ax=>cases Z;exact PySem.EqNone.eq_none_none (c9 I q ∅)
  |bl j=>cases Z;exact PySem.EqNone.eq_none_bool (c9 I q ∅)
  |int j=>let(Y,rfl):=Z;exact PySem.EqNone.eq_none_int (c9 I q ∅)
  |str j=>let(Y,rfl):=Z;exact PySem.EqNone.eq_none_str (c9 I q ∅)
  |_=>exact absurd (show ύ=ό from V) Ú
 |bl i =>
  cases U
  cases y with
  |ax=>cases Z;exact PySem.EqNone.eq_bool_none (c9 I q ∅)
  |bl j=>cases Z;exact eq_bool (c9 I q O4)
  |str j=>let(Y,rfl):=Z;exact PySem.EqMixed.eq_bool_str (c9 I q ∅)
  |_=>exact absurd (show ύ=ό from V) Ú
 |int i =>
  let(t,rfl):=U
  cases y with
  |ax=>cases Z;exact PySem.EqNone.eq_int_none (c9 I q ∅)
  |int j=>let(Y,rfl):=Z;exact eq_int (c9 I q NU)
  |str j=>let(Y,rfl):=Z;exact PySem.EqMixed.eq_int_str (c9 I q ∅)
  |_=>exact absurd (show ύ=ό from V) Ú
 |str i =>
  let(t,rfl):=U
  cases y with
  |ax=>cases Z;exact PySem.EqNone.eq_str_none (c9 I q ∅)
  |bl j=>cases Z;exact PySem.EqMixed.eq_str_bool (c9 I q ∅)
  |int j=>let(Y,rfl):=Z;exact PySem.EqMixed.eq_str_int (c9 I q ∅)
  |str j=>let(Y,rfl):=Z;exact eq_str (c9 I q Ek)
  |_=>exact absurd (show ύ=ό from V) Ú
 |jM i =>
  let(t,rfl):=U
  cases y with
  |jM j=>let(Y,rfl):=Z;exact PySem.W.eq_bytes (c9 I q NV)
  |_=>exact absurd (show ύ=ό from V) Ú
 |_=>cases y<;>exact absurd (show ύ=ό from V) Ú
def Ql:bP X (Ē .NotEq) rNe:=by
 intro T s σ H x y v u Q I U Z h;let(V,q):=h
 cases x with
 |ax =>
  cases U
  cases y with
  |ax=>cases Z;exact PySem.EqNone.ne_none_none (c9 I q ∅)
  |bl j=>cases Z;exact PySem.EqNone.ne_none_bool (c9 I q ∅)
  |int j=>let(Y,rfl):=Z;exact PySem.EqNone.ne_none_int (c9 I q ∅)
  |str j=>let(Y,rfl):=Z;exact PySem.EqNone.ne_none_str (c9 I q ∅)
  |_=>exact absurd (show ύ=ό from V) Ú
 |bl i =>
  cases U
  cases y with
  |ax=>cases Z;exact PySem.EqNone.ne_bool_none (c9 I q ∅)
  |bl j=>cases Z;exact ne_bool (c9 I q (ħ not O4))
  |str j=>let(Y,rfl):=Z;exact PySem.EqMixed.ne_bool_str (c9 I q ∅)
  |_=>exact absurd (show ύ=ό from V) Ú
 |int i =>
  let(t,rfl):=U
  cases y with
  |ax=>cases Z;exact PySem.EqNone.ne_int_none (c9 I q ∅)
  |int j=>let(Y,rfl):=Z;exact ne_int (c9 I q (ħ not NU))
  |str j=>let(Y,rfl):=Z;exact PySem.EqMixed.ne_int_str (c9 I q ∅)
  |_=>exact absurd (show ύ=ό from V) Ú
 |str i =>
  let(t,rfl):=U
  cases y with
  |ax=>cases Z;exact PySem.EqNone.ne_str_none (c9 I q ∅)
  |bl j=>cases Z;exact PySem.EqMixed.ne_str_bool (c9 I q ∅)
  |int j=>let(Y,rfl):=Z;exact PySem.EqMixed.ne_str_int (c9 I q ∅)
  |str j=>let(Y,rfl):=Z;exact ne_str (c9 I q (ħ not Ek))
  |_=>exact absurd (show ύ=ό from V) Ú
 |jM i =>
  let(t,rfl):=U
  cases y with
  |jM j=>let(Y,rfl):=Z;exact PySem.W.ne_bytes (c9 I q (ħ not NV))
  |_=>exact absurd (show ύ=ό from V) Ú
 |_=>cases y<;>exact absurd (V) Ú
def adx:bP X (Ē .LtE) (su λi j=>.bl (ώ (i<=j))):=GN λ_ _ _ _ _ _ _ q=>le_int q
def ady:bP X (Ē .Gt) (su λi j=>.bl (ώ (j<i))):=GN λ_ _ _ _ _ _ _ q=>gt_int q
def adz:bP X (Ē .GtE) (su λi j=>.bl (ώ (j<=i))):=GN λ_ _ _ _ _ _ _ q=>ge_int q
def Wt:bP X (Ē .In) (λx y H Q=>∃i j,x=.str i/\y=.str j/\Q (.bl (!(ŏ j i 0 j.length 1).isEmpty)) H):=by
 intro W s σ H x y v u Q I Z Y h;let(i,j,rfl,rfl,q):=h;let(t,rfl):=Z;let(V,rfl):=Y;exact in_str (c9 I q rfl)
def abu:bP X (Ē .Is) (λx y H Q=>y=.ax/\Q (.bl (ώ (x=.ax))) H):=by
 intro W s σ H x y v u Q I Z Y h;let(rfl,q):=h;cases Y;refine is_none_gen (c9 I q ?_)
 cases x<;>first
  |(rfl)
  |(let(t,rfl):=Z;rfl)
def ZC:bP X (Ē .IsNot) (λx y H Q=>y=.ax/\Q (.bl (!ώ (x=.ax))) H):=by
 intro W s σ H x y v u Q I Z Y h;let(rfl,q):=h;cases Y;refine isnot_none_gen (c9 I q ?_)
 cases x<;>first
  |(rfl)
  |(let(t,rfl):=Z;rfl)
def ba (b) (h:op≠.In:=by decide) (h2:op≠.NotIn:=by decide):agp op b=ύ:=by
 have e1:(op==CmpOp.In)=ύ:=by cases op<;>first|rfl|exact absurd rfl h
 have e2:(op==CmpOp.NotIn)=ύ:=by cases op<;>first|rfl|exact absurd rfl h2
 cases b<;>simp[agp,e1,e2]
def ZD (ho:bP X (Ē op) r) (ha:PE X a ta) (hb:PE X b tb) (hm:agp op b=ύ):PE X (.Compare a [op] [b] pos) (yD r ta tb):=by
 intro Z s σ H Q I h;exact wpAny_Compare1 (GJ ha hb I h λv u Y x y W V U T q=>ho Z Y σ W x y v u Q V U T q) hm
def A8 (t:TE):TT:=fun σ H Q=>t σ H λx Z=>∃k,x=.bl k/\Q k Z
def ZE (ho:bP X (Ē op) r) (ha:PE X a ta) (hb:PE X b tb) (hm:agp op b=ύ):PT X (.Compare a [op] [b] pos) (A8 (yD r ta tb)):=by
 intro Z s σ H Q I h;refine wpAny_isTrue_Compare1 (aQ (ha Z s σ H _ I h) λv Y ⟨x,W,V,U,T⟩=>aQ (hb Z Y σ W _ V T) λu S ⟨y,R,P,O,N⟩ =>
  aQ (ho Z S σ R x y v u _ P U O N) λc G ⟨z,M,L,K,k,e,J⟩=>?_) hm
 subst e;cases K;exact Ŗ #[M,L,J]
def O5 (r r':R2) (ta tb tc:TE):TE:=fun σ H Q=>ta σ H λx Y=>tb σ Y λy X=>r x y X λz Z=>∃k,z=.bl k /\
 (if k=ό then tc σ Z λW V=>r' y W V Q else Q (.bl ύ) Z)
def XI {r r'} (ho:bP X (Ē op) r) (iP:bP X (Ē yE) r') (ha:PE X a ta) (hb:PE X b tb) (hc:PE X c tc)
  (hm:lastMarks [op,yE] [b,c]=ύ:=by with_unfolding_all rfl):PE X (.Compare a [op,yE] [b,c] pos) (O5 r r' ta tb tc):=by
 intro Z s σ H Q I h;refine Compare_chain (aQ (ha Z s σ H _ I h) λv T ⟨x,S,R,P,O⟩=>chain_link (aQ (hb Z T σ S _ R O) λu N ⟨y,M,L,Y,K⟩ =>
  aQ (ho Z N σ M x y v u _ L P Y K) λd J ⟨z,W,V,G,k,e,U⟩=>?_)) hm
 subst e;cases G;refine Ŗ ?_
 cases k with
 |false=>exact ite_ff #[.bl ύ,W,V,rfl,U]
 |true=>exact ite_tt (chain_last (aQ (hc Z J σ W _ V U) λF E ⟨D,C,B,A,w⟩=>iP Z E σ C y D u F Q B Y A w))
def rT (K:Ň) (x:V) (H:Hp) (k:Bool):Prop :=
 match x with
 | .ax=>k=ύ
 | .bl b=>k=b
 | .int i=>k=(i != 0)
 | .str y=>y.length<=Õ/\k=((y.length:Int) != 0)
 | .jM y=>y.size<=Õ/\k=((y.size:Int) != 0)
 | .ref p=>(∃Z,bV K H p Z/\k=!Z.isEmpty)\/(∃Z,bZ K H p Z/\k=!Z.isEmpty)\/∃Y,H p=ϊ (.dK Y)/\k=!Y.isEmpty
 |_=>False
def Vo {bu:List (κ×V)} {vs} (r:KV bu vs):(!vs.isEmpty)=!bu.isEmpty:=by
 cases r<;>rfl
def LB (r:Vals xs ak):(!ak.toArray.isEmpty)=!xs.isEmpty:=by
 cases r<;>simp
def rf:(Õ)<2 ^ 63:=by decide
def E5:ae3 X (λx H Q=>∃k,rT X.K x H k/\Q k H):=by
 intro J s σ H x v Q I U h;let(k,e,q):=h;have G:=rf;have F:Õ=16777216:=ε
 cases x with
 |ax =>
  cases U;have Z:k=ύ:=e;subst Z;exact truthy_none #[H,I,q]
 |bl b =>
  cases U;have Z:k=b:=e;subst Z;exact Ŗ #[H,I,q]
 |int i =>
  let(t,rfl):=U;have Z:k=(i != 0):=e;subst Z;exact PySem.P.truthy_int #[H,I,q]
 |str y =>
  let(t,rfl):=U;obtain⟨M,Z⟩:y.length<=Õ/\k=((y.length:Int) != 0):=e;subst Z;exact PySem.P.truthy_str ⋯ #[H,I.tok _,q]
 |jM y =>
  let(t,rfl):=U;obtain⟨M,Z⟩:y.size<=Õ/\k=((y.size:Int) != 0):=e;subst Z;exact PySem.W.truthy_bytes ⋯ #[H,I.tok _,q]
 |ref p =>
  cases U;have Z:(∃V,bV X.K H p V/\k=!V.isEmpty)\/(∃V,bZ X.K H p V/\k=!V.isEmpty)\/∃T,H p=ϊ (.dK T)/\k=!T.isEmpty:=e
  rcases Z with ⟨V,S,Z⟩ | ⟨V,S,Z⟩ | ⟨T,S,Z⟩
  .subst Z
   let(ak,r,O,N):=I.list S;have Y:=r.length;exact wpAny_truthy_list O.isList (by erw[Ü];omega) #[H,I.tok _,by rw[LB r];exact q]
  .subst Z
   let(ak,r,O,N):=I.tuple S;have Y:=r.length;exact truthy_tuple O (by erw[Ü];omega) #[H,I.tok _,by rw[LB r];exact q]
  .subst Z
   obtain⟨N,L,R,r,m⟩:T.length<=Õ/\(p==sysModules)=ύ/\∃R,KV T R/\s.heap.DictOf (Ak X.prog X.w) p R:=I.aK p _ S;have Y:T.length=R.length:=Paired.length r;exact wpAny_truthy_dict L m ⋯ #[H,I.tok _,by rw[Vo r];exact q]
 |_=>exact(show False from e).elim
def XJ (ha:PE X a ta) (he:∀whole,isTrue a X.env whole=(do let v <- whole;agm a.pos;ω [v] (truthy v))) :
  PT X a (fun σ H Q=>ta σ H λx H'=>∃k,rT X.K x H' k/\Q k H'):=by
 intro Z s σ H Q I h;exact isTrue_plain (aQ (ha Z s σ H _ I h) λv Y ⟨x,W,V,U,T⟩=>E5 Z Y σ W x v Q V U T) (he _)
def Vp:bP X (ņ .Add) (λx y H Q=>∃i j,x=.str i/\y=.str j/\i.length+j.length<=Õ/\Q (.str (i++j)) H):=by
 intro U s σ H x y v u Q I Z Y h;let(i,j,rfl,rfl,W,q):=h;let(t,rfl):=Z;let(V,rfl):=Y;exact add_str (λV T=>#[.str _,H,I.tok _,#[_,rfl],q]) W
def vals1 (r:Vals [x] us):∃u,us=[u]/\RelV x u:=by
 cases r with
 |cons Z Y=>cases Y;exact#[_,rfl,Z]
def vals2 (r:Vals [x,y] us):∃u w',us=[u,w']/\RelV x u/\RelV y w':=by
 cases r with
 |cons Z Y =>
  cases Y with
  |cons X W=>cases W;exact#[_,_,rfl,Z,X]
def Uu:dB X (.type "str") (λxs H Q=>∃i,xs=[.int i]/\i.natAbs.log2<1920/\Q (.str (toString i)) H):=by
 intro Y s σ H xs W Q I r h;let(i,rfl,Z,q):=h;let(u,rfl,t,rfl):=vals1 r;exact PySem.P.str_of_int Z #[.str _,H,I.tok _,#[_,rfl],q]
end
structure rV (h:ū) (x dx C) (mA):Prop where
 obj:h.get? x=ϊ (δ C dx)
 ns:h.Ns1 dx mA
 ne:dx≠x
def Wu {h:ū} {dx} {mA} (n:h.Ns1 dx mA):∃od,h.get? dx=ϊ od/\∀name,adL name od=ϊ (mA name):=by
 let(o,Y,R,X,W,V,_,U):=n;refine#[o,X,λname=>?_];have e:=U name;delta nsFind findBy at e;rw[<- Array.find?_toList] at e;delta adL;rw[W];dsimp only;split
 .rename_i y q
  rw[q] at e;exact ħ ϊ e
 .rename_i q
  rw[q] at e;have a:Y.toList.any (·.refKey)=ύ:=by
   rw[ť];intro y T;let(z,t,Z):=V y (Array.mem_toList_iff.mp T);simp[DictEntry.refKey,Z]
  have S:¬ Y.toList.any (·.refKey)=ό:=by rw[a];exact Ú
  rw[é S];exact ħ ϊ e
def rV.look (I:rV h x dx C mA):∃od,PySem.W.InstAt h x (δ C dx) C (ϊ od)/\∀name,adL name od=ϊ (mA name) :=
 let ⟨od,Z,Y⟩:=Wu I.ns
 #[od,#[I.obj,rfl,rfl,Z],Y]
section
variable {prog:ø} {w:Ĭ} {A:đ} {E:ã->Ý->Prop} {s:Ý} {K:Ň} {x dx C f:þ} {mA:Str->Option ã} {name:Str} {v:ã}
def get_map (X:K.In s.heap) (I:rV s.heap x dx C mA) (hg:agW K C name=ό) (hh:ahn K C=ό)
 (ha:Š K (.ref C) name=ϊ ϋ) (hv:mA name=ϊ v) (BS:PySem.W.handedIn v=ό) (h:Q v { s with toks:=s.toks+1 }) :
  ë (ê prog w) A (getAttr (.ref x) name expr) Q E s:=by
 let(Y,J,Z):=I.look;exact PySem.W.get_value X J (ag2 hg).1 (PySem.W.findObj_own hh ha rfl (by rw[Z,hv])) BS h
def XM (X:K.In s.heap) (I:rV s.heap x dx C mA) (hg:agW K C name=ό)
 (hf:Š K (.ref C) name=ϊ (ϊ (.ref f))) (ht:PySem.W.isFn K (.ref f)=ό) (hv:mA name=ϋ) (h:Q (.ref f,[.ref x]) s) :
  ë (ê prog w) A (ag3 (.ref x) name pl) Q E s:=by
 let(Z,J,Y):=I.look;exact PySem.W.method_fn X J (ag2 hg).1 (ag2 hg).2 hf (beq_iff_eq.mp ht) (by show (adL name Z).map _=ϊ ύ;rw[Y,hv];rfl) h
def ZF (X:K.In s.heap) (I:rV s.heap x dx C mA)
 (hs:Š K (.ref C) "__setattr__"=ϊ (ϊ (.builtin "object.__setattr__"))) (hp:PySem.W.plainOver K C=ό) (ht:PySem.W.takerIn K C name=ϊ ϋ) (hh:ahn K C=ό)
 (hw:PySem.Within mA ns) (hsz:ns.length<=Õ)
 (h:∀h',rV h' x dx C (λy=>if y=name then ϊ v else mA y)->Ĩ dx s.heap h'->Q () { s with heap:=h',toks:=s.toks+2 }) :
  ë (ê prog w) A (setAttr (.ref x) name v) Q E s:=by
 let(M,J,L):=I.look;refine PySem.W.set_plain X J hs (PySem.W.osa_open X J hp ht λb=>?_);let(cd,S,R):=PySem.W.any_some hh;have P:=I.obj;refine À (Ä (À (À (wpAny_loadPart P (À (PySem.W.Looks.here (PySem.W.looks_clsIn X S) ?_))))));rw[R];refine Ä (À (Ä (À ?_)));refine wpAny_nsSet1 I.ns λh' U T=>?_;let(H,O,N,Z,Y,V):=U.count (PySem.Within.cons name v hw);refine À (wpAny_lookBehind Z (by rw[Y];exact pastItsLine_dict (Ø V (by rw[å];omega))) ?_);exact Ä (h _ #[(T.2 _ (Ĥ I.ne)).trans I.obj,U,I.ne] T)
def XN (X:K.In s.heap) (hm:PySem.W.makesIn K C=ό)
 (hi:Š K (.ref C) "__init__"=ϊ (ϊ (.ref f))) (hf:PySem.W.typeIn K (.ref f)=ϊ (.type "function"))
 (h:Ÿ (ê prog w) (A.under (.builtin "type.__call__" #[.ref C::vs,kw])) (.call (.ref f) #[.ref (s.heap.objs.size+1)::vs,kw]) (PySem.W.InitBack (s.heap.objs.size+1) R)
 { s with heap:=(s.heap.push agF).push (δ C s.heap.objs.size) }) :
  Ÿ (ê prog w) A (.call (.ref C) #[vs,kw]) R s:=by
 exact PySem.W.make_core (PySem.W.makes_of X hm) (PySem.W.looks_findIn X hi) (λself=>PySem.W.bind_fn X self hf) (.inl rfl) h
end
noncomputable def gX (f:Str) (v:V):List (Str×V)->List (Str×V)
 | []=>[(f,v)]
 |(g,x)::r=>if g=f then (g,v)::r else (g,x)::gX f v r
theorem Lc (f g) (v):∀fs,(gX f v fs).lookup g=if g=f then ϊ v else fs.lookup g
 | []=>by
  show agG g [(f,v)]=_;by_cases h:g=f
  .have Z:=beq_iff_eq.mpr h
   erw[agG,Z,Ù h]
  .have Z:=beq_eq_false_iff_ne.mpr h
   erw[agG,Z,é h]
 |(k,x)::r=>by
  have ih:=Lc f g v r
  rw[show gX f v _=(if k=f then (k,v)::r else (k,x)::gX f v r) from rfl]
  by_cases Y:k=f
  .rw[Ù Y]
   by_cases h:g=k
   .have Z:=beq_iff_eq.mpr h
    erw[agG,Z,Ù (h.trans Y)]
   .have Z:=beq_eq_false_iff_ne.mpr h
    erw[agG,Z,é (λe:g=f=>h (e.trans Y.symm))]
  .rw[é Y]
   by_cases h:g=k
   .have Z:=beq_iff_eq.mpr h
    erw[agG,Z,é (λe=>Y (h.symm.trans e))]
   .have Z:=beq_eq_false_iff_ne.mpr h
    erw[agG,Z];exact ih
theorem Dh (f) (v):∀fs,f∈(gX f v fs).map (·.1)/\∀g,g∈fs.map (·.1)->g∈(gX f v fs).map (·.1)
 | []=>#[by simp[gX],λg h=>by simp at h]
 |(k,x)::r=>by
  let(Y,X):=Dh f v r
  rw[show gX f v _=(if k=f then (k,v)::r else (k,x)::gX f v r) from rfl]
  by_cases Z:k=f
  .subst Z
   exact#[by simp,λg h=>by simpa using h]
  .rw[é Z]
   refine#[?_,λg h=>?_]
   .exact Ë _ Y
   .rcases Ô.mp h with e|e
    .exact Ô.mpr (.inl e)
    .exact Ë _ (X g e)
theorem Ld (f) (v):∀fs,(gX f v fs).length<=fs.length+1
 | []=>by simp[gX]
 |(k,x)::r=>by
  have ih:=Ld f v r
  rw[show gX f v _=(if k=f then (k,v)::r else (k,x)::gX f v r) from rfl]
  by_cases Z:k=f
  .rw[Ù Z,å,å];omega
  .rw[é Z,å,å];omega
def oM.some_of (r:oM (ϊ v) o):∃u,o=ϊ u/\RelV v u:=by
 cases o with
 |none=>exact(r).elim
 |some u=>exact#[u,rfl,r]
def oM.none_of (r:oM ϋ o):o=ϋ:=by
 cases o with
 |none=>rfl
 |some u=>exact(r).elim
def Wv (r:RelV v u):PySem.W.handedIn u=ό:=by
 cases v with
 |ax=>cases (r);rfl
 |bl b=>cases (r);rfl
 |int i=>let(t,e):=(r);cases e;rfl
 |str x=>let(t,e):=(r);cases e;rfl
 |jM b=>let(t,e):=(r);cases e;rfl
 |BL b=>let(t,e):=(r);cases e;rfl
 |ref a=>cases (r);rfl
 |ty n=>cases (r);rfl
section
variable {P:ø} {w:Ĭ} {H H':Hp} {h h':ū} {a C dx:þ} {fs fs':List (Str×V)}
def El (aK:dG P w H h) (e:H a=ϊ (.ins C dx fs)):∃mA,rV h a dx C mA/\(∀f,oM (fs.lookup f) (mA f))/\PySem.Within mA (fs.map (·.1))/\fs.length<=1000/\H dx=ϊ (.own a):=by
 let(d,z,ne,Z,mA,n,r,q):=(aK a _ e);exact#[mA,#[Z,n,ne],r,q,z,d]
end
structure lC (K) (C):Prop where
 pg:agW K C agq=ό
 hd:ahn K C=ό
 po:PySem.W.plainOver K C=ό
 sa:Š K (.ref C) "__setattr__"=ϊ (ϊ (.builtin "object.__setattr__"))
def lC.get {K} {C} (c:lC K C) (f):agW K C f=ό:=c.pg
def pQ (K:Ň) (C:þ) (f:Str):Prop:=Š K (.ref C) f=ϊ ϋ
def pQ.adA {K} {C} {f} (n:pQ K C f):PySem.W.takerIn K C f=ϊ ϋ:=by
 delta PySem.W.takerIn;rw[n];rfl
structure Meth (K) (C) (m) (f):Prop where
 at_:Š K (.ref C) m=ϊ (ϊ (.ref f))
 fn:PySem.W.isFn K (.ref f)=ό
 kp:ľ K (.ref f)=ό
section
variable {X:Cx} {π:List (þ×Obj)} {σ:St} {H:Hp} {s:Ý} {a C dx:þ} {fs:List (Str×V)} {f:Str} {v:V} {A:đ} {E:ã->Ý->Prop}
def Vq (I:Inv X π σ H s) (e:H a=ϊ (.ins C dx fs)) (c:lC X.K C) (n:pQ X.K C f) (l:fs.lookup f=ϊ v)
 (h:∀u s',Inv X π σ H s'->RelV v u->Q u s'):ë (ê X.prog X.w) A (getAttr (.ref a) f b) Q E s:=by
 let(W,O,r,_,_,_):=El I.aK e;let(u,Y,Z):=oM.some_of (by rw[<- l];exact r f);exact get_map I.gb O (c.get f) c.hd n Y (Wv Z) (h u _ (I.tok _) Z)
def LC (I:Inv X π σ H s) (e:H a=ϊ (.ins C dx fs)) (c:lC X.K C) (k:Meth X.K C m g) (l:fs.lookup m=ϋ)
 (h:Q (.ref g,[.ref a]) s):ë (ê X.prog X.w) A (ag3 (.ref a) m pl) Q E s:=by
 let(Y,O,r,_,_,_):=El I.aK e;have Z:=oM.none_of (by rw[<- l];exact r m);exact XM I.gb O (c.get m) k.at_ k.fn Z h
def Vr (I:Inv X π σ H s) (e:H a=ϊ (.ins C dx fs)) (c:lC X.K C) (n:pQ X.K C f) (hl:fs.length<1000) (ry:RelV y u)
 (h:∀s',Inv X π σ (upd H a (.ins C dx (gX f y fs))) s'->Q () s'):ë (ê X.prog X.w) A (setAttr (.ref a) f u) Q E s:=by
 let(V,O,r,Y,_,W):=El I.aK e;have U:(fs.map (·.1)).length<=Õ:=by rw[Æ,ε];omega
 refine ZF I.gb O c.sa c.po n.adA c.hd Y U λT Z S=>h _ ?_
 have hd:∃o,T.get? dx=ϊ o:=let ⟨o,_,_,R,_⟩:=Z.ns;#[o,R]
 refine I.write (by rw[e];exact True.intro) (.inr W) (λb q P z=>(S.2 b P).trans z) hd ?_;refine#[by rw[bB O.ne];exact W,?_,O.ne,Z.obj,_,Z.ns,λg=>?_,λg N=>?_]
 .have:=Ld f y fs;omega
 .rw[Lc]
  by_cases q:g=f
  .rw[Ù q,Ù q];exact ry
  .rw[é q,é q];exact r g
 .by_cases q:g=f
  .rw[q];exact(Dh f y fs).1
  .refine(Dh f y fs).2 g (Y g λz=>N ?_)
   show (if g=f then ϊ u else V g)=ϋ
   rw[é q];exact z
def Inv.made (I:Inv X π σ H s):Inv X π σ (upd (upd H s.heap.objs.size (.own (s.heap.objs.size+1))) (s.heap.objs.size+1) (.ins C s.heap.objs.size []))
  { s with heap:=(s.heap.push agF).push (δ C s.heap.objs.size) }:=by
 have e1:(s.heap.push _).get? _=ϊ agF:=Ì _ rfl;have e2:=by
  have:=Ì (s.heap.push agF) (o:=δ C s.heap.objs.size) rfl;rwa [ý] at this
 have e3:(s.heap.push _).Ns _ (λ_=>ϋ):=#[_,_,_,e1,rfl,(λe Z=>absurd Z ∅),λ_=>rfl];have Y:=I.laid (o:=.own (s.heap.objs.size+1)) (t':=s.toks) (λb u q=>Á _ q) (ahz _) #[_,e1];refine Y.laid (λb u q=>Á _ q) (ahi (ý ..)) ?_;have ne:s.heap.objs.size≠s.heap.objs.size+1:=ß (ō _);refine#[by rw[bB ne,cY],ć _,ne,e2,λ_=>ϋ,(Heap.Ns1.of_empty e3).at λo q=>Á _ q,λ_=>True.intro,λy W=>absurd rfl W]
def ZG (hb:ĭ e f env (Ħ e env)=Ħ e env)
 (h:ë (ê prog w) A (Ħ e env) (λo bU=>ë (ê prog w) A (getAttr o f ό) Q E bU) E s):ë (ê prog w) A (Ħ (.Attribute e f pos) env) Q E s :=
 Attribute_any_ h (by rw[arm_eval_Attribute,hb])
end
def ae7 (K:Ň) (ta:TE) (f:Str):TE:=fun σ H Q=>ta σ H λx Z=>∃a C Y fs v,x=.ref a/\Z a=ϊ (.ins C Y fs)/\lC K C/\pQ K C f/\fs.lookup f=ϊ v/\Q v Z
def ae8 (K:Ň) (ta tv:TE) (f:Str):TS:=λD σ H=>tv σ H λy X=>ta σ X λx Z=>∃a C Y fs,x=.ref a/\Z a=ϊ (.ins C Y fs)/\lC K C/\pQ K C f/\fs.length<1000 /\
 D.nx σ (upd Z a (.ins C Y (gX f y fs)))
section
variable {X:Cx} {o e value:ŕ} {f:Str} {pos pos' rW:Pos} {ta tv:TE}
def abv (he:PE X e ta) (hb:ĭ e f X.env (Ħ e X.env)=Ħ e X.env):PE X (.Attribute e f pos) (ae7 X.K ta f):=by
 intro Z s σ H Q I h;refine ZG hb (aQ (he Z s σ H _ I h) λu R ⟨x,Y,W,V,a,C,P,fs,v,ex,U,c,n,l,q⟩=>?_);subst ex;obtain rfl:u=ahu a:=V;exact Vq W U c n l λO N T S=>#[v,Y,T,S,q]
def abw (ha:PE X o ta) (hv:PE X value tv) (hs:swapsWith value (ϊ (.Attribute o f pos')) pos.line X.env=pure ύ):PS X (.Assign [.Attribute o f pos'] value pos) (ae8 X.K ta tv f):=by
 intro Z s σ H D I h;refine plainObj_wpAny_Assign_Attribute (aQ (hv Z s σ H _ I h) λu Y ⟨y,W,V,U,q⟩=>aQ (ha Z Y σ W _ V q) λT N ⟨x,M,S,R,a,C,L,fs,ex,Q,c,n,l,P⟩=>?_) hs;subst ex;obtain rfl:T=ahu a:=R;exact Vr S Q c n l U λJ O=>#[σ,_,O,P]
end
structure bK (k) (A:đ):Prop where
 hd:A.handled=ϋ
 dp:A.depth+3*k+5<recursionLimit
 un:A.units+16*k+200<cLine
 gd:A.guards=ϊ []
def bK.mono (r:bK k A) (h:j<=k):bK j A:=#[r.hd,by have:=r.dp;omega,by have:=r.un;omega,r.gd]
theorem bK.deeper (r:bK (k+1) A) (env):bK k (A.deeper env) :=
 #[r.hd,by have:=r.dp;show A.depth+1+3*k+5 < _;omega,by have:=r.un;show A.units+3+16*k+200 < _;omega,r.gd]
def Vs {A:đ} {C} {us} {kw}:(A.under (.builtin "type.__call__" #[.ref C::us,kw])).depth=A.depth+1:=by
 first|rfl|simp[Around.under,Code.weight,Code.isCreation,Code.isGuard,Code.isCaller,Code.frames,Code.isFrame,guardIds]
def Vt {A:đ} {C} {us} {kw}:(A.under (.builtin "type.__call__" #[.ref C::us,kw])).units=A.units+1:=by
 first|rfl|simp[Around.under,Code.cUnits,Code.frames,Code.isFrame]
def bK.make (r:bK (k+1) A) (C) (us) (kw):bK k (A.under (.builtin "type.__call__" #[.ref C::us,kw])) :=
 #[r.hd,by have:=r.dp;rw[Vs];omega,by have:=r.un;rw[Vt];omega,by first|exact r.gd | (exact r.gd)]
theorem bK.depth (r:bK k A):A.depth<recursionLimit:=by have:=r.dp;omega
def GP:TA:=λ_ H Q=>Q [] H
def adB (ta:TE) (tr:TA):TA:=fun σ H Q=>ta σ H λx Z=>tr σ Z λY X=>Q (x::Y) X
section
variable {X:Cx} {e:ŕ} {es:List ŕ} {te:TE} {t:TA} {pos:Pos}
def kP:PA X [] GP:=λ_ _ _ _ H Q I h=>Calls.spliced_nil #[_,H,I,.nil,h]
def jY (ha:PE X e te) (hr:PA X es t) (hs:É (e::es) X.env=(ύ,Ħ e X.env)::É es X.env:=by rfl):PA X (e::es) (adB te t):=by
 intro pos Z s σ H Q I h;rw[hs];refine agr (aQ (ha Z s σ H _ I h) λu Y ⟨x,W,V,U,T⟩=>?_);exact aQ (hr pos Z Y σ W _ V T) λN M ⟨L,S,R,P,O⟩=>#[_,S,R,.cons U P,O]
def ae9 (t:TA):TE:=fun σ H Q=>t σ H λZ Y=>Z.length<=Õ/\∀p,Y p=ϋ->Q (.ref p) (upd Y p (.tup Z))
def afa (t:TA):TE:=fun σ H Q=>t σ H λZ Y=>Z.length<=Õ/\∀p,Y p=ϋ->Q (.ref p) (upd Y p (.lst Z))
def abx (h:PA X es t):PE X (.Tuple es x1 pos) (ae9 t):=by
 intro Y s σ H Q I W;refine wpAny_Tuple_spliced (aQ (h pos Y s σ H _ I W) λV T ⟨S,R,Z,r,z,q⟩=>#[by rw[<- r.length];exact z,?_]);have U:=Z.aK.fresh (ahz _);refine#[.ref _,_,Z.laid (λb u e=>Á _ e) (ahz _) ?_,rfl,q _ U];exact#[z,V,r,#[_,Ì _ rfl,rfl,_,rfl]]
def O6 (h:PA X es t):PE X (.List es pos) (afa t):=by
 intro Y s σ H Q I W;refine wpAny_List_spliced (aQ (h pos Y s σ H _ I W) λV T ⟨S,R,Z,r,z,q⟩=>#[by rw[<- r.length];exact z,?_]);have U:=Z.aK.fresh (ahz _);refine#[.ref _,_,Z.laid (λb u e=>Á _ e) (ahz _) ?_,rfl,q _ U];exact#[z,V,0,r,Ì _ rfl]
end
abbrev Sp:=List V->Hp->VK->XK->Prop
abbrev qt:=List Env->Hp->Ý->XK->ã->Ý->Prop
structure oO (P) (w) (K) (mg) (base) (A:đ) (outer) (s:Ý) (H:Hp):Prop where
 frames:A.frames=ϊ outer
 mod:Mod K mg base
 bs:∀b o,base.get? b=ϊ o->s.heap.get? b=ϊ o/\H b=ϋ
 jq:base.objs.size<=s.heap.objs.size
 jj:s.heap.FunFrames base outer
 mE:∀b∈dU outer,H b=ϋ
 aK:dG P w H s.heap
 bare:ahq s.gens
def CE (outer:List Env) (P:ø) (w:Ĭ) (H:Hp) (s:Ý) (Q:VK) (u:ã) (s':Ý):Prop :=
 ∃v Z,s'.os=s.os/\ahq s'.gens/\Un (dU outer) [] H Z s.heap s'.heap/\dG P w Z s'.heap/\RelV v u/\Q v Z
def CR (CX:qt) (outer:List Env) (P:ø) (w:Ĭ) (H:Hp) (s:Ý) (Q:VK) (E:XK) (r:Result) (s':Ý):Prop :=
 match r with
 | .ok (.ret u)=>CE outer P w H s Q u s'
 | .ok _=>False
 | .error e=>CX outer H s E e s'
structure dg (P) (w) (K) (mg) (base) (CX) (k) (f) (fd) (ps:List Str) (sp:Sp):Prop where
 len:∀vs H Q E,sp vs H Q E->vs.length=ps.length
 run:∀A outer s H args us vs Q E,bK k A->oO P w K mg base A outer s H->BindsTo s fd args (ps.zip us)->Vals vs us->sp vs H Q E ->
  Ÿ (ê P w) A (.call (.ref f) args) (CR CX outer P w H s Q E) s
def dg.imp {K} {mg} {base} {CX} {k} {f} {fd} {ps} {sp Sj} (F:dg P w K mg base CX k f fd ps sp)
  (h:∀vs H Q E,Sj vs H Q E->sp vs H Q E):dg P w K mg base CX k f fd ps Sj :=
 #[λvs H Q E q=>F.len vs H Q E (h _ _ _ _ q),λA outer s H args Z vs Q E Y X W V U=>F.run A outer s H args Z vs Q E Y X W V (h _ _ _ _ U)]
def oO.make {K} {mg} {base} {A} {outer} {s} {H} (e:oO P w K mg base A outer s H) (C) (us) (kw) :
  oO P w K mg base (A.under (.builtin "type.__call__" #[.ref C::us,kw])) outer s H:=#[by first|exact e.frames | (simpa [pushEnvs] using e.frames),e.mod,e.bs,e.jq,e.jj,e.mE,e.aK,e.bare]
section
variable {X:Cx} {π:List (þ×Obj)} {σ:St} {H:Hp} {s s':Ý}
def Inv.lg (I:Inv X π σ H s):oO X.prog X.w X.K X.mg X.base X.A X.stack s H :=
 #[I.ok.frames,I.ok.mod,I.bs,Ø I.ok.jq I.sz,I.stack,I.wK,I.aK,I.bare]
def Inv.after (I:Inv X π σ H s) (h:CE X.stack X.prog X.w H s Q u s'):EP X π σ Q u s':=by
 let(v,Z,os,bare,un,Y,r,q):=h;let(V,g,d,t,W):=s';obtain rfl:W=s.os:=os;exact#[v,Z,I.call un Y bare (λb z=>absurd z ∅),r,q]
end
def Qm (sp:Sp) (ao:List V) (E:XK) (t:TA):TE:=fun σ H Q=>t σ H λZ Y=>sp (Z++ao) Y Q E
def A9 (C:þ) (m:Str) (sp:Sp) (ao:List V) (E:XK) (ta:TE) (t:TA):TE:=fun σ H Q=>ta σ H λx Z=>∃a Y fs,x=.ref a/\Z a=ϊ (.ins C Y fs)/\fs.lookup m=ϋ /\
 t σ Z λX W=>sp (x::(X++ao)) W Q E
def adC (C:þ) (sp:Sp) (ao:List V) (E:XK) (t:TA):TE:=fun σ H Q=>t σ H λX Y=>∀x Z,Y x=ϋ->Y Z=ϋ->Z≠x ->
 sp (.ref x::(X++ao)) (upd (upd Y Z (.own x)) x (.ins C Z [])) (λv W=>v=.ax/\Q (.ref x) W) E
def Binds (K:Ň) (fd:FuncData) (ps:List Str) (ds:List ã):Prop :=
 ∀s Z,K.In s.heap->(Z++ds).length=ps.length->BindsTo s fd #[Z,[]] (ps.zip (Z++ds))
def Binds.all {K} {fd} {ps} (h:∀us,us.length=ps.length->bindArgs fd #[us,[]]=pure (ps.zip us)):Binds K fd ps []:=λs us _ Z=>by
 rw[ð] at Z |-;exact .of_eq (h us Z)
def Passes (CX:qt) (X:Cx) (E:XK):Prop:=∀Y (σ:St) H s e Z,Inv X Y σ H s->CX X.stack H s E e Z->X.xe e Z
section
variable {X:Cx} {CX:qt} {k:Nat} {f C:þ} {fd:FuncData} {ps:List Str} {sp:Sp} {ao:List V} {ds:List ã} {E:XK} {x m:Str} {p pos apos:Pos} {e o:ŕ} {es:List ŕ} {ta:TE} {t:TA}
def E6 {σ:St} {H} {s} {Q} {us} {vs} (F:dg X.prog X.w X.K X.mg X.base CX k f fd ps sp) (hr:bK k X.A) (hb:Binds X.K fd ps ds) (hd:Vals ao ds) (hx:Passes CX X E)
  (I:Inv X π σ H s) (r:Vals vs us) (h:sp (vs++ao) H Q E):ë (ê X.prog X.w) X.A (call (.ref f) us) (EP X π σ Q) X.xe s:=by
 have Y:=r.append hd;have W:(us++ds).length=ps.length:=by rw[<- Y.length];exact F.len _ _ _ _ h
 refine agi (ń (F.run _ _ s H _ _ _ Q E hr I.lg (hb s us I.gb W) Y h) λr V Z=>?_)
 cases r with
 |error e=>exact hx π σ H s e V I Z
 |ok U =>
  cases U with
  |ret u=>exact I.after Z
  |next=>exact ĉ Z
  |brk=>exact ĉ Z
  |cont=>exact ĉ Z
def Al (F:dg X.prog X.w X.K X.mg X.base CX k f fd ps sp) (hr:bK k X.A) (hg:Gl X x) (hm:X.mg x=ϊ (.ref f)) (hk:ľ X.K (.ref f)=ό) (hb:Binds X.K fd ps ds) (hd:Vals ao ds) (hx:Passes CX X E)
  (ha:PA X (e::es) t) (dq:(x==("__debug__"))=ύ:=by decide) (he:É (e::es) X.env=(ύ,Ħ e X.env)::É es X.env:=by rfl) (bM:(Ġ pos (É es X.env)).any (·.1)=ύ:=by rfl) :
  PE X (.Call (.Name x p) (e::es) [] pos) (Qm sp ao E t):=by
 intro Y s σ H Q I h;refine Ŝ (qZ I hg hm ?_ dq);refine ags I.ok.mod.lu hk (aQ (ha pos Y s σ H _ I h) λW V ⟨U,T,Z,r,q⟩=>#[Z.gb,?_]) he bM;exact E6 F hr hb hd hx Z r q
def NW {pl} (he:PE X o ta) (c:lC X.K C) (hm:Meth X.K C m f) (F:dg X.prog X.w X.K X.mg X.base CX k f fd ps sp) (hr:bK k X.A) (hb:Binds X.K fd ps ds) (hd:Vals ao ds) (hx:Passes CX X E) (ha:PA X (e::es) t)
  (gu:É (e::es) X.env=(ύ,Ħ e X.env)::É es X.env:=by rfl) (bM:(Ġ pos (É es X.env)).any (·.1)=ύ:=by rfl)
  (ht:Ħ (.Call (.Attribute o m apos) (e::es) [] pos) X.env=(do
   let ov <- Ħ o X.env
   agm apos.atName
   let (f,first) <- ω [ov] (ag3 ov m pl)
   callWith pos f first (Ġ pos (É (e::es) X.env)) (ž pos (ŀ [] X.env))):=by rfl) :
  PE X (.Call (.Attribute o m apos) (e::es) [] pos) (A9 C m sp ao E ta t):=by
 intro Z s σ H Q I h;refine PySem.W.methodCall_KW (aQ (he Z s σ H _ I h) λu U ⟨x,T,Y,S,a,O,fs,ex,R,l,q⟩=>?_) ht;subst ex;obtain rfl:u=ahu a:=S;refine LC Y R c hm l ?_;refine ags I.ok.mod.lu hm.kp (aQ (ha pos Z U σ T _ Y q) λN M ⟨vs,L,V,r,P⟩=>#[V.gb,?_]) gu bM;exact E6 (vs:=.ref a::vs) F hr hb hd hx V (.cons rfl r) P
def MQ (he:PE X o ta) (c:lC X.K C) (hm:Meth X.K C m f) (F:dg X.prog X.w X.K X.mg X.base CX k f fd ps sp) (hr:bK k X.A) (hb:Binds X.K fd ps ds) (hd:Vals ao ds) (hx:Passes CX X E)
 (ht:Ħ (.Call (.Attribute o m apos) [] [] pos) X.env=(do
   let ov <- Ħ o X.env
   agm apos.atName
   let (f,first) <- ω [ov] (ag3 ov m pl)
   callWith pos f first (Ġ pos (É [] X.env)) (ž pos (ŀ [] X.env))):=by rfl) :
  PE X (.Call (.Attribute o m apos) [] [] pos) (A9 C m sp ao E ta GP):=by
 intro Y s σ H Q I h;refine PySem.W.methodCall_KW (aQ (he Y s σ H _ I h) λu T ⟨x,S,Z,V,a,R,fs,ex,U,l,q⟩=>?_) ht;subst ex;obtain rfl:u=ahu a:=V;refine LC Z U c hm l ?_;exact PySem.W.callWith_K0 Z.gb hm.kp (E6 (vs:=[.ref a]) F hr hb hd hx Z (.cons rfl .nil) q)
structure Mk (K) (C f):Prop where
 makes:PySem.W.makesIn K C=ό
 init:Š K (.ref C) "__init__"=ϊ (ϊ (.ref f))
 fn:PySem.W.isFn K (.ref f)=ό
 kp:ľ K (.ref C)=ό
def XO {σ:St} {H} {s} {Q} {us} {vs} (M:Mk X.K C f) (F:dg X.prog X.w X.K X.mg X.base CX k f fd ps sp) (hr:bK (k+1) X.A) (hb:Binds X.K fd ps ds) (hd:Vals ao ds)
  (hx:Passes CX X E) (I:Inv X π σ H s) (r:Vals vs us)
  (h:∀x dx,H x=ϋ->H dx=ϋ->dx≠x->sp (.ref x::(vs++ao)) (upd (upd H dx (.own x)) x (.ins C dx [])) (λv H2=>v=.ax/\Q (.ref x) H2) E) :
  ë (ê X.prog X.w) X.A (call (.ref C) us) (EP X π σ Q) X.xe s:=by
 have W:=h _ _ (I.aK.fresh (ŭ _)) (I.aK.fresh (ahz _)) (ß (ō _));have Y:=Inv.made (C:=C) I;have U:Vals (V.ref (s.heap.objs.size+1)::(vs++ao)) _:=.cons rfl (r.append hd);have T:=by
  have e:=U.length;rw[F.len _ _ _ _ W] at e;exact e.symm
 refine agi (XN I.gb M.makes M.init (beq_iff_eq.mp M.fn) (ń (F.run _ _ _ _ _ _ _ _ E (hr.make C us _)
  (Y.lg.make C us _) (hb _ _ Y.gb T) U W) λr S Z=>?_))
 cases r with
 |error e=>exact hx π σ _ _ e S Y Z
 |ok R =>
  cases R with
  |ret u =>
   let(v,P,O,N,ev,L):=Y.after Z;subst ev;exact#[N,#[V.ref _,P,O,rfl,L]]
  |next=>exact ĉ Z
  |brk=>exact ĉ Z
  |cont=>exact ĉ Z
def XQ (M:Mk X.K C f) (F:dg X.prog X.w X.K X.mg X.base CX k f fd ps sp) (hr:bK (k+1) X.A) (hg:Gl X x) (hm:X.mg x=ϊ (.ref C)) (hb:Binds X.K fd ps ds) (hd:Vals ao ds) (hx:Passes CX X E)
  (dq:(x==("__debug__"))=ύ:=by decide):PE X (.Call (.Name x p) [] [] pos) (adC C sp ao E GP):=by
 intro Z s σ H Q I h;refine Ŝ (qZ I hg hm ?_ dq);exact PySem.W.callWith_K0 I.gb M.kp (XO M F hr hb hd hx I .nil h)
end
structure ue (N P:List Str) (sc:ahl):Prop where
 kind:sc.kind=.function
 co:sc.isCoroutine=ύ
 gen:sc.isGenerator=ύ
 nd:N.Nodup
 pre:N.take P.length=P
 par:∀x∈P,sc.names.lookup x=ϊ .local\/sc.names.lookup x=ϊ .cell
 aby:∀y∈sc.names,y.2≠.free
theorem L5 {kindOf} {x}:∀{binds} {m},(∀v,(x,v)∉binds)->bindL kindOf binds m x=m x
 | [],_,_=>rfl
 |(n,v)::r,m,h=>by
  delta bindL;rw[L5 λw hw=>h w (Ë _ hw)];split
  .have:x≠n:=by rintro rfl;exact h v Ö
   simp[this]
  .rfl
theorem L6 {kindOf} {x}:∀{binds} {m},(∀v,(x,v)∉binds)->bindC kindOf binds m x=m x
 | [],_,_=>rfl
 |(n,v)::r,m,h=>by
  delta bindC;rw[L6 λw hw=>h w (Ë _ hw)];split
  .rfl
  .have:x≠n:=by rintro rfl;exact h v Ö
   simp[this]
theorem L7 {kindOf} {x} {v}:∀{P:List Str} {vs} {i:Nat} {m},P.Nodup->P[i]?=ϊ x->vs[i]?=ϊ v->kindOf x=ϊ .local ->
  bindL kindOf (P.zip vs) m x=ϊ v
 | [],_,_,_,_,h,_,_=>by simp at h
 |_::_,[],_,_,_,_,h,_=>by simp at h
 |p::P,w::vs,0,m,X,Z,Y,W=>by
  simp at Z Y;subst Z;subst Y;show bindL kindOf ((p,w)::P.zip vs) m p=_;delta bindL;rw[L5 λv V=>(ζ.mp X).1 (ag4 V).1,Ù W];simp
 |p::P,w::vs,i+1,m,X,Z,Y,W=>by
  delta bindL;exact L7 (ζ.mp X).2 (by simpa using Z) (by simpa using Y) W
theorem L8 {kindOf} {x} {v}:∀{P:List Str} {vs} {i:Nat} {m},P.Nodup->P[i]?=ϊ x->vs[i]?=ϊ v->kindOf x≠ϊ .local ->
  bindC kindOf (P.zip vs) m x=ϊ v
 | [],_,_,_,_,h,_,_=>by simp at h
 |_::_,[],_,_,_,_,h,_=>by simp at h
 |p::P,w::vs,0,m,X,Z,Y,W=>by
  simp at Z Y;subst Z;subst Y;show bindC kindOf ((p,w)::P.zip vs) m p=_;delta bindC;rw[L6 λv V=>(ζ.mp X).1 (ag4 V).1,é W];simp
 |p::P,w::vs,i+1,m,X,Z,Y,W=>by
  delta bindC;exact L8 (ζ.mp X).2 (by simpa using Z) (by simpa using Y) W
noncomputable def start (N:List Str) (vs:List V):St:=vs.map ϊ++Ó (N.length-vs.length) ϋ
noncomputable def iI (CX:qt) (P:ø) (w:Ĭ) (K:Ň) (mg:Str->Option ã) (base:ū) (N:List Str) (qual:Str) (scope:ahl) (f:þ) (cd:ã) (A:đ) (outer:List Env) (s:Ý) (H:Hp) (E:XK):Cx where
 prog:=P
 w:=w
 K:=K
 mg:=mg
 base:=base
 A:=A.deeper (envOfC qual scope s.heap.objs.size f cd)
 N:=N
 ef:=s
 my:=H
 env:=envOfC qual scope s.heap.objs.size f cd
 outer:=outer
 stack:=envOfC qual scope s.heap.objs.size f cd::outer
 ex:=[]
 calm:=ό
 fn:=λ_=>ό
 pn:=[]
 xe:=λe Y=>ë (ê P w) (A.deeper (envOfC qual scope s.heap.objs.size f cd)) (leaving (envOfC qual scope s.heap.objs.size f cd) e) (λ_ Z=>CX outer H s E e Z) (λX Z=>CX outer H s E X Z) Y
def MR {sc:ahl} {n} {x} (h:sc.names.lookup x=ϊ .cell):∃c,(agt n sc.names []).lookup x=ϊ c:=by
 have q:=ź _ n [] (.inl h);exact agj.mp q
def L9 {P} {w} {K} {mg} {base} {N ps} {qual} {scope} {f} {cd} {A} {outer} {s s1} {H} {E} {us} {vs}
  (S:ue N ps scope) (hd:A.handled=ϋ) (e0:oO P w K mg base A outer s H) (hl:vs.length=ps.length) (r:Vals vs us)
  (x:InCallC s s.heap.objs.size (bindL (envOfC qual scope s.heap.objs.size f cd).kindOf (ps.zip us) λ_=>ϋ) (agt (s.heap.objs.size+1) scope.names []) (bindC (envOfC qual scope s.heap.objs.size f cd).kindOf (ps.zip us) λ_=>ϋ) s1) :
  Inv (iI CX P w K mg base N qual scope f cd A outer s H E) [] (start N vs) H s1:=by
 have O:ps.length<=N.length:=by have:=ħ List.length S.pre;rw[ų] at this;omega
 let(X,M,rfl,V):=x.done;have W:∀b,b∉(iI CX P w K mg base N qual scope f cd A outer s H E).ex:=λb z=>absurd (show b∈([]) from z) ∅;refine#[#[e0.mod,S.kind,rfl,rfl,ahz _,λy z c X Z=>?_,λy hy=>?_,λy c _ h=>?_,λ_=>hd,Around.frames_deeper e0.frames,.inr #[rfl,rfl],λb z=>absurd z (W b),e0.bs,e0.jq,λb _ _=>W b,λb z=>absurd z (W b),e0.jj,e0.mE],
  rfl,e0.bare,Un.kept V,#[_,x.toInCall.ns,λi y v X Z L=>?_],λy c h=>#[_,x.cell y c h],e0.aK.fresh (ahz _),λy c h=>?_,λp Y=>absurd (show p∈([]) from Y) ∅,e0.aK.kept V,?_]
 .exact name_of_addr x.apart (Ķ X) (Ķ Z)
 .rcases hy with hy|hy
  .exact MR hy
  .exact absurd rfl (S.aby _ (Ķ hy))
 .exact Nat.le_of_lt (x.above y c (Ķ h))
 .have hi:i<vs.length:=by
   delta start at Z;by_cases hi:i<vs.length
   .exact hi
   .rw[ñ (by simpa using hi)] at Z
    rw[Į] at Z
    split at Z<;>cases Z
  have R:vs[i]?=ϊ v:=by
   delta start at Z;rw[æ (by simpa using hi),à] at Z
   cases e:vs[i]? with
   |none=>rw[e] at Z;cases Z
   |some a=>rw[e] at Z;cases Z;rfl
  let(u,U,Q):=r.get R;have Y:ps[i]?=ϊ y:=by
   rw[<- S.pre,List.getElem?_take_of_lt ⋯];exact X
  have T:ps.Nodup:=by rw[<- S.pre];exact S.nd.sublist (agH ..)
  refine#[u,Q,?_]
  rcases S.par y (abI Y) with k|k
  .exact .inl #[k,L7 T Y U k]
  .let(c,e):=MR k
   refine .inr #[.inl k,c,e,?_];have q:=x.cell y c e;rw[L8 T Y U (by show scope.names.lookup y≠_;rw[k];decide)] at q;exact q
 .exact e0.aK.fresh (Nat.le_of_lt (x.above y c (Ķ h)))
 .delta start
  show _=N.length;rw[Ï,Æ,ň];omega
def Ba {P} {w} {K} {mg} {base} {k} {f} {name qual} {params} {body} {scope} {dV kV doc pm bo ct oc} {an od}
  {jP} {N ps} {sp} (lk:K.lookup f=ϊ #[oc,od,.func (Ŕ name qual params body scope dV kV doc pm an bo ct),jP]) (fe:adM K bo qual=ό) (S:ue N ps scope)
  (len:∀vs H Q E,sp vs H Q E->vs.length=ps.length)
  (ma:∀A outer s H vs Q E,bK k (A.deeper (envOfC qual scope s.heap.objs.size f bo))->sp vs H Q E ->
   ∃t,dW (iI CX P w K mg base N qual scope f bo A outer s H E) body t/\t { nx:=λ_ H'=>Q .ax H',rt:=Q } (start N vs) H) :
  dg P w K mg base CX (k+1) f (Ŕ name qual params body scope dV kV doc pm an bo ct) ps sp:=by
 refine#[len,λA outer s H args F vs Q E U Y D r M=>?_];have C:=len _ _ _ _ M;have L:=Y.mod.lu.keeps λb o e=>(Y.bs b o e).1;have lim:=Y.mod.nolimit.keeps λb o e=>(Y.bs b o e).1;have T:∀y∈ps.zip F,scope.names.lookup y.1=ϊ _\/(scope.names.lookup y.1=ϊ _/\((agt (s.heap.objs.size+1) _ []).lookup y.1).isSome=ό):=λ⟨n,v⟩ B=>by
  rcases S.par n (ag4 B).1 with q|q
  .exact .inl q
  .exact .inr #[q,ź _ _ _ (.inl q)]
 refine codeAny_call_function U.depth (L _ _ lk) rfl S.co S.gen rfl (PySem.W.codeRec_of L fe) (D _ _ _ _ ?_);refine wpAny_newFunctionEnv_cells S.kind T λenv z G x=>?_;subst z;refine#[lim.keeps x.toInCall.keep,codeAny_func ?_];let(t,p,m):=ma A outer s H vs Q E (U.deeper _) M;have I:Inv (iI CX P w K mg base N qual scope f bo A outer s H E) _ _ H G:=L9 S U.hd Y C r x;refine ė (p G _ H _ I m) (λl R Z=>?_) λe R Z=>Z;have fin:∀{X} {H'} {v} {u},Inv (iI CX P w K mg base N qual scope f bo A outer s H E) [] X H' R->RelV v u->Q v H'->CE outer P w H s Q u R :=
  λ{X H' v u} J O q=>#[v,H',J.os,J.bare,J.base,J.aK,O,q]
 cases l with
 |ret u =>
  let(v,X,H',J,O,q):=Z;exact fin J O q
 |next =>
  let(X,H',J,q):=Z;exact fin (v:=V.ax) J rfl q
 |brk =>
  let(_,_,_,q):=Z;exact ĉ q
 |cont =>
  let(_,_,_,q):=Z;exact ĉ q
section
variable {X:Cx} {x:Str} {p pos:Pos} {e:ŕ} {es:List ŕ} {t:TA} {id T:String} {r:List V->Hp->VK->Prop}
def HA (r:List V->Hp->VK->Prop) (t:TA):TE:=fun σ H Q=>t σ H λZ Y=>r Z Y Q
def DF (hc:dB X (.builtin id) r) (hg:Gl X x) (hm:X.mg x=ϋ) (hv:ü x=ϊ (.builtin id)) (ha:PA X (e::es) t) (hn:x≠"__name__":=by decide) (dq:(x==("__debug__"))=ύ:=by decide)
  (he:É (e::es) X.env=(ύ,Ħ e X.env)::É es X.env:=by rfl) (bM:(Ġ pos (É es X.env)).any (·.1)=ύ:=by rfl):PE X (.Call (.Name x p) (e::es) [] pos) (HA r t):=by
 intro Z s σ H Q I h;refine Ŝ (pP I hg hm hv ?_ hn dq);exact PyProof.Rows.callWith_builtin1 (aQ (ha pos Z s σ H _ I h) λY W ⟨V,U,T,S,R⟩=>hc Z W σ U V Y Q T S R) he bM
def Dj (hc:dB X (.type T) r) (hg:Gl X x) (hm:X.mg x=ϋ) (hv:ü x=ϊ (.type T)) (ha:PA X (e::es) t) (hn:x≠"__name__":=by decide) (dq:(x==("__debug__"))=ύ:=by decide)
  (he:É (e::es) X.env=(ύ,Ħ e X.env)::É es X.env:=by rfl) (bM:(Ġ pos (É es X.env)).any (·.1)=ύ:=by rfl):PE X (.Call (.Name x p) (e::es) [] pos) (HA r t):=by
 intro Z s σ H Q I h;refine Ŝ (pP I hg hm hv ?_ hn dq);exact ĩ (aQ (ha pos Z s σ H _ I h) λY W ⟨V,U,S,R,P⟩=>hc Z W σ U V Y Q S R P) he bM
end
end L2
namespace HT
open PySem PyProof.Rows
noncomputable def lexLt:List Int->List Int->Bool
 | [],[]=>ύ
 | [],_::_=>ό
 |_::_,[]=>ύ
 |x::Z,y::Y=>if x=y then lexLt Z Y else ώ (x<y)
def mY (x y) (xs ys):lexLt (x::xs) (y::ys)=if x=y then lexLt xs ys else ώ (x<y):=rfl
def MS (A) (s) (a) (t) (c) (u) (prog) (w) (E) (Q) (h:Q (.bool (ώ (a<c))) s) :
  ë (ê prog w) A (richCompare .Lt (.int a t) (.int c u)) Q E s :=
 (PyProof.Rows.lt_int h)
section
variable {prog:ø} {w:Ĭ} {A:đ} {E:ã->Ý->Prop} {s:Ý}
def ZH (ht:IsTup s.heap t vs.toArray) (hb:IsTup s.heap b ws.toArray) (hv:vs≠[])
 (h1:ws=[]->Q (.ref t) s) (h2:ws≠[]->Q (.ref s.heap.objs.size) { s with heap:=s.heap.push { cls:=.type "tuple",data:=.seq (vs++ws).toArray } })
 (hsz:vs.length+ws.length<=Õ):ë (ê prog w) A (ņ .Add (.ref t) (.ref b)) Q E s:=by
 obtain⟨⟨cls,X,data,sl⟩,Z,T,n,S⟩:=id ht;obtain⟨⟨P,W,data2,V⟩,Y,R,U,hd2⟩:=id hb;subst T S R hd2;have e:vs.toArray++ws.toArray=(vs++ws).toArray:=by simp
 by_cases hw:ws=[]
 .exact concat_meets #[_,Z,rfl] #[_,Y,rfl] noFill_tuple_add seq_tuple_add agC agu (agk ..)
   (tuple_addW1 t b _ _ n U X W sl V (by simpa using hv) (by simp[hw])) #[Z,Y,h1 hw]
 .refine concat_meets #[_,Z,rfl] #[_,Y,rfl] noFill_tuple_add seq_tuple_add agC agu (agk ..)
   (tuple_addW2 t b _ _ n U X W sl V (by simpa using hv) (by simpa using hw) (by exact hsz)) #[Z,Y,?_]
  rw[e];exact h2 hw
noncomputable def bX (n d:Nat):Option Int->Nat
 |none=>d
 |some v=>if v<0 then (v+(n)).toNat else min v.toNat n
def aiR (n d) (hd:d<=n) (o):bX n d o<=n:=by
 cases o with
 |none=>exact hd
 |some v =>
  show (if v<0 then (v+(n)).toNat else min _ n)<=n
  by_cases Z:v<0
  .rw[Ù Z];omega
  .rw[é Z];exact Nat.min_le_right ..
def NX (v) (n d:Nat):(if v<0 then max (v+(n:Int)) 0 else min v (n))=((bX n d (ϊ v))):=by
 show (if v<0 then max _ 0 else min v _)=(((if v<0 then (v+(n)).toNat else min _ n):Nat))
 by_cases Z:v<0
 .erw[Ù Z];omega
 .erw[é Z];omega
def Vu (lo hi) (n:Nat):adS lo hi 1 (n)=(((bX n 0 lo):Int),((bX n n hi):Int)):=by
 have Z:=by omega
 delta adS;refine Prod.ext ?_ ?_
 .cases lo with
  |none=>rfl
  |some v=>exact NX v n 0
 .cases hi with
  |none=>rfl
  |some v=>exact NX v n n
def Vv (i j:Nat):aft (i) (j) 1=j-i:=by
 delta aft;have Z:(1:Int) > 0:=by omega
 erw[Z,ú,Int.ediv_one]
 split<;>omega
def LD (p:IsPart v o) (h:Q o s):ë (ê prog w) A (Builtin.Slice.slicePartIndex v) Q E s:=by
 cases p with
 |none=>exact slicePart_none h
 |int i t=>exact slicePart_int h
def Ko {lo hi} {n:Nat} {Q} (hs:s.heap.IsSliceOf sl vl vu .none) (pl:IsPart vl lo) (pu:IsPart vu hi)
 (h:Q (((bX n 0 lo)),1,bX n n hi-bX n 0 lo) s):ë (ê prog w) A (Builtin.Slice.sliceApplied (.ref sl) (pure (n))) Q E s:=by
 let(os,Z,X,Y):=id hs;refine À (À (ī Z Y rfl (À (ī Z Y rfl (À (ī Z Y rfl (Ä ?_)))))));refine À (slicePart_none ?_);refine À (LD pl (À (LD pu (À (Ä ?_)))))
 show ë _ _ (match adS lo hi 1 _ with | (lo,hi)=>pure (lo,(1:Int),aft lo hi 1)) _ _ s
 rw[Vu lo hi n];show ë _ _ (pure _) _ _ s;rw[Vv];exact Ä h
def XR (xs:Array ã) (i k:Nat):((ä k).filterMap λ(m:Nat)=>xs[((i)+(m:Int)*1).toNat]?).toArray=((xs.toList.drop i).take k).toArray:=by
 have e:(λ(m:Nat)=>xs[((i)+(m:Int)*1).toNat]?)=λm=>xs[i+m]?:=by
  funext m;have:((i)+(m:Int)*1).toNat=i+m:=by omega
  rw[this]
 rw[e];have:=pick_run xs i k;rw[List.filterMap_map] at this;have e2:((λx=>xs[x]?) ∘ λx=>i+x)=λm=>xs[i+m]?:=rfl;rw[e2] at this;rw[this]
def Tx {lo hi} {Q} (ht:IsTup s.heap t items) (hs:s.heap.IsSliceOf sl vl vu .none) (pl:IsPart vl lo) (pu:IsPart vu hi)
 (hw:¬ (bX items.size 0 lo=0/\bX items.size items.size hi=items.size))
 (h:Q (.ref s.heap.objs.size) { s with heap:=s.heap.push { cls:=.type "tuple",data:=.seq ((items.toList.drop (bX items.size 0 lo)).take (bX items.size items.size hi-bX items.size 0 lo)).toArray } })
 (hsz:items.size<=Õ):ë (ê prog w) A (getItem (.ref t) (.ref sl)) Q E s:=by
 have Z:=by
  show ((items.toList.drop (bX items.size 0 lo)).take (bX items.size items.size hi-bX items.size 0 lo)).toArray.size<=Õ;rw[Ü,ų,List.length_drop,û];omega
 let(os,Y,X,U):=id hs;have W:s.TypeIs (.ref sl) _:=#[os,Y,X];delta getItem
 try with_reducible refine Ć ?_
 refine À (wpAny_sequenceKey ht.typeIs (by decide) ?_);refine À (Ĉ ht.typeIs Ę
  (ă Ę ht.typeIs entry_tuple_getitem ?_ (args_tuple_getitem ..)))
 show ë _ _ (ahh _ >>= _) _ _ s;refine À (tupleItemsOf_ ht ?_);refine À (agl W ?_);refine À (Ko hs pl pu ?_);have V:¬ ((((bX items.size 0 lo):Int)==0&&(1:Int)==1&&(bX items.size items.size hi-bX items.size 0 lo)==items.size)=ό):=by
  intro q;rw[Â,Â] at q;have T:=eq_of_beq q.1.1;have S:=eq_of_beq q.2;exact hw #[by omega,by omega]
 show ë _ _ (if (((bX _ 0 lo):Int)==0&&(1)==1&&(bX _ _ hi-bX _ 0 lo)==items.size)=ό then _ else _) _ _ s
 rw[é V,XR]
 first
  |exact À (ď (Ä #[_,rfl,Ä h]) Z)
  |exact À _
  |exact À _
  |exact À _
end
end HT
namespace L2
open PySem PySem.Spec PyProof.Rows
abbrev TO:=St->Hp->(Option Int->Hp->Prop)->Prop
def PO (X:Cx) (e:Option ŕ) (t:TO):Prop :=
 ∀Z s (σ:St) H Q,Inv X Z σ H s->t σ H Q ->
  ë (ê X.prog X.w) X.A (evalPart e X.env) (λu W=>∃o Y,Inv X Z σ Y W/\IsPart u o/\Q o Y) X.xe s
def ZI:TO:=λ_ H Q=>Q ϋ H
def adF (t:TE):TO:=fun σ H Q=>t σ H λx Z=>∃i,x=.int i/\Q (ϊ i) Z
def intsAre_of:∀{us},Vals (ns.map V.int) us->ag5 us ns:=by
 induction ns with
 |nil=>intro us r;cases r;exact .nil
 |cons n ns ih =>
  intro us r
  cases r with
  |cons Z Y =>
   let(t,e):=Z;subst e;exact .cons n t (ih Y)
section
variable {X:Cx} {e:ŕ} {te:TE} {lo hi:Option ŕ} {tl th:TO} {pos p2:Pos}
def ZJ:PO X ϋ ZI:=by
 intro Z s σ H Q I h;exact Ä #[ϋ,H,I,.none,h]
def ZK (h:PE X e te):PO X (ϊ e) (adF te):=by
 intro Z s σ H Q I hw;refine aQ (h Z s σ H _ I hw) λu T ⟨x,Y,W,V,U⟩=>?_;let(i,rfl,q):=U;let(t,rfl):=V;exact#[_,Y,W,.int i t,q]
def yH (X:Cx) (r:V->Option Int->Option Int->Hp->VK->Prop):Prop :=
 ∀Z s (σ:St) H x v Y W lo hi sl Q,Inv X Z σ H s->RelV x v->s.heap.IsSliceOf sl Y W .none->IsPart Y lo->IsPart W hi->r x lo hi H Q ->
  ∃T id,typeLookup (.type T) "__getitem__"=pure (ϊ (.builtin id))/\s.TypeIs v T/\ë (ê X.prog X.w) X.A (getItem v (.ref sl)) (EP X Z σ Q) X.xe s
def tSl (r:V->Option Int->Option Int->Hp->VK->Prop) (te:TE) (tl th:TO):TE:=fun σ H Q=>te σ H λx Z=>tl σ Z λl Y=>th σ Y λu X=>r x l u X Q
def XS (hr:yH X r) (he:PE X e te) (hl:PO X lo tl) (hu:PO X hi th):PE X (.Subscript e (.Slice lo hi ϋ p2) pos) (tSl r te tl th):=by
 intro Z s σ H Q I h;refine Subscript_ (aQ (he Z s σ H _ I h) λv S ⟨x,R,P,O,N⟩=>?_);refine wpAny_Slice (aQ (hl Z S σ R _ P N) λY M ⟨l,L,K,J,G⟩=>aQ (hu Z M σ L _ K G) λW V ⟨u,U,F,pu,E⟩=>?_);refine Ä ?_
 have D:Inv X Z σ U { V with heap:=V.heap.push { cls:=.type "slice",data:=.fields #v[Y,W,.none] } }:=F.kept λb z q=>Á _ q
 let(T,id,C,B,A):=hr Z _ σ U x v Y W l u _ Q D O (Heap.IsSliceOf.new ..) J pu E;exact tail_any B C A (by with_unfolding_all rfl)
noncomputable def oP (xs:List V) (lo hi:Option Int):List V:=(xs.drop (HT.bX xs.length 0 lo)).take (HT.bX xs.length xs.length hi-HT.bX xs.length 0 lo)
def Lf (xs) (lo hi):(oP xs lo hi).length<=xs.length:=by
 delta oP;rw[ų,List.length_drop];omega
def afc (K:Ň):V->Option Int->Option Int->Hp->VK->Prop:=λx lo hi H Q=>∃a Z,x=.ref a/\bZ K H a Z /\
 ¬ (HT.bX Z.length 0 lo=0/\HT.bX Z.length Z.length hi=Z.length)/\∀p,H p=ϋ->Q (.ref p) (upd H p (.tup (oP Z lo hi)))
def AD:yH X (afc X.K):=by
 intro P s σ H x v O N lo hi sl Q I U T S pu h;let(a,Y,rfl,R,hw,q):=h;cases U;let(ak,r,W,V):=I.tuple R;have Z:ak.toArray.size=Y.length:=by exact r.length.symm
 refine#[_,_,Ę.lookup,W.typeIs,?_];refine HT.Tx W T S pu (by rw[Z];exact hw) ?_ (by rw[Z];exact V);rw[Z];refine#[.ref _,_,I.laid (λb M q=>Á _ q) (ahz _) ?_,rfl,q _ (I.aK.fresh (ahz _))];exact#[Ø (Lf Y lo hi) V,_,(r.drop _).take _,IsTup.new ..]
def adG (K:Ň):R2:=λx y H Q=>∃a b Y Z,x=.ref a/\y=.ref b/\bZ K H a Y/\bZ K H b Z/\Y≠[]/\Y.length+Z.length<=Õ /\
 (Z=[]->Q (.ref a) H)/\(Z≠[]->∀p,H p=ϋ->Q (.ref p) (upd H p (.tup (Y++Z))))
def Vals.Em (r:Vals xs us):us=[]↔xs=[]:=by
 cases r with
 |nil=>simp
 |cons _ _=>simp
def ZL:bP X (ņ .Add) (adG X.K):=by
 intro M s σ H x y v u Q I V U h;let(a,b,L,J,rfl,rfl,T,S,R,W,P,O):=h;cases V;cases U;let(ak,Y,N,_):=I.tuple T;let(G,Z,p2,_):=I.tuple S;refine HT.ZH N p2 (λz=>R (Y.Em.mp z)) (λz=>#[.ref a,H,I,rfl,P (Z.Em.mp z)]) (λz=>?_) (by rw[<- Y.length,<- Z.length];exact W);refine#[.ref _,_,I.laid (λb F q=>Á _ q) (ahz _) ?_,rfl,O (λw=>z (Z.Em.mpr w)) _ (I.aK.fresh (ahz _))];exact#[by rw[Ï];exact W,_,Y.append Z,IsTup.new ..]
end
noncomputable def fz (n:Nat) (i:Int):Option Nat:=if 0<=i then (if i<n then ϊ i.toNat else ϋ) else if -(n)<=i then ϊ (i+n).toNat else ϋ
def dw {α:Type} (xs:List α) (i:Int):Option α:=(fz xs.length i).bind λj=>xs[j]?
def En (h:fz n i=ϊ j):seqIndex? i n=ϊ j/\j<n/\-(n)<=i/\i<n:=by
 delta fz at h;by_cases Y:0<=i
 .rw[Ù Y] at h
  by_cases Z:i<n
  .rw[Ù Z] at h
   have e:=ahA h;exact#[by rw[seqIndex_of Y Z,e],by omega,by omega,Z]
  .rw[é Z] at h;cases h
 .rw[é Y] at h
  by_cases Z:-(n)<=i
  .rw[Ù Z] at h
   have e:=ahA h;exact#[by rw[seqIndex_neg ⋯ Z,e],by omega,Z,by omega]
  .rw[é Z] at h;cases h
def Eo {xs} {i} {v:α} (h:dw xs i=ϊ v):∃j,seqIndex? i xs.length=ϊ j/\xs[j]?=ϊ v/\j<xs.length/\-(xs.length)<=i/\i<xs.length:=by
 delta dw at h
 cases e:fz _ i with
 |none=>rw[e] at h;cases h
 |some j =>
  rw[e] at h;let(Z,Y,X,W):=En e;exact#[j,Z,h,Y,X,W]
def ZM {xs} {j:Nat} {v:α} (h:xs[j]?=ϊ v):dw xs (j)=ϊ v:=by
 have Z:=(Ç.mp h).1;have e:fz xs.length (j)=ϊ j:=by
  delta fz;rw[Ù ⋯,Ù ⋯];simp
 delta dw;rw[e];exact h
def XU (xs) (v:α):dw (xs++[v]) (-1)=ϊ v:=by
 have Z:(xs++[v]).length=xs.length+1:=by simp
 have e:fz (xs++[v]).length (-1)=ϊ xs.length:=by
  delta fz;rw[Z,é (by decide),Ù ⋯];congr 1;omega
 delta dw;rw[e];simp
def NY (b:ŕ):Prop:=∀o i,subscripted b ύ o i=operate [o,i] (getItem o i)
def yI (X:Cx) (r:R2):Prop :=
 ∀value slice Z s (σ:St) H x y v u Q,Inv X Z σ H s->RelV x v->RelV y u->r x y H Q ->
  subscripted slice ύ v u=operate [v,u] (getItem v u)->ë (ê X.prog X.w) X.A (subscriptTail value slice v u) (EP X Z σ Q) X.xe s
def vE (X:Cx) (id:String) (r:V->List V->Hp->VK->Prop):Prop :=
 ∀Z s (σ:St) H x Y v W Q,Inv X Z σ H s->RelV x v->Vals Y W->r x Y H Q ->
  ë (ê X.prog X.w) X.A (call (.builtin id) (v::W)) (EP X Z σ Q) X.xe s
section
variable {X:Cx} {a b:ŕ} {ta tb:TE} {pos:Pos}
def adH (hr:yI X r) (ha:PE X a ta) (hb:PE X b tb) (hs:NY b):PE X (.Subscript a b pos) (yD r ta tb):=by
 intro Z s σ H Q I h;exact Subscript_ (GJ ha hb I h λv u Y x y W V U T q=>hr a b Z Y σ W x y v u Q V U T q (hs ..))
def afd (K:Ň):R2:=λx y H Q=>∃p Z i v,x=.ref p/\y=.int i/\bV K H p Z/\dw Z i=ϊ v/\Q v H
def afe (K:Ň):R2:=λx y H Q=>∃p Z i v,x=.ref p/\y=.int i/\bZ K H p Z/\dw Z i=ϊ v/\Q v H
def aff:R2:=λx y H Q=>∃z i c,x=.str z/\y=.int i/\z.length<=Õ/\dw z.cps.toList i=ϊ c/\Q (.str #[#v[c]]) H
def NZ:yI X (afd X.K):=by
 intro value slice S s σ H x y v u Q I R P h V;let(p,E,i,z,rfl,rfl,O,N,q):=h;cases R;let(t,rfl):=P;let(ak,r,Y,D):=I.list O;let(j,Z,M,C,L,J):=Eo N;let(w,U,G):=r.get M;have F:=r.length;have B:=rf;have fin:EP X S σ Q w s:=#[z,H,I,G,q];by_cases T:0<=i
 .have W:=by
   rw[seqIndex_of T J] at Z;exact ahA Z
  exact item_listR Y.isList T ⋯ (by rw[W];simpa using U) fin V
 .have W:(i+(ak.toArray.size)).toNat=j:=by
   rw[seqIndex_neg ⋯ L] at Z;rw[Ü,<- F];exact ahA Z
  exact subscriptTail_builtinR Y.isList.typeIs slot_list_getitem.lookup
   (wpAny_getItem_list_neg Y.isList ⋯ (by rw[Ü]<;>omega) ⋯ (by rw[W];simpa using U) #[rfl,fin]) V
def abz:yI X (afe X.K):=by
 intro value slice Y s σ H x y v u Q I W V h U;let(p,L,i,z,rfl,rfl,T,S,q):=h;cases W;let(t,rfl):=V;let(ak,r,Z,J):=I.tuple T;let(j,R,P,G,F,E):=Eo S;let(w,O,N):=r.get P;have M:=r.length;have D:=rf;have fin:EP X Y σ Q w s:=#[z,H,I,N,q];exact subscriptTail_builtinR Z.typeIs slot_tuple_getitem.lookup
  (getItem_tuple Z ⋯ ⋯ (by rw[Ü,<- M];exact R) (by simpa using O) #[rfl,fin]) U
def abA:yI X aff:=by
 intro value slice O s σ H x y v u Q I Y W h V;let(z,i,c,rfl,rfl,N,U,q):=h;let(t,rfl):=Y;let(M,rfl):=W;let(j,Z,T,L,S,R):=Eo U;have P:z.cps.toList.length=z.length:=by simp[Str.length]
 rw[P] at Z S R;have K:=rf;exact tail_any (typeIs_str s z t) slot_str_getitem.lookup (getItem_str (by
  have e1:ώ (i < -(2 ^ 63))=ύ:=Î ⋯;have e2:ώ (i ≥ 2 ^ 63)=ύ:=Î ⋯;rw[e1,e2,Bool.or_false]) (by rw[Z];simpa using T) #[.str _,H,I.tok _,#[_,rfl],q]) V
def Vw (ak:List ã) (n j) (u):ag1 (·.setIfInBounds j u) { cls:=.type "list",data:=.seq ak.toArray n }={ cls:=.type "list",data:=.seq (ak.set j u).toArray n }:=by
 simp[ag1]
theorem Inv.lst {σ:St} {H} {s} {p} {xs} (I:Inv X π σ H s) (h:H p=ϊ (.lst xs)) :
  ∃(ak:List ã) (n:Nat),Vals xs ak/\s.heap.get? p=ϊ { cls:=.type "list",data:=.seq ak.toArray n }/\xs.length<=Õ:=by
 let(z,ak,n,r,e):=I.aK p _ h;exact#[ak,n,r,e,z]
def Inv.abB {σ:St} {H} {s} {p} {xs ys} {ak k9:List ã} {n n'} {f} (I:Inv X π σ H s) (h:H p=ϊ (.lst xs))
  (ho:s.heap.get? p=ϊ { cls:=.type "list",data:=.seq ak.toArray n }) (hf:f { cls:=.type "list",data:=.seq ak.toArray n }={ cls:=.type "list",data:=.seq k9.toArray n' }) (r:Vals ys k9) (hz:ys.length<=Õ) (t) :
  Inv X π σ (upd H p (.lst ys)) { s with heap:=s.heap.update p f,toks:=t }:=by
 have e:(s.heap.update p f).get? p=ϊ { cls:=.type "list",data:=.seq k9.toArray n' }:=by
  rw[Ě f ho (by rw[hf]<;>rfl),hf]
 refine I.write (by rw[h];trivial) (.inl rfl) (λb u Z q=>(Ż _ _ (Ĥ Z)).trans q) #[_,e] ?_;exact#[hz,k9,n',r,e]
def adI:V->V->V->Hp->(Hp->Prop)->Prop:=λo i v H Q=>∃p Z k j,o=.ref p/\i=.int k/\H p=ϊ (.lst Z)/\fz Z.length k=ϊ j/\Q (upd H p (.lst (Z.set j v)))
def set_list:Rx X adI:=by
 intro G s σ H o i v F E u Q I N M L h;let(p,D,k,j,rfl,rfl,T,K,q):=h;cases N;let(t,rfl):=M;let(ak,n,r,Y,J):=I.lst T;let(Z,C,S,R):=En K;have V:=r.length;have B:=rf;have P :=
  I.abB T Y (Vw ak n j u) (r.set L j) (by rw[ù];exact J) s.toks
 by_cases O:0<=k
 .have U:=by
   rw[seqIndex_of O R] at Z;exact ahA Z
  exact PySem.W.ki_setAt Y O ⋯ (by rw[Ü,<- V];exact R) (by rw[U];exact#[_,P,q])
 .have U:(k+(ak.toArray.size)).toNat=j:=by
   rw[seqIndex_neg ⋯ S] at Z;rw[Ü,<- V];exact ahA Z
  exact PySem.W.ki_setBack Y ⋯ (by rw[Ü,<- V];exact S) ⋯ (by rw[U];exact#[_,P,q])
def Uv (lo hi) (n):(agI lo hi ϋ n).1=((HT.bX n 0 lo))/\(agI lo hi ϋ n).2.1=((HT.bX n n hi))/\(agI lo hi ϋ n).2.2=1:=by
 refine#[?_,?_,rfl]
 .cases lo with
  |none=>simp[agI,HT.bX]
  |some i =>
   erw[agI,HT.bX,Option.getD_none,show (1:Int) > 0 by decide,ú];by_cases h:i<0
   .erw[h,ú]<;>omega
   .erw[h,ô]<;>omega
 .cases hi with
  |none=>simp[agI,HT.bX]
  |some i =>
   erw[agI,HT.bX,Option.getD_none,show (1:Int) > 0 by decide,ú];by_cases h:i<0
   .erw[h,ú]<;>omega
   .erw[h,ô]<;>omega
def Ud (ak:List ã) (lo hi):slicePick ak.toArray lo hi ϋ=((ak.drop (HT.bX ak.length 0 lo)).take (HT.bX ak.length ak.length hi-HT.bX ak.length 0 lo)).toArray:=by
 let(Z,Y,X):=Uv lo hi _;delta slicePick;rw[Z,Y,X]
 erw[sliceRange_one,pick_run,Ü]<;>rfl
def afg (K:Ň):V->Option Int->Option Int->Hp->VK->Prop:=λx lo hi H Q=>∃a Z,x=.ref a/\bV K H a Z/\∀p,H p=ϋ->Q (.ref p) (upd H p (.lst (oP Z lo hi)))
def ZN:yH X (afg X.K):=by
 intro P s σ H x v O N lo hi sl Q I W V U pu h;let(a,T,rfl,S,q):=h;cases W;let(ak,r,Y,R):=I.list S;have Z:=r.length;refine#[_,_,slot_list_getitem.lookup,Y.isList.typeIs,?_]
 refine wpAny_getItem_list_slice Y.isList V U pu .none ∅ ?_ (by rw[Ü]<;>omega)
 rw[Ud,<- Z];refine#[.ref _,_,I.laid (λb M q=>Á _ q) (ahz _) ?_,rfl,q _ (I.aK.fresh (ahz _))];exact#[Ø (Lf T lo hi) R,_,0,(r.drop _).take _,Ì _ rfl]
def CK:dB X (.builtin "len") (λxs H Q=>∃p ys,xs=[.ref p]/\(bV X.K H p ys\/bZ X.K H p ys)/\Q (.int ys.length) H):=by
 intro T s σ H xs S Q I r h;let(p,ys,rfl,hq,q):=h;let(u,rfl,V):=vals1 r;cases V;have R:=rf
 rcases hq with hq|hq
 .let(ak,Y,W,U):=I.list hq
  have Z:=Y.length
  exact Calls.call_len_list W.isList (by erw[Ü]<;>omega) #[.int _,H,I.tok _,#[_,by rw[Ü,Z]],q]
 .let(ak,Y,W,U):=I.tuple hq
  have Z:=Y.length
  exact len_tuple W (by erw[Ü]<;>omega) #[.int _,H,I.tok _,#[_,by rw[Ü,Z]],q]
def Uw:dB X (.builtin "len") (λxs H Q=>∃z,xs=[.str z]/\z.length<=Õ/\Q (.int z.length) H):=by
 intro Z s σ H xs Y Q I r h;let(z,rfl,W,q):=h;let(u,rfl,t,rfl):=vals1 r;have V:=rf;exact len_str ⋯ #[.int _,H,I.tok _,#[_,rfl],q]
def KR:dB X (.type "list") (λxs H Q=>∃p ys,xs=[.ref p]/\(bV X.K H p ys\/bZ X.K H p ys)/\∀l,H l=ϋ->Q (.ref l) (upd H l (.lst ys))):=by
 intro N s σ H xs L Q I r h;let(p,ys,rfl,hq,q):=h;let(u,rfl,M):=vals1 r;cases M;have fin:∀ak,Vals ys ak->ys.length<=Õ->∀(Z:ū) W,(∀b O,s.heap.get? b=ϊ O->Z.get? b=ϊ O) ->
   Z.get? _=ϊ _->EP X N σ Q _ _:=λak Y V Z W kp e =>
  #[.ref _,_,I.laid (t':=s.toks) kp (ahz _) (show gm _ _ _ Z _ (.lst ys) from #[V,ak,W,Y,e]),rfl,q _ (I.aK.fresh (ahz _))]
 rcases hq with hq|hq
 .let(ak,Y,T,V):=I.list hq
  have U:=Y.length;let(o,S,R,n,P):=T.isList
  exact call_list_seq p (.inl rfl) S R P (λZ W kp e=>fin ak Y V Z W kp e) (by erw[Ü]<;>omega)
 .let(ak,Y,T,V):=I.tuple hq
  have U:=Y.length;let(o,S,R,n,P):=T
  exact call_list_seq p (.inr rfl) S R P (λZ W kp e=>fin ak Y V Z W kp e) (by erw[Ü]<;>omega)
def KD:dB X (.type "tuple") (λxs H Q=>∃p ys,xs=[.ref p]/\((bV X.K H p ys/\∀l,H l=ϋ->Q (.ref l) (upd H l (.tup ys)))\/(bZ X.K H p ys/\Q (.ref p) H))):=by
 intro P s σ H xs O Q I r h;let(p,ys,rfl,h):=h;let(u,rfl,S):=vals1 r;cases S
 rcases h with ⟨Z,q⟩ | ⟨Z,q⟩
 .let(ak,Y,W,V):=I.list Z
  have U:=Y.length
  refine call_tuple_list W.isList (λN kp=>?_) (by erw[Ü]<;>omega)
  have T:=I.kept (t':=s.toks) kp;have R :=
   T.laid (t':=s.toks) (λb o e=>Á _ e) (ahz _) (show gm _ _ _ _ _ (.tup ys) from #[V,ak,Y,IsTup.new ..])
  exact#[.ref _,_,R,rfl,q _ (T.aK.fresh (ahz _))]
 .let(ak,Y,W,V):=I.tuple Z
  exact call_tuple_same W #[.ref p,H,I,rfl,q]
def HD (K:Ň) (T:String) (x:V) (H:Hp):Prop:=match x with
 | .str _=>T="str"
 | .int _=>T="int"
 | .ref p=>(T="list"/\∃Y,bV K H p Y)\/(T="tuple"/\∃o,K.lookup p=ϊ o/\o.cls=.type "tuple"/\o.dict=ϋ) \/
   (T="dict"/\((∃Z,H p=ϊ (.dK Z))\/∃Z,H p=ϊ (.dT Z)))\/(T="set"/\∃S n,H p=ϊ (.set S n))
 |_=>False
def O7 {σ:St} {H} {s} {T} {x} {v} (I:Inv X π σ H s) (r:RelV x v) (ty:HD X.K T x H) :
  s.TypeIs v T/\∀a,v=.ref a->∃ob,s.heap.get? a=ϊ ob/\ob.dict=ϋ:=by
 cases x with
 |str z =>
  let(t,rfl):=r;cases (ty)
  exact#[typeIs_str s z t,λ_ e=>nomatch e]
 |int i =>
  let(t,rfl):=r;cases (ty)
  exact#[typeIs_int s i t,λ_ e=>nomatch e]
 |ref p =>
  cases r
  rcases ty with ⟨rfl,Q,V⟩ | ⟨rfl,o,Z,U,Y⟩ | ⟨rfl,Z⟩ | ⟨rfl,S,n,Z⟩
  .let(ak,_,W,_):=I.list V
   refine#[W.isList.typeIs,λa e=>?_];cases e;let(o,n,e,c,Y,_):=W;exact#[o,e,Y]
  .refine#[#[o,I.gb p o Z,U],λa e=>?_]
   cases e;exact#[o,I.gb _ o Z,Y]
  .have z:∃o,s.heap.get? p=ϊ o/\o.ExactDict:=by
    rcases Z with ⟨R,Z⟩ | ⟨R,Z⟩
    .let(_,_,_,_,o,_,_,e,ex,_):=I.aK p _ Z
     exact#[o,e,ex]
    .let(_,_,_,_,o,_,_,e,ex,_):=I.aK p _ Z
     exact#[o,e,ex]
   let(o,e,ex):=z;refine#[#[o,e,ex.1],λa e2=>?_];cases e2;exact#[o,e,ex.2.1]
  .let(o,_,_,_,e,ex,_):=I.aK p _ Z
   refine#[#[o,e,ex.1],λa e2=>?_];cases e2;exact#[o,e,ex.2.1]
 |_=>exact ĉ ty
def afh (K:Ň) (T:String) (r:V->List V->Hp->VK->Prop) (to:TE):TE:=fun σ H Q=>to σ H λx Z=>HD K T x Z/\r x [] Z Q
def tBM (K:Ň) (T:String) (r:V->List V->Hp->VK->Prop) (to:TE) (t:TA):TE:=fun σ H Q=>to σ H λx Z=>HD K T x Z/\t σ Z λY X=>r x Y X Q
variable {o e:ŕ} {es:List ŕ} {to:TE} {t:TA} {name:Str} {apos bh:Pos} {T id:String} {r:V->List V->Hp->VK->Prop}
def abC (pa:PlainAttrs T) (slot:Slot T name id) (HE:typeOf (.builtin id)=pure (.type "method_descriptor")) (hm:vE X id r) (ho:PE X o to)
  (iC:ĭ o name X.env (Ħ o X.env)=Ħ o X.env:=by rfl) (iD:(apos.endLine==bh.line)=ό:=by rfl):PE X (.Call (.Attribute o name apos) [] [] bh) (afh X.K T r to):=by
 intro Z s σ H Q I h;refine wpAny_Call_method0_late iC iD (aQ (ho Z s σ H _ I h) λv V ⟨x,U,Y,W,ty,S⟩=>?_);let(R,P):=O7 Y W ty;exact#[T,id,pa,slot,HE,R,P,Calls.callWith_builtin rfl (PySem.evalArgs_none (hm Z V σ U x _ v _ Q Y W .nil S))]
def uJ (pa:PlainAttrs T) (slot:Slot T name id) (HE:typeOf (.builtin id)=pure (.type "method_descriptor")) (hm:vE X id r) (ho:PE X o to) (ha:PA X (e::es) t)
  (iC:ĭ o name X.env (Ħ o X.env)=Ħ o X.env:=by rfl)
  (kl:((Ġ bh (É (e::es) X.env)).all (λx=>!x.1)&&(ž bh (ŀ [] X.env)).all (λx=>x.1.isSome)
   && ώ ((e::es).length+([]:List Ź).length+(if ([]:List Ź).isEmpty then 0 else 1)<30))=ό:=by rfl)
  (iD:(apos.endLine==bh.line)=ό:=by rfl) (hs:É (e::es) X.env=(ύ,Ħ e X.env)::É es X.env:=by rfl) (ix:(Ġ bh (É es X.env)).any (·.1)=ύ:=by rfl) :
  PE X (.Call (.Attribute o name apos) (e::es) [] bh) (tBM X.K T r to t):=by
 intro Z s σ H Q I h;refine wpAny_Call_method_late iC kl iD rfl (aQ (ho Z s σ H _ I h) λv U ⟨x,S,Y,W,ty,R⟩=>?_);let(P,O):=O7 Y W ty;refine#[T,id,pa,slot,HE,P,O,?_];have V:=ha bh Z U σ S _ Y R;rw[hs] at V |-
 refine Calls.callWith_builtin (by show (ύ||(Ġ bh _).any _)=ύ;rw[ix]<;>rfl) (Calls.evalArgs_plain ?_)
 exact aQ V λN M ⟨L,J,G,F,E⟩=>hm Z M σ J x L v N Q G W F E
end
def HF (X:Cx) (id:String) (r:V->List V->Hp->VK->Prop):Prop :=
 ∀Z s (σ:St) H x Y v W Q,Inv X Z σ H s->RelV x v->Vals Y W->r x Y H Q ->
  ë (ê X.prog X.w) X.A (call (.builtin id) (v::W)) (EP X Z σ Q) X.xe s
def Vals.one:∀{x} {us},Vals [x] us->∃u,us=[u]/\RelV x u
 |_,_,.cons r .nil=>#[_,rfl,r]
def Vals.zero:∀{us},Vals [] us->us=[]
 |_,.nil=>rfl
theorem Vals.dropLast (h:Vals xs us):Vals xs.dropLast us.dropLast:=by
 induction h with
 |nil=>exact .nil
 |cons r t ih =>
  cases t with
  |nil=>exact .nil
  |cons q Z=>exact .cons r ih
theorem Vals.eraseIdx:∀{xs} {us} i,Vals xs us->Vals (xs.eraseIdx i) (us.eraseIdx i)
 |_,_,_,.nil=>.nil
 |_,_,0,.cons _ t=>t
 |_,_,i+1,.cons r t=>.cons r (Vals.eraseIdx i t)
theorem Vals.rep (h:Vals xs us):∀k,Vals (Ó k xs).flatten (Ó k us).flatten
 |0=>.nil
 |k+1=>by
  exact Vals.append h (Vals.rep h k)
def Vx {α:Type} (l:List α):l.eraseIdx (l.length-1)=l.dropLast:=by
 induction l with
 |nil=>rfl
 |cons a r ih =>
  cases r with
  |nil=>rfl
  |cons b r =>
   have e:(a::b::r).length-1=((b::r).length-1)+1:=by
    have Z:(a::b::r).length=r.length+2:=rfl;have Y:(b::r).length=r.length+1:=rfl;omega
   rw[e,List.eraseIdx_cons_succ,ih]
   all_goals rfl
theorem Ma {α:Type}:∀(l:List α) i,(l.eraseIdx i).length<=l.length
 | [],_=>ahz _
 |_::_,0=>ŭ _
 |_::r,i+1=>Nat.succ_le_succ (Ma r i)
theorem foldl_rep (ak):∀k (acc:List ã),
  List.foldl (λx1 x2=>x1++x2) acc.toArray (Ó k ak.toArray)=(acc++(Ó k ak).flatten).toArray
 |0,acc=>by simp
 |k+1,acc=>by
  have e:acc.toArray++ak.toArray=(acc++ak).toArray:=by simp
  have e2:(acc++ak)++(Ó k ak).flatten=acc++(Ó (k+1) ak).flatten:=by
   rw[ag6,agJ,Đ]
  rw[<- e2,<- foldl_rep ak k _,<- e,ag6,List.foldl_cons]
section
variable {X:Cx} {π:List (þ×Obj)} {σ:St} {H:Hp} {s:Ý} {l b:þ} {xs ys zs:List V}
def Inv.GQ {ak k9:List ã} {n} {f} {t'} (I:Inv X π σ H s) (hH:H l=ϊ (.lst xs))
  (e:s.heap.get? l=ϊ { cls:=.type "list",data:=.seq ak.toArray n }) (hf:f ak.toArray=k9.toArray) (hv:Vals ys k9) (hz:ys.length<=Õ) :
  Inv X π σ (upd H l (.lst ys)) { s with heap:=s.heap.update l (ag1 f),toks:=t' }:=by
 have q:=PySem.IsL.update e f;rw[hf] at q;refine I.write (by rw[hH];exact trivial) (.inl rfl) (λW u Z Y=>(Ż _ _ (Ĥ Z)).trans Y) #[_,q] ?_;exact#[hz,k9,_,hv,q]
def Inv.RC (I:Inv X π σ H s) (hv:Vals ys ak) (hz:ys.length<=Õ) :
  Inv X π σ (upd H s.heap.objs.size (.lst ys)) { s with heap:=s.heap.push { cls:=.type "list",data:=.seq ak.toArray },toks:=t' } :=
 I.laid (λ_ _ q=>Á _ q) (ahz _) #[hz,ak,0,hv,Ì _ rfl]
theorem Inv.fresh (I:Inv X π σ H s):H s.heap.objs.size=ϋ:=I.aK.fresh (ahz _)
def Inv.u5 (I:Inv X π σ H s) (hH:H l=ϊ (.lst xs)):xs.length<=Õ/\∃(ak:List ã) (n:Nat),Vals xs ak/\xs.length=ak.length/\s.heap.get? l=ϊ { cls:=.type "list",data:=.seq ak.toArray n }:=by
 let(z,ak,n,r,e):=I.aK l _ hH;exact#[z,ak,n,r,r.length,e]
def XW (h:n<=Õ):Builtin.List.listTooLong n=ύ:=by
 exact Î ⋯
end
section
variable {X:Cx}
def ZO:V->List V->Hp->VK->Prop:=λx Y H Q=>∃l Z y,x=.ref l/\Y=[y]/\H l=ϊ (.lst Z)/\Z.length<Õ/\Q .ax (upd H l (.lst (Z++[y])))
def Ww:HF X "list.append" ZO:=by
 intro U s σ H x T v S Q I Y W h;let(l,R,y,rfl,rfl,Z,P,q):=h;cases Y;let(u,rfl,V):=W.one;let(z,ak,n,r,O,e):=I.u5 Z;refine Ŧ F.slot_list_append #[_,e,rfl] F.entry_list_append (F.args_list_append_2 ..) (PySem.list_append l _ n u (by rw[Ü];omega)) #[e,?_];refine#[.ax,_,I.GQ Z e ∅ (r.append (.cons V .nil)) ?_,rfl,q];rw[Ï,Ŋ];omega
def afi:V->List V->Hp->VK->Prop:=λx Y H Q=>∃l Z y,x=.ref l/\Y=[]/\H l=ϊ (.lst Z)/\Z[Z.length-1]?=ϊ y/\Q y (upd H l (.lst Z.dropLast))
def abD:HF X "list.pop" afi:=by
 intro O s σ H x N v M Q I W V h;let(l,L,y,rfl,rfl,Y,U,q):=h;cases W;have Z:=V.zero;subst Z;let(z,ak,n,r,T,e):=I.u5 Y;let(u,S,R):=r.get U;have P:=by
  show ak.toArray[ak.length-1]?=ϊ u;rw[<- ĺ,<- T];exact S
 refine Ŧ F.slot_list_pop #[_,e,rfl] F.entry_list_pop (F.args_list_pop_1 _) (MeetsSeq.list_pop_last l _ n u P (by rw[Ü];omega)) #[e,?_];refine#[y,_,I.GQ Y e ?_ r.dropLast ?_,R,q]
 .rw[Ü,List.eraseIdxIfInBounds_toArray,Vx]
 .rw[List.length_dropLast]
  omega
def abE:V->List V->Hp->VK->Prop:=λx Y H Q=>∃l Z i k y,x=.ref l/\Y=[.int i]/\H l=ϊ (.lst Z)/\-(2 ^ 63)<=i/\i<2 ^ 63/\seqIndex? i Z.length=ϊ k/\Z[k]?=ϊ y/\Q y (upd H l (.lst (Z.eraseIdx k)))
def XX:HF X "list.pop" abE:=by
 intro M s σ H x L v K Q I Y W h;let(l,V,i,k,y,rfl,rfl,Z,U,T,S,R,q):=h;cases Y;let(u,rfl,P):=W.one;let(t,rfl):=P;let(z,ak,n,r,O,e):=I.u5 Z;let(w,hw,N):=r.get R;refine Ŧ F.slot_list_pop #[_,e,rfl] F.entry_list_pop (F.args_list_pop_2 ..)
  (MeetsSeq.list_pop_at l _ n i t k w (fitsIndex_both U T) (by rw[Ü,<- O];exact S) (by rw[<- ĺ];exact hw) (by rw[Ü];omega)) #[e,?_]
 refine#[y,_,I.GQ Z e ?_ (r.eraseIdx k) ?_,N,q]
 .rw[List.eraseIdxIfInBounds_toArray]
 .have:=Ma V k
  omega
def afj:R2:=λx y H Q=>∃l b Z zs,x=.ref l/\y=.ref b/\H l=ϊ (.lst Z)/\H b=ϊ (.lst zs)/\Z.length+zs.length<=Õ/\∀p,H p=ϋ->Q (.ref p) (upd H p (.lst (Z++zs)))
def abF:bP X (ņ .Add) afj:=by
 intro R s σ H x y v u Q I Y W h;let(l,b,O,zs,rfl,rfl,V,U,N,q):=h;cases Y;cases W;let(z,ak,n,r,M,e):=I.u5 V;let(L,Z,K,T,J,e2):=I.u5 U;refine PySem.P.add_list e e2 ?_ (by rw[Ü,Ü];omega);have S:ak.toArray++Z.toArray=(ak++Z).toArray:=by simp
 rw[S];exact#[.ref _,_,I.RC (r.append T) (by rw[Ï];omega),rfl,q _ I.fresh]
def afk:R2:=λx y H Q=>∃l k Z,x=.ref l/\y=.int k/\H l=ϊ (.lst Z)/\-(2 ^ 63)<=k/\k<2 ^ 63/\Z.length*k.toNat<=Õ /\
 ∀p,H p=ϋ->Q (.ref p) (upd H p (.lst (Ó k.toNat Z).flatten))
def len_rep {α:Type} (xs:List α) (k):(Ó k xs).flatten.length=k*xs.length:=by
 induction k with
 |zero=>simp
 |succ k ih=>rw[ag6,agJ,Ï,ih,Nat.succ_mul,Nat.add_comm]
def abG:bP X (ņ .Mult) afk:=by
 intro G s σ H x y v u Q I T S h;let(l,k,E,rfl,rfl,R,P,O,U,q):=h;cases T;let(t,rfl):=S;let(z,ak,n,r,N,e):=I.u5 R;have Z:ak.toArray.size*k.toNat<=Õ:=by rw[Ü,<- N];exact U
 have Y:¬ ak.toArray.size*k.toNat > (2 ^ 63-1) / 8:=by
  have:(Õ)<=(2 ^ 63-1) / 8:=by decide
  omega
 have W:¬ (!Builtin.List.listFitsIndex k)=ό:=by
  rw[fitsIndex_both P O];exact Ú
 have V:¬ Builtin.List.listTooLong (ak.toArray.size*k.toNat)=ό:=by
  rw[XW Z];exact Ú
 have M:List.foldl (λL K=>L++K) #v[] (Ó (if ak.toArray.isEmpty=ό then 0 else k.toNat) ak.toArray)=(Ó k.toNat ak).flatten.toArray:=by
  have f0:=λm=>by
   have:=foldl_rep ak m [];rw[ġ] at this;exact this
  rw[f0]
  cases ak with
  |nil=>simp
  |cons a D=>rw[é ∅]
 refine wpAny_binaryOp_repeat_ref (by decide) #[_,e,rfl] (λJ=>typeIs_int J k t) noFill_list_mul F.fills_int_mul ag7 repeat_list F.slot_int_index.lookup
  (Ŧ ag7 (typeIs_int s k t) F.entry_int_rmul (F.args_int_rmul_2 ..) (int___rmul___int_list k t l _ n)
   #[e,rfl,#[_,e,rfl],Ŧ F.slot_list_mul #[_,e,rfl] F.entry_list_mul (F.args_list_mul_2 ..) (AutoListH.list___mul___list_int_3 l _ n k t W Y V) #[e,?_]])
 rw[M];exact#[.ref _,_,I.RC (r.rep _) (by rw[len_rep,Nat.mul_comm];exact U),rfl,q _ I.fresh]
end
section
variable {prog:ø} {w:Ĭ} {A:đ} {E:ã->Ý->Prop} {s:Ý}
set_option maxRecDepth 100000 in
end
end L2
namespace So
open PySem PySem.W PySem.Calls PyProof.Rows
def TF:∀ns vs,WellAll P h vs (ns.map WData.int)->ag5 vs ns:=by
 intro ns
 induction ns with
 |nil =>
  intro vs w;cases w;exact .nil
 |cons n ns ih =>
  intro vs w
  cases w with
  |cons a b =>
   cases a;exact .cons _ _ (ih _ b)
def Wx {l:OpenLaw} {n} (hn:l.most=ϊ n) {P} {h} {args} {vals}
  (Bt:l.row.toRowW.claim.pre args=ό) (HG:WellAll P h vals args) :
  ∃a vs ns,vals=[ahu a]/\args=[WData.list (ns.map WData.int)]/\h.get? a=ϊ { cls:=.type "list",data:=.seq vs.toArray }/\ag5 vs ns/\ns.length<=n:=by
 have X:=(pre_splitW Bt).1;have V:l.pre.holds _ _=ό:=(pre_splitW Bt).2;let(d,r,rfl,U,T):=hasAllW_cons X;obtain rfl:=hasAllW_nil T;let(M,rfl,S):=hasW_list U;let(ns,rfl):=items_int S;have Z:=by
  have Y:=by
   have Y:=(holds_andW V).1;rw[hn] at Y;exact Y
  have W:=condW_of Y (w_not (w_lt w_lit (w_len_list (w_arg rfl))))
  first
   |(exact absurd W (by decide))
   |(simp at W;omega)
 cases HG with
 |cons R Q =>
  cases Q
  cases R with
  |list O N=>exact#[_,_,ns,rfl,rfl,O,TF ns _ N,Z]
def Wy (l:OpenLaw) (args):l.row.toRowW.claim.post args (.bool ό) args=ό :=
 postW_of
  (by first|rfl|decide|simp[WShape.has,WShape.arms,WShape.armsAll])
  (w_eq_bool (w_res rfl) w_lit) rfl
def UU {l:OpenLaw} {n} {q} {loose} {XP} {YP} {d}
  (hn:l.most=ϊ n) (yJ:d.params.defaults=[])
  (call:∀w ef bU mg mb fa o pm cd doc a vs ns,
   Ground q loose [] XP w ef mg mb bU.heap->YP w bU.heap ->
   bU.heap.get? fa=ϊ o->o.data=.func (docDef d.name d.params d.body d.scope pm cd doc)->bU.heap.CodeRec cd d.name->mg d.name=ϊ (.ref fa) ->
   bU.heap.get? a=ϊ { cls:=.type "list",data:=.seq vs.toArray }->ag5 vs ns->ns.length<=n->bU.gens=#v[] ->
   Ÿ (ê l.prog w) callerA (.call (.ref fa) #[[.ref a],[]]) (λr s'=>r=.ok (.ret (.bool ό))/\OldK bU.heap s'.heap/\s'.os=bU.os/\ahq s'.gens) bU) :
  WalkO q loose XP YP l.row.toRowW d [] (λf vs=>PySem.call f vs):=by
 intro w ef bU mg mb G Y fa o pm cd doc W kV V U T X S R args vals as Q P O N F;obtain rfl:W=.none:=Dflts.none X yJ;obtain rfl:kV=.none:=Dflts.noKw X;let(a,vs,ns,rfl,rfl,M,hints,Z):=Wx hn Q N;refine enter_call (ń (call w _ _ mg mb fa o pm cd doc a vs ns G Y V (fd_plain U) T S M hints Z R) λr s' L=>?_);let(rfl,K,J,I):=L
 exact#[.inl #[_,_,_,rfl,λ_=>rfl,.bool ό,Wy l _,λ_=>#[List.Pairwise.nil,λ_ H=>(nomatch H)]],K,J,I]
section
variable {prog:ø} {w:Ĭ} {A:đ} {E:ã->Ý->Prop} {s:Ý} {K:Ň}
noncomputable def ledger (h:ū) (L d:þ):List (þ×Obj):=(ä h.objs.size).filterMap λa=>if a=L\/a=d then ϋ else (h.get? a).map λo=>(a,o)
end
end So
namespace L2
open PySem PySem.Spec PyProof.Rows
theorem Mb:∀{vs} {ns},ag5 vs ns->Vals (ns.map V.int) vs
 |_,_,.nil=>.nil
 |_,_,.cons n t h=>.cons #[t,rfl] (Mb h)
noncomputable abbrev KOf {K:Ň} {h} (_:K.In h):Ň:=K
noncomputable def lT (s:Stmt):Arguments:=match s with
 | .FunctionDef _ a ..=>a
 |_=>{ posonlyargs:=[],args:=[],vararg:=ϋ,kwonlyargs:=[],kw_defaults:=[],kwarg:=ϋ,defaults:=[] }
noncomputable def gU (s:Stmt):List Stmt:=match s with
 | .FunctionDef _ _ b ..=>b
 |_=>[]
noncomputable def cJ (s:Stmt):ahl:=match s with
 | .FunctionDef _ _ _ _ _ _ sc ..=>sc
 |_=>{ kind:=.function,names:=[],isGenerator:=ύ,isCoroutine:=ύ }
abbrev fB:qt:=λ_ _ _ _ _ _=>False
abbrev E0:XK:=λ_ _ _=>False
def Qn:Passes fB X E0:=λ_ _ _ _ _ _ _ h=>h.elim
structure qv (K) (x qual) (st) (f) (fd):Prop where
 ex:∃(oc:ã) (od:Option þ) (kV doc pm:ã) (an:Option þ) (bo ct:ã) (jP:Array _),
  fd=Ŕ x qual (lT st) (gU st) (cJ st) .none kV doc pm an bo ct/\K.lookup f=ϊ #[oc,od,.func fd,jP]/\adM K bo qual=ό
 kp:ľ K (.ref f)=ό
section
variable {P:ø} {w:Ĭ} {K:Ň} {mg:Str->Option ã} {base:ū}
def qv.ok {st} {f} {fd} {N ps} {k} {sp} (F:qv K x qual st f fd) (S:ue N ps (cJ st)) (len:∀vs H Q E,sp vs H Q E->vs.length=ps.length)
  (ma:∀bo A outer s H vs Q E,bK k (A.deeper (envOfC qual (cJ st) s.heap.objs.size f bo))->sp vs H Q E ->
   ∃t,dW (iI fB P w K mg base N qual (cJ st) f bo A outer s H E).oZ (gU st) t/\t { nx:=λ_ H'=>Q .ax H',rt:=Q } (start N vs) H):dg P w K mg base fB (k+1) f fd ps sp:=by
 let(W,V,kV,doc,pm,an,bo,U,T,rfl,lk,Z):=F.ex;refine Ba lk Z S len λA outer s H vs Q E Y X=>?_;let(t,h,q):=ma bo A outer s H vs Q E Y X;exact#[t,h.oZ,q]
def qv.binds {st} {f} {fd} {ps} (F:qv K x qual st f fd)
  (h:∀kV doc pm an bo ct us,us.length=ps.length->bindArgs (Ŕ x qual (lT st) (gU st) (cJ st) .none kV doc pm an bo ct) #[us,[]]=pure (ps.zip us)):Binds K fd ps []:=by
 let(Z,Y,kV,doc,pm,an,bo,ct,X,rfl,lk,W):=F.ex;exact .all (h kV doc pm an bo ct)
def AE {st} {f} {oc} {od an} {jP} {kV doc pm bo ct} (l:K.lookup f=ϊ #[oc,od,.func (Ŕ x qual (lT st) (gU st) (cJ st) .none kV doc pm an bo ct),jP])
  (c:adM K bo qual=ό) (k:ľ K (.ref f)=ό):qv K x qual st f (Ŕ x qual (lT st) (gU st) (cJ st) .none kV doc pm an bo ct):=#[#[oc,od,kV,doc,pm,an,bo,ct,jP,rfl,l,c],k]
end
def mz (H H':Hp):Prop:=∀b o,H b=ϊ o->H' b=ϊ o
def mz.refl (H):mz H H:=λ_ _ h=>h
theorem DG (env):∀(l:List _) acc,(∀n,(n,NameKind.free)∈l->∃c,env.cells.lookup n=ϊ c) ->
  ∃cl,(forIn l acc (λ(p:Str×NameKind) cs=>(do
   if (p.2==NameKind.free)=ό then do let c <- cellOf env p.1;pure (Ł ((p.1,c)::cs)) else pure (Ł cs))))=pure cl /\
   ∀n c,cl.lookup n=ϊ c↔(((n,NameKind.free)∈l/\env.cells.lookup n=ϊ c)\/((n,NameKind.free)∉l/\acc.lookup n=ϊ c))
 | [],acc,_=>#[acc,rfl,λn c=>by simp]
 |(x,k)::r,acc,h=>by
  rw[ag8]
  cases Y:(k==NameKind.free) with
  |false =>
   have U:k≠.free:=by intro e;rw[e] at Y;cases Y
   let(cl,e,q):=DG env r acc λn X=>h n (Ë _ X);refine#[cl,?_,λn c=>?_]
   .exact e
   .rw[q n c]
    have:(n,NameKind.free)∈(x,k)::r↔(n,NameKind.free)∈r:=by
     constructor
     .intro Z
      rcases Ô.mp Z with z|z
      .injection z with _ T
       exact absurd T.symm U
      .exact z
     .exact Ë _
    rw[this]
  |true =>
   have S:k=.free:=by cases k<;>first|rfl|cases Y
   subst S;let(Q,W):=h x Ö;let(cl,e,q):=DG env r _ λn X=>h n (Ë _ X);refine#[cl,?_,λn c=>?_]
   .erw[ú,cellOf,W]
    exact e
   .rw[q n c]
    by_cases V:n=x
    .subst V
     constructor
     .rintro (⟨_,z⟩ | ⟨_,z⟩)
      .exact .inl #[Ö,z]
      .rw[Ė,Ĵ] at z
       exact .inl #[Ö,W.trans z]
     .rintro (⟨_,z⟩ | ⟨z,_⟩)
      .by_cases Z:(n,NameKind.free)∈r
       .exact .inl #[Z,z]
       .refine .inr #[Z,?_]
        rw[Ė,Ĵ];exact W.symm.trans z
      .exact absurd Ö z
    .have:(n,NameKind.free)∈(x,NameKind.free)::r↔(n,NameKind.free)∈r:=by
      constructor
      .intro Z
       rcases Ô.mp Z with z|z
       .injection z with R _
        exact absurd R V
       .exact z
      .exact Ë _
     rw[this,Ė,beq_false_of_ne V]
def O8 (h:∀n,(n,NameKind.free)∈sc.names->∃c,env.cells.lookup n=ϊ c) :
  ∃cl,closureFor sc env=pure cl/\∀n c,cl.lookup n=ϊ c↔((n,NameKind.free)∈sc.names/\env.cells.lookup n=ϊ c):=by
 let(cl,e,q):=DG env _ _ h;refine#[cl,?_,λn c=>?_]
 .exact(ħ (λz=>z >>= λr=>pure r) e)
 .rw[q n c]
  simp
theorem MT (f:Str->NameKind->NameKind) (x):∀l:List _,(l.map λp=>(p.1,f p.1 p.2)).lookup x=(l.lookup x).map (f x)
 | []=>rfl
 |(n,k)::r=>by
  rw[Û,Ė,Ė]
  cases h:x==n with
  |true =>
   have e:=by simpa using h
   subst e;rfl
  |false=>exact MT f x r
def zB (sc) (env) (x):(relabel sc env).names.lookup x=(sc.names.lookup x).map λk=>if (k==NameKind.free&&env.scope.kind==.function&&env.kindOf x==ϊ .cell)=ό then NameKind.cell else k:=by
 rw[<- MT (λx k=>if (k==NameKind.free&&env.scope.kind==.function&&env.kindOf x==ϊ _)=ό then NameKind.cell else k)]
 congr 1;apply ag9;rintro ⟨n,k⟩ _;dsimp only
 split<;>rfl
noncomputable abbrev fJ (X:Cx) (N:List Str) (sc:ahl) (cl:List (Str×þ)) (C:þ) (s:Ý) (H:Hp) (ex:List þ) (pn:List (þ×Obj)):Cx where
 prog:=X.prog
 w:=X.w
 K:=X.K
 mg:=X.mg
 base:=X.base
 A:=X.A
 N:=N
 ef:=s
 my:=H
 env:=compEnvC sc cl C X.env
 outer:=X.stack
 stack:=X.stack
 ex:=ex
 fn:=λ_=>ύ
 calm:=X.calm
 pn:=pn
 xe:=λ_ _=>False
structure wZ (X:Cx) (sc:ahl) (N:List Str) (nt) (cap:List Nat):Prop where
 kind:sc.kind=.function
 w9:∀x∈sc.names,x.2≠.cell
 names:∀x∈sc.names,x.2=.local->sc.names.lookup x.1=ϊ .local
 frees:∀x∈sc.names,x.2=.free->sc.names.lookup x.1=ϊ .free/\(X.env.scope.names.lookup x.1=ϊ .cell\/X.env.scope.names.lookup x.1=ϊ .free)
 len:N.length=nt+cap.length
 GS:∀k j,cap[k]?=ϊ j->∃x,X.N[j]?=ϊ x/\N[nt+k]?=ϊ x/\(x,NameKind.free)∈sc.names
noncomputable def m9 (nt:Nat) (cap:List Nat) (σ:St):St:=Ó nt ϋ++cap.map λj=>(σ[j]?).getD ϋ
def PF (X:Cx) (tests:List ŕ) (t:TT):Prop :=
 ∀Z s (σ:St) H Q,Inv X Z σ H s->t σ H Q ->
  ë (ê X.prog X.w) X.A (forIn tests ό λc r=>if r=ό then do let ok <- isTrue c X.env (Ħ c X.env);pure (Ł ok) else pure (Ł r)) (TP X Z σ Q) X.xe s
def afn:TT:=λ_ H Q=>Q ό H
def abH:PF X [] afn:=λ_ _ _ H _ I h=>wpAny_tests_nil #[H,I,h]
def abJ (h:PT X c t):PF X [c] t:=λZ s σ H Q I hw=>wpAny_tests_one (h Z s σ H Q I hw)
def qw (g:TG) (nt:Nat):Prop:=∀x o Z H R,o.length=nt->g x (o++Z) H R->g x (o++Z) H fun Y W=>(∃X,X.length=nt/\Y=X++Z)/\R Y W
noncomputable def pW (cap:List Nat) (σ:St):St:=cap.map λj=>(σ[j]?).getD ϋ
def Sr (mk:þ->List V->HO) (mH:List V->Prop) (J:It) (nt:Nat) (caps:St) (g:TG) (tf:TT) (te:TE) (H:Hp) (Q:VK):Prop:=∃W:Nat->Nat->List V->Hp->Prop,(∃m,W 0 m [] H) /\
 ∀i m Z Y,W i m Z Y->(J.stop i Y/\mH Z/\∀D,Y D=ϋ->Q (.ref D) (upd Y D (mk D Z))) \/
  (J.go i Y/\mH Z/\∃N:List V->Hp->Prop,(∀X U,N X U->∃T,T < m/\W (i+1) T X U) /\
   ∀o x S,o.length=nt->J.vB i Y x S->g x (o++caps) S fun R O=>tf R O λb P=>if b=ό then te R P λv M=>N (Z++[v]) M else N Z P)
def CW (J:It) (nt:Nat) (caps:St) (g:TG) (tf:TT) (te:TE) (H:Hp) (Q:VK):Prop:=Sr (λ_ Z=>.lst Z) (λZ=>Z.length<=Õ) J nt caps g tf te H Q
def xB (wi:TI) (nt:Nat) (cap:List Nat) (g:TG) (tf:TT) (te:TE):TE:=fun σ H Q=>wi σ H λJ Z=>CW J nt (pW cap σ) g tf te Z Q
section
variable {fs ex:List þ} {H H':Hp} {h h1 h2:ū} {P:ø} {w:Ĭ}
def Un.adopt {D:þ} {o} (u:Un fs ex H H' h h1) (hp:h.objs.size<=D) (hn:H' D=ϋ):Un fs ex H (upd H' D o) h h1 where
 keep:=u.keep
 slot:=u.slot
 free:=λb Y q n X=>by rw[bB (ß (È (Í q) hp))];exact u.free b Y q n X
 there:=u.there
 gK:=λb Z q=>by rw[bB (eh (u.gK b Z q) hn)];exact u.gK b Z q
 fQ:=λb Y Z q=>by rw[bB (eh (u.fQ b Y Z q) hn)];exact u.fQ b Y Z q
 gM:=λb W q=>by
  let(more,e):=u.gM b W q;exact#[more,by rw[bB (eh e hn)];exact e]
def Un.but {C:þ} (u:Un fs ex H H' h h1) (hp:h.objs.size<=C) (sb:Ĩ C h1 h2):Un fs ex H H' h h2:=by
 have ne:∀b Z,h.get? b=ϊ Z->b≠C:=λb Z q=>ß (È (Í q) hp);refine#[λb Z q n X Y=>(sb.2 b (ne b Z q)).trans (u.keep b Z q n X Y),λb Z q n X Y=>?_,u.free,λb Z q Y=>?_,u.gK,u.fQ,u.gM]
 .let(sl,e):=u.slot b Z q n X Y
  exact#[sl,(sb.2 b (ne b Z q)).trans e]
 .let(W,e):=u.there b Z q Y
  exact#[W,(sb.2 b (ne b Z q)).trans e]
def dG.but (x:dG P w H h1) (hn:H C=ϋ) (sb:Ĩ C h1 h2):dG P w H h2:=λa o e =>
 (x a o e).iX (λb u Z q=>(sb.2 b (by
  rintro rfl
  rcases Z with z|z
  .subst z;rw[hn] at e;cases e
  .rw[hn] at z;cases z)).trans q) (λ_ q=>q) λ_ _ q=>q
def dG.adopt (x:dG P w H h) (hn:H D=ϋ) (new:gm P w (upd H D o) h D o):dG P w (upd H D o) h:=λb u e=>by
 by_cases Z:b=D
 .subst Z;rw[cY] at e;cases e;exact new
 .rw[bB Z] at e
  exact(x b u e).iX (λc v _ q=>q) (λc q=>by rw[bB (eh q hn)];exact q) λc Y q=>by rw[bB (eh q hn)];exact q
end
section
variable {X:Cx} {sc:ahl} {N:List Str} {nt:Nat} {cap:List Nat} {cl:List (Str×þ)} {s:Ý} {h1:ū} {H:Hp} {σ:St} {π:List (þ×Obj)} {fp:List þ} {C:þ} {t':Nat}
def Inv.block (I:Inv X π σ H s) (S:wZ X sc N nt cap) (dX:∀n c,cl.lookup n=ϊ c↔((n,NameKind.free)∈sc.names/\X.env.cells.lookup n=ϊ c)) (hf:∀b∈fp,gn X π H b) (hV:∀b∈fp,b<s.heap.objs.size)
  (hk:∀b o,s.heap.get? b=ϊ o->h1.get? b=ϊ o) (hC:s.heap.objs.size<=C) (qx:∃m,h1.Ns C m):Inv (fJ X N sc cl C s H fp (X.pn++π)) [] (m9 nt cap σ) H { s with heap:=h1,toks:=t' }:=by
 have Q:=I.m8;have M:∀x,(relabel sc _).names.lookup x=ϊ .cell\/(relabel sc X.env).names.lookup x=ϊ .free->(x,NameKind.free)∈sc.names:=λx Z=>by
  rw[zB] at Z
  cases e:sc.names.lookup x with
  |none=>rw[e] at Z;rcases Z with z|z<;>cases z
  |some k =>
   have Y:(x,k)∈sc.names:=by
    let(f,a,e1,_):=List.lookup_eq_some_iff.mp e;rw[e1];simp
   rw[e] at Z
   cases k with
   |free=>exact Y
   |cell=>exact absurd rfl (S.w9 _ Y)
   |_=>revert Z;simp
 have L:∀x,(x,NameKind.free)∈sc.names->∃c,X.env.cells.lookup x=ϊ c:=λx Z=>I.ok.has x (S.frees _ Z rfl).2;have ok:Cx.Ok (fJ X N sc cl C s H fp (X.pn++π)):=by
  refine#[I.ok.mod,?_,I.ok.glob,I.ok.blt,hC,?_,?_,?_,I.ok.hd,I.ok.frames,.inl rfl,?_,I.bs,Ø I.ok.jq I.sz,?_,?_,I.stack,I.wK]
  .exact S.kind
  .intro x y c Z K
   exact I.ok.inj x y c ((dX x c).mp Z).2 ((dX y c).mp K).2
  .intro x Z
   have Y:=M x Z;let(c,e):=L x Y;exact#[c,(dX x c).mpr #[Y,e]]
  .intro x c Z
   cases Z
  .intro b W
   refine#[ß (È (hV b W) hC),λx c e=>?_];exact(hf b W).2.2.2.2.1 x c ((dX x c).mp e).2
  .intro b o e W
   rcases(hf b W).2.2.2.1 with z|z
   .exact I.ok.p9 b o e z
   .exact absurd (È (Í e) (Ø I.ok.jq z)) (ò _)
  .intro b W z
   rcases Ô.mp (Q b z) with e|e
   .exact(hf b W).2.1 e
   .exact(hf b W).2.2.1 e
 let(m,Y):=qx;let(mX,J,G):=I.loc;refine#[ok,rfl,I.bare,Un.kept hk,#[m,Y,λi x v e1 e2 e3=>?_],λx c e=>?_,I.aK.fresh hC,λx c e=>I.jD x c ((dX x c).mp e).2,λp F=>?_,I.aK.kept hk,?_]
 .
  have hi:=by
   apply af9;intro P;have:(m9 nt cap σ)[i]?=ϊ ϋ:=by
    delta m9;rw[æ (by simpa using P),Į,Ù P]
   rw[this] at e2;cases e2
  have V:(cap.map λj=>(σ[j]?).getD ϋ)[i-nt]?=ϊ (ϊ v):=by
   have e:=e2;delta m9 at e;rw[ñ (by simpa using hi)] at e;simpa using e
  rw[à] at V
  cases U:cap[i-nt]? with
  |none=>rw[U] at V;cases V
  |some j =>
   rw[U] at V;have ev:(σ[j]?).getD ϋ=ϊ v:=ahA V;have E:σ[j]?=ϊ (ϊ v):=by
    cases q:σ[j]? with
    |none=>rw[q] at ev;cases ev
    |some z=>rw[q] at ev;exact ħ ϊ ev
   let(y,f1,f2,O):=S.GS _ _ U;rw[Nat.add_sub_cancel' hi] at f2;have D:=ahA (f2.symm.trans e1);subst D;let(g1,g2):=S.frees _ O rfl;have B:qp _ y:=.inr g2;let(u,r,l):=G j y v f1 E B;refine#[u,r,.inr #[?_,?_]]
   .show (relabel sc _).names.lookup y=ϊ _\/(relabel sc _).names.lookup y=ϊ _
    rw[zB,g1];erw[η];split
    .exact .inl rfl
    .exact .inr rfl
   .rcases l with ⟨k,_⟩ | ⟨_,c,A,w⟩
    .have t:X.env.scope.names.lookup y=ϊ _:=k
     rw[t] at g2
     rcases g2 with z|z<;>cases z
    .let(T,R,hd):=w
     exact#[c,(dX y c).mpr #[O,A],T,hk _ _ R,hd]
 .let(v,T,R,hd):=I.cell x c ((dX x c).mp e).2
  exact#[v,T,hk _ _ R,hd]
 .have h:p∈X.pn++π:=by simpa using F
  let(e,n,ne,g,d):=I.pin p h;refine#[hk _ _ e,n,ß (È (Í e) hC),λz=>?_,d]
  rcases Ô.mp (Q _ z) with q|q
  .exact ne q
  .exact g q
 .delta m9
  rw[Ï,ň,Æ];exact S.len.symm
end
inductive Kn where
 |ax|bl|int|str|tup|lst|cI
 deriving DecidableEq
def vG (K:Ň) (H:Hp):V->Kn->Prop
 | .ax,.ax=>True
 | .bl _,.bl=>True
 | .int _,.int=>True
 | .str _,.str=>True
 | .ref a,.tup=>∃Z,bZ K H a Z
 | .ref a,.lst=>∃Z,bV K H a Z
 | .ref a,.cI=>∃Y,H a=ϊ (.dK Y)
 |_,_=>False
noncomputable def u7:Kn->String->Bool
 | .int,"int"=>ό
 | .bl,"int"=>ό
 | .bl,"bool"=>ό
 | .str,"str"=>ό
 | .tup,"tuple"=>ό
 | .lst,"list"=>ό
 |_,_=>ύ
section
variable {X:Cx}
def Inv.xa {σ:St} {H} {s} {a} {xs} (I:Inv X π σ H s) (h:bZ X.K H a xs):∃o,s.heap.get? a=ϊ o/\o.cls=.type "tuple":=by
 obtain⟨ak,r,⟨o,e,c,_⟩,_⟩:=I.tuple h;exact#[o,e,c]
def Inv.xb {σ:St} {H} {s} {a} {xs} (I:Inv X π σ H s) (h:bV X.K H a xs):∃o,s.heap.get? a=ϊ o/\o.cls=.type "list":=by
 obtain⟨ak,r,⟨o,n,e,c,_⟩,_⟩:=I.list h;exact#[o,e,c]
def Inv.xc {σ:St} {H} {s} {a} {bu} (I:Inv X π σ H s) (h:H a=ϊ (.dK bu)):∃o,s.heap.get? a=ϊ o/\o.cls=.type "dict":=by
 let(_,_,W,_,p):=(I.aK a _ h);let(o,V,U,Z,Y,_):=p;exact#[o,Z,Y.1]
def Ux:dB X (.builtin "isinstance") (λxs H Q=>∃x k,xs=[x,.ty "int"]/\vG X.K H x k/\Q (.bl (u7 k "int")) H):=by
 intro T s σ H xs S Q I r h;let(x,k,rfl,Z,q):=h;let(u,c,rfl,Y,rc):=vals2 r;cases rc
 cases k with
 |ax =>
  cases x with
  |ax =>
   cases Y;exact IsiPair.NoneType_int #[.bl ύ,H,I.tok _,rfl,q]
  |_=>exact Z.elim
 |bl =>
  cases x with
  |bl b =>
   cases Y;exact IsiPair.bool_int #[.bl ό,H,I,rfl,q]
  |_=>exact Z.elim
 |int =>
  cases x with
  |int i =>
   let(t,rfl):=Y;exact IsiPair.int_int #[.bl ό,H,I,rfl,q]
  |_=>exact Z.elim
 |str =>
  cases x with
  |str y =>
   let(t,rfl):=Y;exact IsiPair.str_int #[.bl ύ,H,I.tok _,rfl,q]
  |_=>exact Z.elim
 |tup =>
  cases x with
  |ref a =>
   cases Y;let(z,W):=Z;let(o,V,U):=I.xa W;exact IsiPair.tuple_int V U #[.bl ύ,H,I.tok _,rfl,q]
  |_=>exact Z.elim
 |lst =>
  cases x with
  |ref a =>
   cases Y;let(z,W):=Z;let(o,V,U):=I.xb W;exact IsiPair.list_int V U #[.bl ύ,H,I.tok _,rfl,q]
  |_=>exact Z.elim
 |cI =>
  cases x with
  |ref a =>
   cases Y;let(z,W):=Z;let(o,V,U):=I.xc W;exact IsiPair.dict_int V U #[.bl ύ,H,I.tok _,rfl,q]
  |_=>exact Z.elim
def Ue:dB X (.builtin "isinstance") (λxs H Q=>∃x k,xs=[x,.ty "bool"]/\vG X.K H x k/\Q (.bl (u7 k "bool")) H):=by
 intro T s σ H xs S Q I r h;let(x,k,rfl,Z,q):=h;let(u,c,rfl,Y,rc):=vals2 r;cases rc
 cases k with
 |ax =>
  cases x with
  |ax =>
   cases Y;exact IsiPair.NoneType_bool #[.bl ύ,H,I.tok _,rfl,q]
  |_=>exact Z.elim
 |bl =>
  cases x with
  |bl b =>
   cases Y;exact IsiPair.bool_bool #[.bl ό,H,I,rfl,q]
  |_=>exact Z.elim
 |int =>
  cases x with
  |int i =>
   let(t,rfl):=Y;exact IsiPair.int_bool #[.bl ύ,H,I.tok _,rfl,q]
  |_=>exact Z.elim
 |str =>
  cases x with
  |str y =>
   let(t,rfl):=Y;exact IsiPair.str_bool #[.bl ύ,H,I.tok _,rfl,q]
  |_=>exact Z.elim
 |tup =>
  cases x with
  |ref a =>
   cases Y;let(z,W):=Z;let(o,V,U):=I.xa W;exact IsiPair.tuple_bool V U #[.bl ύ,H,I.tok _,rfl,q]
  |_=>exact Z.elim
 |lst =>
  cases x with
  |ref a =>
   cases Y;let(z,W):=Z;let(o,V,U):=I.xb W;exact IsiPair.list_bool V U #[.bl ύ,H,I.tok _,rfl,q]
  |_=>exact Z.elim
 |cI =>
  cases x with
  |ref a =>
   cases Y;let(z,W):=Z;let(o,V,U):=I.xc W;exact IsiPair.dict_bool V U #[.bl ύ,H,I.tok _,rfl,q]
  |_=>exact Z.elim
def Uy:dB X (.builtin "isinstance") (λxs H Q=>∃x k,xs=[x,.ty "str"]/\vG X.K H x k/\Q (.bl (u7 k "str")) H):=by
 intro T s σ H xs S Q I r h;let(x,k,rfl,Z,q):=h;let(u,c,rfl,Y,rc):=vals2 r;cases rc
 cases k with
 |ax =>
  cases x with
  |ax =>
   cases Y;exact IsiPair.NoneType_str #[.bl ύ,H,I.tok _,rfl,q]
  |_=>exact Z.elim
 |bl =>
  cases x with
  |bl b =>
   cases Y;exact IsiPair.bool_str #[.bl ύ,H,I.tok _,rfl,q]
  |_=>exact Z.elim
 |int =>
  cases x with
  |int i =>
   let(t,rfl):=Y;exact IsiPair.int_str #[.bl ύ,H,I.tok _,rfl,q]
  |_=>exact Z.elim
 |str =>
  cases x with
  |str y =>
   let(t,rfl):=Y;exact IsiPair.str_str #[.bl ό,H,I,rfl,q]
  |_=>exact Z.elim
 |tup =>
  cases x with
  |ref a =>
   cases Y;let(z,W):=Z;let(o,V,U):=I.xa W;exact IsiPair.tuple_str V U #[.bl ύ,H,I.tok _,rfl,q]
  |_=>exact Z.elim
 |lst =>
  cases x with
  |ref a =>
   cases Y;let(z,W):=Z;let(o,V,U):=I.xb W;exact IsiPair.list_str V U #[.bl ύ,H,I.tok _,rfl,q]
  |_=>exact Z.elim
 |cI =>
  cases x with
  |ref a =>
   cases Y;let(z,W):=Z;let(o,V,U):=I.xc W;exact IsiPair.dict_str V U #[.bl ύ,H,I.tok _,rfl,q]
  |_=>exact Z.elim
def TN:dB X (.builtin "isinstance") (λxs H Q=>∃x k,xs=[x,.ty "tuple"]/\vG X.K H x k/\Q (.bl (u7 k "tuple")) H):=by
 intro T s σ H xs S Q I r h;let(x,k,rfl,Z,q):=h;let(u,c,rfl,Y,rc):=vals2 r;cases rc
 cases k with
 |ax =>
  cases x with
  |ax =>
   cases Y;exact IsiPair.NoneType_tuple #[.bl ύ,H,I.tok _,rfl,q]
  |_=>exact Z.elim
 |bl =>
  cases x with
  |bl b =>
   cases Y;exact IsiPair.bool_tuple #[.bl ύ,H,I.tok _,rfl,q]
  |_=>exact Z.elim
 |int =>
  cases x with
  |int i =>
   let(t,rfl):=Y;exact IsiPair.int_tuple #[.bl ύ,H,I.tok _,rfl,q]
  |_=>exact Z.elim
 |str =>
  cases x with
  |str y =>
   let(t,rfl):=Y;exact IsiPair.str_tuple #[.bl ύ,H,I.tok _,rfl,q]
  |_=>exact Z.elim
 |tup =>
  cases x with
  |ref a =>
   cases Y;let(z,W):=Z;let(o,V,U):=I.xa W;exact IsiPair.tuple_tuple V U #[.bl ό,H,I,rfl,q]
  |_=>exact Z.elim
 |lst =>
  cases x with
  |ref a =>
   cases Y;let(z,W):=Z;let(o,V,U):=I.xb W;exact IsiPair.list_tuple V U #[.bl ύ,H,I.tok _,rfl,q]
  |_=>exact Z.elim
 |cI =>
  cases x with
  |ref a =>
   cases Y;let(z,W):=Z;let(o,V,U):=I.xc W;exact IsiPair.dict_tuple V U #[.bl ύ,H,I.tok _,rfl,q]
  |_=>exact Z.elim
def Ug:dB X (.builtin "isinstance") (λxs H Q=>∃x k,xs=[x,.ty "list"]/\vG X.K H x k/\Q (.bl (u7 k "list")) H):=by
 intro T s σ H xs S Q I r h;let(x,k,rfl,Z,q):=h;let(u,c,rfl,Y,rc):=vals2 r;cases rc
 cases k with
 |ax =>
  cases x with
  |ax =>
   cases Y;exact IsiPair.NoneType_list #[.bl ύ,H,I.tok _,rfl,q]
  |_=>exact Z.elim
 |bl =>
  cases x with
  |bl b =>
   cases Y;exact IsiPair.bool_list #[.bl ύ,H,I.tok _,rfl,q]
  |_=>exact Z.elim
 |int =>
  cases x with
  |int i =>
   let(t,rfl):=Y;exact IsiPair.int_list #[.bl ύ,H,I.tok _,rfl,q]
  |_=>exact Z.elim
 |str =>
  cases x with
  |str y =>
   let(t,rfl):=Y;exact IsiPair.str_list #[.bl ύ,H,I.tok _,rfl,q]
  |_=>exact Z.elim
 |tup =>
  cases x with
  |ref a =>
   cases Y;let(z,W):=Z;let(o,V,U):=I.xa W;exact IsiPair.tuple_list V U #[.bl ύ,H,I.tok _,rfl,q]
  |_=>exact Z.elim
 |lst =>
  cases x with
  |ref a =>
   cases Y;let(z,W):=Z;let(o,V,U):=I.xb W;exact IsiPair.list_list V U #[.bl ό,H,I,rfl,q]
  |_=>exact Z.elim
 |cI =>
  cases x with
  |ref a =>
   cases Y;let(z,W):=Z;let(o,V,U):=I.xc W;exact IsiPair.dict_list V U #[.bl ύ,H,I.tok _,rfl,q]
  |_=>exact Z.elim
end
section
variable {X:Cx} {es:List ŕ} {t:TA} {pos:Pos}
def MU {bs:List Bool} (r:Vals (bs.map V.bl) ak):TruthOf X.prog X.w A (λi v=>ak.toArray[i]?=ϊ v) (λi=>bs.getD i ύ):=by
 intro i v s Q E T S;have Z:=by simpa using T
 have hi:=(Ç.mp Z).1;have Y:i<bs.length:=by
  have e:=r.length;rw[Æ] at e;omega
 have R:(bs.map V.bl)[i]?=ϊ (.bl (bs[i])):=by rw[à,Ñ Y];rfl
 let(u,W,P):=Vals.get r R;rw[Z] at W;cases W;cases P;have e:bs.getD i ύ=bs[i]:=by simp[aho,Ñ Y]
 have U:Q (bs.getD i ύ) s:=S;rw[e] at U;exact Ŗ U
def range_all (bs:List Bool):(ä bs.length).all (λi=>bs.getD i ύ)=bs.all id:=by
 rw[Ī,Þ,Þ];constructor
 .intro h b Z
  let(i,hi,e):=age Z;have:=h i (î.mpr hi);simpa [Ñ hi,e] using this
 .intro h i hi
  have hi:=î.mp hi;have:=h _ (agX hi);simpa [Ñ hi] using this
def range_any (bs:List Bool):(ä bs.length).any (λi=>bs.getD i ύ)=bs.any id:=by
 rw[Ī,aga,aga];constructor
 .rintro ⟨i,hi,h⟩
  have hi:=î.mp hi;exact#[_,agX hi,by simpa [Ñ hi] using h]
 .rintro ⟨b,Z,h⟩
  let(i,hi,e):=age Z;exact#[i,î.mpr hi,by simpa [Ñ hi,e] using h]
def XY (hc:X.calm=ό):dB X (.builtin "all") (λxs H Q=>∃(p:þ) (bs:List Bool),xs=[.ref p]/\bV X.K H p (bs.map V.bl)/\Q (.bl (bs.all id)) H):=by
 intro P s σ H xs O Q I r h;let(p,bs,rfl,W,q):=h;let(u,rfl,U):=vals1 r;cases U;let(ak,Y,Z,N):=I.list W;have T:ak.toArray.size=bs.length:=by
  have e:=Y.length;simpa using e.symm
 have S:X.A.in1.handled=ϋ:=I.ok.hd hc;refine call_all_walk (Ť Z.isList ?_);have old:=ß (by let(o,n,e,_):=Z;exact Í e);refine#[_,_,_,_,_,_,λi=>bs.getD i ύ,rfl,Walks.list S _ p old _,#[#[_,Ì _ rfl,rfl,rfl],Z.isList.at λo e=>Á _ e],MU Y,λM L R=>?_];rw[T,range_all];exact#[.bl _,H,I.kept λb o e=>R b o (by simpa using ß (Í e)) (Á _ e),rfl,q]
def XZ (hc:X.calm=ό):dB X (.builtin "any") (λxs H Q=>∃(p:þ) (bs:List Bool),xs=[.ref p]/\bV X.K H p (bs.map V.bl)/\Q (.bl (bs.any id)) H):=by
 intro P s σ H xs O Q I r h;let(p,bs,rfl,W,q):=h;let(u,rfl,U):=vals1 r;cases U;let(ak,Y,Z,N):=I.list W;have T:ak.toArray.size=bs.length:=by
  have e:=Y.length;simpa using e.symm
 have S:X.A.in1.handled=ϋ:=I.ok.hd hc;refine call_any_walk (Ť Z.isList ?_);have old:=ß (by let(o,n,e,_):=Z;exact Í e);refine#[_,_,_,_,_,_,λi=>bs.getD i ύ,rfl,Walks.list S _ p old _,#[#[_,Ì _ rfl,rfl,rfl],Z.isList.at λo e=>Á _ e],MU Y,λM L R=>?_];rw[T,range_any];exact#[.bl _,H,I.kept λb o e=>R b o (by simpa using ß (Í e)) (Á _ e),rfl,q]
end
noncomputable def xY:Key->PyData
 | .inl i=>.int i
 | .inr x=>.str x
mutual
def DV (K:Ň) (Z:þ->Prop) (H:Hp):PyData->V->Prop
 | .none,v=>v=.ax
 | .bool b,v=>v=.bl b
 | .int i,v=>v=.int i
 | .str x,v=>v=.str x
 | .tuple X,v=>∃a Y,v=.ref a/\bZ K H a Y/\aA K Z H X Y
 | .list X,v=>∃a Y,v=.ref a/\¬ Z a/\H a=ϊ (.lst Y)/\aA K Z H X Y
 | .dict U,v=>∃a W,v=.ref a/\¬ Z a/\H a=ϊ (.dK W)/\∃l:List (Key×Int),W=l.map (λp=>(p.1,V.int p.2))/\U=l.map λp=>(xY p.1,PyData.int p.2)
def aA (K:Ň) (Z:þ->Prop) (H:Hp):List PyData->List V->Prop
 | [],Y=>Y=[]
 |d::X,Y=>∃v r,Y=v::r/\DV K Z H d v/\aA K Z H X r
end
section
variable {X:Cx} {π:List (þ×Obj)} {σ:St} {H:Hp} {s:Ý} {Z:þ->Prop}
theorem Lg:∀{l:List (Key×Int)} {vs} {es},KV (l.map λp=>(p.1,V.int p.2)) vs->Pairs (Ak P w) es vs ->
  ReadsAll h (es.map (·.key)) ((l.map λp=>(xY p.1,PyData.int p.2)).map (·.1)) []/\ReadsAll h (es.map (·.val)) ((l.map λp=>(xY p.1,PyData.int p.2)).map (·.2)) []
 | [],_,_,.nil,.nil=>#[.nil,.nil]
 |(k,i)::l,_,_,.cons (b:=q) r t,.cons (e:=e) X W U=>by
  let(a1,a2):=Lg t U;let(Z,T,S):=r;have Z:k=q.1:=Z;refine#[?_,?_]
  .have Y:=X
   rw[<- Z] at Y;have:Reads h e.key (xY k) []:=by
    rcases mV Y with ⟨j,u,e1,e2⟩ | ⟨x,u,e1,e2⟩
    .rw[e1,e2];exact .int j u
    .rw[e1,e2];exact .str x u
   exact ReadsAll.cons this a1
  .have:Reads h e.val (.int i) []:=by rw[W,S];exact .int i T
   exact ReadsAll.cons this a2
mutual
theorem DV.reads (I:Inv X π σ H s):∀{d} {v} {u},DV X.K Z H d v->RelV v u->∃as,Reads s.heap u d as
 | .none,v,u,h,r=>by
  have e:=h;subst e;cases r;exact#[_,.none]
 | .bool b,v,u,h,r=>by
  have e:=h;subst e;cases r;exact#[_,.bool b]
 | .int i,v,u,h,r=>by
  have e:=h;subst e;let(t,rfl):=r;exact#[_,.int i t]
 | .str x,v,u,h,r=>by
  have e:=h;subst e;let(t,rfl):=r;exact#[_,.str x t]
 | .tuple S,v,u,h,r=>by
  let(a,R,e,Y,W):=h;subst e;cases r;obtain⟨ak,V,⟨o,e,c,n,U⟩,_⟩:=I.tuple Y;let(as,T):=aA.reads I W V;exact#[as,.tuple e c U (by simpa using T)]
 | .list S,v,u,h,r=>by
  let(a,R,e,_,Y,W):=h;subst e;cases r;obtain⟨ak,V,⟨o,n,e,c,_,U⟩,_⟩:=I.list (bV.of Y);let(as,T):=aA.reads I W V;exact#[_,.list e c U (by simpa using T)]
 | .dict M,v,u,h,r=>by
  erw[DV] at h;let(a,L,e,_,Y,l,e1,e2):=h;subst e e1 e2;cases r;let(_,_,J,Q,o,G,F,g1,g2,g3,_,P,_):=(I.aK a _ Y);let(O,N):=Lg Q P;exact#[_,.dict g1 g2.1 g3 O N]
theorem aA.reads (I:Inv X π σ H s):∀{ds} {vs} {us},aA X.K Z H ds vs->Vals vs us->∃as,ReadsAll s.heap us ds as
 | [],vs,us,h,r=>by
  have e:=h;subst e;cases r;exact#[_,.nil]
 |d::ds,vs,us,h,r=>by
  let(v,T,e,Y,W):=h;subst e
  cases r with
  |cons V U =>
   let(as,a1):=DV.reads I Y V;let(bs,a2):=aA.reads I W U;exact#[_,.cons a1 a2]
end
def RD (K:Ň) (neg:Bool):R2:=λx y H Q=>∃(d e:PyData) (Z:þ->Prop),DV K Z H d x/\DV K Z H e y/\d.canLay0=ό/\e.canLay0=ό/\min d.depth e.depth<=100/\Q (.bl (if neg then !PyData.eqv d e else į d e)) H
def abK (hr:bK k X.A):bP X (Ē .Eq) (RD X.K ύ):=by
 intro O s σ H x y v u Q I Y W h;let(d,e,Z,V,U,T,S,N,q):=h;let(as,R):=V.reads I Y;let(bs,P):=U.reads I W;exact SeqAt.eqOverData _ _ _ _ _ _ _ _ _ _ _ _ R P T S (by have:=hr.un;omega) #[.bl _,H,I,rfl,q]
def abM (hr:bK k X.A):bP X (Ē .NotEq) (RD X.K ό):=by
 intro O s σ H x y v u Q I Y W h;let(d,e,Z,V,U,T,S,N,q):=h;let(as,R):=V.reads I Y;let(bs,P):=U.reads I W;exact SeqAt.neOverData _ _ _ _ _ _ _ _ _ _ _ _ R P T S (by have:=hr.un;omega) #[.bl _,H,I,rfl,q]
end
end L2
namespace HT
open PySem PySem.Spec PyProof.Rows
section
variable {prog:ø} {w:Ĭ} {A:đ} {E:ã->Ý->Prop} {s:Ý}
def Wz (ht:IsTup s.heap t items) (h:Q ό s):ë (ê prog w) A (Builtin.Tuple.tupleIsExact (.ref t)) Q E s:=by
 exact À (agl ht.typeIs (Ä h))
def TQ {lo hi} {Q} (ht:IsTup s.heap t items) (hs:s.heap.IsSliceOf sl vl vu .none) (pl:IsPart vl lo) (pu:IsPart vu hi)
 (hw:bX items.size 0 lo=0/\bX items.size items.size hi=items.size) (h:Q (.ref t) s):ë (ê prog w) A (getItem (.ref t) (.ref sl)) Q E s:=by
 let(os,Z,Y,U):=id hs;have X:s.TypeIs (.ref sl) _:=#[os,Z,Y];delta getItem
 try with_reducible refine Ć ?_
 refine À (wpAny_sequenceKey ht.typeIs (by decide) ?_);refine À (Ĉ ht.typeIs Ę
  (ă Ę ht.typeIs entry_tuple_getitem ?_ (args_tuple_getitem ..)))
 show ë _ _ (ahh _ >>= _) _ _ s;refine À (tupleItemsOf_ ht ?_);refine À (agl X ?_);refine À (Ko hs pl pu ?_);let(W,V):=hw
 show ë _ _ (if (((bX _ 0 lo):Int)==0&&(1)==1&&(bX _ _ hi-bX _ 0 lo)==items.size)=ό then _ else _) _ _ s
 rw[W,V,Ù ∅]
 first
  |exact À (Wz ht (by exact À (ŵ (Ä #[_,rfl,Ä h]))))
  |exact À _
end
end HT
namespace L2
open PySem PySem.Spec PyProof.Rows
def mz.sqT {K} {H H'} {a} {xs} (e:mz H H') (h:bZ K H a xs):bZ K H' a xs:=by
 rcases h with (h | ⟨o,h⟩)|h
 .exact .inl (.inl (e _ _ h))
 .exact .inl (.inr #[o,e _ _ h])
 .exact .inr h
theorem mz.upd (hn:H p=ϋ):mz H (upd H p o):=λb u e=>by rw[bB (eh e hn)];exact e
def qa (K:Ň) (H:Hp) (ys:List V) (Q:VK):Prop:=∀a Z,mz H Z->bZ K Z a ys->Q (.ref a) Z
def qa.here {K} {H} {ys} {Q} {a} (h:qa K H ys Q) (hs:bZ K H a ys):Q (.ref a) H:=h a H (mz.refl H) hs
def qa.new {K} {H} {ys} {Q} {p} (h:qa K H ys Q) (hn:H p=ϋ):Q (.ref p) (L2.upd H p (.tup ys)):=h p _ (mz.upd hn) (bZ.of cY)
section
variable {X:Cx} {e:ŕ} {te:TE} {pos p2 p3 p4:Pos}
def X0 {lo hi} (h:HT.bX xs.length 0 lo=0/\HT.bX xs.length xs.length hi=xs.length):oP xs lo hi=xs:=by
 delta oP;rw[h.1,h.2];simp
def afo (K:Ň):V->Option Int->Option Int->Hp->VK->Prop:=λx lo hi H Q=>∃a Z,x=.ref a/\bZ K H a Z/\qa K H (oP Z lo hi) Q
def ZP:yH X (afo X.K):=by
 intro R s σ H x v P O lo hi sl Q I V U T pu h;let(a,Z,rfl,W,q):=h;by_cases hw:HT.bX Z.length 0 lo=0/\HT.bX Z.length Z.length hi=Z.length
 .cases V
  let(ak,r,S,M):=I.tuple W;have Y:ak.toArray.size=Z.length:=by exact r.length.symm
  rw[X0 hw] at q;exact#[_,_,Ę.lookup,S.typeIs,HT.TQ S U T pu (by rw[Y];exact hw) #[.ref a,H,I,rfl,q.here W]]
 .exact AD R s σ H _ v P O lo hi sl Q I V U T pu #[a,Z,rfl,W,hw,λp N=>q.new N]
def adK (K:Ň):R2:=λx y H Q=>∃a b Z Y,x=.ref a/\y=.ref b/\bZ K H a Z/\bZ K H b Y/\Z.length+Y.length<=Õ/\qa K H (Z++Y) Q
def ZQ:bP X (ņ .Add) (adK X.K):=by
 intro P s σ H x y v u Q I W V h;let(a,b,U,O,rfl,rfl,Z,Y,N,q):=h;by_cases T:U=[]
 .subst T
  cases W;cases V;let(ak,M,L,_):=I.tuple Z;let(z,w,p2,_):=I.tuple Y;cases M;obtain⟨⟨cls,J,data,sl⟩,S,G,n,F⟩:=id L;obtain⟨⟨t,E,data2,D⟩,R,C,B,hd2⟩:=id p2;subst G F C hd2;exact concat_meets #[_,S,rfl] #[_,R,rfl] noFill_tuple_add seq_tuple_add agC agu (agk ..)
   (tuple_addW0 a b _ _ n B J E sl D ∅) #[S,R,#[.ref b,H,I,rfl,q.here Y]]
 .refine ZL P s σ H _ _ v u Q I W V #[a,b,U,O,rfl,rfl,Z,Y,T,N,λe=>?_,λ_ p A=>q.new A]
  subst e;rw[ð] at q;exact q.here Z
end
end L2
namespace HZ
open PySem PySem.Spec PyProof.Rows
structure mI (P) (w) (A) (i l) (tn:Nat->ū->Prop) (val:Nat->Option ã):Prop where
 keep:∀k h h',tn k h->(∀o,h.get? i=ϊ o->h'.get? i=ϊ o)->(∀o,h.get? l=ϊ o->h'.get? l=ϊ o)->tn k h'
 item:∀k s Q E x,tn k s.heap->val k=ϊ x->(∀h',tn (k+1) h'->Ĩ i s.heap h'->Q x { s with heap:=h' })->ë (ê P w) A (š (.ref i)) Q E s
 stop:∀k s Q E,tn k s.heap->val k=ϋ->(∀h' e,agf i s.heap h'->(∃o,h'.get? e=ϊ o/\o.cls=.type "StopIteration")->E (.ref e) { s with heap:=h' })->ë (ê P w) A (š (.ref i)) Q E s
 obj:∀k h,tn k h->∃o,h.get? i=ϊ o/\∀v,o.data≠.cell v
section
variable {P:ø} {w:Ĭ} {A:đ} {E:ã->Ý->Prop} {s:Ý}
def Vy (g:s.heap.IsTupleIter it t k) (gt:s.heap.IsTuple t ak) (gx:ak[k]?=ϊ x)
 (q:∀h',h'.IsTupleIter it t (k+1)->Ĩ it s.heap h'->Q x { s with heap:=h' }):ë (ê P w) A (š (.ref it)) Q E s:=by
 let(o,go,Y,Z):=id g;let(ol,X,_,nl,W):=gt;refine À (Ĉ g.typeIs Ř
  (ă Ř g.typeIs F.entry_tuple_iterator_next ?_ (F.args_tuple_iterator_next_1 _)))
 show ë _ _ (field _ 0 >>= _) ..;refine À (ī go Z rfl ?_);refine À (ī go Z rfl ?_);refine À (Ŀ X W ?_);erw[İ,gx];refine À (Ŷ go Z ∅ (Ä #[x,rfl,Ä (q _ ?_ (ĝ ..))]));exact#[_,Ě _ go (ŋ (ċ Z _)),(agK ..).trans Y,by rw[ċ Z];simp[ł]]
def TR (gh:A.handled=ϋ) (g:s.heap.IsTupleIter it t k) (gt:s.heap.IsTuple t ak) (gx:ak[k]?=ϋ)
 (q:∀h' e,agf it s.heap h'->(∃o,h'.get? e=ϊ o/\o.cls=.type "StopIteration")->E (.ref e) { s with heap:=h' }):ë (ê P w) A (š (.ref it)) Q E s:=by
 let(o,go,W,Z):=id g;let(ol,Y,_,nl,X):=gt;refine À (Ĉ g.typeIs Ř
  (ă Ř g.typeIs F.entry_tuple_iterator_next ?_ (F.args_tuple_iterator_next_1 _)))
 show ë _ _ (field _ 0 >>= _) ..;refine À (ī go Z rfl ?_);refine À (ī go Z rfl ?_);refine À (Ŀ Y X ?_);erw[İ,gx];refine À (ŵ (À (Ŷ go Z ∅ ?_)));refine À ?_
 refine À (m:=firstArgMember ..) (agg (by first|rfl | (rfl)) ?_)
 refine ď ?_ (by size_fits);refine À (wpAny_handled ?_)
 first|rw[gh]|rw[gh]
 refine À (Ä (wpAny_throw ?_));exact q _ _ (((ĝ ..).extBut.push _).push _) #[_,Ì _ rfl,rfl]
def ZR (gh:A.handled=ϋ) (i l) (ak):mI P w A i l (λk h=>h.IsTupleIter i l k/\h.IsTuple l ak) (λk=>ak[k]?) where
 keep:=λk h Y Z U T=>#[Z.1.at U,by let(o,e,r):=Z.2;exact#[o,T o e,r]]
 item:=λk s Q E x Z e q=>Vy Z.1 Z.2 e λY g X=>by
  by_cases W:l=i
  .subst W
   let(o,e1,S,_):=Z.1;let(R,e2,V,_):=Z.2;rw[e1] at e2;cases e2;rw[S] at V;simp at V
  .let(o,e2,r):=Z.2
   exact q Y #[g,o,(X.2 l W).trans e2,r] X
 stop:=λk s Q E Z e q=>TR gh Z.1 Z.2 e q
 obj:=λk h Z=>by
  let(o,e,_,d):=Z.1;exact#[o,e,λv z=>by rw[d] at z;cases z]
def ZS (gh:A.handled=ϋ) (i l) (ak):mI P w A i l (λk h=>h.IsListIter i l k/\h.IsList l ak) (λk=>ak[k]?) where
 keep:=λk h Y Z U T=>#[Z.1.at U,Z.2.at T]
 item:=λk s Q E x Z e q=>wpAny_nextOf_list_item Z.1 Z.2 e λY g X=>by
  by_cases W:l=i
  .exfalso
   subst W;let(o,e1,S,_):=Z.1;let(R,e2,V,_):=Z.2;rw[e1] at e2;cases e2;rw[S] at V;simp at V
  .exact q Y #[g,Z.2.at λo e2=>(X.2 l W).trans e2] X
 stop:=λk s Q E Z e q=>wpAny_nextOf_list_end gh Z.1 Z.2 e q
 obj:=λk h Z=>by
  let(o,e,_,d):=Z.1;exact#[o,e,λv z=>by rw[d] at z;cases z]
structure Apart (z ti to j1 j2 m1 m2:þ):Prop where
 a1:ti≠z
 a2:to≠z
 a3:j1≠z
 a4:j2≠z
 a5:ti≠to
 a6:ti≠j1
 a7:ti≠j2
 a8:to≠j1
 a9:to≠j2
 b0:j1≠j2
 b1:m1≠z
 b2:m1≠to
 b3:m1≠j1
 b4:m1≠j2
 b5:m2≠z
 b6:m2≠to
 b7:m2≠j1
 b8:m2≠j2
def X1 {t1 t2} {v1 v2:Nat->Option ã} {k} {Q:ã->Ý->Prop} (D:Apart z ti to j1 j2 m1 m2) (S1:mI P w A j1 m1 t1 v1) (S2:mI P w A j2 m2 t2 v2)
 (gz:IsZip s.heap z ti to .none) (gi:agD s.heap ti (.ref j1) (.ref j2)) (go:agD s.heap to a b) (h1:t1 k s.heap) (h2:t2 k s.heap) (hx:v1 k=ϊ x) (hy:v2 k=ϊ y)
 (q:∀h',IsZip h' z ti to (ł s.heap.objs.size)->agD h' to x y->t1 (k+1) h'->t2 (k+1) h'->agD h' s.heap.objs.size x y->h'.objs.size=s.heap.objs.size+1 ->
 (∀c o,c≠z->c≠to->c≠j1->c≠j2->s.heap.get? c=ϊ o->h'.get? c=ϊ o)->Q (.ref s.heap.objs.size) { s with heap:=h' }) :
  ë (ê P w) A (ż.«zip.__next__» #[[.ref z],[]]) (λfin s'=>∃v,fin=.done (.ret v)/\Q v s') E s:=by
 show ë _ _ (field _ 2 >>= _) _ _ _;refine À (ī gz rfl (x:=.bool ύ) rfl ?_);refine À (ī gz rfl rfl ?_);refine À (Ŀ gi rfl ?_);refine À ?_;refine À (ī gz rfl rfl (Ä ?_));refine À (ŵ ?_);refine À (ī gz rfl (x:=.ref to) rfl ?_);refine À (ŝ gz ∅ λf p Y=>?_);refine À ?_;refine À (À (wpAny_onRaise ?_));refine À (S1.item k _ _ _ x (S1.keep k _ _ h1 (λo e=>Y.extBut _ _ D.a3 e) (λo e=>Y.extBut _ _ D.b1 e)) hx λn m V=>Ä ?_);have G:agD n to a b:=V.extBut _ _ D.a8 (Y.extBut _ _ D.a2 go);refine À (Ŀ G rfl ?_);refine À (wpAny_updateSeq_pair G λd l X=>?_);refine À (wpAny_letGo (Ä ?_));refine À (À (wpAny_onRaise ?_));refine À (S2.item k _ _ _ y (S2.keep k _ _ h2 (λo e=>X.extBut _ _ D.a9.symm (V.extBut _ _ D.b0.symm (Y.extBut _ _ D.a4 e))) (λo e=>X.extBut _ _ D.b6 (V.extBut _ _ D.b7 (Y.extBut _ _ D.b5 e)))) hy λj i U=>Ä ?_);have F:agD j to x b:=U.extBut _ _ D.a9 l;refine À (Ŀ F rfl ?_);refine À (wpAny_updateSeq_pair F λZ T s5=>?_)
 replace T:agD Z to x y:=T
 refine À (wpAny_letGo (Ä (Ä ?_)));refine À (Ŀ T rfl ?_);refine À (wpAny_newTuple ?_);have C:Z.objs.size=s.heap.objs.size:=by rw[s5.1,U.1,X.1,V.1,Y.1]
 have B:IsZip Z z ti to _:=s5.extBut _ _ D.a2.symm (U.extBut _ _ D.a4.symm (X.extBut _ _ D.a2.symm (V.extBut _ _ D.a3.symm p)));have h:∀c o,c≠z->c≠to->c≠j1->c≠j2->s.heap.get? c=ϊ o->Z.get? c=ϊ o:=λc o W S N M e=>s5.extBut _ _ S (U.extBut _ _ M (X.extBut _ _ S (V.extBut _ _ N (Y.extBut _ _ W e))));have L:t1 _ Z:=S1.keep _ _ _ m (λo e=>s5.extBut _ _ D.a8.symm (U.extBut _ _ D.b0 (X.extBut _ _ D.a8.symm e))) (λo e=>s5.extBut _ _ D.b2 (U.extBut _ _ D.b4 (X.extBut _ _ D.b2 e)));have K:t2 _ Z:=S2.keep _ _ _ i (λo e=>s5.extBut _ _ D.a9.symm e) (λo e=>s5.extBut _ _ D.b6 e);have u:=Í B;refine À ?_;have g:IsZip (Z.push { cls:=.type "tuple",data:=.seq #v[x,y] }) z ti to _:=Á _ B;refine À (ŝ g ∅ λp7 J I=>?_)
 replace J:=J
 refine ŝ J ∅ λR O H=>?_
 replace O:IsZip R z ti to _:=O
 have up:∀c o,c≠z->Z.get? c=ϊ o->R.get? c=ϊ o:=λc o W e=>H.extBut _ _ W (I.extBut _ _ W (Á _ e));have t:=H.extBut _ _ (ś u) (I.extBut _ _ (ś u) (Ì _ rfl));have r:R.objs.size=Z.objs.size+1:=by rw[H.1,I.1,ý]
 rw[C] at O t r;refine Ä #[_,rfl,?_];rw[C];exact q R O (up _ _ D.a2 T) (S1.keep _ _ _ L (λo e=>up _ o D.a3 e) (λo e=>up _ o D.b1 e)) (S2.keep _ _ _ K (λo e=>up _ o D.a4 e) (λo e=>up _ o D.b5 e)) t r λc o W S N M e=>up c o W (h c o W S N M e)
def ZT (D:Apart z ti to j1 j2 m1 m2) (S1:mI P w A j1 m1 t1 v1) (S2:mI P w A j2 m2 t2 v2)
 (gz:IsZip s.heap z ti to .none) (gi:agD s.heap ti (.ref j1) (.ref j2)) (go:agD s.heap to a b) (h1:t1 k s.heap) (h2:t2 k s.heap) (GU:v1 k=ϋ\/v2 k=ϋ)
 (q:∀h' e,(∀c o,c≠z->c≠to->c≠j1->c≠j2->s.heap.get? c=ϊ o->h'.get? c=ϊ o)->(∃o,h'.get? e=ϊ o/\o.cls=.type "StopIteration")->E (.ref e) { s with heap:=h' }) :
  ë (ê P w) A (ż.«zip.__next__» #[[.ref z],[]]) Q E s:=by
 show ë _ _ (field _ 2 >>= _) _ _ _;refine À (ī gz rfl rfl ?_);refine À (ī gz rfl rfl ?_);refine À (Ŀ gi rfl ?_);refine À ?_;refine À (ī gz rfl rfl (Ä ?_));refine À (ŵ ?_);refine À (ī gz rfl rfl ?_);refine À (ŝ gz ∅ λB R Y=>?_);refine À ?_;erw[List.zipIdx_cons,List.zipIdx_nil,ag8,List.forIn_nil];refine À (À (wpAny_onRaise ?_));have O:=S1.keep k _ _ h1 (λo e=>Y.extBut _ _ D.a3 e) (λo e=>Y.extBut _ _ D.b1 e)
 cases V:v1 k with
 |none =>
  refine À (S1.stop k _ _ _ O V λI e Z U=>?_);let(T,g1,g2):=U;have N:=Z _ _ D.a3.symm R;have ne:e≠z:=λu=>by subst u;rw[N] at g1;cases g1;simp at g2
  refine ŝ N ∅ λM _ X=>q M e (λc o W _ S _ u=>X.extBut _ _ W (Z _ _ S (Y.extBut _ _ W u))) #[T,X.extBut _ _ ne g1,g2]
 |some x =>
  have H:v2 k=ϋ:=by
   rcases GU with h|h
   .rw[V] at h;cases h
   .exact h
  refine À (S1.item k _ _ _ x O V λI y Z=>Ä ?_);have L:=Z.extBut _ _ D.a8 (Y.extBut _ _ D.a2 go);refine À (Ŀ L rfl ?_);refine À (wpAny_updateSeq_pair L λM v X=>?_);refine À (wpAny_letGo (Ä ?_));refine À (À (wpAny_onRaise ?_));refine À (S2.stop k _ _ _ (S2.keep k _ _ h2 (λo e=>X.extBut _ _ D.a9.symm (Z.extBut _ _ D.b0.symm (Y.extBut _ _ D.a4 e))) (λo e=>X.extBut _ _ D.b6 (Z.extBut _ _ D.b7 (Y.extBut _ _ D.b5 e)))) H λt e K U=>?_);let(T,g1,g2):=U;have J:=K _ _ D.a4.symm (X.extBut _ _ D.a2.symm (Z.extBut _ _ D.a3.symm R));have ne:e≠z:=λu=>by subst u;rw[J] at g1;cases g1;simp at g2
  refine ŝ J ∅ λG _ s5=>q G e (λc o W F S C u=>s5.extBut _ _ W (K _ _ C (X.extBut _ _ F (Z.extBut _ _ S (Y.extBut _ _ W u))))) #[T,s5.extBut _ _ ne g1,g2]
def next_item (D:Apart z ti to j1 j2 m1 m2) (S1:mI P w A.in1 j1 m1 t1 v1) (S2:mI P w A.in1 j2 m2 t2 v2)
 (gz:IsZip s.heap z ti to .none) (gi:agD s.heap ti (.ref j1) (.ref j2)) (go:agD s.heap to a b) (h1:t1 k s.heap) (h2:t2 k s.heap) (hx:v1 k=ϊ x) (hy:v2 k=ϊ y)
 (q:∀h',IsZip h' z ti to (ł s.heap.objs.size)->agD h' to x y->t1 (k+1) h'->t2 (k+1) h'->agD h' s.heap.objs.size x y->h'.objs.size=s.heap.objs.size+1 ->
 (∀c o,c≠z->c≠to->c≠j1->c≠j2->s.heap.get? c=ϊ o->h'.get? c=ϊ o)->Q (ϊ (.ref s.heap.objs.size)) { s with heap:=h' }):ë (ê P w) A (aht (.ref z)) Q E s:=by
 have Z:s.TypeIs (.ref z) _:=#[_,gz,rfl];exact À (Ů (Ĉ Z aha
  (ă aha Z F.entry_zip_next (X1 D S1 S2 gz gi go h1 h2 hx hy λh' a1 a2 Y X W V U=>Ä (q h' a1 a2 Y X W V U)) (F.args_zip_next_1 _))))
def next_end (D:Apart z ti to j1 j2 m1 m2) (S1:mI P w A.in1 j1 m1 t1 v1) (S2:mI P w A.in1 j2 m2 t2 v2)
 (gz:IsZip s.heap z ti to .none) (gi:agD s.heap ti (.ref j1) (.ref j2)) (go:agD s.heap to a b) (h1:t1 k s.heap) (h2:t2 k s.heap) (GU:v1 k=ϋ\/v2 k=ϋ)
 (q:∀h',(∀c o,c≠z->c≠to->c≠j1->c≠j2->s.heap.get? c=ϊ o->h'.get? c=ϊ o)->Q ϋ { s with heap:=h' }):ë (ê P w) A (aht (.ref z)) Q E s:=by
 have Z:s.TypeIs (.ref z) _:=#[_,gz,rfl];refine À (Ů (Ĉ Z aha
  (ă aha Z F.entry_zip_next (ZT D S1 S2 gz gi go h1 h2 GU λh' e Y X=>?_) (F.args_zip_next_1 _))))
 let(o,W,V):=X;exact À (wpAny_isInstance #[o,W,V] isSubtype_stop (Ä (q _ Y)))
end
end HZ
namespace L2
open PySem PySem.Spec PyProof.Rows
def abN {π} {σ:St} {H} {s} {a b} {xs} (I:Inv X π σ H s) (h:bZ X.K H a xs) (f:gn X π H b):a≠b:=by
 rintro rfl;let(f0,_,_,Y,_):=f
 rcases h with (h | ⟨o,h⟩) | ⟨o,ak,n,W,_⟩
 .rw[f0] at h;cases h
 .rw[f0] at h;cases h
 .have Z:=I.mod.lu a o W
  rcases Y with z|z
  .exact I.ok.p9 a o Z z
  .exact absurd (È (Í Z) (Ø I.ok.jq z)) (ò _)
def abO {π} {σ:St} {H} {s} {a b} {xs} (I:Inv X π σ H s) (h:bV X.K H a xs) (f:gn X π H b):a≠b:=by
 rintro rfl;let(f0,_,_,Y,_):=f
 rcases h with (h | ⟨o,h⟩) | ⟨o,ak,n,W,_⟩
 .rw[f0] at h;cases h
 .rw[f0] at h;cases h
 .have Z:=I.mod.lu a o W
  rcases Y with z|z
  .exact I.ok.p9 a o Z z
  .exact absurd (È (Í Z) (Ø I.ok.jq z)) (ò _)
def Inv.Mc {π} {σ:St} {H} {s} {h'} {t'} {ch:List þ} (I:Inv X π σ H s) (k:∀b o,b∉ch->s.heap.get? b=ϊ o->h'.get? b=ϊ o) (hf:∀b∈ch,gn X π H b) :
  Inv X π σ H { s with heap:=h',toks:=t' }:=by
 have Y:∀b u,H b=ϊ u->b∉ch:=λb u e z=>by rw[(hf b z).1] at e;cases e
 refine I.step (λb W=>?_) (λb o _ _ Z e _=>k b o Z e) (λb o _ _ Z e _=>#[_,k b o Z e]) (λ_ _ _ _ n=>n) (λb o Z e=>#[o,k b o Z e]) (λ_ _ e=>e) (λ_ _ _ e=>e)
  (λb P e=>#[#v[],by rw[e];simp]) (λm V=>?_) (λb u e=>?_) I.bare
 .let(_,f1,_,U,f4,T):=hf b W
  exact#[U,f1,f4,T]
 .let(o,S,R,Q,r):=V
  exact#[o,S,R,k _ o (λz=>(hf _ z).2.1 rfl) Q,r]
 .refine(I.aK b u e).iX (λc v Z q=>k c v ?_ q) (λ_ q=>q) λ_ _ q=>q
  rcases Z with z|z
  .rw[z];exact Y b u e
  .exact Y c _ z
def Inv.WA {π} {σ:St} {H} {s} {h'} {t'} {ch:List þ} {p:þ} {u} (I:Inv X π σ H s) (k:∀b o,b∉ch->s.heap.get? b=ϊ o->h'.get? b=ϊ o) (hf:∀b∈ch,gn X π H b)
  (hp:s.heap.objs.size<=p) (new:gm X.prog X.w (upd H p u) h' p u):Inv X π σ (upd H p u) { s with heap:=h',toks:=t' }:=by
 have Y:=I.aK.fresh hp;have aK:=(I.Mc (t':=t') k hf).aK.adopt Y new;refine I.step (λb W=>?_) (λb o _ _ Z e _=>k b o Z e) (λb o _ _ Z e _=>#[_,k b o Z e]) (λb o _ e n=>?_) (λb o Z e=>#[o,k b o Z e]) (λc P e=>by rw[bB (eh e Y)];exact e) (λc o v e=>by rw[bB (eh e Y)];exact e)
  (λc O e=>#[#v[],by rw[bB (eh e Y),e];simp]) (λm V=>?_) aK I.bare
 .let(_,f1,_,U,f4,T):=hf b W
  exact#[U,f1,f4,T]
 .rw[bB (ß (È (Í e) hp))]
  exact n
 .let(o,S,R,Q,r):=V
  exact#[o,S,R,k _ o (λz=>(hf _ z).2.1 rfl) Q,r]
@[reducible] def kC:Bool->Ň->Hp->þ->List V->Prop
 |true=>bZ
 |false=>bV
@[reducible] def mJ:Bool->ū->þ->Array ã->Prop
 |true=>Heap.IsTuple
 |false=>Heap.IsList
@[reducible] def o9:Bool->ū->þ->þ->Nat->Prop
 |true=>Heap.IsTupleIter
 |false=>Heap.IsListIter
def Inv.u9 {π} {σ:St} {H} {s} {a} {xs} (I:Inv X π σ H s):∀{k},kC k X.K H a xs->∃ak,Vals xs ak/\mJ k s.heap a ak.toArray
 |true,h=>by let(i,r,p,_):=I.tuple h;exact#[i,r,p]
 |false,h=>by let(i,r,p,_):=I.list h;exact#[i,r,p.isList]
def Inv.MV {π} {σ:St} {H} {s} {a} {xs ys} (I:Inv X π σ H s):∀{k},kC k X.K H a xs->kC k X.K H a ys->xs=ys
 |true,h,g=>I.L3 h g
 |false,h,g=>I.MO h g
def AF {π} {σ:St} {H} {s} {a b} {xs} (I:Inv X π σ H s):∀{k},kC k X.K H a xs->gn X π H b->a≠b
 |true,h,f=>abN I h f
 |false,h,f=>abO I h f
def Bu (gh:A.handled=ϋ) (i l) (ak):∀k,HZ.mI P w A i l (λn h=>o9 k h i l n/\mJ k h l ak) (λn=>ak[n]?)
 |true=>HZ.ZR gh i l ak
 |false=>HZ.ZS gh i l ak
def AG (k:∀o,h.get? i=ϊ o->h'.get? i=ϊ o):∀{b},o9 b h i l n->o9 b h' i l n
 |true,x=>x.at k
 |false,x=>x.at k
def Am:∀{b},o9 b h i l n->∃o,h.get? i=ϊ o/\∀v,o.data≠.cell v
 |true,x=>by let(o,e,_,d):=x;exact#[o,e,λv q=>by rw[d] at q;cases q]
 |false,x=>by let(o,e,_,d):=x;exact#[o,e,λv q=>by rw[d] at q;cases q]
def Bv (k l:Bool) (K:Ň) (a b:þ):It :=
 #[λi H=>∃Z Y x y,kC k K H a Z/\kC l K H b Y/\Z[i]?=ϊ x/\Y[i]?=ϊ y,λi H v X=>∃p x y,H p=ϋ/\v=.ref p/\X=upd H p (.tup [x,y])/\∀Z Y,kC k K H a Z->kC l K H b Y->Z[i]?=ϊ x/\Y[i]?=ϊ y,
  λi H=>∃Z Y,kC k K H a Z/\kC l K H b Y/\(Z.length<=i\/Y.length<=i)]
abbrev afp:=Bv ό ό
structure adN (it:Nat->ū->Prop) (jR:Nat->ū->Prop) (z ti to j1 j2) (i) (h):Prop where
 z:IsZip h z ti to .none
 ti:agD h ti (.ref j1) (.ref j2)
 to:∃u v,agD h to u v
 h1:it i h
 h2:jR i h
structure RE (z ti to j1 j2:þ):Prop where
 a1:ti≠z
 a2:to≠z
 a3:j1≠z
 a4:j2≠z
 a5:ti≠to
 a6:ti≠j1
 a7:ti≠j2
 a8:to≠j1
 a9:to≠j2
 b0:j1≠j2
def WB {P} {w} {K} {elts} {kk} {pos} (a b z ti to j1 j2) (F:RE z ti to j1 j2) :
  Turn P w K (.Tuple elts kk pos) (Bv k1 k2 K a b) [z,ti,to,j1,j2] z (adN (λi h=>o9 k1 h j1 a i) (λi h=>o9 k2 h j2 b i) z ti to j1 j2) where
 mem:=by simp
 obj:=λi h Z c S=>by
  have M:=by simpa using S
  rcases M with rfl|rfl|rfl|rfl|rfl
  .exact#[_,Z.z,λv q=>nomatch q]
  .exact#[_,Z.ti,λv q=>nomatch q]
  .let(u,v,q):=Z.to;exact#[_,q,λv q=>nomatch q]
  .exact Am Z.h1
  .exact Am Z.h2
 keep:=λi h m Z k=>#[k z ∅ _ Z.z,k ti ∅ _ Z.ti,by let(u,v,q):=Z.to;exact#[u,v,k to ∅ _ q],AG (λo e=>k j1 ∅ o e) Z.h1,AG (λo e=>k j2 ∅ o e) Z.h2]
 item:=by
  intro X L hw J S i l s σ H E I Y Z G;subst L hw J;let(g,f,x,y,V,U,ex,j):=G;let(d,C,B):=I.u9 V;let(i2,t,r):=I.u9 U;let(u,eu,ru):=C.get ex;let(v,ev,rv):=t.get j;have ne:∀c∈[z,ti,to,j1,j2],a≠c/\b≠c:=λc W=>#[AF I V (Y c W),AF I U (Y c W)];have D:HZ.Apart z ti to j1 j2 a b:=#[F.a1,F.a2,F.a3,F.a4,F.a5,F.a6,F.a7,F.a8,F.a9,F.b0,(ne z ∅).1,(ne to ∅).1,(ne j1 ∅).1,(ne j2 ∅).1,(ne z ∅).2,(ne to ∅).2,(ne j1 ∅).2,(ne j2 ∅).2];let(w1,w2,O):=Z.to;have R:X.A.in1.handled=ϋ:=I.ok.hd S;refine HZ.next_item D (Bu R j1 a _ k1) (Bu R j2 b _ k2) Z.z Z.ti O #[Z.h1,B] #[Z.h2,r] (by simpa using eu) (by simpa using ev) λm c1 c2 c3 c4 c5 c6 N=>#[_,rfl,?_];refine wpAny_letOwnedTupleGo_zip c1 λh2 d1 T=>?_;have hn:=I.aK.fresh (ahz _);have p:=Í Z.z;have xZ:IsTup h2 _ _:=#[_,T.extBut _ _ (ś p) c5,rfl,_,rfl]
  have I2:Inv X l σ (upd H _ (.tup _)) { s with heap:=h2,toks:=s.toks }:=I.WA (λc o n e=>by
   have q:=by simpa using n
   exact T.extBut c o q.1 (N c o q.1 q.2.2.1 q.2.2.2.1 q.2.2.2.2 e)) Y (ahz _) #[by show 2<=Õ;decide,_,.cons ru (.cons rv .nil),xZ]
  refine#[.ref _,_,I2,rfl,#[_,x,y,hn,rfl,rfl,λxs' ys' q1 q2=>?_],?_,λc W=>?_]
  .rw[I.MV q1 V,I.MV q2 U];exact#[ex,j]
  .refine#[d1,T.extBut _ _ F.a1 (N _ _ F.a1 F.a5 F.a6 F.a7 Z.ti),#[_,_,T.extBut _ _ F.a2 c2],AG (λo e=>T.extBut _ _ F.a3 e) c3.1,AG (λo e=>T.extBut _ _ F.a4 e) c4.1]
  .rw[bB]
   .exact(Y c W).1
   .intro e
    obtain⟨o,eo⟩:∃o,s.heap.get? c=ϊ o:=by
     have M:=by simpa using W
     rcases M with q|q|q|q|q
     .rw[q];exact#[_,Z.z]
     .rw[q];exact#[_,Z.ti]
     .rw[q];exact#[_,O]
     .rw[q];let(o,e,_):=Am Z.h1;exact#[o,e]
     .rw[q];let(o,e,_):=Am Z.h2;exact#[o,e]
    exact absurd (Í eo) (by rw[e];exact ò _)
 done:=by
  intro X L hw J S i l s σ H E I Y Z G;subst L hw J;let(g,f,V,U,hle):=G;let(d,C,B):=I.u9 V;let(i2,t,r):=I.u9 U;have ne:∀c∈[z,ti,to,j1,j2],a≠c/\b≠c:=λc W=>#[AF I V (Y c W),AF I U (Y c W)];have D:HZ.Apart z ti to j1 j2 a b:=#[F.a1,F.a2,F.a3,F.a4,F.a5,F.a6,F.a7,F.a8,F.a9,F.b0,(ne z ∅).1,(ne to ∅).1,(ne j1 ∅).1,(ne j2 ∅).1,(ne z ∅).2,(ne to ∅).2,(ne j1 ∅).2,(ne j2 ∅).2];let(w1,w2,O):=Z.to;have R:X.A.in1.handled=ϋ:=I.ok.hd S;have l1:=C.length;have l2:=t.length;refine HZ.next_end D (Bu R j1 a _ k1) (Bu R j2 b _ k2) Z.z Z.ti O #[Z.h1,B] #[Z.h2,r] ?_ λm N=>#[rfl,I.Mc (λc o n e=>by
   have q:=by simpa using n
   exact N c o q.1 q.2.2.1 q.2.2.2.1 q.2.2.2.2 e) Y]
  rcases hle with q|q
  .simp;omega
  .simp;omega
 self:=λA i s Q E Z h=>wpAny_pyIter_zip Z.z h
end L2
namespace HZ
open PySem PySem.Spec PyProof.Rows L2
@[reducible] noncomputable def yM:Bool->String
 |true=>"tuple_iterator"
 |false=>"list_iterator"
abbrev y1 (k:Bool) (h:ū) (m1:þ):ū:=h.push { cls:=.type (yM k),data:=.fields #v[.ref m1,.int 0 0] }
abbrev y2 (k l:Bool) (h:ū) (m1 m2:þ):ū:=(y1 k h m1).push { cls:=.type (yM l),data:=.fields #v[.ref m2,.int 0 0] }
abbrev y3 (k l:Bool) (h:ū) (m1 m2:þ):ū:=(y2 k l h m1 m2).push { cls:=.type "tuple",data:=.seq #v[.ref h.objs.size,.ref (y1 k h m1).objs.size] }
abbrev y4 (k l:Bool) (h:ū) (m1 m2:þ):ū:=(y3 k l h m1 m2).push { cls:=.type "tuple",data:=.seq #v[.none,.none] }
abbrev y5 (k l:Bool) (h:ū) (m1 m2:þ):ū:=(y4 k l h m1 m2).push { cls:=.type "zip",data:=.fields #v[.none,.bool ύ,.bool ύ,.ref (y2 k l h m1 m2).objs.size,.ref (y3 k l h m1 m2).objs.size] }
def Qo:∀{k},mJ k s.heap m xs->Q (.ref s.heap.objs.size) { s with heap:=s.heap.push { cls:=.type (yM k),data:=.fields #v[.ref m,.int 0 0] } }->ë (ê P w) A (pyIter (.ref m)) Q E s
 |true,h,q=>wpAny_pyIter_tuple h q
 |false,h,q=>Ť h q
def X2 (o):∀{k},mJ k h m xs->mJ k (h.push o) m xs
 |true,x=>Heap.IsTuple.push x o
 |false,x=>Heap.IsList.push x o
def ZU (k l:Bool) (m1 m2:þ) (xs ys:Array ã) :
  Meets (ż.«zip.__new__» #[[.type "zip",.ref m1,.ref m2],[]]) (λ_ R s=>mJ k s.heap m1 xs/\mJ l s.heap m2 ys/\R (.ok (.ret (.ref (y4 k l s.heap m1 m2).objs.size))) { s with heap:=y5 k l s.heap m1 m2 }) :=
 .of_wp λprog w A R s h=>by
  let(Z,g,d,Y,os):=s;let(X,W,h):=h;have V:=sub_zip;have U:mJ k (Shared.heap #[Z,g,d,Y,os]) m1 xs:=X;have L2:mJ l (Shared.heap #[Z.push { cls:=.type (yM k),data:=.fields #v[.ref m1,.int 0 0] },g,d,Y,os]) m2 ys:=X2 _ W
  wp_walk using Qo U,Qo L2
  exact#[_,rfl,h]
section
variable {P:ø} {w:Ĭ} {A:đ} {E:ã->Ý->Prop} {s:Ý}
def N0:∀{k},h.get? i=ϊ { cls:=.type (yM k),data:=.fields #v[.ref m,.int 0 0] }->o9 k h i m 0
 |true,e=>#[_,e,rfl,rfl]
 |false,e=>#[_,e,rfl,rfl]
def WC (h1:mJ k s.heap m1 xs) (h2:mJ l s.heap m2 ys)
 (h:∀h',IsZip h' (s.heap.objs.size+4) (s.heap.objs.size+2) (s.heap.objs.size+3) .none->agD h' (s.heap.objs.size+2) (.ref s.heap.objs.size) (.ref (s.heap.objs.size+1)) ->
   agD h' (s.heap.objs.size+3) .none .none->o9 k h' s.heap.objs.size m1 0->o9 l h' (s.heap.objs.size+1) m2 0->h'.objs.size=s.heap.objs.size+5 ->
 (∀c o,s.heap.get? c=ϊ o->h'.get? c=ϊ o)->Q (.ref (s.heap.objs.size+4)) { s with heap:=h' }):ë (ê P w) A (call (.type "zip") [.ref m1,.ref m2]) Q E s:=by
 refine callType_new F.called_zip (by decide) (F.typeCall_zip_2 ..) (F.newCall_zip_2 ..) (λobj=>F.args_object_init_3 obj ..) F.entry_zip_new (ZU k l m1 m2 xs ys) #[h1,h2,?_];have e1:(y1 k _ m1).objs.size=s.heap.objs.size+1:=ý ..;have e2:(y2 k l s.heap m1 m2).objs.size=s.heap.objs.size+2:=by rw[ý,e1]
 have e3:(y3 k l s.heap m1 m2).objs.size=s.heap.objs.size+3:=by rw[ý,e2]
 have Z:(y4 k l s.heap m1 m2).objs.size=s.heap.objs.size+4:=by rw[ý,e3]
 have W:(y5 k l s.heap m1 m2).objs.size=s.heap.objs.size+5:=by rw[ý,Z]
 have Y:(y5 k l s.heap m1 m2).get? _=ϊ _:=Ì _ rfl;have X:(y5 k l s.heap m1 m2).get? _=ϊ _:=Á _ (Ì _ rfl);have g3:(y5 k l s.heap m1 m2).get? _=ϊ _:=Á _ (Á _ (Ì _ rfl));have g2:(y5 k l s.heap m1 m2).get? _=ϊ _:=Á _ (Á _ (Á _ (Ì _ rfl)));have g1:(y5 k l s.heap m1 m2).get? _=ϊ _:=Á _ (Á _ (Á _ (Á _ (Ì _ rfl))));rw[e2,e3,Z] at Y;rw[e1,e2] at g3;rw[e3] at X;rw[e1] at g2;rw[Z];exact#[#[_,Y,rfl],h _ Y g3 X (N0 g1) (N0 g2) W λc o q=>Á _ (Á _ (Á _ (Á _ (Á _ q))))]
end
end HZ
namespace L2
open PySem PySem.Spec PyProof.Rows
def X3 (n:Nat):RE (n+4) (n+2) (n+3) n (n+1):=by constructor<;>(show (_:Nat)≠_)<;>omega
section
variable {X:Cx} {elts:List ŕ} {kk:Nat} {tp:Pos}
def Qp (k l:Bool) (K:Ň) (ta:TA):TI:=fun σ H R=>ta σ H λY Z=>∃a b X W,Y=[.ref a,.ref b]/\kC k K Z a X/\kC l K Z b W/\R (Bv k l K a b) Z
noncomputable abbrev adO:=Qp ό ό
def WD:ü "zip"=ϊ (.type "zip"):=nofun
def abP {σ:St} {H} {s} (I:Inv X π σ H s):∀b∈[s.heap.objs.size+4,s.heap.objs.size+2,s.heap.objs.size+3,s.heap.objs.size,s.heap.objs.size+1],gn X π H b:=λb Y=>by
 have Z:s.heap.objs.size<=b:=by
  have q:=by simpa using Y
  omega
 exact I.rS Z (I.aK.fresh Z)
def N1 {k l} {a b} {ta} {p pos} (hg:Gl X "zip") (hm:X.mg "zip"=ϋ) (ha:PA X [a,b] ta) (hs:É [a,b] X.env=[(ύ,Ħ a X.env),(ύ,Ħ b X.env)]:=by rfl) (cS:É [b] X.env=[(ύ,Ħ b X.env)]:=by rfl) :
  PI X (.Tuple elts kk tp) (.Call (.Name "zip" p) [a,b] [] pos) (Qp k l X.K ta):=by
 intro W s σ H R I h;refine Call_ (pP I hg hm WD (ĩ (aQ (ha pos W s σ H _ I h) λD C ⟨B,V,Z,U,T⟩=>?_) (by rw[hs,cS]) (by rw[cS];rfl)));let(a,b,A,z,e,S,Q,q):=T;subst e;let(u,v,rfl,P,O):=vals2 U;cases P;cases O;let(y,_,N):=Z.u9 S;let(x,_,M):=Z.u9 Q;refine HZ.WC N M λw Y L J G F t E=>?_;refine wpAny_pyIter_zip Y ?_;exact#[_,_,_,_,V,rfl,Z.kept E,WB a b _ _ _ _ _ (X3 _),#[Y,L,#[_,_,J],G,F],abP Z,q]
def ZV {p pos} (hg:Gl X "zip") (hm:X.mg "zip"=ϋ) (ha:PA X [a,b] ta) (hs:É [a,b] X.env=[(ύ,Ħ a X.env),(ύ,Ħ b X.env)]:=by rfl) (cS:É [b] X.env=[(ύ,Ħ b X.env)]:=by rfl) :
  PI X (.Tuple elts kk tp) (.Call (.Name "zip" p) [a,b] [] pos) (adO X.K ta):=N1 hg hm ha hs cS
end
end L2
namespace PySem
end PySem
namespace L2
open PySem PySem.Spec PyProof.Rows
def map_getD (ns:List Int):(ä ns.length).map (λi=>ns.getD i 0)=ns:=by
 apply ŧ;intro i;rw[à];by_cases h:i<ns.length
 .rw[ķ h]
  simp[aho,Ñ h]
 .rw[ě (by simpa using h),ě ⋯]
  rfl
structure M1 (X:Cx) (o) (m) (apos:Pos) (e) (bh):Prop where
 base:ĭ o m X.env (Ħ o X.env)=Ħ o X.env
 nO:((Ġ bh (É [e] X.env)).all (λx=>!x.1)&&(ž bh (ŀ [] X.env)).all (λx=>x.1.isSome)
  && ώ (([e]).length+([]:List Ź).length+(if ([]:List Ź).isEmpty then 0 else 1)<30))=ό
 line:(apos.endLine==bh.line)=ό
 trees:Ġ bh (É [e] X.env)=[(ύ,Ħ e X.env)]
structure M2 (X:Cx) (o) (m) (apos:Pos) (e f) (bh):Prop where
 base:ĭ o m X.env (Ħ o X.env)=Ħ o X.env
 nO:((Ġ bh (É [e,f] X.env)).all (λx=>!x.1)&&(ž bh (ŀ [] X.env)).all (λx=>x.1.isSome)
  && ώ (([e,f]).length+([]:List Ź).length+(if ([]:List Ź).isEmpty then 0 else 1)<30))=ό
 line:(apos.endLine==bh.line)=ό
 trees:Ġ bh (É [e,f] X.env)=[(ύ,Ħ e X.env),(ύ,Ħ f X.env)]
noncomputable def O9 (sc:ahl) (on:List (Str×NameKind)) (oN N:List Str) (nt:Nat) (cap:List Nat):Bool :=
 ώ (sc.kind=.function)&&sc.names.all (λx=>ώ (x.2≠.cell))&&sc.names.all (λx=>ώ (x.2=.local->sc.names.lookup x.1=ϊ .local)) &&
 sc.names.all (λx=>ώ (x.2=.free->sc.names.lookup x.1=ϊ .free/\(on.lookup x.1=ϊ .cell\/on.lookup x.1=ϊ .free)))&&ώ (N.length=nt+cap.length) &&
 (ä cap.length).all (λk=>match cap[k]? with
  |some j=>match oN[j]? with
   |some x=>ώ (N[nt+k]?=ϊ x)&&ώ ((x,NameKind.free)∈sc.names)
   |none=>ύ
  |none=>ό)
def FH (h:O9 sc X.env.scope.names X.N N nt cap=ό):wZ X sc N nt cap:=by
 delta O9 at h;erw[Â,Þ,Å] at h;obtain⟨⟨⟨⟨⟨Z,Y⟩,W⟩,V⟩,U⟩,T⟩:=h;refine#[Z,Y,W,λx S e=>V x S e,U,λk j e=>?_];have R:=(Ç.mp e).1;have:=T k (î.mpr R);rw[e] at this;dsimp only at this
 cases ex:X.N[j]? with
 |none=>rw[ex] at this;cases this
 |some x =>
  rw[ex] at this;erw[Â,Å] at this;exact#[x,rfl,this.1,this.2]
end L2
namespace TS
open PySem
abbrev nA (l:List Nat):Prop:=l.Pairwise (· < ·)
def X4 (xs:Array Nat) (k d):xs.getD k d=xs.toList.getD k d:=by
 cases xs with
 |mk l =>
  by_cases h:k<l.length
  .simp[Array.getD,aho,h]
  .simp[Array.getD,aho,h]
def An (h:nA l) (lE:a<b) (hb:b<l.length):l.getD a 0<l.getD b 0:=by
 have:=List.pairwise_iff_getElem.mp h a b ⋯ hb lE;simpa [Ñ hb,Ñ (show a<l.length by omega)] using this
def X5 (l:List Nat) (hk:k<l.length) (d e):l.getD k d=l.getD k e:=by
 simp[aho,Ñ hk]
theorem Er (xs) (j) (hr:nA xs.toList):∀fuel lo hi,hi-lo<=fuel->lo<=hi->hi<=xs.toList.length->(∀k,k<lo->xs.toList.getD k 0<j)->(∀k,hi<=k->k<xs.toList.length->j<=xs.toList.getD k 0) ->
  agL xs j fuel lo hi<=xs.toList.length/\(∀k,k<agL xs j fuel lo hi->xs.toList.getD k 0<j)/\(∀k,agL xs j fuel lo hi<=k->k<xs.toList.length->j<=xs.toList.getD k 0)
 |0,lo,hi,S,R,Z,Y,X=>by
  have e:lo=hi:=by omega
  subst e;exact#[Z,Y,X]
 |fuel+1,lo,hi,S,R,Z,Y,X=>by
  delta agL;by_cases U:lo<hi
  .rw[Ù U]
   dsimp only;have T:(lo+hi) / 2<xs.toList.length:=by omega
   rw[X4,X5 _ T j 0];by_cases W:xs.toList.getD ((lo+hi) / 2) 0<j
   .rw[Ù W]
    refine Er xs j hr fuel _ _ ⋯ ⋯ Z (λk Q=>?_) X;by_cases V:k=(lo+hi) / 2
    .rw[V];exact W
    .exact Nat.lt_trans (An hr ⋯ T) W
   .rw[é W]
    refine Er xs j hr fuel _ _ ⋯ ⋯ ⋯ Y (λk Q V=>?_);by_cases P:k=(lo+hi) / 2
    .rw[P];omega
    .have:=An hr (show (lo+hi) / 2<k by omega) V
     omega
  .rw[é U]
   have e:lo=hi:=by omega
   subst e;exact#[Z,Y,X]
def LF (xs) (j) (hr:nA xs.toList):ĕ xs j<=xs.toList.length/\(∀k,k<ĕ xs j->xs.toList.getD k 0<j)/\(∀k,ĕ xs j<=k->k<xs.toList.length->j<=xs.toList.getD k 0):=by
 exact Er xs j hr _ 0 _ ⋯ (ć _) ∅ (λk Z=>by omega) (λk Z Y=>by simp at Y;omega)
def UW {l:List Nat} {p j} (h:∀k,k<p->l.getD k 0<j):∀x∈l.take p,x<j:=by
 intro x Y;let(k,X,e):=age Y;have Z:k<p/\k<l.length:=by rw[ų] at X;omega
 have:=h k Z.1;rw[<- e];simpa [Ñ Z.2] using this
def UX {l:List Nat} {p j} (h:∀k,p<=k->k<l.length->j<=l.getD k 0):∀x∈l.drop p,j<=x:=by
 intro x Y;let(k,X,e):=age Y;have Z:p+k<l.length:=by rw[List.length_drop] at X;omega
 have:=h _ ⋯ Z;rw[<- e];simpa [Ñ Z] using this
def X6 (hr:nA xs.toList) (hn:xs[ĕ xs j]?≠ϊ j):nA (SetTable.insertAt xs (ĕ xs j) j).toList:=by
 let(T,V,U):=LF xs j hr;rw[SetTable.toList_insertAt];have a1:=UW V;have a2:∀x∈xs.toList.drop (ĕ xs j),j<x:=by
  intro x hx;have Y:=UX U;have X:nA (xs.toList.drop (ĕ xs j)):=agR (List.drop_sublist ..) hr
  cases Z:xs.toList.drop _ with
  |nil=>rw[Z] at hx;cases hx
  |cons y r =>
   rw[Z] at X hx Y;have hy:j≠y:=by
    intro e;apply hn;have:(xs.toList.drop (ĕ xs j))[0]?=ϊ y:=by rw[Z];rfl
    have e2:xs.toList[ĕ xs j]?=ϊ y:=by simpa using this
    rw[<- ĺ,e2,e]
   have W:=Nat.lt_of_le_of_ne (Y y Ö) hy
   rcases Ô.mp hx with e|hx
   .rw[e];exact W
   .exact Nat.lt_trans W ((ö.mp X).1 x hx)
 first
  |(refine List.pairwise_append.mpr ⟨agR (agH ..) hr,ö.mpr ⟨a2,agR (List.drop_sublist ..) hr⟩,λx hx y hy=>?_⟩
    rcases Ô.mp hy with e|hy
    .rw[e];exact a1 x hx
    .exact Nat.lt_trans (a1 x hx) (a2 y hy))
  |trace_state
theorem Es (t) (h):∀fuel p j dm,(∀d,p.dummy=ϊ d->t.slot d=.dummy)->ahp t (λ_=>h+1) h fuel p=ϊ (.empty j dm)->t.slot j=.empty/\∀d,dm=ϊ d->t.slot d=.dummy
 |0,p,j,dm,X,e=>by simp[ahp] at e
 |fuel+1,p,j,dm,X,e=>by
  delta ahp at e
  cases Y:t.slot p.j with
  |empty =>
   rw[Y] at e;simp at e;rw[<- e.1,<- e.2];exact#[Y,X]
  |dummy =>
   rw[Y] at e;refine Es t h fuel _ j dm (λd Z=>?_) e;delta SetTable.advance at Z;split at Z
   .simp at Z;rw[<- Z];exact Y
   .simp at Z;rw[<- Z];exact Y
  |live i =>
   rw[Y] at e;have W:(h+1==h)=ύ:=by simp;omega
   erw[W,Ê,ô] at e;refine Es t h fuel _ j dm (λd Z=>?_) e;delta SetTable.advance at Z;split at Z
   .exact X d Z
   .exact X d Z
def Md {t:SetTable} {j} (h:t.slot j=.empty\/t.slot j=.dummy):t.place[ĕ t.place j]?≠ϊ j:=by
 intro e;have:t.slot j=.live (ĕ t.place j):=by
  delta SetTable.slot;simp[e]
 rw[this] at h
 rcases h with h|h<;>cases h
def WE {t:SetTable} {h} {j} {b} (e:t.freeSlot h=ϊ (j,b)):t.place[ĕ t.place j]?≠ϊ j:=by
 delta SetTable.freeSlot SetTable.probe at e;split at e
 .rename_i Y Z X
  have k:=Es t h _ _ Y Z (λd W=>by simp[SetTable.probeStart] at W) X;simp at e;rw[<- e.1]
  cases Z with
  |none=>exact Md (.inl k.1)
  |some d=>exact Md (.inr (k.2 d rfl))
 .cases e
structure jE (led) (t:SetTable):Prop where
 led:t.led=led
 rise:t.plain=ό->nA t.place.toList
def zH (h:jE led t) (n):jE led (t.standIn n):=#[h.led,λz=>by simp[SetTable.standIn] at z]
def Vz {t} (h:jE led t) (es) (hs) (x):jE led (layNew t es hs x).2.1:=by
 delta layNew;split
 .rename_i slot Y e
  dsimp only;delta SetTable.orStandIn;have Z:jE led (t.put slot).1:=#[h.led,λz=>X6 (h.rise z) (WE e)];split
  .exact Z
  .exact zH Z _
 .exact zH h _
def X7 {mask finger moves} {led plain} {hs} {o} (e:SetTable.laid mask finger moves led plain hs=ϊ (t,o)):jE led t/\t.plain=plain:=by
 delta SetTable.laid at e
 cases X:SetTable.layClean mask hs with
 |none=>rw[X] at e;simp at e
 |some owner =>
  rw[X] at e;simp at e;let(e1,e2):=e;subst e1;refine#[#[rfl,λ_=>?_],rfl];erw[List.map_filterMap];refine List.pairwise_filterMap.mpr ?_;refine List.Pairwise.imp ?_ (List.pairwise_lt_range);intro a b U x Z y Y
  cases W:(owner[a]?.getD ϋ) with
  |none=>rw[W] at Z;simp at Z
  |some q =>
   cases V:(owner[b]?.getD ϋ) with
   |none=>rw[V] at Y;simp at Y
   |some r =>
    rw[W] at Z;simp at Z Y;omega
def WG (h:jE led t) (es) (n):jE led (relayAll t es n).2.1:=by
 delta relayAll;split
 .rename_i Z o e
  dsimp only;split
  .have k:=X7 e
   exact#[k.1.led.trans h.led,k.1.rise]
  .exact zH h _
 .exact zH h _
def WH (led):jE led (.fresh 0 0 led):=#[rfl,λ_=>List.Pairwise.nil]
open PySem.Spec PyProof.Rows
section
variable {P:ø} {w:Ĭ} {A:đ} {E:ã->Ý->Prop} {s:Ý} {led:Bool}
def iJ (P:ø) (w:Ĭ) (led:Bool) (h:ū) (a:þ) (S:Int->Bool) (n:Nat):Prop :=
 ∃o Z Y t,h.get? a=ϊ o/\o.ExactSet/\o.data=.set Z Y t/\ElemsOf (ŷ P w) Z.toList/\(∀k,S k=ό↔∃e∈Z.toList,(ŷ P w).is k e.2=ό)/\Z.size<agv/\t.fits Z.size=ό/\Z.size=n/\jE led t
def iJ.at (x:iJ P w led h a S n) (k:∀o,h.get? a=ϊ o->h'.get? a=ϊ o):iJ P w led h' a S n:=by
 let(o,Z,Y,t,X,r):=x;exact#[o,Z,Y,t,k o X,r]
def iJ.congr (x:iJ P w led h a S n) (e:∀k,S k=S' k) (en:n=n'):iJ P w led h a S' n':=by
 obtain rfl:S=S':=funext e;subst en;exact x
def Et {es jN} {ep} {t t'} {h:ū} (hu:h.get? a=ϊ u) (hx:u.ExactSet) (hd:u.data=.set es ep t) {S}
  (c1:ElemsOf (ŷ P w) jN.toList) (c2:∀k,S k=ό↔∃e∈jN.toList,(ŷ P w).is k e.2=ό) (c3:jN.size<agv) (c4:t'.fits jN.size=ό) (c5:jE led t') :
  (h.update a (Obj.putSet jN t')).get? a=ϊ { u with data:=.set jN (ep+1) t' }/\iJ P w led (h.update a (Obj.putSet jN t')) a S jN.size:=by
 have g:=(SetOf_store hu hx hd c1 c2 c3 c4).1;exact#[g,_,jN,_,t',g,hx,rfl,c1,c2,c3,c4,rfl,c5]
def ZW {S} {n} {k} {tk} {Q} (hS:iJ P w led s.heap a S n) (aiS:n+1<agv)
  (h:∀h',Ĩ a s.heap h'->iJ P w led h' a (λj=>S j||ώ (j=k)) (if S k then n else n+1)->Q (!S k) { s with heap:=h' }) :
  ë (ê P w) A (setAddHashed a (.int k tk) ((ŷ P w).hash k)) Q E s:=by
 let(u,U,c,t,R,K,O,J,I,m,C,i,g):=hS;have ky:(ŷ P w).is k (.int k tk)=ό:=intKind_is ..;have sc:(Value.int k tk).scannable=ό:=rfl;refine À (Ũ R O C ?_);dsimp only;rw[byScan_of sc m J];refine À (À (ŵ ?_));refine À (wpAny_setScan_of ky R O C J ?_)
 cases f:U.toList.findIdx? (λe=>(ŷ P w).is k _) with
 |some j =>
  let(hj,pj,_):=List.findIdx?_eq_some_iff_getElem.mp f;have N:=(I k).mpr #[_,agX hj,pj];have q:=h _ (Heap.SameBut.refl a _) #[u,U,c,t,R,K,O,J,λj'=>by
   rw[θ,Å,<- I j'];exact#[λz=>z.elim id λe=>by rw[e];exact N,ſ],m,C,by rw[N];exact i,g]
  rw[N] at q;exact Ä (Ä q)
 |none =>
  have N:S k=ύ:=by
   rw[<- Ŵ,I k];rintro ⟨e,X,pe⟩;have z:=List.findIdx?_eq_none_iff.mp f e X;rw[pe] at z;cases z
  have way:∀b {B} {y},y () B->ë (ê P w) A (match b with|true=>rule "set.scan.the-table-gave-way"|false=>pure ()) y E B :=
   λb B y q=>by cases b<;>first|exact Ä q|exact ŵ q
  have pm:=layNew_perm t U ((ŷ P w).hash k) (.int k tk);have x:=layNew_fits t U ((ŷ P w).hash k) (.int k tk);have H:=Vz g U ((ŷ P w).hash k) (.int k tk);generalize layNew t U _ _=L at pm x H |-;let(Z,t1,aiM,aiW):=L;dsimp only at pm x H |-;rw[agM] at pm;have v:=(J.push ky sc).perm pm;have r:=mem_push_iff ky I pm;have z1:Z.size=n+1:=by
   have l:=pm.length_eq;rw[Ï,û,û,i] at l;exact l
  have W:Z.size<agv:=by omega
  refine À (way _ ?_);let(g1,d):=Et R K O v r W x H;have G:=ĝ s.heap a (Obj.putSet Z t1);have fin:∀h',Ĩ a _ h'->iJ P w led h' a (λj=>S j||ώ _) Z.size->Q ό _:=λh' sb T=>by
   have q:=h h' sb;rw[N] at q;rw[z1] at T;exact q T
  have Y:=relayAll_perm t1 Z (SetTable.grown Z.size);have F:=relayAll_fits t1 Z (SetTable.grown Z.size);have D:=WG H Z (SetTable.grown Z.size);have hv:hashByValue 8 (Value.int k tk)=pure ό:=rfl;split
  .refine À ?_
   refine Ä ?_;erw[ú];refine À (agN R O ?_ (χ W));split
   .generalize relayAll t1 Z _=L2 at Y F D |-
    let(p,t2,o):=L2;have V:=by
     have l:=Y.length_eq;rwa [û] at l
    have f2:∀j,(S j||ώ _)=ό↔∃e∈p.toList,(ŷ P w).is j _=ό:=λj=>(r j).trans #[λ⟨e,X,q⟩=>#[e,Y.mem_iff.mpr X,q],λ⟨e,X,q⟩=>#[e,Y.mem_iff.mp X,q]];refine À (way _ ?_);refine À (agN g1 rfl ?_ (χ (by rw[V];exact W)));let(g2,M):=Et g1 K rfl (v.perm Y) f2 (by rw[V];exact W) F D;rw[V] at M;exact Ä (Ä (fin _ (G.trans (ĝ _ a _)) M))
   .exact Ä (Ä (fin _ G d))
  .refine À (Ä ?_)
   erw[ú];refine À (agN R O ?_ (χ W));split
   .generalize relayAll t1 Z _=L2 at Y F D |-
    let(p,t2,o):=L2;have V:=by
     have l:=Y.length_eq;rwa [û] at l
    have f2:∀j,(S j||ώ _)=ό↔∃e∈p.toList,(ŷ P w).is j _=ό:=λj=>(r j).trans #[λ⟨e,X,q⟩=>#[e,Y.mem_iff.mpr X,q],λ⟨e,X,q⟩=>#[e,Y.mem_iff.mp X,q]];refine À (way _ ?_);refine À (agN g1 rfl ?_ (χ (by rw[V];exact W)));let(g2,M):=Et g1 K rfl (v.perm Y) f2 (by rw[V];exact W) F D;rw[V] at M;exact Ä (Ä (fin _ (G.trans (ĝ _ a _)) M))
   .exact Ä (Ä (fin _ G d))
end
def TU:entryFor table "set.__iter__"=ϊ ż.«frozenset.__iter__»:=entryFor_alias (id':="frozenset.__iter__") (by kernel_rfl) rfl nofun (by kernel_rfl)
def lQ:Slot "set_iterator" "__next__" "set_iterator.__next__" :=
 .of (owner:="set_iterator") (n:="__next__") (by kernel_rfl) nofun nofun nofun
  (by first|exact .inl nofun|exact .inr nofun) (by kernel_rfl)
def zx:entryFor table "set_iterator.__next__"=ϊ ż.«set_iterator.__next__»:=entryFor_of_tree (by kernel_rfl)
def zC (a):argsOk "set_iterator.__next__" #[[a],[]]:=by kernel_rfl
def KS:Slot "set_iterator" "__iter__" "set_iterator.__iter__" :=
 .of (owner:="set_iterator") (n:="__iter__") (by kernel_rfl) nofun nofun nofun
  (by first|exact .inl nofun|exact .inr nofun) (by kernel_rfl)
def ko (h:ū) (I a:þ) (first:ã) (i n ep:Nat):Prop:=∃o,h.get? I=ϊ o/\o.cls=.type "set_iterator"/\o.data=.fields #v[first,.int i 0,.ref a,.int n 0,.int ep 0]
section
variable {P:ø} {w:Ĭ} {A:đ} {E:ã->Ý->Prop} {s:Ý}
def N2 {slot i n ep nx:Nat} {es} {Q} (hit:ko s.heap I a (.int slot 0) i n ep)
 (hu:s.heap.get? a=ϊ u) (hd:u.data=.set es ep t) (hf:t.fits es.size=ό) (hn:es.size=n)
 (hs:∀A' Q' E',Q' (ϊ (x,nx)) s->ë (ê P w) A' (setNext a slot i ep) Q' E' s)
 (hQ:∀h',ko h' I a (.int nx 0) (i+1) n ep->Ĩ I s.heap h'->Q (ϊ x) { s with heap:=h' }):ë (ê P w) A (aht (.ref I)) Q E s:=by
 let(o,Y,X,Z):=id hit;have W:s.TypeIs (.ref I) _:=#[o,Y,X];refine À (Ů (Ĉ W lQ
  (ă lQ W zx ?_ (zC _))))
 refine À (Ä ?_);refine À (wpAny_fieldsOf Y Z ?_);refine À (ů hu hd hf ?_);rw[hn];simp only[Ļ,Ê,↓reduceIte,İ];refine À (hs _ _ _ ?_);refine À (Ŷ Y Z ∅ ?_);refine À (Ŷ (Ě _ Y (ŋ (ċ Z _))) (ċ Z _) ∅ ?_);refine Ä #[x,rfl,Ä (hQ _ #[_,Ě _ (Ě _ Y (ŋ (ċ Z _))) (ŋ (ċ (ċ Z _) _)),(agK ..).trans ((agK ..).trans X),?_] ((ĝ ..).trans (ĝ ..)))];rw[ċ (ċ Z _)];simp[ł]
def VA (hm:m≠0) (h:Q (w.draws src (s.drawn.get src) % m) { s with drawn:=s.drawn.bump src }):ë (ê P w) A (choose src m) Q E s:=fun Y p Z=>by
 exact#[hm,h]
def Me (hh:A.handled=ϋ) (ho:s.heap.get? I=ϊ o) (fT:o.data=.fields vs) (h2:2<vs.size)
 (hQ:∀h',agf I s.heap h'->Q ϋ { s with heap:=h' }) :
  ë (ê P w) A.in1 (setField (.ref I) 2 .none >>= λ_=>newExc (.type "StopIteration") [] >>= λe=>(raiseNew e)) (λfin s'=>∃v,fin=Fin.done (Flow.ret v)/\ë (ê P w) A (pure (ϊ v)) Q E s')
   (λe s'=>ë (ê P w) A (isInstance e (ο "StopIteration") >>= λb=>if b=ό then pure ϋ else throw e) Q E s') s:=by
 refine À (Ŷ ho fT h2 ?_);refine À ?_
 refine À (m:=firstArgMember ..) (agg (by first|rfl | (rfl)) ?_)
 refine ď ?_ (by size_fits);refine À (wpAny_handled ?_)
 first|rw[hh]|rw[hh]
 refine À (Ä (wpAny_throw ?_));refine À (wpAny_isInstance #[_,Ì _ rfl,rfl] isSubtype_stop ?_);exact Ä (hQ _ (((ĝ ..).extBut.push _).push _))
def Pa {slot i n ep:Nat} {es} {Q} (hh:A.handled=ϋ) (hit:ko s.heap I a (.int slot 0) i n ep)
 (hu:s.heap.get? a=ϊ u) (hd:u.data=.set es ep t) (hf:t.fits es.size=ό) (hn:es.size=n)
 (hs:∀A' Q' E',Q' ϋ s->ë (ê P w) A' (setNext a slot i ep) Q' E' s)
 (hQ:∀h',agf I s.heap h'->Q ϋ { s with heap:=h' }):ë (ê P w) A (aht (.ref I)) Q E s:=by
 let(o,Z,W,Y):=id hit;have X:s.TypeIs (.ref I) _:=#[o,Z,W];refine À (Ů (Ĉ X lQ
  (ă lQ X zx ?_ (zC _))))
 refine À (Ä ?_);refine À (wpAny_fieldsOf Z Y ?_);refine À (ů hu hd hf ?_);rw[hn];simp only[Ļ,Ê,↓reduceIte,İ];refine À (hs _ _ _ ?_);exact Me hh Z Y ∅ hQ
def X8 {i n ep pl:Nat} {es} {x} {Q} (hit:ko s.heap I a (.ref tp) i n ep)
 (hu:s.heap.get? a=ϊ u) (hd:u.data=.set es ep t) (hf:t.fits es.size=ό) (hn:es.size=n) (yN:s.heap.IsTuple tp places) (bM:places[i]?=ϊ (.int pl tk)) (hx:es[pl]?=ϊ x)
 (hQ:∀h',ko h' I a (.ref tp) (i+1) n ep->Ĩ I s.heap h'->Q (ϊ x.2) { s with heap:=h' }):ë (ê P w) A (aht (.ref I)) Q E s:=by
 let(o,Z,X,Y):=id hit;let(op,V,U,np,T):=yN;have W:s.TypeIs (.ref I) _:=#[o,Z,X];refine À (Ů (Ĉ W lQ
  (ă lQ W zx ?_ (zC _))))
 refine À (Ä ?_);refine À (wpAny_fieldsOf Z Y ?_);refine À (ů hu hd hf ?_);rw[hn];simp only[Ļ,Ê,↓reduceIte,İ];refine À (Ŀ V T ?_);dsimp only;rw[bM];refine À (À (Ũ hu hd hf ?_));simp only[Ļ,Ê,↓reduceIte,İ];rw[hx];refine Ä ?_;refine À (Ŷ Z Y ∅ ?_);refine Ä #[_,rfl,Ä (hQ _ #[_,Ě _ Z (ŋ (ċ Y _)),(agK ..).trans X,?_] (ĝ ..))];rw[ċ Y];simp[ł]
def ZX (hh:A.handled=ϋ) (hit:ko s.heap I a (.ref tp) i n ep)
 (hu:s.heap.get? a=ϊ u) (hd:u.data=.set es ep t) (hf:t.fits es.size=ό) (hn:es.size=n) (yN:s.heap.IsTuple tp places) (bM:places[i]?=ϋ)
 (hQ:∀h',agf I s.heap h'->Q ϋ { s with heap:=h' }):ë (ê P w) A (aht (.ref I)) Q E s:=by
 let(o,Z,W,Y):=id hit;let(op,V,U,np,T):=yN;have X:s.TypeIs (.ref I) _:=#[o,Z,W];refine À (Ů (Ĉ X lQ
  (ă lQ X zx ?_ (zC _))))
 refine À (Ä ?_);refine À (wpAny_fieldsOf Z Y ?_);refine À (ů hu hd hf ?_);rw[hn];simp only[Ļ,Ê,↓reduceIte,İ];refine À (Ŀ V T ?_);dsimp only;rw[bM];refine À (Ŷ Z Y ∅ ?_);exact Me hh (Ě _ Z (ŋ (ċ Y _))) (ċ Y _) ∅ λh' e=>hQ h' (Heap.ExtBut.trans (ĝ ..).extBut e)
end
def Uh:entryFor table "set_iterator.__iter__"=ϊ ż.«dict_keyiterator.__iter__»:=entryFor_alias (id':="dict_keyiterator.__iter__") (by kernel_rfl) rfl nofun (by kernel_rfl)
def Uz (a):argsOk "set_iterator.__iter__" #[[a],[]]:=by kernel_rfl
section
variable {P:ø} {w:Ĭ} {A:đ} {E:ã->Ý->Prop} {s:Ý}
def Eu (hit:ko s.heap I a f i n ep) (h:Q (.ref I) s):ë (ê P w) A (pyIter (.ref I)) Q E s:=by
 let(o,Y,X,W):=id hit;have Z:s.TypeIs (.ref I) _:=#[o,Y,X];refine wpAny_pyIter_slot Z KS (ă KS Z Uh ?_ (Uz _));exact Ä #[_,rfl,_,_,Z,lQ.lookup,h]
def ko.at (x:ko h I a f i n ep) (k:∀o,h.get? I=ϊ o->h'.get? I=ϊ o):ko h' I a f i n ep:=by
 let(o,Z,r):=x;exact#[o,k o Z,r]
def Mf (js:w.params.followText "set-order"=ό) (hu:s.heap.get? a=ϊ u) (hd:u.data=.set es ep t) (hf:t.fits es.size=ό)
 (h:Q' (((agw (w.params.setOrder a ep) es)[i]?).map λe=>(e.2,slot)) s):ë (ê P w) A (setNext a slot i ep) Q' E s:=by
 refine À (Ũ hu hd hf ?_)
 show ë _ _ (if w.params.followText _=ό then _ else _) ..
 rw[Ù js];simp only[Ļ,Ê,↓reduceIte];refine À (À (Ũ hu hd hf ?_))
 show ë _ _ (if w.params.followText _=ό then _ else _) ..
 rw[Ù js];refine À (agY (Ä ?_));exact Ä h
def tR (hr:nA xs.toList) (hi:i<=xs.toList.length) (h1:∀k,k<i->xs.toList.getD k 0<slot) (h2:∀k,i<=k->k<xs.toList.length->slot<=xs.toList.getD k 0):ĕ xs slot=i:=by
 let(V,a1,a2):=LF xs slot hr;by_cases Y:ĕ xs slot<i
 .have X:=a2 _ (ahz _) ⋯
  have W:=h1 _ Y;omega
 .by_cases Z:i<ĕ xs slot
  .have X:=a1 i Z
   have W:=h2 i (ahz _) ⋯;omega
  .omega
def LG (js:w.params.followText "set-order"=ύ) (hu:s.heap.get? a=ϊ u) (hd:u.data=.set es ep t) (hf:t.fits es.size=ό)
 (hl:t.led=ό) (hp:t.plain=ό\/es.size<=1) (hb:ĕ t.place slot=i)
 (h:Q' (match es[i]?,t.place[i]? with|some (_,x),ϊ j=>ϊ (x,j+1) | _,_=>ϋ) s):ë (ê P w) A (setNext a slot i ep) Q' E s:=by
 refine À (Ũ hu hd hf ?_)
 show ë _ _ (if w.params.followText _=ό then _ else _) ..
 rw[é (by rw[js];decide)];split
 .rename_i Z
  have Y:(!t.plain&&ώ _)=ό:=Z
  rcases hp with hp|hp
  .rw[hp] at Y;cases Y
  .simp at Y;omega
 .refine À ?_
  show ë _ _ (if (!t.led&&!es.isEmpty)=ό then _ else _) ..
  rw[hl];refine Ä ?_;rw[hb];exact Ä h
def C6 (sb:Ĩ I s.heap h'):Moved [I] (λa b=>b=a) s { s with heap:=h' }:=#[λb o Z e=>by rw[sb.2 b (λz=>Z (by simp[z]))];exact e,rfl,rfl,rfl,ahz _]
def Dl (sb:agf I s.heap h'):Moved [I] (λa b=>b=a) s { s with heap:=h' }:=#[λb o Z e=>sb b o (λz=>Z (by simp[z])) e,rfl,rfl,rfl,ahz _]
end
def VB (hh:A.handled=ϋ) (gj:a≠I) (js:w.params.followText "set-order"=ό) (hd:u.data=.set es ep t) (hf:t.fits es.size=ό) (hsz:(agw (w.params.setOrder a ep) es).size=es.size) :
  WalksS P w A I [I,a] [I] (λa b=>b=a) es.size (λi v=>((agw (w.params.setOrder a ep) es).map (·.2))[i]?=ϊ v) (λi s=>ko s.heap I a (.int 0 0) i es.size ep/\s.heap.get? a=ϊ u) where
 sub:=λb W=>by simp at W;simp[W]
 grefl:=λ_=>rfl
 gtrans:=λ_ _ _ T S=>S.trans T
 frame:=λi s V L Z _ U=>#[Z.1.at λo e=>U I ∅ o e,U a ∅ _ Z.2]
 item:=λi s Q E hi Z Y=>by
  have R:i<(agw (w.params.setOrder a ep) es).size:=by rw[hsz];exact hi
  have ex:(agw (w.params.setOrder a ep) es)[i]?=ϊ (agw _ es)[i]:=by simp[R]
  refine N2 Z.1 Z.2 hd hf rfl (λO N M q=>Mf js Z.2 hd hf (by rw[ex];exact q)) λV it X=>?_;exact Y _ _ (by simp[ex]) #[it,by rw[X.2 a gj];exact Z.2] (C6 X)
 done:=λs Q E Z Y=>by
  refine Pa hh Z.1 Z.2 hd hf rfl (λO N M q=>Mf js Z.2 hd hf (by
   rw[show (agw _ es)[es.size]?=ϋ by simp[hsz]];exact q)) λV X=>Y _ (Dl X)
 self:=λi s Q E Z Y=>Eu Z.1 Y
def UY (hh:A.handled=ϋ) (gj:a≠I) (js:w.params.followText "set-order"=ύ) (hd:u.data=.set es ep t) (hf:t.fits es.size=ό) (hl:t.led=ό) (hp:t.plain=ό\/es.size<=1) (hr:nA t.place.toList) :
  WalksS P w A I [I,a] [I] (λa b=>b=a) es.size (λi v=>(es.map (·.2))[i]?=ϊ v) (λi s=>∃slot:Nat,ko s.heap I a (.int slot 0) i es.size ep/\s.heap.get? a=ϊ u/\i<=es.size/\(∀k,k<i->t.place.toList.getD k 0<slot)/\∀k,i<=k->k<t.place.toList.length->slot<=t.place.toList.getD k 0) where
 sub:=λb N=>by simp at N;simp[N]
 grefl:=λ_=>rfl
 gtrans:=λ_ _ _ K J=>J.trans K
 frame:=λi s M B Y _ V=>by
  let(slot,X,Z,T):=Y;exact#[slot,X.at λo e=>V I ∅ o e,V a ∅ _ Z,T]
 item:=λi s Q E hi Y W=>by
  let(slot,X,Z,T,S,R):=Y;have H:t.place.toList.length=es.size:=by
   erw[SetTable.fits,Â,beq_iff_eq,Å] at hf;simpa using hf.1
  have L:i<t.place.toList.length:=by omega
  have e1:es[i]?=ϊ es[i]:=by simp[hi]
  have e2:t.place[i]?=ϊ (t.place.toList.getD i 0):=by
   simp[aho,Ñ L]
  refine N2 X Z hd hf rfl (λG F D q=>LG js Z hd hf hl hp (tR hr ⋯ S R) (by rw[e1,e2];exact q)) λM it U=>?_;refine W _ _ (by simp[e1]) #[_,it,by rw[U.2 a gj];exact Z,hi,λk V=>?_,λk V C=>?_] (C6 U)
  .by_cases O:k=i
   .rw[O];omega
   .have:=An hr (show k<i by omega) L
    omega
  .have:=An hr (show i<k by omega) C
   omega
 done:=λs Q E Y W=>by
  let(slot,X,Z,T,S,R):=Y;have H:t.place.toList.length=es.size:=by
   erw[SetTable.fits,Â,beq_iff_eq,Å] at hf;simpa using hf.1
  refine Pa hh X Z hd hf rfl (λG F D q=>LG js Z hd hf hl hp (tR hr ⋯ S R) (by
   rw[show es[es.size]?=ϋ by simp];exact q)) λM U=>W _ (Dl U)
 self:=λi s Q E Y W=>by
  let(slot,X,_):=Y;exact Eu X W
def UZ (hh:A.handled=ϋ) (gj:a≠I) (hnt:tp≠I) (hd:u.data=.set es ep t) (hf:t.fits es.size=ό) (pl:List Nat) (bM:pl.length=es.size) (mK:∀x∈pl,x<es.size) :
  WalksS P w A I [I,a,tp] [I] (λa b=>b=a) es.size (λi v=>(pl.map λk=>(es.getD k (0,Value.none)).2)[i]?=ϊ v) (λi s=>ko s.heap I a (.ref tp) i es.size ep/\s.heap.get? a=ϊ u/\s.heap.IsTuple tp (pl.map λ(k:Nat)=>ł k).toArray) where
 sub:=λb U=>by simp at U;simp[U]
 grefl:=λ_=>rfl
 gtrans:=λ_ _ _ R O=>O.trans R
 frame:=λi s T tk Z _ Y=>#[Z.1.at λo e=>Y I ∅ o e,Y a ∅ _ Z.2.1,let ⟨o,V,r⟩:=Z.2.2;#[o,Y tp ∅ o V,r]]
 item:=λi s Q E hi Z X=>by
  have S:i<pl.length:=by omega
  have e1:=Ñ S;have Y:=mK _ (agX S);refine X8 (pl:=pl[i]) (x:=es.getD pl[i] (0,Value.none)) (tk:=0) Z.1 Z.2.1 hd hf rfl Z.2.2 (by simp[e1,ł]) (by simp[Y,Array.getD]) λT it W=>?_
  refine X _ _ (by simp[e1]) #[it,by rw[W.2 a gj];exact Z.2.1,let ⟨o,V,r⟩:=Z.2.2;#[o,by rw[W.2 tp hnt];exact V,r]] (C6 W)
 done:=λs Q E Z X=>ZX hh Z.1 Z.2.1 hd hf rfl Z.2.2 (by simp[bM]) λT W=>X _ (Dl W)
 self:=λi s Q E Z X=>Eu Z.1 X
noncomputable def gp (w:Ĭ):Bool:=!(w.params.followText "set-order")
section
variable {P:ø} {w:Ĭ} {A:đ} {E:ã->Ý->Prop} {s:Ý}
def X9 (a:ã)
 (hq:Q₁ (.ref s.heap.objs.size) { s with heap:=s.heap.push { cls:=.type "set",dict:=ϋ,data:=.set #v[] 0 (.fresh 0 0 (gp w)) } }) :
  Ÿ (ê P w) A (.call (.builtin "set.__new__") #[[.type "set",a],[]]) (wants Q₁ E) s:=by
 refine ahb ?_;show ë _ A.in1 (agZ "set.__new__" #[[.type "set",a],[]] >>= λ_=>again (.builtin "set.__new__" #[[.type "set",a],[]])) _ _ s;refine À ?_;refine agg (F.newCall_set_1 a) ?_;refine Ä #[plainId_quiet F.plain_set_new _,Ń F.entry_set_new ?_];rw[abL F.plain_set_new _];delta ż.«set.__new__» Builtin.Frozenset.newClass;have ss:=sub_set_self;let(Z,Y,X,W,V):=s;dsimp only
 wp_walk
 refine agY (Ä ?_);dsimp only;erw[newObj];refine À (wpAny_alloc ?_);exact Ä (Ä hq)
end
section
variable {P:ø} {w:Ĭ} {A:đ} {R:Result->Ý->Prop} {I:þ} {fp wr:List þ} {G:Array GenState->Array GenState->Prop} {n:Nat} {Pv:Nat->ã->Prop} {St:Nat->Ý->Prop} {led:Bool}
def Ya (val) {i n} (h:i<=n):(Ő val i).length<=(Ő val n).length:=by
 induction h with
 |refl=>exact ahz _
 |step _ ih =>
  rw[firstMet_succ,step_length]
  split<;>omega
def Yb (W:WalksS P w A.in1 I fp wr G n Pv St) (S) (yP:S∉fp)
  (val) (afq:∀i v,Pv i v->∃t,v=.int (val i) t) (hb:(Ő val n).length+1<agv) :
  ∀k i s,n-i=k->i<=n->St i s ->
   iJ P w led s.heap S (λj=>(Ő val i).any (·==j)) (Ő val i).length ->
   (∀s',Moved (S::wr) G s s'->iJ P w led s'.heap S (λj=>(Ő val n).any (·==j)) (Ő val n).length->R (.ok (.ret .none)) s') ->
   Ÿ (ê P w) A (.builtin "set.update.loop" #[[.ref S,.ref I],[]]) R s:=by
 have nw:=λz=>yP (W.sub _ z);have sw:∀b∈wr,b∈S::wr:=λb z=>Ë _ z;intro k
 induction k with
 |zero =>
  intro i s O hi Z T Y;obtain rfl:i=n:=by omega
  refine Ń F.entry_set_update_loop ?_;refine À (W.done s _ _ Z λs' m=>?_);exact Ä (Y s' (m.mono sw) (T.at λo e=>m.heap S o nw e))
 |succ k ih =>
  intro i s O hi Z T Y;have lt:i<n:=by omega
  refine Ń F.entry_set_update_loop ?_;rw[abL F.plain_set_update_loop _];refine À (W.item i s _ _ lt Z λv s' pv N m=>?_);let(t,rfl):=afq i v pv;have M:=T.at λo e=>m.heap S o nw e;refine À (Ć ?_);refine À ((ŷ P w).pyHash (intKind_is ..) ?_);have room:(Ő val i).length+1<agv:=by have:=Ya val hi;omega
  refine ZW M room λL Q K=>?_;have J:iJ P w led L S (λj=>(Ő val _).any _) (Ő val (i+1)).length:=K.congr (λj=>by rw[firstMet_succ,step_any]) (by rw[firstMet_succ,step_length]);refine Ä #[plainId_quiet F.plain_set_update_loop _,ih _ _ ⋯ lt (W.frame _ s' _ _ N (ŭ _) λb X o e=>?_) J λH V U=>?_]
  .rw[Q.2 b λz=>yP (z ▸ X)];exact e
  .refine Y H (Moved.trans W.gtrans ((m.mono sw).then_heap (ŭ _) λb o X e=>?_) V) U
   rw[Q.2 b λz=>X (by rw[z];exact Ö)];exact e
end
section
variable {P:ø} {w:Ĭ} {A:đ} {E:ã->Ý->Prop} {s:Ý}
def VD   
 (hh:A.handled=ϋ) (hl:s.heap.IsList l ak) (hi:ag5 ak.toList ns) (hb:(Ő (λi=>ns.getD i 0) ak.size).length+1<agv)
 (h:∀(h':ū) (tk:Nat),iJ P w (gp w) h' s.heap.objs.size (λk'=>(Ő (λi=>ns.getD i 0) ak.size).any (·==k')) (Ő (λi=>ns.getD i 0) ak.size).length ->
 (∀b o,b<s.heap.objs.size->s.heap.get? b=ϊ o->h'.get? b=ϊ o)->Q (.ref s.heap.objs.size) { s with heap:=h',toks:=tk }) :
  ë (ê P w) A (call (.type "set") [.ref l]) Q E s:=by
 let(c,tl,ur):=ι.mro;have um:=ι.made;have ub:=ι.sub;refine agi (ahb ?_);show ë _ _ (callAny (.type "set") _) _ _ _;refine Ä #[agx _ nofun,Ń F.entry_type_call ?_];rw[Around.under_plain (weight_type_call_type "set" [.ref l] []) rfl];have h1:=ι.notType;have h2:=ι.canCreate;have I:=F.typeCall_set_1 (.ref l)
 repeat (any_goals (first|assumption|wp_step))
 refine ń (X9 (.ref l) (E:=E) (Q₁:=λobj O=>obj=.ref s.heap.objs.size/\O={ s with heap:=s.heap.push { cls:=.type "set",dict:=ϋ,data:=.set #v[] 0 (.fresh 0 0 (gp w)) } }) #[rfl,rfl]) λr O Y=>?_
 cases r with
 |error e=>exact Y
 |ok H =>
  cases H with
  |ret obj =>
   let(rfl,rfl):=Y;have v:(s.heap.push { cls:=.type "set",dict:=ϋ,data:=.set #v[] 0 (.fresh 0 0 (gp w)) }).get? s.heap.objs.size=ϊ { cls:=.type "set",dict:=ϋ,data:=.set #v[] 0 (.fresh 0 0 (gp w)) }:=Ì _ rfl
   have G:Shared.TypeIs { s with heap:=s.heap.push { cls:=.type "set",dict:=ϋ,data:=.set #v[] 0 (.fresh 0 0 (gp w)) } } (.ref s.heap.objs.size) "set":=#[_,v,rfl]
   have vl:=ι.init.lookup;have vb:=ι.init.bind (.ref s.heap.objs.size)
   repeat (any_goals (first|assumption|wp_step))
   refine ń (ţ (R:=wants (λr N=>r=.none/\∃h' tk,N={ s with heap:=h',toks:=tk } /\
     iJ P w (gp w) h' s.heap.objs.size (λk'=>(Ő (λi=>ns.getD i 0) ak.size).any (·==k')) (Ő (λi=>ns.getD i 0) ak.size).length /\
     (∀b o,b<s.heap.objs.size->s.heap.get? b=ϊ o->h'.get? b=ϊ o)) E) ι.init.plain F.entry_set_init (check_set_init_1 G ?_)) λX N W=>?_
   .let(ol,M,L,nn,K):=hl
    let(oc,D,oa,V):=ol;simp only at L K;subst L;subst K;have U:(s.heap.push { cls:=.type "set",dict:=ϋ,data:=.set #v[] 0 (.fresh 0 0 (gp w)) }).get? l=ϊ { cls:=.type "list",dict:=D,data:=.seq ak nn,slots:=V }:=Á _ M;have u1:=F.sub_list_set;have u2:=F.sub_list_frozenset;have gj:(ο "list"==ο "dict")=ύ:=by decide
    have ul:(s.heap.push { cls:=.type "set",dict:=ϋ,data:=.set #v[] 0 (.fresh 0 0 (gp w)) }).IsList l ak:=#[_,U,rfl,nn,rfl];delta ż.«set.__init__» noKeywords Builtin.Frozenset.updateFrom;generalize C:pyIter=PI
    wp_walk
    subst C;refine Ť ul ?_;refine À (wpAny_runValue ?_);have J:l<s.heap.objs.size:=Í M;have B:A.in1.in1.in1.handled=ϋ:=by simp[hh]
    have z:l≠(s.heap.push { cls:=.type "set",dict:=ϋ,data:=.set #v[] 0 (.fresh 0 0 (gp w)) }).objs.size:=by
     rw[ý];exact ß (Ģ J)
    have y:s.heap.objs.size∉[(s.heap.push { cls:=.type "set",dict:=ϋ,data:=.set #v[] 0 (.fresh 0 0 (gp w)) }).objs.size,l]:=by
     rw[ý];erw[Ô,ę,õ,or_false,not_or];exact#[ß (ō _),ś J]
    have x:∀(i:Nat) (v:ã),ak[i]?=ϊ v->∃t,v=.int ((λi=>ns.getD i 0) i) t:=λi v u =>
     IntsAre.int_at hi i v (by rw[ĺ];exact u)
    refine Yb (led:=gp w) ((Walks.list B _ l z ak).toS) s.heap.objs.size
     y (λi=>ns.getD i 0) x hb (ak.size-0) 0 _ ⋯ (ć _)
     #[#[_,Ì _ rfl,rfl,rfl],(ul.push _)] ?v0 ?vR
    case v0 =>
     have q:((s.heap.push { cls:=.type "set",dict:=ϋ,data:=.set #v[] 0 (.fresh 0 0 (gp w)) }).push { cls:=.type "list_iterator",data:=.fields #v[.ref l,.int 0 0] }).get? s.heap.objs.size
       = ϊ { cls:=.type "set",dict:=ϋ,data:=.set #v[] 0 (.fresh 0 0 (gp w)) }:=Á _ v
     exact#[_,#v[],0,_,q,#[rfl,rfl,rfl],rfl,λe p=>by simp at p,λk=>by simp[firstMet_zero],by delta agv;simp,by rfl,rfl,WH _]
    case vR =>
     intro n Z T;let(h',m,j,g,f):=n;have d:m=s.gens:=Z.gens;have a:j=s.drawn:=Z.drawn;have eo:f=s.os:=Z.os;subst d;subst a;subst eo;show ë _ _ _ _ _ _;refine Ä ?_;show ë _ _ (ret Value.none) _ _ _;refine Ä #[rfl,h',g,rfl,T,λb o hb e=>?_];have v1:b≠s.heap.objs.size:=ß hb;have v2:b≠(s.heap.push { cls:=.type "set",dict:=ϋ,data:=.set #v[] 0 (.fresh 0 0 (gp w)) }).objs.size:=by
      rw[ý];exact ß (Ģ hb)
     exact Z.heap b o (by erw[Ô,ę,õ,or_false,not_or];exact#[v1,v2]) (Á _ (Á _ e))
   .cases X with
    |error e=>exact W
    |ok S =>
     cases S with
     |ret r =>
      let(rfl,h',tk,rfl,T,vk):=W
      repeat (any_goals (first|assumption|wp_step))
      exact h _ _ T vk
     |_=>exact W.elim
  |_=>exact Y.elim
end
theorem C7 {α:Type}:∀{l} {i} {x:α},l[i]?=ϊ x->(x::l.eraseIdx i).Perm l
 | [],i,x,h=>by simp at h
 |y::l,0,x,h=>by
  have:=by simpa using h
  subst this;exact List.Perm.refl _
 |y::l,i+1,x,h=>by
  have ih:=C7 (by simpa using h);exact(List.Perm.swap y x _).trans (List.Perm.cons y ih)
theorem N3 (next):∀fuel k (left:List α) out,left.length=fuel->(pickOrder.go next fuel k left out).toList.Perm (out.toList++left)
 |0,k,left,out,h=>by
  have:=ő.mp h;subst this;delta pickOrder.go;simp
 |fuel+1,k,left,out,h=>by
  delta pickOrder.go
  have Z:next k % left.length<left.length:=Nat.mod_lt _ ⋯
  rw[Ñ Z];have Y:=C7 (Ñ Z)
  have ih:=N3 next fuel (k+1) _ (out.push left[next k % left.length]) (by rw[List.length_eraseIdx_of_lt Z];omega)
  refine ih.trans ?_;rw[agM,Đ];exact List.Perm.append_left _ Y
def Mh (next) (xs:Array α):(agw next xs).toList.Perm xs.toList:=by
 delta agw
 have:=N3 next xs.size 0 xs.toList #v[] ∅
 simpa using this
section
variable {P:ø} {w:Ĭ} {A:đ} {E:ã->Ý->Prop}
def VE (n):∀(xs:List α) s Q,xs.length=n->(∀ys d,ys.Perm xs->Q ys { s with drawn:=d })->ë (ê P w) A (drawOrder n xs) Q E s:=by
 induction n with
 |zero =>
  intro xs s Q h Z;have:=ő.mp h;subst this;delta drawOrder;exact Ä (Z _ _ (List.Perm.refl _))
 |succ n ih =>
  intro xs s Q h Z
  cases xs with
  |nil=>simp at h
  |cons x xs =>
   refine À (VA ∅ ?_);have Y:w.draws .order (s.drawn.get .order) % (x::xs).length<(x::xs).length:=Nat.mod_lt _ ∅;rw[Ñ Y];refine À (ih _ _ _ (by rw[List.length_eraseIdx_of_lt Y];omega) λys d X=>?_);refine Ä (Z _ d ?_);exact(List.Perm.cons _ X).trans (C7 (Ñ Y))
def Yc {s:Ý} {a:þ} {u:Obj} {es} {ep:Nat} {t} {Q} (hu:s.heap.get? a=ϊ u) (hx:u.ExactSet) (hd:u.data=.set es ep t) (hf:t.fits es.size=ό) (ht:jE (gp w) t)
  (hsz:es.size<=Õ)
  (hQ:∀(h':ū) (d':Drawn) (I:þ) (fp:List þ) St (order:List ã),(∀b o,s.heap.get? b=ϊ o->h'.get? b=ϊ o)->(∀b∈fp,b<h'.objs.size)->(∀b∈fp,b=a\/s.heap.objs.size<=b)->I∈fp->s.heap.objs.size<=I->order.Perm (es.toList.map (·.2)) ->
   (∀A',A'.handled=ϋ->WalksS P w A' I fp [I] (λa b=>b=a) es.size (λi v=>order[i]?=ϊ v) St)->St 0 { s with heap:=h',drawn:=d' }->Q (.ref I) { s with heap:=h',drawn:=d' }) :
  ë (ê P w) A (pyIter (.ref a)) Q E s:=by
 have R:s.TypeIs (.ref a) "set":=#[u,hu,hx.1];have X:=Í hu;refine wpAny_pyIter_slot R F.slot_set_iter (ă F.slot_set_iter R TU ?_ (F.args_set_iter_1 _));delta ż.«frozenset.__iter__» Builtin.Frozenset.slot0 slotArgs;simp only[List.isEmpty_nil,Œ,Ê,↓reduceIte,bind_assoc,Ą,Ļ];refine À (Ä ?_);refine À (Ä ?_);refine À (À (ů hu hd hf (Ä ?_)));refine À (À (Ũ hu hd hf ?_));refine À (À (agY (Ä ?_)));refine Ä ?_
 show ë _ _ (if (!(w.params.followText _)&&(!t.plain&&ώ _))=ό then _ else _) _ _ _
 by_cases W:(!w.params.followText "set-order"&&(!t.plain&&ώ (es.size > 1)))=ό
 .rw[Ù W]
  refine À (VE _ _ _ _ ∅ λT d hp=>?_);refine À ?_;refine ď ?_ (by have:=hp.length_eq;rw[List.length_range] at this;show (List.toArray _).size<=Õ;rw[Ü,Æ,this];exact hsz);have M:∀x∈T,x<es.size:=λx hx=>by simpa using hp.mem_iff.mp hx
  have S:=by simpa using hp.length_eq
  refine À (wpAny_setEpoch_of (Á _ hu) hd hf ?_);refine À (ď ?_);refine Ä #[_,rfl,_,_,#[_,Ì _ rfl,rfl],lQ.lookup,?_];have Y:(s.heap.push { cls:=.type "tuple",data:=.seq (T.map λ(i:Nat)=>ł i).toArray }).objs.size=s.heap.objs.size+1:=by simp[ý]
  refine hQ _ d _ _ _ _ (λb o e=>Á _ (Á _ e)) ?_ ?_ ∅ (by rw[Y];exact ŭ _) ?_ (λA' V=>UZ V (by rw[Y];exact ß (Ģ X)) (by rw[Y];exact ß (ō _)) hd hf T S M) #[#[_,Ì _ rfl,rfl,rfl],Á _ (Á _ hu),#[_,Á _ (Ì _ rfl),rfl,_,rfl]]
  .intro b Z
   erw[Ô,õ,or_false] at Z;rw[ý]
   rcases Z with e|e|e
   .rw[e];exact ō _
   .rw[e,Y];exact Ģ (Ģ X)
   .rw[e,Y];exact Ģ (ō _)
  .intro b Z
   erw[Ô,õ,or_false] at Z
   rcases Z with e|e|e
   .right;rw[e,Y];exact ŭ _
   .exact .inl e
   .right;rw[e];exact ahz _
  .refine(List.Perm.map _ hp).trans ?_
   have:(ä es.size).map (λk=>(es.getD k (0,Value.none)).2)=es.toList.map (·.2):=by
    apply ŧ;intro i;rw[à];by_cases hi:i<es.size
    .simp[Array.getD,hi]
    .rw[ě (by simpa using hi),ě (by simpa using hi)]
     rfl
   rw[this]
 .rw[é W]
  refine À (Ä ?_);refine À (wpAny_setEpoch_of hu hd hf ?_);refine À (ď ?_);refine Ä #[_,rfl,_,_,#[_,Ì _ rfl,rfl],lQ.lookup,?_];have ai:∀(O:Obj),∀b∈[s.heap.objs.size,a],b<(s.heap.push O).objs.size:=λO b Z=>by
   erw[Ô,õ,or_false] at Z;rw[ý]
   rcases Z with e|e
   .rw[e];exact ō _
   .rw[e];exact Ģ X
  have N:∀b∈[s.heap.objs.size,a],b=a\/s.heap.objs.size<=b:=λb Z=>by
   erw[Ô,õ,or_false] at Z
   rcases Z with e|e
   .right;rw[e];exact ahz _
   .exact .inl e
  cases U:w.params.followText _ with
  |true =>
   have L:=by
    have:=(Mh (w.params.setOrder a ep) es).length_eq;simpa using this
   have hw:∀A',A'.handled=ϋ->WalksS P w A' _ _ _ (λa b=>b=a) es.size (λi v=>((agw _ es).toList.map (·.2))[i]?=ϊ v) _:=λA' V=>by
    have:=VB (P:=P) V (a:=a) (ß X) U hd hf L;simpa using this
   exact hQ _ s.drawn _ [_,a] _ _ (λb o e=>Á _ e) (ai _) N ∅ (ahz _) (List.Perm.map _ (Mh _ _)) hw #[#[_,Ì _ rfl,rfl,rfl],Á _ hu]
  |false =>
   have hp:t.plain=ό\/es.size<=1:=by
    rw[U] at W;simp at W
    cases K:t.plain with
    |true=>exact .inl rfl
    |false=>exact .inr (W K)
   have S:t.led=ό:=by rw[ht.led];delta gp;rw[U];rfl
   have J:nA t.place.toList:=by
    rcases hp with hp|hp
    .exact ht.rise hp
    .erw[SetTable.fits,Â,beq_iff_eq,Å] at hf
     have hle:t.place.toList.length<=1:=by simp[hf.1];exact hp
     match t.place.toList,hle with
     | [],_=>exact List.Pairwise.nil
     | [x],_=>exact List.pairwise_singleton _ _
   have hw:∀A':đ,A'.handled=ϋ->WalksS P w A' _ _ _ (λa b=>b=a) es.size (λi v=>(es.toList.map (·.2))[i]?=ϊ v) _:=λA' V=>by
    have:=UY (P:=P) (u:=u) (t:=t) V (a:=a) (ß X) U hd hf S hp J;simpa using this
   exact hQ _ s.drawn _ [_,a] _ _ (λb o e=>Á _ e) (ai _) N ∅ (ahz _) (List.Perm.refl _) hw #[0,#[_,Ì _ rfl,rfl,rfl],Á _ hu,ć _,λk H=>by omega,λk _ _=>ć _]
end
section
variable {P:ø} {w:Ĭ} {A:đ} {E:ã->Ý->Prop} {s:Ý}
def split_len:splitId "set.__len__"=ϊ ("set","__len__"):=nofun
def ints_of (h:ElemsOf (ŷ P w) es) (hp:vs.Perm (es.map (·.2))):∃ns,ag5 vs ns:=by
 have Z:∀v∈vs,∃k t,v=.int k t:=λv Z=>by
  let(e,W,rfl):=ï.mp (hp.mem_iff.mp Z);obtain⟨⟨k,X,_⟩,_⟩:=h e W
  cases Y:e.2 with
  |int i t=>exact#[i,t,rfl]
  |_=>rw[Y] at X;simp[ŷ,Value.isInt] at X
 clear hp
 induction vs with
 |nil=>exact#[_,.nil]
 |cons v vs ih =>
  let(k,t,rfl):=Z v Ö;let(ns,V):=ih λx Y=>Z x (Ë _ Y);exact#[_,.cons k t V]
def Pb {x y:Sem α} {Q} (hc:c=ό) (h:ë (ê P w) A x Q E s):ë (ê P w) A (if c=ό then x else y) Q E s:=by
 rw[Ù hc];exact h
def U0 {a:þ} {u:Obj} {es:Array (Int×ã)} {ep:Nat} {t:SetTable} {Q:List ã->Ý->Prop} (hh:A.handled=ϋ) (hu:s.heap.get? a=ϊ u) (hx:u.ExactSet) (hd:u.data=.set es ep t) (hf:t.fits es.size=ό) (ht:jE (gp w) t) (hsz:es.size<agv)
  (hQ:∀(h':ū) (d':Drawn) (tk:Nat) (vs:List ã),s.heap.objs.size<=h'.objs.size->(∀b o,s.heap.get? b=ϊ o->h'.get? b=ϊ o)->vs.Perm (es.toList.map (·.2))->Q vs { s with heap:=h',drawn:=d',toks:=tk }):ë (ê P w) A (collect (.ref a)) Q E s:=by
 have K:es.size<=Õ:=χ hsz;have J:a<s.heap.objs.size:=Í hu;delta collect;refine À (wpAny_runValue (Ń F.entry_proto_collect ?_));rw[abL F.plain_proto_collect _];show ë _ A.in1 (newList [] >>= λl=>again (.builtin "list.__iadd__" #[[l,.ref a],[]])) _ _ s;refine À (ď ?_);refine Ä #[plainId_quiet F.plain_list_iadd _,Ń F.entry_list_iadd ?_];rw[abL F.plain_list_iadd _];show ë _ A.in1 (μ (.ref s.heap.objs.size) (.ref a) (.ref s.heap.objs.size)) _ _ _
 generalize U:({ s with heap:=s.heap.push { cls:=.type "list",data:=.seq ([]:List ã).toArray } }:Ý)=Y
 have H:Y.heap.objs.size=s.heap.objs.size+1:=by rw[<- U];simp[ý]
 have i:∀b o,s.heap.get? b=ϊ o->Y.heap.get? b=ϊ o:=λb o e=>by rw[<- U];exact Á _ e
 have T:Y.heap.get? a=ϊ u:=by rw[<- U];exact Á _ hu
 have h:Y.TypeIs (.ref a) "set":=#[u,T,hx.1];have S:Y.heap.get? s.heap.objs.size=ϊ { cls:=.type "list",data:=.seq ([]:List ã).toArray }:=by rw[<- U];exact Ì _ rfl
 delta μ;refine À (agl h ?_);have g:Builtin.List.listSameRef (.ref s.heap.objs.size) (.ref a)=ύ:=by
  simp[Builtin.List.listSameRef];exact ś J
 have f:(ο "set"==ο "list")=ύ:=by decide
 have d:(ο "set"==ο "tuple")=ύ:=by decide
 erw[g,f,d,Bool.or_false,Ê,ô];refine À (Yc T hx hd hf ht K λh' d' I fp St order R k2 k6 k3 G D W st=>?_)
 have O:Shared.TypeIs { Y with heap:=h',drawn:=d' } (.ref a) "set":=#[u,R _ _ T,hx.1]
 have C:=R _ _ S;refine À (Ć ?_);delta Builtin.List.listLengthHint;refine À (wpAny_specialOf O F.slot_set_len.lookup ?_);dsimp only;rw[split_len];dsimp only;refine À (wpAny_isInstance O sub_set_self ?_);rw[é (by decide)];refine Pb nofun ?_;refine À (agl O ?_);dsimp only;refine Ä ?_;refine Pb nofun ?_
 .·refine À (ŵ ?_)
   refine À ?_;show ë _ A.in1 (updateSeq s.heap.objs.size (·.push .none) >>= λ_=>updateSeq s.heap.objs.size (·.pop)) _ _ _;refine À (wpAny_updateSeq C rfl ?_);have B:=Ě (ag1 (·.push Value.none)) C rfl;refine wpAny_updateSeq B rfl ?_;have N:=Ě (ag1 (·.pop)) B rfl;have y:s.heap.objs.size∉fp:=λhm=>by
    rcases k6 _ hm with e|e
    .exact ś J e
    .rw[H] at e;exact Nat.not_succ_le_self _ e
   have x:∀b o,b≠s.heap.objs.size->h'.get? b=ϊ o->((h'.update s.heap.objs.size (ag1 (·.push Value.none))).update s.heap.objs.size (ag1 (·.pop))).get? b=ϊ o :=
    λb o X e=>(Ż _ _ (Ĥ X)).trans ((Ż _ _ (Ĥ X)).trans e)
   refine Ä #[plainId_quiet F.plain_extend_loop _,codeAny_extend_loopS (W A.in1 (by simp[hh])) K _ y _ es.size 0 _ _ _ rfl (ć _) ((W A.in1 (by simp[hh])).frame 0 ({ Y with heap:=h',drawn:=d' }:Ý) _ Y.toks st (ahz _) λb X o e=>x b o (λz=>y (z ▸ X)) e) N (ItemsOf.nil _) λv Z c m r p=>?_]
   show ë _ A (load s.heap.objs.size >>= _) _ _ v;refine À (wpAny_load r ?_);refine Ä ?_;have M:order.length=es.size:=by simpa using D.length_eq
   have L:Z.toList=order:=by
    apply ŧ;intro j;by_cases n:j<Z.size
    .have e1:Z[j]?=ϊ Z[j]:=by simp[n]
     rw[ĺ,e1,p.2 j _ e1]
    .rw[ě (by simpa using n),ě (by rw[M,<- p.1];omega)]
   let(h2,g2,k,t2,o2):=v;have eg:g2=Y.gens:=m.gens;have ed:k=d':=m.drawn;have eo:o2=Y.os:=m.os;subst eg ed eo;have q:=hQ h2 k t2 Z.toList (Nat.le_of_lt (Í r)) (λb o e=>m.heap b o (λX=>by
    erw[Ô,õ,or_false] at X;have V:=Í e
    rcases X with z|z
    .rw[z] at V;exact ò _ V
    .rw[H] at G;rw[z] at V;exact ò _ (È V (Nat.le_of_succ_le G))) (x b o (λz=>by
     have V:=Í e;rw[z] at V;exact ò _ V) (R b o (i b o e)))) (by rw[L];exact D)
   rw[<- U];exact q
def VF (hh:A.handled=ϋ) (hu:s.heap.get? a=ϊ u) (hx:u.ExactSet) (hd:u.data=.set es ep t) (hf:t.fits es.size=ό) (ht:jE (gp w) t) (HU:ElemsOf (ŷ P w) es.toList) (h64:es.size<64)
 (h:∀h' d' tk (p:þ) vs ns out ms e,(∀b o,s.heap.get? b=ϊ o->h'.get? b=ϊ o)->s.heap.objs.size<=p->vs.Perm (es.toList.map (·.2))->ag5 vs ns->h'.get? p=ϊ { cls:=.type "list",data:=.seq out.toArray e }->ag5 out ms->ms.Perm ns->ms.Pairwise (·<=·)->Q (.ref p) { s with heap:=h',drawn:=d',toks:=tk }) :
  ë (ê P w) A (call (.builtin "sorted") [.ref a]) Q E s:=by
 refine af6 kind_sorted plain_sorted entry_sorted (args_sorted1 _) ?_;refine À (Ä ?_);refine À (U0 (by simp[hh]) hu hx hd hf ht (by delta agv;omega) λh' d' tk vs U T Z=>?_);let(ns,X):=ints_of HU Z;have S:vs.length<64:=by have:=Z.length_eq;simp at this;omega
 refine À (ag0 ?_);have Y:(h'.push _).get? _=ϊ (ahj "list" vs.toArray 0):=Ì _ rfl;refine À (Ć (ă slot_list_sort #[_,Y,rfl] entry_list_sort (list_sort_tree Y X S λout ms a1 a2 R=>#[_,rfl,?_]) (args_list_sort _)));let(e,O):=sortedHeap_at Y;refine Ä #[_,rfl,h _ d' tk _ vs ns _ ms e (λb o N=>?_) ?_ Z X (by simpa  using O) a1 a2 R]
 .have W:=T b o N
  have V:=Í W;rw[sortedHeap_old (ß V) (by rw[size_push'];exact Ģ V)];exact Á _ W
 .exact U
end
end TS
namespace L2
open PySem PySem.Spec PyProof.Rows
def rX (P:ø) (w:Ĭ) (p:þ) (ns:List Int):ū->Prop:=λh=>∃(S:Int->Bool) (n:Nat),TS.iJ P w (TS.gp w) h p S n/\(∀k,S k=ό↔k∈ns)/\n<=ns.length/\n=(ns.foldl step_dedup []).length
section
variable {X:Cx}
def Ao (l:List Int) (k):(l.any (·==k))=ό↔k∈l:=by
 rw[aga];exact#[λ⟨x,Z,Y⟩=>by rw[<- beq_iff_eq.mp Y];exact Z,λh=>#[k,h,by simp]]
def ZY (hm:m=ns.length) (hS:TS.iJ X.prog X.w (TS.gp X.w) h p (λk'=>(Ő (λi=>ns.getD i 0) m).any (·==k')) (Ő (λi=>ns.getD i 0) m).length):rX X.prog X.w p ns h:=by
 subst hm;refine#[_,_,hS,λk=>?_,firstMet_length_le ..,?_]
 .rw[firstMet_any,map_getD]
  exact Ao ns k
 .delta Ő
  rw[map_getD]
def ZZ (hx:rX X.prog X.w p ns h):gm X.prog X.w (upd H p (.ext (rX X.prog X.w p ns))) h p (.ext (rX X.prog X.w p ns)):=by
 refine#[hx,?_,λY W q k=>?_]
 .obtain⟨_,_,⟨o,_,_,_,Z,_⟩,_⟩:=hx
  exact#[o,Z]
 .let(S,n,T,r):=q
  exact#[S,n,T.at k,r]
def VG (hc:X.calm=ό):dB X (.type "set") (λxs H Q=>∃(a:þ) (ns:List Int),xs=[.ref a]/\bV X.K H a (ns.map V.int)/\(ns.foldl step_dedup []).length<4000/\∀p,H p=ϋ->Q (.ref p) (upd H p (.ext (rX X.prog X.w p ns)))):=by
 intro R s σ H xs P Q I r h;let(a,ns,rfl,W,O,q):=h;let(u,rfl,U):=vals1 r;cases U;let(ak,Z,p,_):=I.list W;have Y:ak.toArray.size=ns.length:=by
  have e:=Z.length;simpa using e.symm
 refine TS.VD (I.ok.hd hc) p.isList (by simpa using intsAre_of Z) (by rw[Y];delta Ő;rw[map_getD];show _ + 1<4096;omega) λN M T S=>?_;exact#[.ref _,_,I.laid (λb o e=>S b o (Í e) e) (ahz _) (ZZ (ZY Y T)),rfl,q _ (I.aK.fresh (ahz _))]
theorem KU:∀{out} {ms},ag5 out ms->Vals (ms.map V.int) out
 |_,_,.nil=>.nil
 |_,_,.cons n t h=>.cons #[t,rfl] (KU h)
theorem CV:∀(ns acc:List Int),acc.Nodup->(ns.foldl step_dedup acc).Nodup
 | [],acc,h=>h
 |n::ns,acc,h=>by
  refine CV ns _ ?_;delta step_dedup;split
  .exact h
  .rename_i Z
   rw[Ŵ] at Z;refine agO.mpr #[h,by simp,λa Y b X=>?_];have:=by simpa using X
   subst this;intro e;subst e;rw[(Ao acc a).mpr Y] at Z;cases Z
theorem MW:∀{vs} {ns},ag5 vs ns->∀k,k∈ns↔∃t,Value.int k t∈vs
 |_,_,.nil,k=>by simp
 |_,_,.cons n t h,k=>by
  rw[Ô,MW h k];constructor
  .rintro (e | ⟨Z,h'⟩)
   .subst e;exact#[t,Ö]
   .exact#[Z,Ë _ h']
  .rintro ⟨Z,h'⟩
   rcases Ô.mp h' with e|h'
   .injection e with e _;exact .inl e
   .exact .inr #[Z,h']
theorem sub_len:∀{m l:List Int},m.Nodup->(∀k,k∈m->k∈l)->m.length<=l.length
 | [],l,_,_=>ć _
 |x::m,l,h,Z=>by
  let(W,V):=ζ.mp h;have Y:=Z x Ö;have ih:=sub_len V λk X=>(List.mem_erase_of_ne (λ(e:k=x)=>W (by rw[<- e];exact X))).mpr (Z k (Ë _ X));rw[List.length_erase_of_mem Y] at ih;have:=List.length_pos_of_mem Y;rw[å];omega
theorem KW:∀{l m:List Int},m.Nodup->(∀k,k∈m↔k∈l)->l.length<=m.length->l.Nodup
 | [],m,_,_,_=>List.nodup_nil
 |a::r,m,Z,Y,W=>by
  have V:a∉r:=λh=>by
   have:=sub_len Z λk U=>(Ô.mp ((Y k).mp U)).elim (λe=>e ▸ h) id;rw[å] at W;omega
  have X:=(Y a).mpr Ö;refine ζ.mpr #[V,KW (Z.erase a) (λk=>?_) ?_]
  .rw[Z.mem_erase_iff,Y k,Ô]
   constructor
   .rintro ⟨T,h2|h2⟩
    .exact absurd h2 T
    .exact h2
   .intro h
    exact#[λe=>V (e ▸ h),.inr h]
  .rw[List.length_erase_of_mem X]
   rw[å] at W;omega
def Mi (ns:List Int) (k):k∈ns.foldl step_dedup []↔k∈ns:=by
 have:=firstMet_any (λi=>ns.getD i 0) ns.length k;delta Ő at this;rw[map_getD] at this;rw[<- Ao,<- Ao,this]
def UA (hc:X.calm=ό):dB X (.builtin "sorted") (λxs H Q=>∃(p:þ) (ns:List Int),xs=[.ref p]/\H p=ϊ (.ext (rX X.prog X.w p ns))/\(ns.foldl step_dedup []).length<64 /\
  ∀l (ms:List Int),H l=ϋ->ms.Pairwise (· < ·)->(∀k,k∈ms↔k∈ns)->Q (.ref l) (upd H l (.lst (ms.map V.int)))):=by
 intro π s σ H xs us Q I r h;let(p,ns,rfl,K,hl,q):=h;let(v,rfl,G):=vals1 r;cases G;obtain⟨⟨S,n,⟨u,es,ep,t,F,E,hd,D,W,O,C,hn,B⟩,A,vN,SA⟩,_⟩:=I.aK p _ K;refine TS.VF (I.ok.hd hc) F E hd C B D ⋯ λh' d' z l vs ks out ms e y N Y U m j T k8=>?_;have M:∀k,k∈ms↔k∈ns:=λk=>by
  rw[T.mem_iff,MW U k,<- A k,W k];constructor
  .rintro ⟨t',g⟩
   let(x,R,Z):=ï.mp (Y.mem_iff.mp g);exact#[x,R,by rw[Z];exact intKind_is ..]
  .rintro ⟨x,R,Z⟩
   obtain⟨i,t',L⟩:∃i t',x.2=.int i t':=by
    cases f:x.2 with
    |int i t'=>exact#[i,t',rfl]
    |_=>rw[f] at Z;simp[ŷ,Value.isInt] at Z
   have d:=(ŷ _ _).inj _ k i (by rw[<- L];exact Z) (intKind_is ..);subst d;exact#[t',Y.mem_iff.mpr (ï.mpr #[x,R,L])]
 have P:ms.Nodup:=by
  have c:=CV ns _ List.nodup_nil;refine KW c (λk=>?_) ?_
  .rw[M k,Mi]
  .have e1:=T.length_eq
   have e2:=U.length;have e3:=Y.length_eq;simp at e3;omega
 have bG:ms.Pairwise (· < ·):=by
  have:=List.pairwise_and_iff.mpr #[k8,P];exact this.imp λ⟨a,b⟩=>by omega
 have J:=I.laid (t':=z) (o:=.lst _) y N #[by
  rw[Æ,ε];have e1:=T.length_eq;have e2:=U.length;have e3:=Y.length_eq;simp at e3;omega,out,e,KU j,m]
 exact#[.ref l,_,J.xx (ch:=[]) rfl Un.refl J.aK J.bare (λb O=>by cases O),rfl,q l ms (I.aK.fresh N) bG M]
end
end L2
namespace HZ
open PySem PySem.Spec PyProof.Rows
open AutoSeq1 (wpAny_loadPart')
end HZ
namespace L2
open PySem PySem.Spec PyProof.Rows
end L2
namespace HZ
open PySem PySem.Spec PyProof.Rows
def Tz:fillsNumberSlot (.type "tuple") "mul"=pure ύ:=by
 first|rfl | (kernel_rfl)|kernel_rfl
def UB:seqRepeat? (.type "tuple")=pure (ϊ (.builtin "tuple.__mul__")):=by
 first|rfl|kernel_rfl
def VH (a:Int) (t:Tok) (l) (items) (n:Nat) (d) (sl) :
  Meets (ż.«int.__rmul__» #[[.int a t,.ref l],[]]) (λ_ R s=>s.heap.get? l=ϊ { cls:=.type "tuple",dict:=d,data:=.seq items n,slots:=sl }/\R (.ok (.ret Value.notImplemented)) s) :=
 .of_wp λprog w A R s h=>by
  let(Z,h):=h;wp_walk;exact#[_,rfl,h]
section
variable {P:ø} {w:Ĭ} {A:đ} {E:ã->Ý->Prop} {s:Ý}
def Z0 (ht:IsTup s.heap t vs.toArray) (hv:vs≠[]) (hk:1<=k) (hz:vs.length*k.toNat<=Õ)
 (h1:k=1->Q (.ref t) s) (h2:k≠1->Q (.ref s.heap.objs.size) { s with heap:=s.heap.push { cls:=.type "tuple",data:=.seq (Ó k.toNat vs).flatten.toArray } }) :
  ë (ê P w) A (ņ .Mult (.ref t) (.int k tk)) Q E s:=by
 obtain⟨⟨cls,Y,data,sl⟩,Z,X,n,W⟩:=id ht;subst X W;have S:k<=16777216:=by
  have V:1<=vs.length:=by
   cases vs with
   |nil=>exact absurd rfl hv
   |cons a r=>simp
  have R:vs.length*k.toNat<=16777216:=by exact hz
  have:1*k.toNat<=vs.length*k.toNat:=Nat.mul_le_mul_right _ V;omega
 refine wpAny_binaryOp_repeat_ref (by decide) #[_,Z,rfl] (λU=>typeIs_int U k tk) Tz F.fills_int_mul ag7 UB F.slot_int_index.lookup
  (Ŧ ag7 (typeIs_int s k tk) F.entry_int_rmul (F.args_int_rmul_2 ..) (VH k tk t _ n Y sl) #[Z,rfl,#[_,Z,rfl],?_])
 refine ă F.slot_tuple_mul #[_,Z,rfl] F.entry_tuple_mul ?_ (F.args_tuple_mul_2 ..);refine À ?_
 refine agg (by first|rfl | (rfl)) ?_
 rw[é (by simp;omega)];refine À (À (Ŀ Z rfl ?_));refine Ä ?_;have ne:vs.toArray.isEmpty=ύ:=by
  cases vs with
  |nil=>exact absurd rfl hv
  |cons a r=>simp
 by_cases h:k=1
 .rw[Ù (by rw[h];simp)]
  refine À (À (agl #[_,Z,rfl] (Ä ?_)));exact À (ŵ (Ä #[_,rfl,h1 h]))
 .rw[é (by rw[ne];simp[h])]
  rw[é (by rw[ne];simp;omega)];have O:(vs.toArray.size)*k=((vs.length*k.toNat:Nat)):=by
   rw[Int.natCast_mul];congr 1;omega
  have T:vs.length*k.toNat<=16777216:=by exact hz
  rw[é ⋯];rw[é (by
   delta Builtin.Tuple.tupleTooMany;rw[Å];omega)]
  have e:=by
   have:=L2.foldl_rep vs k.toNat [];rw[ġ] at this;exact this
  rw[e];refine À (ď ?_ (by
   show (List.toArray _).size<=Õ;rw[Ü,L2.len_rep,Nat.mul_comm];exact hz))
  exact Ä #[_,rfl,h2 h]
end
end HZ
namespace L2
open PySem PySem.Spec PyProof.Rows
section
variable {X:Cx}
def adR (K:Ň):R2:=λx y H Q=>∃a Z k,x=.ref a/\y=.int k/\bZ K H a Z/\Z≠[]/\1<=k/\Z.length*k.toNat<=Õ/\qa K H (Ó k.toNat Z).flatten Q
def Z1:bP X (ņ .Mult) (adR X.K):=by
 intro O s σ H x y v u Q I U T h;let(a,Z,k,rfl,rfl,W,S,R,V,q):=h;cases U;let(t,rfl):=T;let(ak,r,p,z):=I.tuple W;have Y:=r.length;refine HZ.Z0 p (λe=>S (by rw[e] at Y;exact ő.mp Y)) R (by rw[<- Y];exact V) (λe=>?_) (λ_=>?_)
 .have e1:(Ó k.toNat Z).flatten=Z:=by rw[e];simp
  rw[e1] at q;exact#[.ref a,H,I,rfl,q.here W]
 .have P:(Ó k.toNat Z).flatten.length<=Õ:=by rw[len_rep,Nat.mul_comm];exact V
  exact#[.ref _,_,I.laid (o:=.tup _) (λb o e=>Á _ e) (ahz _) #[P,_,r.rep _,#[_,Ì _ rfl,rfl,_,rfl]],rfl,q.new (I.aK.fresh (ahz _))]
end
end L2
namespace HZ
open PySem PySem.Spec PyProof.Rows
def N4:mroOf (.type "reversed")=pure [.type "reversed",.type "object"]:=by kernel_rfl
def TV:typeLookup (.type "reversed") "__new__"=pure (ϊ (.builtin "reversed.__new__")):=by kernel_rfl
def Yd:Bind.madeBy (.type "reversed")=pure (ϊ "reversed.__new__"):=madeBy_type N4 TV nofun
def Ui:entryFor table "reversed.__new__"=ϊ ż.«reversed.__new__»:=entryFor_of_tree (by kernel_rfl)
def Uj:plainId "reversed.__new__"=ό:=nofun
def UC (a):checkTypeCall "reversed" #[[a],[]]=pure ():=by kernel_rfl
def U1 (a:ã):agZ "reversed.__new__" #[[.type "reversed",a],[]]=pure ():=by kernel_rfl
def Z2:isSubtype (.type "reversed") (.type "reversed")=pure ό:=by kernel_rfl
def VI:isSubtype (.type "range_iterator") (.type "reversed")=pure ύ:=by kernel_rfl
def UD:(ο "reversed"==ο "type")=ύ:=nofun
def Z3:((Manifest.find? "reversed").bind (·.mro.findSome? λt=>(Manifest.find? t).bind λb=>if b.noNew then ϊ ό else if b.attrs.any (·.1=="__new__") then ϊ ύ else ϋ)).getD ύ=ύ:=nofun
section
variable {P:ø} {w:Ĭ} {A:đ} {E:ã->Ý->Prop} {s:Ý}
def UE (hr:s.heap.get? r=ϊ { cls:=.type "range",data:=.fields #v[.int a t1,.int b t2,.int c t3] }) (h:Q (a,b,c) s):ë (ê P w) A (Builtin.Range.rangeFields (.ref r)) Q E s:=by
 refine À (ī hr rfl rfl ?_);refine À (agg (by rfl) ?_);refine À (ī hr rfl rfl ?_);refine À (agg (by rfl) ?_);refine À (ī hr rfl rfl ?_);exact Ä h
def Z4 {n:Nat} {Q:ã->Ý->Prop} (hr:s.heap.get? r=ϊ { cls:=.type "range",data:=.fields #v[.int 0 t1,.int n t2,.int 1 t3] }) (hn:n<2 ^ 62)
 (h:Q (.ref s.heap.objs.size) { s with heap:=s.heap.push { cls:=.type "range_iterator",data:=.fields #v[ł (n-1),ł n,ł (-1)] } }) :
  ë (ê P w) A (ż.«reversed.__new__» #[[.type "reversed",.ref r],[]]) (λfin s'=>∃v,fin=.done (.ret v)/\Q v s') E s:=by
 have X:s.TypeIs (.ref r) "range":=#[_,hr,rfl];have ss:=Z2;delta ż.«reversed.__new__» Builtin.SmallTypes.newClass Builtin.SmallTypes.refuseKeywords;have V:=ν.lookup;have U:=ν.bind (.ref r)
 wp_walk
 refine ń (ţ (R:=wants (λv s'=>v=.ref s.heap.objs.size/\s'={ s with heap:=s.heap.push { cls:=.type "range_iterator",data:=.fields #v[ł (n-1),ł n,ł (-1)] } }) E) ν.plain F.entry_range_reversed (ν.check _ _ _ _ _ _ _ _ X (F.args_range_reversed_1 _) ?_)) λW T Z=>?_
 .delta ż.«range.__reversed__»
  refine À (agg (a:=.ref r) (by rfl) ?_);refine À (UE hr ?_);dsimp only;have sz:Ŏ 0 n 1=n:=by
   delta Ŏ;rw[Ù (by decide)]
   split<;>omega
  rw[sz];have Y:(č 0&&č n&&č 1&&č (-1)&&č (0-1)&&č n)=ό:=by
   have S:(n:Int)<2 ^ 62:=by omega
   delta č;erw[Â,Å];refine#[#[#[#[#[#[by decide,by decide],by omega,by omega],by decide,by decide],by decide,by decide],by decide,by decide],by omega,by omega]
  rw[Y];rw[é (by decide)];refine À (ď ?_);refine Ä ?_;refine#[rfl,?_];have e:(0:Int)+((n:Int)-1)*1=n-1:=by omega
  simp[ł]
 .cases W with
  |error e=>exact Z
  |ok Y =>
   cases Y with
   |ret v =>
    let(rfl,rfl):=Z;exact Ä #[_,rfl,h]
   |_=>exact Z
def Ye {n:Nat} {Q:ã->Ý->Prop} (hr:s.heap.get? r=ϊ { cls:=.type "range",data:=.fields #v[.int 0 t1,.int n t2,.int 1 t3] }) (hn:n<2 ^ 62)
 (h:Q (.ref s.heap.objs.size) { s with heap:=s.heap.push { cls:=.type "range_iterator",data:=.fields #v[ł (n-1),ł n,ł (-1)] } }):ë (ê P w) A (call (.type "reversed") [.ref r]) Q E s:=by
 have T:=N4;have S:=Yd;have O:=VI;have m4:=UD;have N:=Z3;have M:=UC (.ref r);refine agi (ahb ?_);show ë _ _ (callAny (.type "reversed") _) _ _ _;refine Ä #[agx _ nofun,Ń F.entry_type_call ?_];rw[Around.under_plain (weight_type_call_type "reversed" [.ref r] []) rfl]
 repeat (any_goals (first|assumption|wp_step))
 refine ń (ţ (R:=wants (λv Z=>v=.ref s.heap.objs.size/\Z={ s with heap:=s.heap.push { cls:=.type "range_iterator",data:=.fields #v[ł (n-1),ł n,ł (-1)] } }) E) Uj Ui (agg (U1 _) ?_)) λX L Y=>?_
 .refine ė (Z4 (Q:=λv Z=>v=.ref s.heap.objs.size/\Z={ s with heap:=s.heap.push { cls:=.type "range_iterator",data:=.fields #v[ł (n-1),ł n,ł (-1)] } }) hr hn #[rfl,rfl]) (λf Z W=>?_) λ_ _ e=>e
  let(v,rfl,V):=W;exact V
 .cases X with
  |error e=>exact Y
  |ok U =>
   cases U with
   |ret v =>
    let(rfl,rfl):=Y
    have K:Shared.TypeIs { s with heap:=s.heap.push { cls:=.type "range_iterator",data:=.fields #v[ł (n-1),ł n,ł (-1)] } } (.ref s.heap.objs.size) "range_iterator":=#[_,Ì _ rfl,rfl]
    repeat (any_goals (first|assumption|wp_step))
   |_=>exact Y.elim
end
end HZ
namespace L2
open PySem PySem.Spec PyProof.Rows
noncomputable def Bw (n:Nat):It:=#[λi _=>i<n,λi H x Z=>Z=H/\x=.int ((n)-1-i),λi _=>n<=i]
def MX {K} {tg} (it) (n):Turn P w K tg (Bw n) [it] it (λi h=>IsRangeIter h it (((n)-1)+(i)*(-1)) ((n)-(i)) (-1)) where
 mem:=by simp
 obj:=λi h Z b Y=>by
  have e:=by simpa using Y
  subst e;exact#[_,Z,λv z=>by
   have J:=z;cases J]
 keep:=λi h U Z k=>k it ∅ _ Z
 item:=by
  intro X O hw N T i M s σ H E I V Z S;subst O hw N;let(f0,f1,f2,R,f4,Q):=V it ∅;have W:=Walks.range (prog:=X.prog) (w:=X.w) (I.ok.hd T) it ((n)-1) (-1) n;refine W.item i s _ _ S Z λv U G F L D=>?_;let(t,rfl):=F
  have C:Inv X M σ H { s with heap:=U,toks:=G }:=I.turned (λb o Y e=>D b o (by simpa using Y) e) f0 f1 R f4 Q
  refine#[_,rfl,xA L rfl rfl (by decide) #[.int _,H,C,#[t,?_],#[rfl,rfl],L,λb Y=>(V b Y).1]];rw[Int.mul_neg_one];rfl
 done:=by
  intro X O hw N T i M s σ H E I V Z S;let(f0,f1,f2,R,f4,Q):=V it ∅;exact wpAny_pyNext_range_end (I.ok.hd T) Z (by have:n<=i:=S;omega) λU B=>#[rfl,I.turned (λb o Y e=>B b o Y e) f0 f1 R f4 Q]
 self:=λ_ _ _ _ _ Z h=>agB Z h
section
variable {X:Cx} {tg:ŕ}
def Yf:ü "reversed"=ϊ (.type "reversed"):=nofun
def U2:dB X (.type "range") (λxs H Q=>∃j,xs=[.int j]/\∀p,H p=ϋ->Q (.ref p) (upd H p (.eT 0 j))):=by
 intro Y s σ H xs W Q I r h;let(j,rfl,q):=h;let(u,rfl,Z):=vals1 r;let(t,rfl):=Z;exact call_range_1 #[.ref _,_,I.laid (o:=.eT 0 j) (λb o e=>Á _ e) (ahz _) #[_,_,_,Ì _ rfl],rfl,q _ (I.aK.fresh (ahz _))]
def afw (ta:TA):TI:=fun σ H R=>ta σ H λY Z=>∃(p:þ) (n:Nat),Y=[.ref p]/\Z p=ϊ (.eT 0 n)/\n<2 ^ 62/\R (Bw n) Z
def abQ {p pos} (hg:Gl X "reversed") (hm:X.mg "reversed"=ϋ) (ha:PA X [a] ta) (hs:É [a] X.env=[(ύ,Ħ a X.env)]:=by rfl):PI X tg (.Call (.Name "reversed" p) [a] [] pos) (afw ta):=by
 intro V s σ H R I h;refine Call_ (pP I hg hm Yf (ĩ (aQ (ha pos V s σ H _ I h) λL Y ⟨K,U,Z,T,S⟩=>?_) hs rfl));let(c,n,e,Q,P,q):=S;subst e;let(u,rfl,O):=vals1 T;cases O;let(t1,J,t3,N):=Z.aK c _ Q;refine HZ.Ye N P ?_;have W:IsRangeIter (Y.heap.push { cls:=.type "range_iterator",data:=.fields #v[ł ((n)-1),ł n,ł (-1)] }) Y.heap.objs.size (((n)-1)+((0:Nat))*(-1)) ((n)-((0:Nat))) (-1):=by
  have e1:((n)-1)+((0:Nat):Int)*(-1)=n-1:=by simp
  have e2:(n)-((0:Nat):Int)=n:=by simp
  rw[e1];exact Ì _ rfl
 refine agB W ?_;refine#[_,_,_,_,U,rfl,Z.kept λb o e=>Á _ e,MX _ n,W,λb M=>?_,q];have e:=by simpa using M
 subst e;exact Z.rS (ahz _) (Z.aK.fresh (ahz _))
end
end L2
namespace HZ
open PySem PySem.Spec PyProof.Rows
end HZ
namespace L2
open PySem PySem.Spec PyProof.Rows
end L2
namespace DI
open PySem L2
set_option genInjectivity true in
inductive D where
 |ax|bl (b:Bool)|int (i:Int)|str (x:Str)|tup (ds:List D)|lst (ds:List D)|cI (bu:List (Key×Int))|aj (k:Nat)|ty (n:String)|cT (ns:List Int)|exc (c:Str) (m:Option Int)|dA (a:þ) (vs:List V) (ds:List D)
set_option genInjectivity true in
inductive Cell where
 |dead|lst (ds:List D)|dK (bu:List (Key×D))|dT (bu:List (D×Int))|tb (x:Str)|ins (c:Str) (fs:List (Str×D))
abbrev ag:=List Cell
abbrev Env:=List (Option D)
structure bw where
 c:Str
 many:Option Int
abbrev Res (α:Type):=Option (Except bw α×ag)
abbrev ahv (α:Type):=Env->ag->Res α
noncomputable abbrev ok (a:α) (s:ag):Res α:=ϊ (.ok a,s)
def ai (r:Res α) (k:α->ag->Res β):Res β:=match r with
 |some (.ok a,s)=>k a s
 |some (.error x,s)=>ϊ (.error x,s)
 |none=>ϋ
@[simp] theorem de {s} {k:α->ag->Res β}:ai (ϊ (.ok a,s)) k=k a s:=rfl
structure Wd where
 ρ:List þ
 aN:ag
 H:Hp
def Wd.Z (w:Wd) (a:þ):Prop:=∃(k:Nat) (c:Cell),w.ρ[k]?=ϊ a/\w.aN[k]?=ϊ c/\c≠.dead
def LstAt (w:Wd) (a:þ) (xs:List V):Prop:=¬ w.Z a/\w.H a=ϊ (.lst xs)
def LstAt.sq (h:LstAt w a xs):bV K w.H a xs:=bV.of h.2
def xD (K:Ň) (w:Wd) (a:þ) (xs:List V):Prop:=(¬ w.Z a/\Rd w.H a (.lst xs)) \/
 ∃(o:Obj) (ak:Array ã) (n:Nat),K.lookup a=ϊ o/\o.cls=.type "list"/\o.dict=ϋ/\o.data=.seq ak n/\ak.size<=Õ/\Vals xs ak.toList
def xD.sq (h:xD K w a xs):bV K w.H a xs:=by
 rcases h with ⟨_,h⟩|h
 .exact .inl h
 .exact .inr h
mutual
def DV (K:Ň) (w:Wd):D->V->Prop
 | .ax,v=>v=.ax
 | .bl b,v=>v=.bl b
 | .int i,v=>v=.int i
 | .str x,v=>v=.str x
 | .tup Y,v=>∃a X,v=.ref a/\bZ K w.H a X/\aA K w Y X
 | .lst Y,v=>∃a X,v=.ref a/\LstAt w a X/\aA K w Y X
 | .cI S,v=>∃a,v=.ref a/\¬ w.Z a/\w.H a=ϊ (.dK (S.map λp=>(p.1,V.int p.2)))
 | .aj k,v=>∃a,w.ρ[k]?=ϊ a/\v=.ref a
 | .ty n,v=>v=.ty n
 | .cT R,v=>∃a,v=.ref a/\xD K w a (R.map V.int)
 | .exc c m,v=>∃a o C,v=.ref a/\(¬ w.Z a/\w.H a=ϊ (.bx o (.own a)))/\(o.cls=.ref C/\í K Ð c=ϊ (ϊ (.ref C)))/\∀i,m=ϊ i->PySem.W.notCls o=ό/\∃U T t,o.dict=ϊ U/\(¬ w.Z U/\w.H U=ϊ (.bx T (.own U)))/\adL "many" T=ϊ (ϊ (.int i t))
 | .dA a Q Y,v=>v=.ref a/\aA K w Y Q
def aA (K:Ň) (w:Wd):List D->List V->Prop
 | [],Z=>Z=[]
 |d::Y,Z=>∃v r,Z=v::r/\DV K w d v/\aA K w Y r
end
structure Fw (K) (w w':Wd):Prop where
 HV:∀(k:Nat) a,w.ρ[k]?=ϊ a->w'.ρ[k]?=ϊ a
 tup:∀a xs,bZ K w.H a xs->bZ K w'.H a xs
 lst:∀a xs,¬ w.Z a->w.H a=ϊ (.lst xs)->¬ w'.Z a/\w'.H a=ϊ (.lst xs)
 bx:∀a o u,¬ w.Z a->w.H a=ϊ (.bx o u)->¬ w'.Z a/\w'.H a=ϊ (.bx o u)
 cI:∀a es,¬ w.Z a->w.H a=ϊ (.dK es)->¬ w'.Z a/\w'.H a=ϊ (.dK es)
def Fw.Qr (S:Fw K w w') (h:LstAt w a xs):LstAt w' a xs:=S.lst a xs h.1 h.2
def Fw.adT (S:Fw K w w') (h:xD K w a xs):xD K w' a xs:=by
 rcases h with ⟨Y,Z | ⟨o,Z⟩⟩|h
 .have q:=S.lst a xs Y Z
  exact .inl #[q.1,.inl q.2]
 .have q:=S.bx a o _ Y Z
  exact .inl #[q.1,.inr #[o,q.2]]
 .exact .inr h
mutual
theorem DV.fw (S:Fw K w w'):∀{d} {v},DV K w d v->DV K w' d v
 | .ax,_,h=>h
 | .bl _,_,h=>h
 | .int _,_,h=>h
 | .str _,_,h=>h
 | .tup X,v,h=>by
  let(a,Y,e,Z,r):=h;exact#[a,Y,e,S.tup a Y Z,aA.fw S r]
 | .lst X,v,h=>by
  let(a,Y,e,Z,r):=h;exact#[a,Y,e,S.Qr Z,aA.fw S r]
 | .cI M,v,h=>by
  let(a,e,T,Z):=h;let(R,Q):=S.cI a _ T Z;exact#[a,e,R,Q]
 | .aj k,v,h=>by
  let(a,e,e2):=h;exact#[a,S.HV k a e,e2]
 | .ty _,_,h=>h
 | .cT L,v,h=>by
  let(a,e,Z):=h;exact#[a,e,S.adT Z]
 | .exc c m,v,h=>by
  let(a,o,C,e,Z,r,k):=h;refine#[a,o,C,e,S.bx a o _ Z.1 Z.2,r,λi hi=>?_];let(P,W,V,t,O,U,N):=k i hi;exact#[P,W,V,t,O,S.bx W V _ U.1 U.2,N]
 | .dA a J X,v,h=>by
  erw[DV] at h |-;exact#[h.1,aA.fw S h.2]
theorem aA.fw (S:Fw K w w'):∀{ds} {vs},aA K w ds vs->aA K w' ds vs
 | [],_,h=>h
 |d::ds,vs,h=>by
  erw[aA] at h |-;let(v,r,e,Z,Y):=h;exact#[v,r,e,DV.fw S Z,aA.fw S Y]
end
structure Le (K) (w w'):Prop where
 dv:∀d v,DV K w d v->DV K w' d v
 lst:∀a xs,LstAt w a xs->LstAt w' a xs
 tup:∀a xs,bZ K w.H a xs->bZ K w'.H a xs
 bx:∀a o u,¬ w.Z a->w.H a=ϊ (.bx o u)->¬ w'.Z a/\w'.H a=ϊ (.bx o u)
noncomputable instance:CoeFun (Le K w w') (λ_=>∀d v,DV K w d v->DV K w' d v):=#[Le.dv]
def Le.refl (w):Le K w w:=#[λ_ _ h=>h,λ_ _ h=>h,λ_ _ h=>h,λ_ _ _ h g=>#[h,g]]
def Le.trans (h:Le K a b) (g:Le K b c):Le K a c:=#[λd v x=>g.dv d v (h.dv d v x),λp Z x=>g.lst p Z (h.lst p Z x),λp Z x=>g.tup p Z (h.tup p Z x),λp o u z x=>let q:=h.bx p o u z x;g.bx p o u q.1 q.2]
def Fw.le (S:Fw K w w'):Le K w w':=#[λ_ _ h=>h.fw S,λ_ _ h=>S.Qr h,S.tup,S.bx]
theorem Le.all (h:Le K w w'):∀{ds} {vs},aA K w ds vs->aA K w' ds vs
 | [],_,x=>x
 |d::ds,vs,x=>by
  let(v,r,e,Z,Y):=x;exact#[v,r,e,h d v Z,Le.all h Y]
theorem aA.length:∀{ds} {vs},aA K w ds vs->ds.length=vs.length
 | [],vs,h=>by
  have e:=h;subst e;rfl
 |d::ds,vs,h=>by
  let(v,r,e,_,Z):=h;subst e;simp[aA.length Z]
theorem aA.get':∀{ds} {vs},aA K w ds vs->∀(i:Nat) d,ds[i]?=ϊ d->∃v,vs[i]?=ϊ v/\DV K w d v
 | [],vs,h,i,d,e=>by simp at e
 |d::ds,vs,h,i,Z,e=>by
  let(u,r,Y,X,W):=h;subst Y
  cases i with
  |zero =>
   have:=by simpa using e
   subst this;exact#[u,rfl,X]
  |succ i=>exact aA.get' W i Z (by simpa using e)
theorem aA.append:∀{ds es} {vs ws},aA K w ds vs->aA K w es ws->aA K w (ds++es) (vs++ws)
 | [],es,vs,ws,h,Z=>by
  have e:=h;subst e;exact Z
 |d::ds,es,vs,ws,h,Z=>by
  let(v,r,e,Y,X):=h;subst e;exact#[v,_,rfl,Y,aA.append X Z]
theorem aA.take:∀{ds} {vs} n,aA K w ds vs->aA K w (ds.take n) (vs.take n)
 | [],vs,n,h=>by
  have e:=h;subst e;simp[aA]
 |d::ds,vs,0,h=>by simp[aA]
 |d::ds,vs,n+1,h=>by
  let(v,r,e,Z,Y):=h;subst e;exact#[v,_,rfl,Z,aA.take n Y]
theorem aA.drop:∀{ds} {vs} n,aA K w ds vs->aA K w (ds.drop n) (vs.drop n)
 | [],vs,n,h=>by
  have e:=h;subst e;simp[aA]
 |d::ds,vs,0,h=>h
 |d::ds,vs,n+1,h=>by
  let(v,r,e,Y,Z):=h;subst e;exact aA.drop n Z
theorem aA.set (hd:DV K w d v):∀{ds} {vs} i,aA K w ds vs->aA K w (ds.set i d) (vs.set i v)
 | [],vs,i,h=>by
  have e:=h;subst e;simp[aA]
 |d'::ds,vs,0,h=>by
  let(u,r,e,Y,Z):=h;subst e;exact#[v,r,rfl,hd,Z]
 |d'::ds,vs,i+1,h=>by
  let(u,r,e,Y,Z):=h;subst e;exact#[u,_,rfl,Y,aA.set hd i Z]
def aA.one (h:DV K w d v):aA K w [d] [v]:=#[v,_,rfl,h,rfl]
def aA.two (h:DV K w d v) (h':DV K w d' v'):aA K w [d,d'] [v,v']:=#[v,_,rfl,h,aA.one h']
theorem aA.ints:∀(ns:List Int),aA K w (ns.map D.int) (ns.map V.int)
 | []=>rfl
 |n::ns=>#[_,_,rfl,rfl,aA.ints ns]
theorem aA.MY:∀{ns:List Int} {vs},aA K w (ns.map D.int) vs->vs=ns.map V.int
 | [],_,h=>h
 |n::ns,vs,h=>by
  let(v,r,e,Z,Y):=h;have e1:=Z;rw[e,e1,aA.MY Y];rfl
theorem aA.wM:∀{bs:List Bool} {vs},aA K w (bs.map D.bl) vs->vs=bs.map V.bl
 | [],_,h=>h
 |n::X,vs,h=>by
  let(v,r,e,Z,Y):=h;have e1:=Z;rw[e,e1,aA.wM Y];rfl
def DX (a:þ) (es:List (Int×þ)) (h:ū):Prop:=(a==sysModules)=ύ/\∃(o:Obj) (Z:Array DictEntry) (Y:Nat),h.get? a=ϊ o/\o.ExactDict/\o.data=.dict Z Y/\Z.toList=es.map λp=>(#[p.1,.ref p.2,.bool ό])
def adU (w:Wd) (q:Str) (cv:ã):Prop:=∃Y X W t,cv=.ref Y/\(¬ w.Z Y/\w.H Y=ϊ (.bx X (.own Y)))/\X.data=.fields W/\W[1]?=ϊ (.str q t)
def afx (K:Ň) (w:Wd) (a:þ) (x:Str):Prop:=∃c Z,Ű K x=ϊ (c,a)/\w.H a=ϊ (.cK Z)/\PySem.TriplesOk Z.toList/\∀pos Y,PySem.codeAmong pos Z.toList=ϊ Y->adU w (x++".<locals>."++"<lambda>") Y
def ux (K:Ň) (w:Wd) (a:þ):Cell->Prop
 | .dead=>True
 | .lst U=>∃W,w.H a=ϊ (.lst W)/\aA K w U W
 | .dK Z=>∃Y,w.H a=ϊ (.dK Y)/\Y.map (·.1)=Z.map (·.1)/\aA K w (Z.map (·.2)) (Y.map (·.2))
 | .dT Z=>∃as,w.H a=ϊ (.ext (DX a ((Z.map (·.2)).zip as)))/\aA K w (Z.map (·.1)) (as.map V.ref)/\(Z.map (·.1)).Nodup
 | .tb x=>afx K w a x
 | .ins c fs=>∃(C T:þ) (X:List _),í K Ð c=ϊ (ϊ (.ref C))/\w.H a=ϊ (.ins C T X)/\X.map (·.1)=fs.map (·.1)/\aA K w (fs.map (·.2)) (X.map (·.2))
structure aW (K) (w:Wd):Prop where
 len:w.ρ.length=w.aN.length
 nd:w.ρ.Nodup
 there:∀(k:Nat) a,w.ρ[k]?=ϊ a->w.H a≠ϋ
 cell:∀(k:Nat) a c,w.ρ[k]?=ϊ a->w.aN[k]?=ϊ c->ux K w a c
theorem ux.le (h:ux K w a c) (le:Le K w w') (e:c≠.dead->w'.H a=w.H a):ux K w' a c:=by
 cases c with
 |dead=>trivial
 |lst I =>
  let(R,Z,Y):=h;exact#[R,(e (by intro z;cases z)).trans Z,le.all Y]
 |dK Q =>
  let(P,Z,Y,X):=h;exact#[P,(e (by intro z;cases z)).trans Z,Y,le.all X]
 |dT Q =>
  let(as,Z,Y,X):=h;exact#[as,(e (by intro z;cases z)).trans Z,le.all Y,X]
 |tb x =>
  let(c,O,Z,Y,X,W):=h
  exact#[c,O,Z,(e (by intro z;cases z)).trans Y,X,λpos N q=>let ⟨U,T,V,t,M,S,L⟩:=W pos N q;#[U,T,V,t,M,le.bx U T _ S.1 S.2,L]]
 |ins c fs =>
  let(C,J,V,Z,Y,X,W):=h;exact#[C,J,V,Z,(e (by intro z;cases z)).trans Y,X,le.all W]
section
variable {K:Ň} {w:Wd}
def Wd.grow (w:Wd) (p:þ) (o:HO):Wd:={ w with H:=upd w.H p o }
def Rd.grow (hp:H p=ϋ) (h:Rd H a u):Rd (upd H p o) a u:=by
 rcases h with h | ⟨Z,h⟩
 .exact .inl (by rw[bB (eh h hp)];exact h)
 .exact .inr #[Z,by rw[bB (eh h hp)];exact h]
theorem bZ.grow (hp:H p=ϋ) (h:bZ K H a xs):bZ K (upd H p o) a xs:=by
 rcases h with h|h
 .exact .inl (Rd.grow hp h)
 .exact .inr h
theorem Fw.grow (hp:w.H p=ϋ):Fw K w (w.grow p o) where
 HV:=λ_ _ e=>e
 tup:=λa Y h=>bZ.grow hp h
 lst:=λa Y Z h=>#[Z,by show upd _ p o a=_;rw[bB (eh h hp)];exact h]
 bx:=λa X Y Z h=>#[Z,by show upd _ p o a=_;rw[bB (eh h hp)];exact h]
 cI:=λa W Z h=>#[Z,by show upd _ p o a=_;rw[bB (eh h hp)];exact h]
theorem aW.grow (S:aW K w) (hp:w.H p=ϋ):aW K (w.grow p o) where
 len:=S.len
 nd:=S.nd
 there:=λk a e=>by
  have h:=S.there k a e;show upd _ p o a≠ϋ;delta upd;split
  .intro z;cases z
  .exact h
 cell:=λk a c e1 e2=>(S.cell k a c e1 e2).le (Fw.grow hp).le λ_=>by
  have h:=S.there k a e1;show upd _ p o a=w.H a;rw[bB];intro z;rw[z] at h;exact h hp
def Wd.cell (w:Wd) (p:þ) (o:HO) (c:Cell):Wd:=#[w.ρ++[p],w.aN++[c],upd w.H p o]
def Wd.E7 (S:aW K w) (h:(w.cell p o c).Z a):w.Z a\/a=p:=by
 let(k,Y,e1,e2,e3):=h;have e1:(w.ρ++[p])[k]?=ϊ a:=e1;have e2:(w.aN++[c])[k]?=ϊ Y:=e2;by_cases X:k<w.ρ.length
 .rw[æ X] at e1
  rw[æ (by rw[<- S.len];exact X)] at e2;exact .inl #[k,Y,e1,e2,e3]
 .rw[ñ ⋯] at e1
  right
  cases W:k-w.ρ.length with
  |zero=>rw[W] at e1;exact(ahA e1).symm
  |succ j=>rw[W] at e1;cases e1
theorem Fw.cell (S:aW K w) (hp:w.H p=ϋ):Fw K w (w.cell p o c) where
 HV:=λk a e=>by
  show (w.ρ++[p])[k]?=ϊ a;rw[æ (Ç.mp e).1];exact e
 tup:=λa Y h=>bZ.grow hp h
 lst:=λa Y Z h=>#[λz=>(Wd.E7 S z).elim Z (λe=>by (subst e;rw[hp] at h;cases h)),by show upd _ p o a=_;rw[bB (eh h hp)];exact h]
 bx:=λa X Y Z h=>#[λz=>(Wd.E7 S z).elim Z (λe=>by (subst e;rw[hp] at h;cases h)),by show upd _ p o a=_;rw[bB (eh h hp)];exact h]
 cI:=λa W Z h=>#[λz=>(Wd.E7 S z).elim Z (λe=>by (subst e;rw[hp] at h;cases h)),by show upd _ p o a=_;rw[bB (eh h hp)];exact h]
def aW.FI (S:aW K w) (hp:w.H p=ϋ) (hc:ux K (w.cell p o c) p c):aW K (w.cell p o c) where
 len:=by show (w.ρ++[p]).length=(w.aN++[c]).length;simp[S.len]
 nd:=by
  show (w.ρ++[p]).Nodup;rw[agO];refine#[S.nd,by simp,λa W b V=>?_];let(k,e):=List.getElem?_of_mem W;have h:=S.there k a e;have U:=by simpa using V
  rw[U];intro z;rw[z] at h;exact h hp
 there:=λk a e=>by
  have e:(w.ρ++[p])[k]?=ϊ a:=e;show upd _ p o a≠ϋ;delta upd;split
  .intro z;cases z
  .rename_i T
   by_cases Y:k<w.ρ.length
   .rw[æ Y] at e
    exact S.there k a e
   .rw[ñ ⋯] at e
    cases Z:k-w.ρ.length with
    |zero=>rw[Z] at e;exact absurd (ahA e).symm T
    |succ j=>rw[Z] at e;cases e
 cell:=λk a X e1 e2=>by
  have e1:(w.ρ++[p])[k]?=ϊ a:=e1;have e2:(w.aN++[c])[k]?=ϊ X:=e2;by_cases Y:k<w.ρ.length
  .rw[æ Y] at e1
   rw[æ (by rw[<- S.len];exact Y)] at e2;refine(S.cell k a X e1 e2).le (Fw.cell S hp).le λ_=>?_;have h:=S.there k a e1;show upd _ p o a=w.H a;rw[bB];intro z;rw[z] at h;exact h hp
  .rw[ñ ⋯] at e1
   rw[ñ (by rw[<- S.len];omega)] at e2;rw[<- S.len] at e2
   cases Z:k-w.ρ.length with
   |zero =>
    rw[Z] at e1 e2;have e1:=ahA e1;have e2:=ahA e2;subst e1 e2;exact hc
   |succ j=>rw[Z] at e1;cases e1
noncomputable def Wd.same (w:Wd) (H':Hp):Wd:={ w with H:=H' }
theorem Fw.same (e:mz w.H H'):Fw K w (w.same H') :=
 #[λ_ _ e=>e,λa Y h=>e.sqT h,λa Y Z h=>#[Z,e _ _ h],λa o Y Z h=>#[Z,e _ _ h],λa X Z h=>#[Z,e _ _ h]]
theorem aW.same (S:aW K w) (e:mz w.H H'):aW K (w.same H') where
 len:=S.len
 nd:=S.nd
 there:=λk a q=>by
  have h:=S.there k a q;show H' a≠ϋ
  cases Z:w.H a with
  |none=>exact absurd Z h
  |some o=>rw[e _ _ Z];intro z;cases z
 cell:=λk a c e1 e2=>(S.cell k a c e1 e2).le (Fw.same e).le λ_=>by
  have h:=S.there k a e1
  cases Z:w.H a with
  |none=>exact absurd Z h
  |some o=>exact e _ _ Z
def Wd.put (w:Wd) (k:Nat) (a:þ) (o:HO) (c:Cell):Wd:=#[w.ρ,w.aN.set k c,upd w.H a o]
def KY {α:Type} {l:List α} (nd:l.Nodup) {i j:Nat} {a} (h1:l[i]?=ϊ a) (h2:l[j]?=ϊ a):i=j:=by
 exact(List.getElem?_inj (Ç.mp h1).1 nd).mp (h1.trans h2.symm)
def Wd.FJ (h0:w.ρ[k]?=ϊ a) (h1:w.aN[k]?=ϊ c0) (h2:c0≠.dead) (h:(w.put k a o c).Z b):w.Z b:=by
 let(j,Y,e1,e2,e3):=h;have e2:(w.aN.set k c)[j]?=ϊ Y:=e2;by_cases X:k=j
 .subst X
  exact#[k,c0,e1,h1,h2]
 .rw[ç X] at e2
  exact#[j,Y,e1,e2,e3]
theorem Fw.put (S:aW K w) (h0:w.ρ[k]?=ϊ a) (h1:w.aN[k]?=ϊ c0) (h2:c0≠.dead):Fw K w (w.put k a o c):=by
 have W:w.Z a:=#[k,c0,h0,h1,h2];have T:∀X,¬ Rd w.H a (.tup X):=λX h=>by
  have q:=S.cell k a c0 h0 h1
  cases c0 with
  |dead=>exact h2 rfl
  |lst Q=>let(V,e,_):=q;rcases h with h | ⟨_,h⟩<;>(rw[e] at h;cases h)
  |dK R=>let(V,e,_):=q;rcases h with h | ⟨_,h⟩<;>(rw[e] at h;cases h)
  |dT R=>let(V,e,_):=q;rcases h with h | ⟨_,h⟩<;>(rw[e] at h;cases h)
  |tb x=>let(_,V,_,e,_):=q;rcases h with h | ⟨_,h⟩<;>(rw[e] at h;cases h)
  |ins c fs=>let(_,_,_,_,e,_):=q;rcases h with h | ⟨_,h⟩<;>(rw[e] at h;cases h)
 refine#[λ_ _ e=>e,λb X h=>?_,λb X Y h=>#[λz=>Y (Wd.FJ h0 h1 h2 z),?_],λb U X Y h=>#[λz=>Y (Wd.FJ h0 h1 h2 z),?_],λb P Y h=>#[λz=>Y (Wd.FJ h0 h1 h2 z),?_]]
 .rcases h with h|h
  .have ne:b≠a:=λe=>by subst e;exact T X h
   refine .inl ?_
   rcases h with h | ⟨U,h⟩
   .exact .inl (by show upd _ a o b=_;rw[bB ne];exact h)
   .exact .inr #[U,by show upd _ a o b=_;rw[bB ne];exact h]
  .exact .inr h
 .have ne:b≠a:=λe=>by subst e;exact Y W
  show upd _ a o b=_;rw[bB ne];exact h
 .have ne:b≠a:=λe=>by subst e;exact Y W
  show upd _ a o b=_;rw[bB ne];exact h
 .have ne:b≠a:=λe=>by subst e;exact Y W
  show upd _ a o b=_;rw[bB ne];exact h
def aW.vd {a} {o} {c c0} (S:aW K w) (h0:w.ρ[k]?=ϊ a) (h1:w.aN[k]?=ϊ c0) (h2:c0≠.dead) (hc:ux K (w.put k a o c) a c):aW K (w.put k a o c) where
 len:=by show w.ρ.length=(w.aN.set k c).length;rw[ù];exact S.len
 nd:=S.nd
 there:=λj b e=>by
  show upd _ a o b≠ϋ;delta upd;split
  .intro z;cases z
  .exact S.there j b e
 cell:=λj b Y e1 e2=>by
  have e1:w.ρ[j]?=ϊ b:=e1;have e2:(w.aN.set k c)[j]?=ϊ Y:=e2;by_cases Z:k=j
  .subst Z
   rw[h0] at e1;have e1:=ahA e1;rw[â (Ç.mp h1).1] at e2;have e2:=ahA e2;subst e1 e2;exact hc
  .rw[ç Z] at e2
   refine(S.cell j b Y e1 e2).le (Fw.put S h0 h1 h2).le λ_=>?_;show upd _ a o b=w.H b;rw[bB];intro z;subst z;exact Z (KY S.nd h0 e1)
noncomputable def Wd.freeze (w:Wd) (k:Nat):Wd:={ w with aN:=w.aN.set k .dead }
def Wd.DH (h:(w.freeze k).Z b):w.Z b:=by
 let(j,Y,e1,e2,e3):=h;have e2:(w.aN.set k _)[j]?=ϊ Y:=e2;by_cases X:k=j
 .subst X
  have W:=(Ç.mp e2).1;rw[ù] at W;rw[â W] at e2;exact absurd (ahA e2).symm e3
 .rw[ç X] at e2
  exact#[j,Y,e1,e2,e3]
theorem Fw.freeze:Fw K w (w.freeze k) :=
 #[λ_ _ e=>e,λ_ _ h=>h,λ_ _ Z h=>#[λz=>Z (Wd.DH z),h],λ_ _ _ Z h=>#[λz=>Z (Wd.DH z),h],λ_ _ Z h=>#[λz=>Z (Wd.DH z),h]]
theorem aW.freeze (S:aW K w):aW K (w.freeze k) where
 len:=by show w.ρ.length=(w.aN.set k _).length;rw[ù];exact S.len
 nd:=S.nd
 there:=S.there
 cell:=λj b Z e1 e2=>by
  have e2:(w.aN.set k _)[j]?=ϊ Z:=e2;by_cases Y:k=j
  .subst Y
   have X:=(Ç.mp e2).1;rw[ù] at X;rw[â X] at e2;rw[<- ahA e2];trivial
  .rw[ç Y] at e2
   exact(S.cell j b Z e1 e2).le Fw.freeze.le λ_=>rfl
def Wd.WI {a} (S:aW K w) (h:w.ρ[k]?=ϊ a):¬ (w.freeze k).Z a:=by
 intro qz;let(j,X,e1,e2,e3):=qz;have e2:(w.aN.set k _)[j]?=ϊ X:=e2;have W:=KY S.nd h e1;subst W;have Y:=(Ç.mp e2).1;rw[ù] at Y;rw[â Y] at e2;exact e3 (ahA e2).symm
end
structure cg (K) (w) (env:Env) (σ:St):Prop where
 len:env.length=σ.length
 val:∀(i:Nat) d,env[i]?=ϊ (ϊ d)->∃v,σ[i]?=ϊ (ϊ v)/\DV K w d v
theorem cg.le (h:cg K w env σ) (le:Le K w w'):cg K w' env σ :=
 #[h.len,λi d e=>by let(v,e1,e2):=h.val i d e;exact#[v,e1,le d v e2]]
theorem cg.set (h:cg K w env σ) (hd:DV K w d v) (i):cg K w (env.set i (ϊ d)) (σ.set i (ϊ v)):=by
 refine#[by rw[ù,ù];exact h.len,λj X e=>?_];by_cases Z:i=j
 .subst Z
  have Y:=(Ç.mp e).1;rw[ù] at Y;rw[â Y] at e;have e:=ahA (ahA e);subst e;exact#[v,by rw[â (by rw[<- h.len];exact Y)],hd]
 .rw[ç Z] at e
  rw[ç Z];exact h.val j X e
def Out (K:Ň) (Ξ:Wd->bw->Prop) (w:Wd) {α} (r:Res α) (k:Wd->α->Prop):Prop:=match r with
 |none=>False
 |some (.ok a,s)=>∀Z,Le K w Z->aW K Z->Z.aN=s->k Z a
 |some (.error x,s)=>∀Z,Le K w Z->aW K Z->Z.aN=s->Ξ Z x
section
variable {K:Ň} {Ξ:Wd->bw->Prop} {w w':Wd} {α β:Type} {r:Res α} {k k':Wd->α->Prop}
def Out.from (h:Out K Ξ w r k) (le:Le K w w'):Out K Ξ w' r k:=by
 delta Out at h |-
 split<;>simp only at h
 .exact λZ Y X e2=>h Z (le.trans Y) X e2
 .exact λZ Y X e2=>h Z (le.trans Y) X e2
def Out.mono (h:Out K Ξ w r k) (hk:∀w2 a,Le K w w2->aW K w2->k w2 a->k' w2 a):Out K Ξ w r k':=by
 delta Out at h |-
 split<;>simp only at h
 .exact λw2 Z Y e2=>hk w2 _ Z Y (h w2 Z Y e2)
 .exact h
theorem Out.ai {q:Wd->β->Prop} (h:Out K Ξ w (DI.ai r g) q):Out K Ξ w r (λw2 a=>Out K Ξ w2 (g a w2.aN) q):=by
 match r,h with
 |some (.ok a,s),h =>
  intro w2 Z Y e2;rw[e2];exact Out.from h Z
 |some (.error x,s),h=>exact h
end
end DI
namespace DI
open PySem L2
def tE (K:Ň) (Ξ:Wd->bw->Prop) (f:ahv D):TE:=fun σ H Q=>∃w env,w.H=H/\aW K w/\cg K w env σ/\Out K Ξ w (f env w.aN) λZ d=>∀v,DV K Z d v->Q v Z.H
def tT (K:Ň) (Ξ:Wd->bw->Prop) (f:ahv Bool):TT:=fun σ H Q=>∃w env,w.H=H/\aW K w/\cg K w env σ/\Out K Ξ w (f env w.aN) λZ b=>Q b Z.H
def tA (K:Ň) (Ξ:Wd->bw->Prop) (f:ahv (List D)):TA:=fun σ H Q=>∃w env,w.H=H/\aW K w/\cg K w env σ/\Out K Ξ w (f env w.aN) λZ X=>∀Y,aA K Z X Y->Q Y Z.H
def rO (K:Ň) (Ξ:Wd->bw->Prop) (o:D->D->ag->Res D):R2:=λx y H Q=>∃w Z Y,w.H=H/\aW K w/\DV K w Z x/\DV K w Y y/\Out K Ξ w (o Z Y w.aN) λX d=>∀v,DV K X d v->Q v X.H
def rU (K:Ň) (Ξ:Wd->bw->Prop) (o:D->ag->Res D):V->Hp->VK->Prop:=λx H Q=>∃w Z,w.H=H/\aW K w/\DV K w Z x/\Out K Ξ w (o Z w.aN) λY d=>∀v,DV K Y d v->Q v Y.H
def rC (K:Ň) (Ξ:Wd->bw->Prop) (o:List D->ag->Res D):List V->Hp->VK->Prop:=λX H Q=>∃w Z,w.H=H/\aW K w/\aA K w Z X/\Out K Ξ w (o Z w.aN) λY d=>∀v,DV K Y d v->Q v Y.H
def aa (i:Nat):ahv D:=λenv s=>match env[i]? with
 |some (ϊ d)=>ok d s
 |_=>ϋ
def eC (d:D):ahv D:=λ_ s=>ok d s
def e1 (o:D->ag->Res D) (f:ahv D):ahv D:=λenv s=>ai (f env s) λx s=>o x s
def e2 (o:D->D->ag->Res D) (f g:ahv D):ahv D:=λenv s=>ai (f env s) λx s=>ai (g env s) λy s=>o x y s
def ah:ahv (List D):=λ_ s=>ok [] s
def af (f:ahv D) (g:ahv (List D)):ahv (List D):=λenv s=>ai (f env s) λx s=>ai (g env s) λZ s=>ok (x::Z) s
def eB (o:List D->ag->Res D) (f:ahv (List D)):ahv D:=λenv s=>ai (f env s) λZ s=>o Z s
noncomputable def mh (ds:List D) (r:Res α):Res α:=if ds.length<=Õ then r else ϋ
def cC (f:ahv (List D)):ahv D:=λenv s=>ai (f env s) λZ s=>mh Z (ok (.tup Z) s)
def dh (f:ahv (List D)):ahv D:=λenv s=>ai (f env s) λZ s=>mh Z (ok (.lst Z) s)
def eNew (f:ahv (List D)):ahv D:=λenv s=>ai (f env s) λZ s=>mh Z (ok (.aj s.length) (s++[.lst Z]))
def bx:D->ag->Res D:=λd s=>match d with
 | .aj k=>match s[k]? with
  |some (.lst Z)=>ok (.lst Z) (s.set k .dead)
  |_=>ϋ
 |_=>ϋ
def oQ (f:ahv D):ahv D:=λenv s=>ai (f env s) bx
def jk (d:D) (s:ag):Res Bool:=match d with
 | .bl b=>ok b s
 |_=>ϋ
def aH (f:ahv D):ahv Bool:=λenv s=>ai (f env s) jk
def truth (d:D) (s:ag):Res Bool:=match d with
 | .ax=>ok ύ s
 | .bl b=>ok b s
 | .int i=>ok (i != 0) s
 | .str x=>if x.length<=Õ then ok ((x.length:Int) != 0) s else ϋ
 | .tup Z=>ok (!Z.isEmpty) s
 | .lst Z=>ok (!Z.isEmpty) s
 | .cI Y=>ok (!Y.isEmpty) s
 | .aj k=>match s[k]? with
  |some (.lst Z)=>ok (!Z.isEmpty) s
  |some (.dK Y)=>ok (!Y.isEmpty) s
  |_=>ϋ
 | .ty _=>ϋ
 | .cT _=>ϋ
 | .exc ..=>ϋ
 | .dA ..=>ϋ
def cD (f:ahv D):ahv Bool:=λenv s=>ai (f env s) truth
def fj (f g:ahv Bool):ahv Bool:=λenv s=>ai (f env s) λb s=>if b=ό then g env s else ok ύ s
def ff (f g:ahv Bool):ahv Bool:=λenv s=>ai (f env s) λb s=>if b=ό then ok ό s else g env s
def eQ (f:ahv Bool):ahv Bool:=λenv s=>ai (f env s) λb s=>ok (!b) s
def dj (f g:ahv D):ahv D:=λenv s=>ai (f env s) λx s=>ai (jk x s) λb s=>if b=ό then g env s else ok (.bl ύ) s
def i6 (f g:ahv D):ahv D:=λenv s=>ai (f env s) λx s=>ai (jk x s) λb s=>if b=ό then ok (.bl ό) s else g env s
def x8 (f:ahv D):ahv D:=λenv s=>ai (f env s) λx s=>ai (jk x s) λb s=>ok (.bl (!b)) s
def jS (c:ahv Bool) (f g:ahv D):ahv D:=λenv s=>ai (c env s) λb s=>if b=ό then f env s else g env s
def vO (o o':D->D->ag->Res D) (f g h:ahv D):ahv D:=λenv s=>ai (f env s) λx s=>ai (g env s) λy s=>ai (o x y s) λz s=>ai (jk z s) λb s =>
 if b=ό then ai (h env s) λu s=>o' y u s else ok (.bl ύ) s
section
variable {X:Cx} {Ξ:Wd->bw->Prop} {e a b c:ŕ} {es rest:List ŕ} {pos:Pos} {f g h:ahv D} {fa:ahv (List D)} {ft gt:ahv Bool}
def cE (h:PE X e t) (i:∀ σ H Q,t' σ H Q->t σ H Q):PE X e t':=λZ s σ H Q I Y=>h Z s σ H Q I (i σ H Q Y)
def E8 (h:PT X e t) (i:∀ σ H Q,t' σ H Q->t σ H Q):PT X e t':=λZ s σ H Q I Y=>h Z s σ H Q I (i σ H Q Y)
def Pc (h:PW X e t) (i:∀ σ H Q,t' σ H Q->t σ H Q):PW X e t':=λZ Y s σ H Q I W=>h Z Y s σ H Q I (i σ H Q W)
def Pd (h:PA X es t) (i:∀ σ H Q,t' σ H Q->t σ H Q):PA X es t':=λp Z s σ H Q I Y=>h p Z s σ H Q I (i σ H Q Y)
def lX (h:PS X st t) (i:∀D σ H,t' D σ H->t D σ H):PS X st t':=λY s σ H D I Z=>h s σ H D I (i D σ H Z)
def N5 (h:dW X st t) (i:∀D σ H,t' D σ H->t D σ H):dW X st t':=λY s σ H D I Z=>h s σ H D I (i D σ H Z)
def aI {K} {w} {a:α} {k} (S:aW K w) (h:Out K Ξ w (ok a w.aN) k):k w a:=h w (Le.refl w) S rfl
def ae (i) {x} (hN:X.N[i]?=ϊ x:=by rfl) (hv:qp X.env.scope x:=by first|exact ſ rfl|exact Or.inr (ſ rfl)|exact Or.inr (Or.inr rfl)) (hd:(x==("__debug__"))=ύ:=by decide)
  (fe:(x==("__classdict__"))=ύ:=by decide):PE X (.Name x pos) (tE X.K Ξ (aa i)):=cE (E4 hN hv hd fe) fun σ H Q Z=>by
 let(w,env,Y,S,W,h):=Z;delta aa at h;split at h
 .rename_i d V
  let(v,e1,e2):=W.val i d V;subst Y;exact#[v,e1,aI S h v e2]
 .exact h.elim
def rE {v} (h:PE X e (tC v)) (hd:∀w,DV X.K w d v):PE X e (tE X.K Ξ (eC d)):=cE h fun σ H Q Z=>by
 let(w,env,Y,S,W,h):=Z;subst Y;exact aI S h v (hd w)
def aw:PE X (.Constant (.int i) j pos) (tE X.K Ξ (eC (.int i))):=rE aa8 λ_=>rfl
def fH {b j}:PE X (.Constant (.bool b) j pos) (tE X.K Ξ (eC (.bl b))):=rE FE λ_=>rfl
def rF:PE X (.Constant .none j pos) (tE X.K Ξ (eC .ax)):=rE aa9 λ_=>rfl
def bq:PE X (.Constant (.str x) j pos) (tE X.K Ξ (eC (.str x))):=rE aba λ_=>rfl
def Ap (σ) (H) (Q):tE K Ξ (e2 o f g) σ H Q->yD (rO K Ξ o) (tE K Ξ f) (tE K Ξ g) σ H Q:=by
 intro qz;let(w,env,rfl,S,Z,h):=qz;exact#[w,env,rfl,S,Z,(Out.ai h).mono λY x X W V v1 U=>#[Y,env,rfl,W,Z.le X,(Out.ai V).mono λT y R P O v2 N=>#[T,x,y,rfl,P,R _ _ U,N,O]]]
def bL (ho:bP X (ņ op) (rO X.K Ξ o)) (ha:PE X a (tE X.K Ξ f)) (hb:PE X b (tE X.K Ξ g)):PE X (.BinOp a op b pos) (tE X.K Ξ (e2 o f g)):=cE (adu ho ha hb) Ap
def dC (ho:bP X (Ē op) (rO X.K Ξ o)) (ha:PE X a (tE X.K Ξ f)) (hb:PE X b (tE X.K Ξ g)) (hm:agp op b=ύ):PE X (.Compare a [op] [b] pos) (tE X.K Ξ (e2 o f g)):=cE (ZD ho ha hb hm) Ap
def abR (σ) (H) (Q):tT K Ξ (aH f) σ H Q->A8 (tE K Ξ f) σ H Q:=by
 intro qz;let(w,env,rfl,S,Y,h):=qz;refine#[w,env,rfl,S,Y,(Out.ai h).mono λV x U X Z v1 W=>?_]
 cases x with
 |bl b =>
  have e:=W;exact#[b,e,aI X Z]
 |_=>exact Z.elim
def VJ (i:∀ σ H Q,t' σ H Q->t σ H Q) (σ) (H) (Q):A8 t' σ H Q->A8 t σ H Q:=λh=>i _ _ _ h
def aY (ho:bP X (Ē op) (rO X.K Ξ o)) (ha:PE X a (tE X.K Ξ f)) (hb:PE X b (tE X.K Ξ g)) (hm:agp op b=ύ):PT X (.Compare a [op] [b] pos) (tT X.K Ξ (aH (e2 o f g))) :=
 E8 (ZE ho ha hb hm) fun σ H Q h=>VJ Ap σ H Q (abR σ H Q h)
def abS {o o'} (σ) (H) (Q):tE K Ξ (vO o o' f g h) σ H Q->O5 (rO K Ξ o) (rO K Ξ o') (tE K Ξ f) (tE K Ξ g) (tE K Ξ h) σ H Q:=by
 intro qz;let(w,env,rfl,S,Z,h):=qz;refine#[w,env,rfl,S,Z,(Out.ai h).mono λP x X O N v1 M=>#[P,env,rfl,O,Z.le X,(Out.ai N).mono λL y W J I v2 V=>#[L,x,y,rfl,J,W _ _ M,V,(Out.ai I).mono λG z U Y F t E=>?_]]];have T:=Out.ai F
 cases z with
 |bl b =>
  have e:=E;have R:=aI Y T;refine#[b,e,?_]
  cases b with
  |true =>
   exact#[G,env,rfl,Y,Z.le (X.trans (W.trans U)),(Out.ai R).mono λD u C B A v4 v=>#[D,y,u,rfl,B,(U.trans C) _ _ V,v,A]]
  |false =>
   exact aI Y R _ rfl
 |_=>exact T.elim
def N6 (ho:bP X (Ē op) (rO X.K Ξ o)) (iP:bP X (Ē yE) (rO X.K Ξ o')) (ha:PE X a (tE X.K Ξ f)) (hb:PE X b (tE X.K Ξ g)) (hc:PE X c (tE X.K Ξ h))
 (hm:lastMarks [op,yE] [b,c]=ύ:=by with_unfolding_all rfl):PE X (.Compare a [op,yE] [b,c] pos) (tE X.K Ξ (vO o o' f g h)):=cE (XI ho iP ha hb hc hm) abS
def ve (ho:yC X (unaryOp op) (rU X.K Ξ o)) (ha:PE X a (tE X.K Ξ f)):PE X (.UnaryOp op a pos) (tE X.K Ξ (e1 o f)):=cE (adv ho ha) fun σ H Q Z=>by
 let(w,env,Y,S,W,h):=Z;subst Y;exact#[w,env,rfl,S,W,(Out.ai h).mono λV x P U T v1 R=>#[V,x,rfl,U,R,T]]
def cH:PA X [] (tA X.K Ξ ah):=Pd kP fun σ H Q Z=>by
 let(w,env,Y,S,W,h):=Z;subst Y;exact aI S h _ rfl
def bC (ha:PE X e (tE X.K Ξ f)) (hr:PA X es (tA X.K Ξ fa)) (hs:É (e::es) X.env=(ύ,Ħ e X.env)::É es X.env:=by rfl):PA X (e::es) (tA X.K Ξ (af f fa)):=Pd (jY ha hr hs) fun σ H Q Y=>by
 let(w,env,W,S,Z,h):=Y;subst W;exact#[w,env,rfl,S,Z,(Out.ai h).mono λV x U T R v1 P=>#[V,env,rfl,T,Z.le U,(Out.ai R).mono λI G O N M L J=>aI N M _ #[v1,L,rfl,O _ _ P,J]]]
def wB {K} {w} {ds} {r:Res α} {k} (h:Out K Ξ w (mh ds r) k):ds.length<=Õ/\Out K Ξ w r k:=by
 delta mh at h;split at h
 .exact#[by assumption,h]
 .exact h.elim
def dO (ha:PA X es (tA X.K Ξ fa)):PE X (.Tuple es x1 pos) (tE X.K Ξ (cC fa)):=cE (abx ha) fun σ H Q W=>by
 let(w,env,V,S,U,h):=W;subst V;refine#[w,env,rfl,S,U,(Out.ai h).mono λM L J T R P Y=>?_];let(O,N):=wB R;refine#[by rw[<- Y.length];exact O,λp Z=>?_];exact N _ (Fw.grow Z).le (T.grow Z) rfl _ #[p,P,rfl,bZ.of cY,(Fw.grow Z).le.all Y]
def ow {p} (S:aW K w) (hp:w.H p=ϋ):¬ w.Z p:=λ⟨k,c,e1,_,_⟩=>S.there k p e1 hp
def dZ (ha:PA X es (tA X.K Ξ fa)):PE X (.List es pos) (tE X.K Ξ (dh fa)):=cE (O6 ha) fun σ H Q U=>by
 let(w,env,T,S,R,h):=U;subst T;refine#[w,env,rfl,S,R,(Out.ai h).mono λP J I W O N V=>?_];let(M,L):=wB O;refine#[by rw[<- V.length];exact M,λp Y=>?_];exact L _ (Fw.grow Y).le (W.grow Y) rfl _ #[p,N,rfl,#[(show ¬ P.Z p from ow W Y),cY],(Fw.grow Y).le.all V]
def mi (ha:PA X es (tA X.K Ξ fa)):PE X (.List es pos) (tE X.K Ξ (eNew fa)):=cE (O6 ha) fun σ H Q T=>by
 let(w,env,R,S,P,h):=T;subst R;refine#[w,env,rfl,S,P,(Out.ai h).mono λY O J Z N W V=>?_];let(M,L):=wB N;refine#[by rw[<- V.length];exact M,λp U=>?_];have le:=(Fw.cell (o:=.lst W) (c:=.lst O) Z U).le;refine L _ le (Z.FI U #[W,cY,le.all V]) rfl _ #[p,?_,rfl];show (Y.ρ++[p])[Y.aN.length]?=ϊ p;rw[<- Z.len];simp
def Bb (ha:PE X a (tE X.K Ξ f)):PE X a (tE X.K Ξ (oQ f)):=cE ha fun σ H Q W=>by
 let(w,env,V,S,U,h):=W;subst V;refine#[w,env,rfl,S,U,(Out.ai h).mono λM x L Y Z v1 T=>?_];delta bx at Z;split at Z
 .rename_i k
  split at Z
  .rename_i J R
   let(p,e1,e2):=T;let(P,O,N):=Y.cell k p _ e1 R;exact Z _ Fw.freeze.le Y.freeze rfl v1 #[p,P,e2,#[Wd.WI Y e1,O],Fw.freeze.le.all N]
  .exact Z.elim
 .exact Z.elim
theorem rT.of {k} (S:aW K w) (hd:DV K w d v) (h:Out K Ξ w (truth d w.aN) k):∃b,rT K v w.H b/\k w b:=by
 cases d with
 |ax=>have e:=hd;subst e;exact#[_,rfl,aI S h]
 |bl b=>have e:=hd;subst e;exact#[_,rfl,aI S h]
 |int i=>have e:=hd;subst e;exact#[_,rfl,aI S h]
 |str x =>
  have e:=hd;subst e;delta truth at h
  split at h<;>first|contradiction|skip
  all_goals (rename_i e;cases e)
  split at h
  .exact#[_,#[by assumption,rfl],aI S h]
  .exact h.elim
 |tup Y =>
  let(a,Z,rfl,X,r):=hd;refine#[_,.inr (.inl #[Z,X,?_]),aI S h];have e:=r.length
  cases Y<;>cases Z<;>first|rfl|cases e
 |lst Y =>
  let(a,Z,rfl,X,r):=hd;refine#[_,.inl #[Z,X.sq,?_],aI S h];have e:=r.length
  cases Y<;>cases Z<;>first|rfl|cases e
 |cI W =>
  let(a,rfl,_,X):=hd;refine#[_,.inr (.inr #[_,X,?_]),aI S h]
  cases W<;>rfl
 |aj j =>
  let(a,e1,rfl):=hd;erw[truth] at h;split at h
  .rename_i Y V
   let(Z,U,T):=S.cell j a _ e1 V;refine#[_,.inl #[Z,bV.of U,?_],aI S h];have e:=T.length
   cases Y<;>cases Z<;>first|rfl|cases e
  .rename_i W V
   let(es,U,T,R):=S.cell j a _ e1 V;refine#[_,.inr (.inr #[es,U,?_]),aI S h];have e:=ħ List.length T
   cases W<;>cases es<;>first|rfl|simp at e
  .exact h.elim
 |ty n=>exact h.elim
 |cT Q=>exact h.elim
 |exc o _=>exact h.elim
 |dA o _ _=>exact h.elim
def eI (ha:PE X a (tE X.K Ξ f)) (he:∀whole,isTrue a X.env whole=(do let v <- whole;agm a.pos;ω [v] (truthy v)):=by intro _;rfl):PT X a (tT X.K Ξ (cD f)):=E8 (XJ ha he) fun σ H Q Z=>by
 let(w,env,Y,S,W,h):=Z;subst Y;exact#[w,env,rfl,S,W,(Out.ai h).mono λR x P V U v1 T=>rT.of V T U]
def iE (ha:PT X a (tT X.K Ξ ft)):PT X (.UnaryOp .Not a pos) (tT X.K Ξ (eQ ft)):=E8 (abd ha) fun σ H Q Z=>by
 let(w,env,Y,S,W,h):=Z;subst Y;exact#[w,env,rfl,S,W,(Out.ai h).mono λT b R V U=>aI V U]
def jy (ha:PT X a (tT X.K Ξ ft)):PW X (.BoolOp .And [a] pos) (tT X.K Ξ ft):=Zv ha
def j8 (ha:PT X a (tT X.K Ξ ft)):PW X (.BoolOp .Or [a] pos) (tT X.K Ξ ft):=abb ha
def w_and (ha:PT X a (tT X.K Ξ ft)) (hb:PW X (.BoolOp .And (b::rest) pos) (tT X.K Ξ gt)):PW X (.BoolOp .And (a::b::rest) pos) (tT X.K Ξ (fj ft gt)):=Pc (abc ha hb) fun σ H Q V=>by
 let(w,env,U,S,Z,h):=V;subst U;refine#[w,env,rfl,S,Z,(Out.ai h).mono λT b R Y W=>?_]
 cases b with
 |true=>exact#[T,env,rfl,Y,Z.le R,W]
 |false=>exact aI Y W
def w_or (ha:PT X a (tT X.K Ξ ft)) (hb:PW X (.BoolOp .Or (b::rest) pos) (tT X.K Ξ gt)):PW X (.BoolOp .Or (a::b::rest) pos) (tT X.K Ξ (ff ft gt)):=Pc (adk ha hb) fun σ H Q V=>by
 let(w,env,U,S,Z,h):=V;subst U;refine#[w,env,rfl,S,Z,(Out.ai h).mono λT b R Y W=>?_]
 cases b with
 |false=>exact#[T,env,rfl,Y,Z.le R,W]
 |true=>exact aI Y W
def dR (ha:PE X a (tE X.K Ξ f)):PE X (.BoolOp op [a] pos) (tE X.K Ξ f):=abe ha
def Ew {k} (S:aW K w) (hd:DV K w d v) (h:Out K Ξ w (jk d w.aN) k):∃b,v=.bl b/\k w b:=by
 cases d with
 |bl b=>exact#[b,hd,aI S h]
 |_=>exact h.elim
def fG (ha:PE X a (tE X.K Ξ f)) (hb:PE X (.BoolOp .And (b::rest) pos) (tE X.K Ξ g)):PE X (.BoolOp .And (a::b::rest) pos) (tE X.K Ξ (dj f g)):=cE (abf ha hb) fun σ H Q V=>by
 let(w,env,U,S,Y,h):=V;subst U;refine#[w,env,rfl,S,Y,(Out.ai h).mono λT x R Z P v1 O=>?_];let(b,e,W):=Ew Z O (Out.ai P);refine#[b,e,?_]
 cases b with
 |true=>exact#[T,env,rfl,Z,Y.le R,W]
 |false=>exact aI Z W _ rfl
def qb (ha:PE X a (tE X.K Ξ f)) (hb:PE X (.BoolOp .Or (b::rest) pos) (tE X.K Ξ g)):PE X (.BoolOp .Or (a::b::rest) pos) (tE X.K Ξ (i6 f g)):=cE (adn ha hb) fun σ H Q V=>by
 let(w,env,U,S,Y,h):=V;subst U;refine#[w,env,rfl,S,Y,(Out.ai h).mono λT x R Z P v1 O=>?_];let(b,e,W):=Ew Z O (Out.ai P);refine#[b,e,?_]
 cases b with
 |false=>exact#[T,env,rfl,Z,Y.le R,W]
 |true=>exact aI Z W _ rfl
def Qs (ha:PE X a (tE X.K Ξ f)):PE X (.UnaryOp .Not a pos) (tE X.K Ξ (x8 f)):=cE (abg ha) fun σ H Q Y=>by
 let(w,env,W,S,V,h):=Y;subst W;refine#[w,env,rfl,S,V,(Out.ai h).mono λP x O Z U v1 T=>?_];let(b,e,R):=Ew Z T (Out.ai U);exact#[b,e,aI Z R _ rfl]
def rY (hc:PT X c (tT X.K Ξ ft)) (ha:PE X a (tE X.K Ξ f)) (hb:PE X b (tE X.K Ξ g)):PE X (.IfExp c a b pos) (tE X.K Ξ (jS ft f g)):=cE (XG hc ha hb) fun σ H Q T=>by
 let(w,env,R,S,Z,h):=T;subst R;refine#[w,env,rfl,S,Z,(Out.ai h).mono λY b W V U=>?_]
 cases b with
 |true=>exact#[Y,env,rfl,V,Z.le W,U]
 |false=>exact#[Y,env,rfl,V,Z.le W,U]
def Pe (σ) (H) (Q):tE K Ξ (eB o fa) σ H Q->HA (rC K Ξ o) (tA K Ξ fa) σ H Q:=by
 intro qz;let(w,env,rfl,S,Z,h):=qz;exact#[w,env,rfl,S,Z,(Out.ai h).mono λY X T W V R U=>#[Y,X,rfl,W,U,V]]
def dM {p} {id} {o} (hc:dB X (.builtin id) (rC X.K Ξ o)) (hg:Gl X x) (hm:X.mg x=ϋ) (hv:ü x=ϊ (.builtin id)) (ha:PA X (e::es) (tA X.K Ξ fa)) (hn:x≠"__name__":=by decide) (dq:(x==("__debug__"))=ύ:=by decide)
  (he:É (e::es) X.env=(ύ,Ħ e X.env)::É es X.env:=by rfl) (bM:(Ġ pos (É es X.env)).any (·.1)=ύ:=by rfl):PE X (.Call (.Name x p) (e::es) [] pos) (tE X.K Ξ (eB o fa)):=cE (DF hc hg hm hv ha hn dq he bM) Pe
def dQ {p} {T} {o} (hc:dB X (.type T) (rC X.K Ξ o)) (hg:Gl X x) (hm:X.mg x=ϋ) (hv:ü x=ϊ (.type T)) (ha:PA X (e::es) (tA X.K Ξ fa)) (hn:x≠"__name__":=by decide) (dq:(x==("__debug__"))=ύ:=by decide)
  (he:É (e::es) X.env=(ύ,Ħ e X.env)::É es X.env:=by rfl) (bM:(Ġ pos (É es X.env)).any (·.1)=ύ:=by rfl):PE X (.Call (.Name x p) (e::es) [] pos) (tE X.K Ξ (eB o fa)):=cE (Dj hc hg hm hv ha hn dq he bM) Pe
end
set_option genInjectivity true in
inductive Fl where
 |nx (env:Env)|rt (d:D)|bk (env:Env)|ct (env:Env)
def RG (K:Ň) (D:Ends) (w:Wd):Fl->Prop
 | .nx env=>∀ σ,cg K w env σ->D.nx σ w.H
 | .rt d=>∀v,DV K w d v->D.rt v w.H
 | .bk env=>∀ σ,cg K w env σ->D.bk σ w.H
 | .ct env=>∀ σ,cg K w env σ->D.ct σ w.H
def tS (K:Ň) (Ξ:Wd->bw->Prop) (f:ahv Fl):TS:=λD σ H=>∃w env,w.H=H/\aW K w/\cg K w env σ/\Out K Ξ w (f env w.aN) (RG K D)
def bE:ahv Fl:=λenv s=>ok (.nx env) s
def ar (f g:ahv Fl):ahv Fl:=λenv s=>ai (f env s) λfl s=>match fl with
 | .nx env=>g env s
 |fl=>ok fl s
def aG (f:ahv D):ahv Fl:=λenv s=>ai (f env s) λd s=>ok (.rt d) s
def cj (f:ahv D):ahv Fl:=λenv s=>ai (f env s) λ_ s=>ok (.nx env) s
def aV (c:ahv Bool) (f g:ahv Fl):ahv Fl:=λenv s=>ai (c env s) λb s=>if b=ό then f env s else g env s
def Qt:ahv Fl:=λenv s=>ok (.ct env) s
def aT (f:ahv D) (g:D->Env->Option Env):ahv Fl:=λenv s=>ai (f env s) λd s=>match g d env with
 |some Z=>ok (.nx Z) s
 |none=>ϋ
noncomputable def gN (i:Nat):D->Env->Option Env:=λd env=>ϊ (env.set i (ϊ d))
noncomputable def iK:List (D->Env->Option Env)->List D->Env->Option Env
 | [],[],env=>ϊ env
 |g::Z,d::Y,env=>match g d env with
  |some X=>iK Z Y X
  |none=>ϋ
 |_,_,_=>ϋ
def gT (gs:List (D->Env->Option Env)):D->Env->Option Env:=λd env=>match d with
 | .tup Z=>iK gs Z env
 |_=>ϋ
def oF (g:D->Env->Option Env) (b:ahv Fl):List D->ahv Fl
 | [],env,s=>ok (.nx env) s
 |d::Z,env,s=>match g d env with
  |none=>ϋ
  |some Y=>ai (b Y s) λX s=>match X with
   | .nx e=>oF g b Z e s
   | .ct e=>oF g b Z e s
   | .bk e=>ok (.nx e) s
   | .rt d=>ok (.rt d) s
def fI (it:ahv (List D)) (g:D->Env->Option Env) (b:ahv Fl):ahv Fl:=λenv s=>ai (it env s) λZ s=>oF g b Z env s
def ne (r:Res α):Res α:=match r with
 |some (.ok a,s)=>ϊ (.ok a,s)
 |_=>ϋ
@[simp] theorem rG {s}:ne (ϊ (.ok a,s))=ϊ (.ok a,s):=rfl
noncomputable def mj (cap:List Nat) (env:Env):Env:=cap.map λj=>(env[j]?).getD ϋ
def gH (nt:Nat) (caps:Env) (g:D->Env->Option Env) (t:ahv Bool) (f:ahv D):List D->ag->Res (List D)
 | [],s=>ok [] s
 |d::Z,s=>match g d (Ó nt ϋ++caps) with
  |none=>ϋ
  |some env=>ai (ne (t env s)) λb s=>if b=ό then ai (ne (f env s)) λx s=>ai (gH nt caps g t f Z s) λY s=>ok (x::Y) s
   else gH nt caps g t f Z s
def ck (nt:Nat) (cap:List Nat) (it:ahv (List D)) (g:D->Env->Option Env) (t:ahv Bool) (f:ahv D):ahv D:=λenv s =>
 ai (it env s) λZ s=>mh Z (ai (gH nt (mj cap env) g t f Z s) λY s=>ok (.lst Y) s)
def cL:ahv Bool:=λ_ s=>ok ό s
def aJ (np ns:Nat) (b:ahv Fl):List D->ag->Res D:=λZ s=>if Z.length=np then ai (b (Z.map ϊ++Ó (ns-np) ϋ) s) λY s=>match Y with
 | .rt d=>ok d s
 | .nx _=>ok .ax s
 |_=>ϋ else ϋ
abbrev cU:Wd->bw->Prop:=λ_ _=>False
def mO (K:Ň) (f:List D->ag->Res D):Sp:=λX H Q _=>∃w Z,w.H=H/\aW K w/\aA K w Z X/\Out K cU w (f Z w.aN) λY d=>∀v,DV K Y d v->Q v Y.H
section
variable {X:Cx} {Ξ:Wd->bw->Prop} {e a b c tg:ŕ} {es rest:List ŕ} {pos:Pos} {f g h:ahv D} {fa:ahv (List D)} {ft gt:ahv Bool} {st:Stmt} {sG GW:List Stmt} {fs gs:ahv Fl}
def bS:dW X [] (tS X.K Ξ bE):=N5 Zw λD σ H Z=>by
 let(w,env,Y,S,W,h):=Z;subst Y;exact aI S h σ W
def aF (h1:PS X st (tS X.K Ξ fs)) (h2:dW X sG (tS X.K Ξ gs)):dW X (st::sG) (tS X.K Ξ (ar fs gs)):=N5 (XH h1 h2) λD σ H W=>by
 let(w,env,V,S,U,h):=W;subst V;refine#[w,env,rfl,S,U,(Out.ai h).mono λT R P Z h1=>?_]
 cases R with
 |nx Y=>exact fun O Q=>#[T,Y,rfl,Z,Q,h1]
 |rt d=>have q:=aI Z h1;exact q
 |bk Y=>have q:=aI Z h1;exact q
 |ct Y=>have q:=aI Z h1;exact q
def az (h1:PS X st (tS X.K Ξ fs)):dW X [st] (tS X.K Ξ fs):=Zx h1
def aR (he:PE X e (tE X.K Ξ f)):PS X (.Return (ϊ e) pos) (tS X.K Ξ (aG f)):=lX (abh he) λD σ H Z=>by
 let(w,env,Y,S,W,h):=Z;subst Y;exact#[w,env,rfl,S,W,(Out.ai h).mono λT d R V U=>aI V U]
def eV (he:PE X e (tE X.K Ξ f)) (hs:swapsWith e ϋ pos.line X.env=pure ύ:=by rfl):PS X (.Expr e pos) (tS X.K Ξ (cj f)):=lX (Zy he hs) λD σ H Y=>by
 let(w,env,W,S,Z,h):=Y;subst W;exact#[w,env,rfl,S,Z,(Out.ai h).mono λR d V U T _ _=>aI U T σ (Z.le V)]
def bN (hc:PT X c (tT X.K Ξ ft)) (ha:dW X sG (tS X.K Ξ fs)) (hb:dW X GW (tS X.K Ξ gs)):PS X (.If c sG GW pos) (tS X.K Ξ (aV ft fs gs)):=lX (adq hc ha hb) λD σ H T=>by
 let(w,env,R,S,Z,h):=T;subst R;refine#[w,env,rfl,S,Z,(Out.ai h).mono λY b W V U=>?_]
 cases b with
 |true=>exact#[Y,env,rfl,V,Z.le W,U]
 |false=>exact#[Y,env,rfl,V,Z.le W,U]
def gD (K:Ň) (g:D->Env->Option Env):TG:=λv σ H Q=>∃w env d Z,w.H=H/\aW K w/\cg K w env σ/\DV K w d v/\g d env=ϊ Z/\∀ Y,cg K w Z Y->Q Y H
def vQ (K:Ň) (g:List D->Env->Option Env):qq:=λW σ H Q=>∃w env Z Y,w.H=H/\aW K w/\cg K w env σ/\aA K w Z W/\g Z env=ϊ Y/\∀ X,cg K w Y X->Q X H
def E9 (h:PG X e t) (i:∀v σ H Q,t' v σ H Q->t v σ H Q):PG X e t':=λZ s σ H v u Q I r Y=>h Z s σ H v u Q I r (i v σ H Q Y)
def N7 (h:lB X es t) (i:∀v σ H Q,t' v σ H Q->t v σ H Q):lB X es t':=λZ s σ H v u Q I r Y=>h Z s σ H v u Q I r (i v σ H Q Y)
def bR (i) {x} (hN:X.N.Nodup) (hi:X.N[i]?=ϊ x:=by rfl) (hx:Loc X.env.scope x:=by first|exact ſ rfl|exact Or.inr rfl) (hf:X.fn x=ό\/X.env.scope.names.lookup x=ϊ .local:=by first|exact .inl rfl|exact .inr rfl):PG X (.Name x pos) (gD X.K (gN i)) :=
 E9 (iT hN hi hx hf) λv σ H Q Z=>by
  let(w,env,d,U,T,S,Y,W,V,k):=Z;have e:=ahA V;subst e;exact k _ (Y.set W i)
def kQ:lB X [] (vQ X.K (iK [])):=N7 wL λT σ H Q W=>by
 let(w,env,Z,R,P,S,V,U,Y,k):=W
 cases Z with
 |nil =>
  have e:=ahA Y;subst e;exact#[U,k _ V]
 |cons d Z=>cases Y
def cV {g} {gl} (h1:PG X e (gD X.K g)) (h2:lB X es (vQ X.K (iK gl)))
  (hs:(Ņ (e::es) X.env).map (·.2)=ahs e X.env::(Ņ es X.env).map (·.2):=by rfl):lB X (e::es) (vQ X.K (iK (g::gl))):=N7 (mZ h1 h2 hs) λI σ H Q T=>by
 let(w,env,Y,R,V,S,P,O,Z,k):=T
 cases Y with
 |nil=>cases Z
 |cons d Y =>
  let(v,r,rfl,N,M):=O;erw[iK] at Z
  cases W:g d env with
  |none=>rw[W] at Z;cases Z
  |some U =>
   rw[W] at Z;refine#[v,r,rfl,w,env,d,U,V,S,P,N,W,fun L J=>#[w,U,Y,R,V,S,J,M,Z,k]]
theorem zV:∀{gl} {ds} {env aP},iK gl ds env=ϊ aP->ds.length=gl.length
 | [],[],_,_,_=>rfl
 |g::gl,d::ds,env,aP,h=>by
  erw[iK] at h
  cases Z:g d env with
  |none=>rw[Z] at h;cases h
  |some e1=>rw[Z] at h;simp[zV h]
 | [],_::_,_,_,h=>by cases h
 |_::_,[],_,_,h=>by cases h
def oG {k} (hc:X.calm=ό) (h:lB X es (vQ X.K (iK gl))) (hn:(Ņ es X.env).length=gl.length:=by rfl) (gu:(Ņ es X.env).findIdx? (·.1)=ϋ:=by rfl):PG X (.Tuple es k pos) (gD X.K (gT gl)) :=
 E9 (wY hc h hn gu) λv σ H Q W=>by
  let(w,env,d,V,U,S,T,R,Z,k):=W
  cases d with
  |tup P =>
   let(p,O,e1,N,Y):=R;subst U;exact#[p,O,e1,N,by rw[<- Y.length];exact zV Z,w,env,P,V,rfl,S,T,Y,Z,k]
  |_=>cases Z
def N8 {g} (D) (σ) (H):tS K Ξ (aT f g) D σ H->xW (tE K Ξ f) (gD K g) D σ H:=by
 intro qz;let(w,env,rfl,S,X,h):=qz;refine#[w,env,rfl,S,X,(Out.ai h).mono λV d U W Z v T=>?_]
 cases Y:g d env with
 |none=>rw[Y] at Z;exact Z.elim
 |some R =>
  rw[Y] at Z;exact#[V,env,d,R,rfl,W,X.le U,T,Y,aI W Z]
def mq {g} (he:PE X e (tE X.K Ξ f)) (hg:PG X tg (gD X.K g)) (hs:ς [tg] e pos.line X.env=pure ύ:=by rfl) (hw:υ [tg] e X.env=pure ϋ:=by rfl)
  (h1:(Ņ [tg] X.env).map (·.2)=[ahs tg X.env]:=by rfl):PS X (.Assign [tg] e pos) (tS X.K Ξ (aT f g)):=lX (O3 he hg hs hw h1) N8
def WJ {te:TE} {i} (D) (σ) (H):xW (tE K Ξ f) (gD K (gN i)) D σ H->xW (tE K Ξ f) (rD i) D σ H:=by
 intro qz;let(w,env,rfl,S,Z,h):=qz;refine#[w,env,rfl,S,Z,h.mono λT d R Q Y v X=>?_];let(P,O,N,M,L,J,W,V,U,k):=Y v X;have e:=ahA U;subst e;exact k _ (W.set V i)
def bF (i) {x} {pos'} (hN:X.N.Nodup) (he:PE X e (tE X.K Ξ f)) (hi:X.N[i]?=ϊ x:=by rfl) (hx:Loc X.env.scope x:=by first|exact ſ rfl|exact Or.inr rfl) (hs:swapsWith e (ϊ (.Name x pos')) pos.line X.env=pure ύ:=by rfl) (hf:X.fn x=ό\/X.env.scope.names.lookup x=ϊ .local:=by first|exact .inl rfl|exact .inr rfl) :
  PS X (.Assign [.Name x pos'] e pos) (tS X.K Ξ (aT f (gN i))):=lX (abj hN hi hx he hs hf) λD σ H h=>WJ (te:=tE X.K Ξ f) D σ H (N8 D σ H h)
def mP (K:Ň) (w:Wd) (J:It) (ds:List D):Prop:=∀Z,Le K w Z->aW K Z->∀i,
 (∀d,ds[i]?=ϊ d->J.go i Z.H/\∀x X,J.vB i Z.H x X->∃Y,Y.H=X/\Le K Z Y/\aW K Y/\Y.aN=Z.aN/\DV K Y d x)/\(ds.length<=i->J.stop i Z.H)
def fU (K:Ň) (Ξ:Wd->bw->Prop) (f:ahv (List D)):TI:=fun σ H R=>∃w env,w.H=H/\aW K w/\cg K w env σ/\Out K Ξ w (f env w.aN) λZ Y=>∀J,mP K Z J Y->R J Z.H
def rg (h:PI X tg e t) (i:∀ σ H R,t' σ H R->t σ H R):PI X tg e t':=λZ s σ H R I Y=>h Z s σ H R I (i σ H R Y)
def Z5 {it} {g} (D0) (σ) (H):tS K Ξ (fI it g fs) D0 σ H->Rz (fU K Ξ it) (gD K g) (tS K Ξ fs) D0 σ H:=by
 intro qz;let(w,env,rfl,S,F,h):=qz;refine#[w,env,rfl,S,F,(Out.ai h).mono λO W s r p J E=>?_];refine#[λi m D C=>m=W.length-i/\i<=W.length/\∃Y V,Y.H=C/\Le K O Y/\aW K Y/\cg K Y V D/\Out K Ξ Y (oF g fs (W.drop i) V Y.aN) _,
  #[_,rfl,ć _,O,env,rfl,Le.refl _,r,F.le s,p],?_]
 intro i m D C qz;let(rfl,hi,Y,V,rfl,U,N,B,X):=qz;by_cases M:i<W.length
 .right
  let(o,n):=(E Y U N i).1 _ (Ñ M);rw[Ţ M] at X;erw[oF] at X
  cases L:g _ V with
  |none=>rw[L] at X;exact X.elim
  |some A =>
   rw[L] at X;refine#[o,fun z T=>∃Z I,Z.H=T/\Le K O Z/\aW K Z/\cg K Z I _/\Out K Ξ Z _ _,fun z T ⟨Z,I,q⟩=>#[_,by omega,rfl,M,Z,I,q],λx T y=>?_];let(Z,rfl,R,v,es,l):=n x T y;refine#[Z,V,_,A,rfl,v,B.le R,l,L,fun z k=>#[Z,A,rfl,v,k,?_]];rw[<- es] at X;refine(Out.ai (X.from R)).mono λu j t Q P=>?_
   cases j with
   |nx e3=>exact fun f G=>#[u,e3,rfl,U.trans (R.trans t),Q,G,P]
   |ct e3=>exact fun f G=>#[u,e3,rfl,U.trans (R.trans t),Q,G,P]
   |bk e3=>have q:=aI Q P;exact q
   |rt d=>have q:=aI Q P;exact q
 .left
  have e:i=W.length:=by omega
  subst e;rw[List.drop_length] at X;exact#[(E Y U N _).2 (ahz _),aI N X _ B]
def iF {it} {g} (hp:PassesOwn (ê X.prog X.w) X.A X.env X.xe) (hc:X.calm=ό) (hi:PI X tg iter (fU X.K Ξ it)) (hg:PG X tg (gD X.K g)) (hb:dW X sG (tS X.K Ξ fs))
  (hs:∀x,Ă iter X.env x=pure x:=by intro _;rfl):PS X (.For tg iter sG [] pos) (tS X.K Ξ (fI it g fs)):=lX (abm hp hc hi hg hb hs) Z5
theorem Out.ne {K} {w} {r:Res α} {k} (h:Out K Ξ w (DI.ne r) k):Out K cU w r k:=by
 match r,h with
 |some (.ok a,s),h=>exact h
def cg.block {env} {σ} (h:cg K w env σ) (nt) (cap) (o) (ho:o.length=nt):cg K w (Ó nt ϋ++mj cap env) (o++pW cap σ):=by
 refine#[by simp[mj,pW,ho],λi d e=>?_];by_cases hi:i<nt
 .rw[æ (by simpa using hi),Į,Ù hi] at e
  cases e
 .rw[ñ (by simpa using af9 hi)] at e
  rw[ñ ⋯,ho];erw[ň] at e;delta mj at e;delta pW;rw[à] at e |-
  cases Z:cap[i-nt]? with
  |none=>rw[Z] at e;cases e
  |some j =>
   rw[Z] at e;have ev:(env[j]?).getD ϋ=ϊ d:=ahA e;have Y:env[j]?=ϊ (ϊ d):=by
    cases q:env[j]? with
    |none=>rw[q] at ev;cases ev
    |some z=>rw[q] at ev;exact ħ ϊ ev
   let(v,e1,e2):=h.val j d Y;exact#[v,by rw[η,e1];rfl,e2]
def WK {cap} {it} {g} {fin} (σ) (H) (Q)
  (GZ:∀w2 xs vs,aW K w2->aA K w2 xs vs->Out K Ξ w2 (fin xs w2.aN) (λw' d=>∀v,DV K w' d v->Q v w'.H)->∀p,w2.H p=ϋ->Q (.ref p) (upd w2.H p (.lst vs))) :
  tE K Ξ (λenv s=>ai (it env s) λds s=>mh ds (ai (gH nt (mj cap env) g ft f ds s) fin)) σ H Q->xB (fU K Ξ it) nt cap (gD K g) (tT K cU ft) (tE K cU f) σ H Q:=by
 intro qz;let(w,env,rfl,S,C,h):=qz;refine#[w,env,rfl,S,C,(Out.ai h).mono λO ds k j N J B=>?_];let(hz,N):=wB N;refine#[λi m Y A=>m=ds.length-i/\i<=ds.length/\Y.length<=i/\∃w' Z,w'.H=A/\Le K O w'/\aW K w'/\aA K w' Z Y/\Out K Ξ w' (gH nt _ g ft f (ds.drop i) w'.aN) λw2 xs=>∀vs,aA K w2 (Z++xs) vs->∀p,w2.H p=ϋ->Q (.ref p) (upd w2.H p (.lst vs)),
  #[_,rfl,ć _,ć _,O,[],rfl,Le.refl _,j,rfl,(Out.ai N).mono λw2 xs W R c vs P p V=>?_],?_]
 .exact GZ w2 xs vs R P c p V
 intro i m Y A qz;let(rfl,hi,ha,w',Z,rfl,U,M,L,X):=qz;by_cases I:i<ds.length
 .right
  let(a,hy):=(B w' U M i).1 _ (Ñ I);rw[Ţ I] at X;erw[gH] at X
  cases G:g _ _ with
  |none=>rw[G] at X;exact X.elim
  |some F =>
   rw[G] at X;refine#[a,by omega,λE z=>E.length<=i+1/\∃w' Z,w'.H=z/\Le K O w'/\aW K w'/\aA K w' Z E/\Out K Ξ w' _ λw2 xs=>∀vs,aA K w2 _ vs->∀p,w2.H p=ϋ->Q _ _,
    λE z ⟨D,q⟩=>#[_,by omega,rfl,I,D,q],λo x H3 ho y=>?_]
   let(w2,rfl,W,R,es,dv):=hy x H3 y;refine#[w2,_,_,F,rfl,R,(C.le (k.trans (U.trans W))).block nt cap o ho,dv,G,fun vC u=>?_];rw[<- es] at X;refine#[w2,F,rfl,R,u,(Out.ai (X.from W)).ne.mono λt b T r n=>?_]
   cases b with
   |true =>
    refine#[t,F,rfl,r,u.le T,(Out.ai n).ne.mono λw4 d l S4 h4 v HW=>#[by simp;omega,w4,_,rfl,U.trans (W.trans (T.trans l)),S4,aA.append ((W.trans (T.trans l)).all L) (aA.one HW),(Out.ai h4).mono λw5 xs l5 S5 h5 vs P p V=>?_]];exact aI S5 h5 vs (by rw[Đ] at P;exact P) p V
   |false =>
    exact#[by omega,t,Z,rfl,U.trans (W.trans T),r,(W.trans T).all L,n]
 .left
  have e:i=ds.length:=by omega
  subst e;rw[List.drop_length] at X;refine#[(B w' U M _).2 (ahz _),by omega,λp V=>aI M X Y (by rw[ð];exact L) p V]
def Yg {cap} {it} {g} (σ) (H) (Q) :
  tE K Ξ (ck nt cap it g ft f) σ H Q->xB (fU K Ξ it) nt cap (gD K g) (tT K cU ft) (tE K cU f) σ H Q :=
 WK σ H Q λW S V X U T p Y=>T _ (Fw.grow Y).le (X.grow Y) rfl _ #[p,V,rfl,#[(show ¬ W.Z p from ow X Y),cY],(Fw.grow Y).le.all U]
end
def N9 {o caps:St} {v} {i nt} (ho:o.length=nt) (hi:i<nt):(o++caps).set i (ϊ v)=o.set i (ϊ v)++caps:=by
 rw[List.set_append_left _ _ ⋯]
def WL (hi:i<nt):qw (rD i) nt:=by
 intro x o Z H R Y h;exact#[#[_,by rw[ù];exact Y,N9 Y hi],h]
def x9 (g:qq) (nt:Nat):Prop:=∀Y o Z H R,o.length=nt->g Y (o++Z) H R->g Y (o++Z) H fun X V=>(∃W,W.length=nt/\X=W++Z)/\R X V
def Yh:x9 GH nt:=λX o Z H R Y h=>#[h.1,#[o,Y,rfl],h.2]
def WM (hi:i<nt) (hg:x9 g nt):x9 (FF (rD i) g) nt:=by
 intro X o Z H R Y qz;let(v,r,e,h):=qz;refine#[v,r,e,?_];have h:g r _ H R:=h;show g r _ H _;rw[N9 Y hi] at h |-;exact hg r _ Z H R (by rw[ù];exact Y) h
def Yi (hg:x9 g nt):qw (GI K n g) nt:=by
 intro x o Z H R X qz;let(a,Y,e,W,V,h):=qz;exact#[a,Y,e,W,V,hg Y o Z H R X h]
structure Tg (K) (g0) (g) (nt):Prop where
 pf:qw g0 nt
 imp:∀v σ H Q,gD K g v σ H Q->g0 v σ H Q
structure B1 (K) (g0) (g) (nt):Prop where
 pf:x9 g0 nt
 imp:∀v σ H Q,vQ K (iK g) v σ H Q->g0 v σ H Q
def ug (i) (hi:i<nt:=by decide):Tg K (rD i) (gN i) nt:=#[WL hi,λv σ H Q Z=>by
 let(w,env,d,V,U,S,Y,X,W,k):=Z;have e:=ahA W;subst e;exact k _ (Y.set X i)]
def Aq:B1 K GH [] nt:=#[Yh,λU σ H Q X=>by
 let(w,env,Z,T,R,S,W,V,Y,k):=X
 cases Z with
 |nil =>
  have e:=ahA Y;subst e;exact#[V,k _ W]
 |cons d Z=>cases Y]
def oi (i) (h:B1 K g0 gl nt) (hi:i<nt:=by decide):B1 K (FF (rD i) g0) (gN i::gl) nt:=#[WM hi h.pf,λO σ H Q X=>by
 let(w,env,Z,W,V,S,U,T,Y,k):=X
 cases Z with
 |nil=>cases Y
 |cons d Z =>
  let(v,r,rfl,R,P):=T;exact#[v,r,rfl,h.imp _ _ _ _ #[w,_,Z,W,V,S,U.set R i,P,Y,k]]]
def AH (h:B1 K g0 gl nt) (hn:gl.length=n:=by rfl):Tg K (GI K n g0) (gT gl) nt:=#[Yi h.pf,λv σ H Q X=>by
 let(w,env,d,W,V,S,U,T,Z,k):=X
 cases d with
 |tup R =>
  let(p,P,e1,O,Y):=T;subst V;exact#[p,P,e1,O,by rw[<- Y.length,zV Z];exact hn,h.imp _ _ _ _ #[w,env,R,W,rfl,S,U,Y,Z,k]]
 |_=>cases Z]
section
variable {X:Cx} {Ξ:Wd->bw->Prop} {e a b c tg el src:ŕ} {es rest tests:List ŕ} {pos:Pos} {f g h:ahv D} {fa:ahv (List D)} {ft gt:ahv Bool} {st:Stmt} {sG GW:List Stmt} {fs gs:ahv Fl}
def abT (h:PF X tests t) (i:∀ σ H Q,t' σ H Q->t σ H Q):PF X tests t':=λZ s σ H Q I Y=>h Z s σ H Q I (i σ H Q Y)
def fg:PF X [] (tT K Ξ cL):=abT abH fun σ H Q Z=>by
 let(w,env,Y,S,W,h):=Z;subst Y;exact aI S h
def mr (h:PT X c (tT K Ξ ft)):PF X [c] (tT K Ξ ft):=abJ h
def VL (i_:∀v σ H Q,g1 v σ H Q->g0 v σ H Q) (wm:∀R R',(∀J H',R J H'->R' J H')->wi σ H R->wi σ H R') (h:xB wi nt cap g1 tf te σ H Q):xB wi nt cap g0 tf te σ H Q:=by
 refine wm _ _ (λJ H' Y=>?_) h;let(W,X,step):=Y;refine#[W,X,λi m Z V hw=>?_]
 rcases step i m Z V hw with q | ⟨U,T,N,S,P⟩
 .exact .inl q
 .exact .inr #[U,T,N,S,λo x O M y=>i_ _ _ _ _ (P o x O M y)]
def Yj (R R') (i:∀J H',R J H'->R' J H') (h:fU K Ξ it σ H R):fU K Ξ it σ H R':=by
 let(w,env,Z,S,Y,h):=h;exact#[w,env,Z,S,Y,h.mono λV U _ _ X J W=>i J _ (X J W)]
def cB (f:ahv D):ahv (List D):=λenv s=>ai (f env s) λd s=>match d with
 | .lst Z=>ok Z s
 | .tup Z=>ok Z s
 |_=>ϋ
def Yk {a} {ds} (h:DV K w (.lst ds) (.ref a)):mP K w (Hx K a) ds:=λW V U i=>by
 have T:=V _ _ h;let(p,Z,e,Y,X):=T;cases e;refine#[λd S=>?_,λR=>#[Z,Y.sq,by rw[<- X.length];exact R]];let(v,ev,Q):=X.get' i d S;exact#[#[Z,v,Y.sq,ev],λx P ⟨e1,e2⟩=>#[W,e1.symm,Le.refl _,U,rfl,by
  have q:=e2 Z Y.sq;rw[ev] at q;cases q;exact Q]]
def Z6 {a} {ds} (h:DV K w (.tup ds) (.ref a)):mP K w (Hy K a) ds:=λW V U i=>by
 have T:=V _ _ h;let(p,Z,e,Y,X):=T;cases e;refine#[λd S=>?_,λR=>#[Z,Y,by rw[<- X.length];exact R]];let(v,ev,Q):=X.get' i d S;exact#[#[Z,v,Y,ev],λx P ⟨e1,e2⟩=>#[W,e1.symm,Le.refl _,U,rfl,by
  have q:=e2 Z Y;rw[ev] at q;cases q;exact Q]]
def f6 (hl:PE X a (tE X.K Ξ f)):PI X tg a (fU X.K Ξ (cB f)):=by
 have both:PI X tg a (fun σ H R=>Qk _ _ σ H R\/Ry _ _ σ H R):=λN s σ H R I h=>h.elim (Zz hl N s σ H R I) (abl hl N s σ H R I);refine rg both fun σ H R ⟨w,env,M,S,W,h⟩=>?_;subst M;erw[cB] at h
 cases Z:f env _ with
 |none=>rw[Z] at h;exact h.elim
 |some r =>
  let(r,s):=r;rw[Z] at h
  cases r with
  |error x=>exact .inl #[w,env,rfl,S,W,by rw[Z];exact h]
  |ok d =>
   cases d with
   |lst L =>
    refine .inl #[w,env,rfl,S,W,?_];rw[Z];intro V U T e1 v Y;have Q:=Y;let(p,P,rfl,O,J):=Y;exact#[p,rfl,#[P,O.sq],h V U T e1 _ (Yk Q)]
   |tup L =>
    refine .inr #[w,env,rfl,S,W,?_];rw[Z];intro V U T e1 v Y;have Q:=Y;let(p,P,rfl,O,J):=Y;exact#[p,rfl,#[P,O],h V U T e1 _ (Z6 Q)]
   |_=>exact h.elim
noncomputable def eT (lo:Int) (n:Nat):List D:=(ä n).map λ(i:Nat)=>D.int (lo+(i))
def je:(eT lo n)[i]?=if i<n then ϊ (.int (lo+i)) else ϋ:=by
 delta eT;rw[à];by_cases h:i<n
 .rw[ķ h,Ù h];rfl
 .rw[ě (by simp;omega),é h];rfl
def jZ:(eT lo n).length=n:=by simp[eT]
def Oa:mP K w (yz lo n) (eT lo n):=λX V W i=>by
 refine#[λd Z=>?_,λY=>by rw[jZ] at Y;exact Y];rw[je] at Z;split at Z
 .cases Z
  exact#[by assumption,λx U ⟨e1,e2⟩=>#[X,e1.symm,Le.refl _,W,rfl,e2]]
 .cases Z
noncomputable def kU (j:Int):Bool:=ώ (-(2 ^ 62)<=j)&&ώ (j<2 ^ 62)
def dI (fa:ahv (List D)):ahv (List D):=λenv s=>ai (fa env s) λZ s=>match Z with
 | [.int j]=>if kU j=ό then ok (eT 0 j.toNat) s else ϋ
 |_=>ϋ
def B4 (fa:ahv (List D)):ahv (List D):=λenv s=>ai (fa env s) λZ s=>match Z with
 | [.int i,.int j]=>if (kU i&&kU j)=ό then ok (eT i (j-i).toNat) s else ϋ
 |_=>ϋ
def fu (hg:Gl X "range") (hm:X.mg "range"=ϋ) (ha:PA X [a] (tA X.K Ξ fa)) (hs:É [a] X.env=[(ύ,Ħ a X.env)]:=by rfl):PI X tg (.Call (.Name "range" p) [a] [] pos) (fU X.K Ξ (dI fa)) :=
 rg (Wr hg hm ha hs) fun σ H R W=>by
  let(w,env,V,S,U,h):=W;subst V;refine#[w,env,rfl,S,U,(Out.ai h).mono λN M L T Z J Q=>?_];split at Z
  .rename_i j
   split at Z
   .rename_i Y
    erw[kU,Â,Å] at Y;let(v,r,rfl,P,O):=Q;have e1:=P;have e2:=O;subst e1 e2;exact#[j,rfl,Y.1,Y.2,aI T Z _ Oa]
   .exact Z.elim
  .exact Z.elim
def abU {p} (hg:Gl X "range") (hm:X.mg "range"=ϋ) (ha:PA X [a,b] (tA X.K Ξ fa)) (hs:É [a,b] X.env=[(ύ,Ħ a X.env),(ύ,Ħ b X.env)]:=by rfl) (cS:É [b] X.env=[(ύ,Ħ b X.env)]:=by rfl):PI X tg (.Call (.Name "range" p) [a,b] [] pos) (fU X.K Ξ (B4 fa)) :=
 rg (Ws hg hm ha hs cS) fun σ H R W=>by
  let(w,env,V,S,U,h):=W;subst V;refine#[w,env,rfl,S,U,(Out.ai h).mono λM L J T Z I Q=>?_];split at Z
  .rename_i i j
   split at Z
   .rename_i Y
    erw[kU,Â,Å] at Y;let(v,r,rfl,P,v2,G,rfl,O,N):=Q;have e1:=P;have e2:=O;have e3:=N;subst e1 e2 e3;exact#[i,j,rfl,#[Y.1.1,Y.1.2,Y.2.1,Y.2.2],aI T Z _ Oa]
   .exact Z.elim
  .exact Z.elim
noncomputable def iL (xs ys:List D):List D:=(xs.zip ys).map λp=>.tup [p.1,p.2]
def Yl {i:Nat} (h:(iL xs ys)[i]?=ϊ d):∃x y,xs[i]?=ϊ x/\ys[i]?=ϊ y/\d=.tup [x,y]:=by
 delta iL at h;rw[à] at h
 cases Z:(xs.zip ys)[i]? with
 |none=>rw[Z] at h;cases h
 |some p =>
  rw[Z] at h;let(Y,X):=List.getElem?_zip_eq_some.mp Z;exact#[_,_,Y,X,(ahA h).symm]
def DJ:(iL xs ys).length=min xs.length ys.length:=by simp[iL]
def WN (S':aW K w') (hp:w'.H p=ϋ) (h1:DV K w' d x) (h2:DV K w' d2 y) :
  ∃w2,w2.H=upd w'.H p (.tup [x,y])/\Le K w' w2/\aW K w2/\w2.aN=w'.aN/\DV K w2 (.tup [d,d2]) (.ref p) :=
 #[_,rfl,(Fw.grow hp).le,S'.grow hp,rfl,p,_,rfl,bZ.of cY,(Fw.grow hp).le.all (aA.two h1 h2)]
@[reducible] noncomputable def mQ:Bool->List D->D
 |true=>.tup
 |false=>.lst
def Bc {a} {ds}:∀{k},DV K w (mQ k ds) (.ref a)->∃xs,kC k K w.H a xs/\aA K w ds xs
 |true,h=>by
  let(p,xs,e,Z,Y):=h;cases e;exact#[xs,Z,Y]
 |false,h=>by
  let(p,xs,e,Z,Y):=h;cases e;exact#[xs,Z.sq,Y]
def MZ {K} {w} {a b} {ds es} (h:DV K w (mQ k ds) (.ref a)) (g:DV K w (mQ l es) (.ref b)):mP K w (Bv k l K a b) (iL ds es):=λF U O i=>by
 let(Z,Y,T):=Bc (U _ _ h);let(X,W,S):=Bc (U _ _ g);refine#[λd N=>?_,λM=>#[Z,X,Y,W,?_]]
 .let(x,y,e1,e2,rfl):=Yl N
  let(v,ev,L):=T.get' i x e1;let(u,R,J):=S.get' i y e2;refine#[#[Z,X,v,u,Y,W,ev,R],λz E ⟨r,D,y1,I,H,G,V⟩=>?_];let(Q,P):=V Z X Y W;rw[ev] at Q;rw[R] at P;cases Q;cases P;subst H G;exact WN O I L J
 .rw[DJ] at M
  have:=T.length;have:=S.length;omega
def Ym {a b} {ds es} (h:DV K w (.tup ds) (.ref a)) (g:DV K w (.tup es) (.ref b)):mP K w (afp K a b) (iL ds es):=MZ h g
def vf (fa:ahv (List D)):ahv (List D):=λenv s=>ai (fa env s) λZ s=>match Z with
 | [.tup Y,.tup X]=>ok (iL Y X) s
 |_=>ϋ
def adV {p} {elts} {kk} {rW} (hg:Gl X "zip") (hm:X.mg "zip"=ϋ) (ha:PA X [a,b] (tA X.K Ξ fa)) (hs:É [a,b] X.env=[(ύ,Ħ a X.env),(ύ,Ħ b X.env)]:=by rfl) (cS:É [b] X.env=[(ύ,Ħ b X.env)]:=by rfl) :
  PI X (.Tuple elts kk rW) (.Call (.Name "zip" p) [a,b] [] pos) (fU X.K Ξ (vf fa)):=by
 refine rg (ZV hg hm ha hs cS) fun σ H R W=>?_;let(w,env,V,S,U,h):=W;subst V;refine#[w,env,rfl,S,U,(Out.ai h).mono λG F E T h D Q=>?_];split at h
 .let(v,r,rfl,Z,v2,C,rfl,Y,P):=Q
  have e3:=P;subst e3;have O:=Z;have N:=Y;let(p,M,rfl,L,_):=O;let(q,J,rfl,I,_):=N;exact#[p,q,M,J,rfl,L,I,aI T h _ (Ym Z Y)]
 .exact h.elim
def aC (fn:List D->ag->Res D) (fa:ahv (List D)):ahv D:=λenv s=>ai (fa env s) λZ s=>ne (fn Z s)
def abV {fA} {fd} {qA} {fn} {x} {p} (F:dg X.prog X.w X.K X.mg X.base fB k fA fd qA (mO X.K fn)) (hr:bK k X.A) (hg:Gl X x) (hm:X.mg x=ϊ (.ref fA)) (hk:ľ X.K (.ref fA)=ό) (hb:Binds X.K fd qA [])
  (ha:PA X (e::es) (tA X.K Ξ fa)) (dq:(x==("__debug__"))=ύ:=by decide) (he:É (e::es) X.env=(ύ,Ħ e X.env)::É es X.env:=by rfl) (bM:(Ġ pos (É es X.env)).any (·.1)=ύ:=by rfl) :
  PE X (.Call (.Name x p) (e::es) [] pos) (tE X.K Ξ (aC fn fa)):=cE (Al F hr hg hm hk hb .nil Qn ha dq he bM) fun σ H Q Z=>by
 let(w,env,Y,S,W,h):=Z;subst Y;refine#[w,env,rfl,S,W,(Out.ai h).mono λV U O T R N P=>?_];show mO _ fn _ _ Q E0;rw[ð];exact#[V,U,rfl,T,P,R.ne]
def aA.env (h:aA K w ds vs) (n):cg K w (ds.map ϊ++Ó (n-ds.length) ϋ) (vs.map ϊ++Ó (n-vs.length) ϋ):=by
 have Y:=h.length;refine#[by simp[Y],λi d e=>?_];by_cases hi:i<ds.length
 .rw[æ (by simpa using hi),à] at e
  rw[æ (by simp;omega),à]
  cases Z:ds[i]? with
  |none=>rw[Z] at e;cases e
  |some W =>
   rw[Z] at e;cases e;let(v,ev,X):=h.get' i d Z;exact#[v,by rw[ev];rfl,X]
 .rw[ñ (by simpa using af9 hi),Į] at e
  split at e<;>cases e
end
def adW (F:qv K x qual st f fd) (S:ue N ps (cJ st))
 (hb:∀bo A outer s H E,bK k (A.deeper (ĸ qual (cJ st) s.heap.objs.size f bo))->dW (iI fB P w K mg base N qual (cJ st) f bo A outer s H E).oZ (gU st) (tS K cU b)) :
  dg P w K mg base fB (k+1) f fd ps (mO K (aJ ps.length N.length b)):=by
 refine F.ok S (λW H Q E h=>?_) (λbo A outer s H W Q E V h=>?_)
 .let(w,U,rfl,S,Y,h):=h
  rw[<- Y.length];delta aJ at h;split at h
  .assumption
  .exact h.elim
 .let(w,U,rfl,S,Y,h):=h
  refine#[_,hb bo A outer s _ E V,?_];delta aJ at h;split at h
  .rename_i T
   rw[<- T] at h;refine#[w,_,rfl,S,Y.env _,(Out.ai h).mono λO R M X Z=>?_]
   cases R with
   |nx env=>intro L _;exact aI X Z _ rfl
   |rt d=>have q:=aI X Z;exact q
   |bk env=>exact Z.elim
   |ct env=>exact Z.elim
  .exact h.elim
mutual
noncomputable def py:D->PyData
 | .ax=>.none
 | .bl b=>.bool b
 | .int i=>.int i
 | .str x=>.str x
 | .tup Z=>.tuple (iR Z)
 | .lst Z=>.list (iR Z)
 | .cI Y=>.dict (Y.map λp=>(xY p.1,PyData.int p.2))
 | .aj _=>.none
 | .ty _=>.none
 | .cT _=>.none
 | .exc ..=>.none
 | .dA ..=>.none
noncomputable def iR:List D->List PyData
 | []=>[]
 |d::Z=>py d::iR Z
end
mutual
noncomputable def plain:D->Bool
 | .ax=>ό
 | .bl _=>ό
 | .int _=>ό
 | .str _=>ό
 | .tup Z=>rh Z
 | .lst Z=>rh Z
 | .cI _=>ό
 | .aj _=>ύ
 | .ty _=>ύ
 | .cT _=>ύ
 | .exc ..=>ύ
 | .dA ..=>ύ
noncomputable def rh:List D->Bool
 | []=>ό
 |d::Z=>plain d&&rh Z
end
mutual
noncomputable def lay:D->Bool
 | .ax=>ό
 | .bl _=>ό
 | .int _=>ό
 | .str x=>è x
 | .tup Z=>cR Z
 | .lst Z=>cR Z
 | .cI _=>ύ
 | .aj _=>ύ
 | .ty _=>ύ
 | .cT _=>ύ
 | .exc ..=>ύ
 | .dA ..=>ύ
noncomputable def cR:List D->Bool
 | []=>ό
 |d::Z=>lay d&&cR Z
end
mutual
noncomputable def dep:D->Nat
 | .tup Z=>eZ Z+1
 | .lst Z=>eZ Z+1
 | .cI Y=>1
 | .ax=>0
 | .bl _=>0
 | .int _=>0
 | .str _=>0
 | .aj _=>0
 | .ty _=>0
 | .cT _=>0
 | .exc ..=>0
 | .dA ..=>0
noncomputable def eZ:List D->Nat
 | []=>0
 |d::Z=>max (dep d) (eZ Z)
end
mutual
noncomputable def beq:D->D->Bool
 | .ax,.ax=>ό
 | .bl a,.bl b=>a==b
 | .bl a,.int j=>(if a then 1 else 0)==j
 | .int i,.bl b=>i==(if b then 1 else 0)
 | .int i,.int j=>i==j
 | .str x,.str y=>x==y
 | .tup Z,.tup Y=>iM Z Y
 | .lst Z,.lst Y=>iM Z Y
 |_,_=>ύ
noncomputable def iM:List D->List D->Bool
 | [],[]=>ό
 |x::Z,y::Y=>beq x y&&iM Z Y
 |_,_=>ύ
end
mutual
theorem qS:∀d,lay d=ό->plain d=ό
 | .ax,_=>rfl
 | .bl _,_=>rfl
 | .int _,_=>rfl
 | .str _,_=>rfl
 | .tup Z,h=>by exact qN Z h
 | .lst Z,h=>by erw[lay,plain] at h |-;exact qN Z h
 | .cI _,h=>by simp[lay] at h
 | .aj _,h=>by simp[lay] at h
 | .ty _,h=>by simp[lay] at h
 | .cT _,h=>by simp[lay] at h
 | .exc ..,h=>by simp[lay] at h
 | .dA ..,h=>by simp[lay] at h
theorem qN:∀ds,cR ds=ό->rh ds=ό
 | [],_=>rfl
 |d::ds,h=>by
  erw[cR,rh,Â] at h |-;exact#[qS d h.1,qN ds h.2]
end
mutual
theorem ox:∀d,lay d=ό->(py d).canLay0=ό/\(py d).depth=dep d
 | .ax,_=>#[rfl,by simp[py,dep,PyData.depth]]
 | .bl _,_=>#[rfl,by simp[py,dep,PyData.depth]]
 | .int _,_=>#[rfl,by simp[py,dep,PyData.depth]]
 | .str _,h=>#[h,by simp[py,dep,PyData.depth]]
 | .tup Z,h=>by
  let(Y,X):=wC Z (by simpa [lay] using h);erw[py,dep,PyData.depth,PyData.canLay0];exact#[Y,by rw[X]]
 | .lst Z,h=>by
  let(Y,X):=wC Z (by simpa [lay] using h);erw[py,dep,PyData.depth,PyData.canLay0];exact#[Y,by rw[X]]
 | .cI _,h=>by simp[lay] at h
 | .aj _,h=>by simp[lay] at h
 | .ty _,h=>by simp[lay] at h
 | .cT _,h=>by simp[lay] at h
 | .exc ..,h=>by simp[lay] at h
 | .dA ..,h=>by simp[lay] at h
theorem wC:∀ds,cR ds=ό->PyData.canLayAll0 (iR ds)=ό/\ahc (iR ds)=eZ ds
 | [],_=>#[rfl,rfl]
 |d::ds,h=>by
  erw[cR,Â] at h;let(a1,a2):=ox d h.1;let(Z,Y):=wC ds h.2;erw[iR,eZ,PyData.canLayAll0,ahc,a1,Z,a2,Y,Ğ,ğ]
end
mutual
theorem xg:∀d e,lay d=ό->lay e=ό->į (py d) (py e)=beq d e
 | .tup Z,.tup Y,h,g=>by
  exact DK Z Y (by simpa [lay] using h) (by simpa [lay] using g)
 | .lst Z,.lst Y,h,g=>by
  exact DK Z Y (by simpa [lay] using h) (by simpa [lay] using g)
 | .ax,e,_,g=>by cases e<;>simp_all [py,beq,į,lay]
 | .bl _,e,_,g=>by cases e<;>simp_all [py,beq,į,lay]
 | .int _,e,_,g=>by cases e<;>simp_all [py,beq,į,lay]
 | .str _,e,_,g=>by cases e<;>simp_all [py,beq,į,lay]
 | .tup _,.ax,_,_=>by simp[py,beq,į]
 | .tup _,.bl _,_,_=>by simp[py,beq,į]
 | .tup _,.int _,_,_=>by simp[py,beq,į]
 | .tup _,.str _,_,_=>by simp[py,beq,į]
 | .tup _,.lst _,_,_=>by simp[py,beq,į]
 | .lst _,.ax,_,_=>by simp[py,beq,į]
 | .lst _,.bl _,_,_=>by simp[py,beq,į]
 | .lst _,.int _,_,_=>by simp[py,beq,į]
 | .lst _,.str _,_,_=>by simp[py,beq,į]
 | .lst _,.tup _,_,_=>by simp[py,beq,į]
 | .cI _,_,h,_=>by simp[lay] at h
 | .aj _,_,h,_=>by simp[lay] at h
 | .ty _,_,h,_=>by simp[lay] at h
 | .cT _,_,h,_=>by simp[lay] at h
 | .exc ..,_,h,_=>by simp[lay] at h
 | .dA ..,_,h,_=>by simp[lay] at h
 |_,.cI _,_,h=>by simp[lay] at h
 |_,.aj _,_,h=>by simp[lay] at h
 |_,.ty _,_,h=>by simp[lay] at h
 |_,.cT _,_,h=>by simp[lay] at h
 |_,.exc ..,_,h=>by simp[lay] at h
 |_,.dA ..,_,h=>by simp[lay] at h
theorem DK:∀ds es,cR ds=ό->cR es=ό->PyData.eqvAll (iR ds) (iR es)=iM ds es
 | [],[],_,_=>rfl
 | [],_::_,_,_=>rfl
 |_::_,[],_,_=>rfl
 |d::ds,e::es,h,g=>by
  erw[cR,Â] at h g;erw[iR,iM,PyData.eqvAll,xg d e h.1 g.1,DK ds es h.2 g.2]
end
mutual
theorem DV.py:∀{d} {v},DV K w d v->plain d=ό->L2.DV K (λ_=>False) w.H (DI.py d) v
 | .ax,_,h,_=>h
 | .bl _,_,h,_=>h
 | .int _,_,h,_=>h
 | .str _,_,h,_=>h
 | .tup X,v,h,p=>by
  let(a,Y,e,Z,r):=h;exact#[a,Y,e,Z,aA.py r (by simpa [plain] using p)]
 | .lst X,v,h,p=>by
  let(a,Y,e,Z,r):=h;exact#[a,Y,e,not_false,Z.2,aA.py r (by simpa [plain] using p)]
 | .cI W,v,h,p=>by
  let(a,e,V,Z):=h;exact#[a,_,e,not_false,Z,W,rfl,rfl]
 | .aj _,_,_,p=>by simp[plain] at p
 | .ty _,_,_,p=>by simp[plain] at p
 | .cT _,_,_,p=>by simp[plain] at p
 | .exc ..,_,_,p=>by simp[plain] at p
 | .dA ..,_,_,p=>by simp[plain] at p
theorem aA.py:∀{ds} {vs},aA K w ds vs->rh ds=ό->L2.aA K (λ_=>False) w.H (DI.iR ds) vs
 | [],_,h,_=>h
 |d::ds,vs,h,p=>by
  let(v,r,e,Z,Y):=h;erw[rh,Â] at p;exact#[v,r,e,DV.py Z p.1,aA.py Y p.2]
end
noncomputable def res (d:D) (s:ag):D:=match d with
 | .aj k=>match s[k]? with
  |some (.lst Z)=>.lst Z
  |_=>d
 |_=>d
theorem DV.res (S:aW K w) (h:DV K w d v) (p:plain (DI.res d w.aN)=ό):L2.DV K (λ_=>False) w.H (DI.py (DI.res d w.aN)) v:=by
 cases d with
 |aj k =>
  delta DI.res at p |-;simp only at p |-
  split at p<;>rename_i Z
  .let(a,e1,rfl):=h
   let(Y,X,W):=S.cell k a _ e1 Z;exact#[a,Y,rfl,not_false,X,W.py (by simpa [plain] using p)]
  .simp[plain] at p
 |_=>exact h.py p
noncomputable def nS:D->Bool
 | .str _=>ό
 |_=>ύ
def abW (h:nS d=ό):∃x,d=.str x:=by cases d<;>first|exact#[_,rfl]|cases h
def iG (x y:D):Option Bool:=if (nS x&&nS y)=ό then ϊ (beq x y) else if (lay x&&lay y&&ώ (min (dep x) (dep y)<=100))=ό then ϊ (beq x y) else ϋ
def aX (x y:D) (s:ag):Res D:=match iG (res x s) (res y s) with
 |some b=>ok (.bl b) s
 |none=>ϋ
def cp (x y:D) (s:ag):Res D:=match iG (res x s) (res y s) with
 |some b=>ok (.bl (!b)) s
 |none=>ϋ
def Ob (S:aW K w) (hx:DV K w x v) (hy:DV K w y u) (h:iG (res x w.aN) (res y w.aN)=ϊ b) :
  (GO v u=ό/\ώ (v=u)=b)\/∃(d e:PyData),L2.DV K (λ_=>False) w.H d v/\L2.DV K (λ_=>False) w.H e u/\d.canLay0=ό/\e.canLay0=ό/\min d.depth e.depth<=100/\į d e=b:=by
 have str:∀{d} {v},nS (res d w.aN)=ό->DV K w d v->∃x,res d w.aN=.str x/\v=.str x:=λ{d v} Z V=>by
  let(x,e):=abW Z
  cases d with
  |str y=>cases e;exact#[x,rfl,V]
  |aj k =>
   delta res at e;simp only at e
   split at e<;>cases e
  |_=>cases e
 delta iG at h;split at h
 .rename_i Z
  rw[Â] at Z;let(a,U,rfl):=str Z.1 hx;let(c,T,rfl):=str Z.2 hy;rw[U,T] at h;exact .inl #[rfl,by rw[<- ahA h];exact Ek]
 split at h
 .rename_i W
  right;erw[Â,Å] at W;obtain⟨⟨Y,X⟩,R⟩:=W;let(Q,P):=ox _ Y;let(O,N):=ox _ X;exact#[_,_,hx.res S (qS _ Y),hy.res S (qS _ X),Q,O,by rw[P,N];exact R,by rw[xg _ _ Y X];exact ahA h]
 .cases h
section
variable {X:Cx} {Ξ:Wd->bw->Prop}
def bW (hr:bK k X.A):bP X (Ē .Eq) (rO X.K Ξ aX):=by
 intro W s σ H x y v u Q I V U qz;let(w,J,G,rfl,S,T,R,h):=qz;delta aX at h;split at h
 .rename_i b P
  rcases Ob S T R P with ⟨Z,Y⟩ | ⟨d,e,Z,Y,O,N,M,L⟩
  .exact adw W s σ _ x y v u Q I V U #[Z,by rw[Y];exact aI S h _ rfl]
  exact abK hr W s σ _ x y v u Q I V U #[d,e,_,Z,Y,O,N,M,by rw[L];exact aI S h _ rfl]
 .exact h.elim
def jI (hr:bK k X.A):bP X (Ē .NotEq) (rO X.K Ξ cp):=by
 intro W s σ H x y v u Q I V U qz;let(w,J,G,rfl,S,T,R,h):=qz;delta cp at h;split at h
 .rename_i b P
  rcases Ob S T R P with ⟨Z,Y⟩ | ⟨d,e,Z,Y,O,N,M,L⟩
  .exact Ql W s σ _ x y v u Q I V U #[Z,by rw[Y];exact aI S h _ rfl]
  exact abM hr W s σ _ x y v u Q I V U #[d,e,_,Z,Y,O,N,M,by rw[L];exact aI S h _ rfl]
 .exact h.elim
end
end DI
namespace DI
open PySem L2
def bY (r:Option D) (s:ag):Res D:=match r with
 |some d=>ok d s
 |none=>ϋ
def gG (h:Out K Ξ w (bY r w.aN) k):∃d,r=ϊ d/\Out K Ξ w (ok d w.aN) k:=by
 delta bY at h;split at h
 .exact#[_,rfl,h]
 .exact h.elim
noncomputable def qc (xs ys:List D):Bool:=ώ (xs.length+ys.length<=Õ)
def By:D->D->Option D
 | .int i,.int j=>ϊ (.int (i+j))
 | .tup Z,.tup Y=>if qc Z Y=ό then ϊ (.tup (Z++Y)) else ϋ
 | .lst Z,.lst Y=>if qc Z Y=ό then ϊ (.lst (Z++Y)) else ϋ
 | .str x,.str y=>if ώ (x.length+y.length<=Õ)=ό then ϊ (.str (x++y)) else ϋ
 |_,_=>ϋ
def cm (x y:D) (s:ag):Res D:=bY (By (res x s) (res y s)) s
noncomputable def RH:D->D->Option D
 | .int i,.int j=>ϊ (.int (i-j))
 |_,_=>ϋ
def uK (x y:D) (s:ag):Res D:=bY (RH x y) s
noncomputable def xE (i j:Int):Bool:=(ώ (-(2 ^ 64)<i)&&ώ (i<2 ^ 64))||(ώ (-(2 ^ 64)<j)&&ώ (j<2 ^ 64))
def G0:D->D->Option D
 | .int i,.int j=>if xE i j=ό then ϊ (.int (i*j)) else ϋ
 | .tup Z,.int k=>if (!Z.isEmpty&&ώ (1<=k)&&ώ (Z.length*k.toNat<=Õ))=ό then ϊ (.tup (Ó k.toNat Z).flatten) else ϋ
 | .lst Z,.int k=>if (ώ (-(2 ^ 63)<=k)&&ώ (k<2 ^ 63)&&ώ (Z.length*k.toNat<=Õ))=ό then ϊ (.lst (Ó k.toNat Z).flatten) else ϋ
 |_,_=>ϋ
def gI (x y:D) (s:ag):Res D:=bY (G0 x y) s
noncomputable def G3:D->D->Option D
 | .int i,.int j=>if ώ (0<j)=ό then ϊ (.int (i % j)) else ϋ
 |_,_=>ϋ
def oH (x y:D) (s:ag):Res D:=bY (G3 x y) s
noncomputable def G4:D->D->Option D
 | .int i,.int j=>if (ώ (0<j)&&ώ (j<1073741824))=ό then ϊ (.int (i / j)) else ϋ
 |_,_=>ϋ
def xF (x y:D) (s:ag):Res D:=bY (G4 x y) s
noncomputable def G5:D->D->Option D
 | .int i,.int j=>if (ώ (0<=j)&&ώ (j<=1000000)&&ώ (i.natAbs<2 ^ 64))=ό then ϊ (.int (i ^ j.toNat)) else ϋ
 |_,_=>ϋ
def xG (x y:D) (s:ag):Res D:=bY (G5 x y) s
noncomputable def RI:D->Option D
 | .int i=>ϊ (.int (-i))
 |_=>ϋ
def mv (x:D) (s:ag):Res D:=bY (RI x) s
theorem aA.flat (h:aA K w ds vs):∀n,aA K w (Ó n ds).flatten (Ó n vs).flatten
 |0=>rfl
 |n+1=>by
  exact aA.append h (aA.flat h n)
def j3 (S:aW K w) (h:DV K w d v) (e:res d w.aN=.lst ds):∃a xs,v=.ref a/\w.H a=ϊ (.lst xs)/\aA K w ds xs:=by
 delta res at e;split at e
 .rename_i k
  split at e
  .rename_i V Z
   cases e;let(a,e1,rfl):=h;let(xs,Y,X):=S.cell k a _ e1 Z;exact#[a,xs,rfl,Y,X]
  .cases e
 .subst e
  let(a,xs,e,W,r):=h;exact#[a,xs,e,W.2,r]
def fX (h:res d s=e) (hl:∀ds,e≠.lst ds):d=e:=by
 delta res at h;split at h
 .split at h
  .exact absurd h.symm (hl _)
  .exact h
 .exact h
section
variable {X:Cx} {Ξ:Wd->bw->Prop}
def xZ (S:aW K w) (ao:aA K w ds vs) (h:Out K Ξ w (ok (D.tup ds) w.aN) λw' d=>∀v,DV K w' d v->Q v w'.H):qa K w.H vs Q:=λa Y e Z =>
 h _ (Fw.same e).le (S.same e) rfl _ #[a,vs,rfl,Z,(Fw.same e).le.all ao]
def yd {ds} {vs} {Q:VK} (S:aW K w) (ao:aA K w ds vs) (h:Out K Ξ w (ok (D.lst ds) w.aN) λw' d=>∀v,DV K w' d v->Q v w'.H):∀p,w.H p=ϋ->Q (.ref p) (upd w.H p (.lst vs)):=λp Y =>
 h _ (Fw.grow Y).le (S.grow Y) rfl _ #[p,vs,rfl,#[(show ¬ w.Z p from ow S Y),cY],(Fw.grow Y).le.all ao]
def abX {ds} {vs} {Q:VK} (S:aW K w) (ao:aA K w ds vs) (h:Out K Ξ w (ok (D.tup ds) w.aN) λw' d=>∀v,DV K w' d v->Q v w'.H):∀p,w.H p=ϋ->Q (.ref p) (upd w.H p (.tup vs)):=λp Z =>
 h _ (Fw.grow Z).le (S.grow Z) rfl _ #[p,vs,rfl,bZ.of cY,(Fw.grow Z).le.all ao]
def dD:bP X (ņ .Add) (rO X.K Ξ cm):=by
 intro T s σ H x y v u Q I R P qz;let(w,J,G,rfl,S,Z,Y,h):=qz;let(d,e,h):=gG h;delta By at e;split at e
 .rename_i i j e1 e2
  rw[fX e1 (by intro _ z;cases z)] at Z;rw[fX e2 (by intro _ z;cases z)] at Y;cases e;cases Z;cases Y;exact abn T s σ _ _ _ v u Q I R P #[i,j,rfl,rfl,aI S h _ rfl]
 .rename_i M L e1 e2
  rw[fX e1 (by intro _ z;cases z)] at Z;rw[fX e2 (by intro _ z;cases z)] at Y;split at e
  .rename_i W
   cases e;let(a,as,rfl,O,V):=Z;let(b,bs,rfl,N,U):=Y;exact ZQ T s σ _ _ _ v u Q I R P #[a,b,as,bs,rfl,rfl,O,N,by rw[<- V.length,<- U.length];exact á W,xZ S (V.append U) h]
  .cases e
 .rename_i M L e1 e2
  split at e
  .rename_i W
   cases e;let(a,as,rfl,O,V):=j3 S Z e1;let(b,bs,rfl,N,U):=j3 S Y e2;exact abF T s σ _ _ _ v u Q I R P #[a,b,as,bs,rfl,rfl,O,N,by rw[<- V.length,<- U.length];exact á W,yd S (V.append U) h]
  .cases e
 .rename_i i j e1 e2
  rw[fX e1 (by intro _ z;cases z)] at Z;rw[fX e2 (by intro _ z;cases z)] at Y;split at e
  .rename_i W
   cases e;cases Z;cases Y;exact Vp T s σ _ _ _ v u Q I R P #[i,j,rfl,rfl,á W,aI S h _ rfl]
  .cases e
 .cases e
def FK:bP X (ņ .Sub) (rO X.K Ξ uK):=by
 intro Z s σ H x y v u Q I Y W qz;let(w,T,R,rfl,S,V,U,h):=qz;let(d,e,h):=gG h;delta RH at e;split at e
 .rename_i i j
  cases V;cases U;exact abo Z s σ _ _ _ v u Q I Y W #[i,j,rfl,rfl,aI S h _ rfl]
 .cases e
def mw:bP X (ņ .Mult) (rO X.K Ξ gI):=by
 intro W s σ H x y v u Q I V U qz;let(w,M,L,rfl,S,T,R,h):=qz;let(d,e,h):=gG h;delta G0 at e;split at e
 .rename_i i j
  split at e
  .rename_i Z
   cases e;cases T;cases R;refine abp W s σ _ _ _ v u Q I V U #[i,j,rfl,rfl,?_,aI S h _ rfl];delta Bs;simpa [xE] using Z
  .cases e
 .rename_i O k
  split at e
  .rename_i Z
   cases e;cases R;erw[Â,Å] at Z;let(a,as,rfl,P,Y):=T;have N:=Y.length;refine Z1 W s σ _ _ _ v u Q I V U #[a,as,k,rfl,rfl,P,?_,Z.1.2,by rw[<- N];exact Z.2,xZ S (Y.flat _) h];intro z;subst z
   cases O with
   |nil=>simp at Z
   |cons _ _=>cases N
  .cases e
 .rename_i O k
  split at e
  .rename_i Z
   cases e;cases R;erw[Â,Å] at Z;let(a,as,rfl,P,Y):=T;exact abG W s σ _ _ _ v u Q I V U #[a,k,as,rfl,rfl,P.2,Z.1.1,Z.1.2,by rw[<- Y.length];exact Z.2,yd S (Y.flat _) h]
  .cases e
 .cases e
def uL:bP X (ņ .Mod) (rO X.K Ξ oH):=by
 intro Z s σ H x y v u Q I Y W qz;let(w,R,P,rfl,S,V,U,h):=qz;let(d,e,h):=gG h;delta G3 at e;split at e
 .rename_i i j
  split at e
  .rename_i T
   cases e;cases V;cases U;exact abq Z s σ _ _ _ v u Q I Y W #[i,j,rfl,rfl,á T,aI S h _ rfl]
  .cases e
 .cases e
def Qu:bP X (ņ .FloorDiv) (rO X.K Ξ xF):=by
 intro Y s σ H x y v u Q I W V qz;let(w,R,P,rfl,S,U,T,h):=qz;let(d,e,h):=gG h;delta G4 at e;split at e
 .rename_i i j
  split at e
  .rename_i Z
   erw[Â,Å] at Z;cases e;cases U;cases T;exact ZA Y s σ _ _ _ v u Q I W V #[i,j,rfl,rfl,Z,aI S h _ rfl]
  .cases e
 .cases e
def Qv:bP X (ņ .Pow) (rO X.K Ξ xG):=by
 intro Y s σ H x y v u Q I W V qz;let(w,R,P,rfl,S,U,T,h):=qz;let(d,e,h):=gG h;delta G5 at e;split at e
 .rename_i i j
  split at e
  .rename_i Z
   erw[Â,Å] at Z;cases e;cases U;cases T;exact abr Y s σ _ _ _ v u Q I W V #[i,j,rfl,rfl,#[Z.1.1,Z.1.2,Z.2],aI S h _ rfl]
  .cases e
 .cases e
def uM:yC X (unaryOp .USub) (rU X.K Ξ mv):=by
 intro Z s σ H x v Q I Y qz;let(w,V,rfl,S,W,h):=qz;let(d,e,h):=gG h;delta RI at e;split at e
 .rename_i i
  cases W;exact abt Z s σ _ _ v Q I Y #[i,rfl,aI S h _ rfl]
 .cases e
noncomputable def vh (p:Int->Int->Bool):D->D->Option D
 | .int i,.int j=>ϊ (.bl (p i j))
 |_,_=>ϋ
def rZ (x y:D) (s:ag):Res D:=bY (vh (λi j=>ώ (i<=j)) x y) s
def ye (x y:D) (s:ag):Res D:=bY (vh (λi j=>ώ (j<i)) x y) s
def yf (x y:D) (s:ag):Res D:=bY (vh (λi j=>ώ (j<=i)) x y) s
def Bz:bP X (Ē .LtE) (rO X.K Ξ rZ):=by
 intro Z s σ H x y v u Q I Y W qz;let(w,T,R,rfl,S,V,U,h):=qz;let(d,e,h):=gG h;delta vh at e;split at e
 .rename_i i j
  cases V;cases U;exact adx Z s σ _ _ _ v u Q I Y W #[i,j,rfl,rfl,aI S h _ rfl]
 .cases e
def RJ:bP X (Ē .Gt) (rO X.K Ξ ye):=by
 intro Z s σ H x y v u Q I Y W qz;let(w,T,R,rfl,S,V,U,h):=qz;let(d,e,h):=gG h;delta vh at e;split at e
 .rename_i i j
  cases V;cases U;exact ady Z s σ _ _ _ v u Q I Y W #[i,j,rfl,rfl,aI S h _ rfl]
 .cases e
def RK:bP X (Ē .GtE) (rO X.K Ξ yf):=by
 intro Z s σ H x y v u Q I Y W qz;let(w,T,R,rfl,S,V,U,h):=qz;let(d,e,h):=gG h;delta vh at e;split at e
 .rename_i i j
  cases V;cases U;exact adz Z s σ _ _ _ v u Q I Y W #[i,j,rfl,rfl,aI S h _ rfl]
 .cases e
noncomputable def H0:D->Bool
 | .ax=>ό
 |_=>ύ
def FL (x y:D) (s:ag):Res D:=match y with
 | .ax=>ok (.bl (H0 x)) s
 |_=>ϋ
def Fb (x y:D) (s:ag):Res D:=match y with
 | .ax=>ok (.bl (!H0 x)) s
 |_=>ϋ
def Pf (h:DV K w d v):ώ (v=.ax)=H0 d:=by
 cases d with
 |ax=>cases h;rfl
 |bl b=>cases h;rfl
 |int b=>cases h;rfl
 |str b=>cases h;rfl
 |ty b=>cases h;rfl
 |tup Z=>let(a,Y,rfl,_):=h;rfl
 |lst Z=>let(a,Y,rfl,_):=h;rfl
 |cI Z=>let(a,rfl,_):=h;rfl
 |aj k=>let(a,_,rfl):=h;rfl
 |cT k=>let(a,rfl,_):=h;rfl
 |exc o _=>let(a,_,_,rfl,_):=h;rfl
 |dA o _ _=>let(rfl,_):=h;rfl
def adX:bP X (Ē .Is) (rO X.K Ξ FL):=by
 intro Z s σ H x y v u Q I Y W qz;let(w,T,R,rfl,S,V,U,h):=qz;delta FL at h;split at h
 .cases U
  exact abu Z s σ _ _ _ v u Q I Y W #[rfl,by rw[Pf V];exact aI S h _ rfl]
 .exact h.elim
def abY:bP X (Ē .IsNot) (rO X.K Ξ Fb):=by
 intro Z s σ H x y v u Q I Y W qz;let(w,T,R,rfl,S,V,U,h):=qz;delta Fb at h;split at h
 .cases U
  exact ZC Z s σ _ _ _ v u Q I Y W #[rfl,by rw[Pf V];exact aI S h _ rfl]
 .exact h.elim
def jU (d i:D) (s:ag):Option D:=match res d s,i with
 | .lst Z,.int i=>dw Z i
 | .tup Z,.int i=>dw Z i
 | .cT Y,.int i=>(dw Y i).map D.int
 | .str x,.int i=>if ώ (x.length<=Õ)=ό then (dw x.cps.toList i).map λc=>.str #[#v[c]] else ϋ
 |_,_=>ϋ
def au (x y:D) (s:ag):Res D:=bY (jU x y s) s
theorem aA.at (h:aA K w ds vs) (e:dw ds i=ϊ d):∃v,dw vs i=ϊ v/\DV K w d v:=by
 delta dw at e |-;rw[h.length] at e
 cases hi:fz _ i with
 |none=>rw[hi] at e;cases e
 |some j =>
  rw[hi] at e;exact h.get' j d e
def afy:yI X (rO X.K Ξ au):=by
 rintro value slice V s σ H x y v u Q I U T ⟨w,B,A,rfl,S,Z,R,h⟩ P;let(d,e,O):=gG h;delta jU at e;split at e
 .rename_i D i e1
  cases R;let(a,N,rfl,W,M):=j3 S Z e1;let(z,L,J):=M.at e;exact NZ value slice V s σ _ _ _ v u Q I U T #[a,N,i,z,rfl,rfl,bV.of W,L,aI S O _ J] P
 .rename_i D i e1
  cases R;rw[fX e1 (by intro _ z;cases z)] at Z;let(a,N,rfl,W,M):=Z;let(z,L,J):=M.at e;exact abz value slice V s σ _ _ _ v u Q I U T #[a,N,i,z,rfl,rfl,W,L,aI S O _ J] P
 .rename_i G i e1
  cases R;rw[fX e1 (by intro _ z;cases z)] at Z;let(a,rfl,W):=Z
  cases Y:dw G i with
  |none=>rw[Y] at e;cases e
  |some n =>
   rw[Y] at e;cases e;refine NZ value slice V s σ _ _ _ v u Q I U T #[a,_,i,_,rfl,rfl,W.sq,?_,aI S O _ rfl] P;delta dw at Y |-;rw[Æ]
   cases E:fz _ i with
   |none=>rw[E] at Y;cases Y
   |some j =>
    rw[E] at Y;show (G.map _)[j]?=ϊ _;rw[à,show G[j]?=ϊ n from Y];rfl
 .rename_i z i e1
  cases R;rw[fX e1 (by intro _ z;cases z)] at Z;cases Z;split at e
  .rename_i C
   cases F:dw _ i with
   |none=>rw[F] at e;cases e
   |some c =>
    rw[F] at e;cases e;exact abA value slice V s σ _ _ _ v u Q I U T #[z,i,c,rfl,rfl,á C,F,aI S O _ rfl] P
  .cases e
 .cases e
def aS (ha:PE X a (tE X.K Ξ f)) (hb:PE X b (tE X.K Ξ g)) (hs:NY b:=by intro _ _;rfl):PE X (.Subscript a b pos) (tE X.K Ξ (e2 au f g)):=cE (adH afy ha hb hs) Ap
def sd (d:D) (s:ag):Option D:=match res d s with
 | .lst Z=>ϊ (.int Z.length)
 | .tup Z=>ϊ (.int Z.length)
 | .cT Y=>ϊ (.int Y.length)
 | .str x=>if ώ (x.length<=Õ)=ό then ϊ (.int x.length) else ϋ
 |_=>ϋ
def fk (ds:List D) (s:ag):Res D:=match ds with
 | [d]=>bY (sd d s) s
 |_=>ϋ
def lY (h:aA K w [d] vs):∃v,vs=[v]/\DV K w d v:=by
 let(v,r,rfl,Z,Y):=h;have e:=Y;subst e;exact#[v,rfl,Z]
def AI (h:aA K w [d,e] vs):∃v u,vs=[v,u]/\DV K w d v/\DV K w e u:=by
 let(v,r,rfl,Z,h):=h;let(u,rfl,Y):=lY h;exact#[v,u,rfl,Z,Y]
def jF:dB X (.builtin "len") (rC X.K Ξ fk):=by
 intro V s σ H U T Q I r qz;let(w,O,rfl,S,Y,h):=qz;delta fk at h;split at h
 .let(v,rfl,Z):=lY Y
  let(d,e,h):=gG h;delta sd at e;split at e
  .rename_i R e1
   cases e;let(a,U,rfl,W,Y):=j3 S Z e1;exact CK V s σ _ _ T Q I r #[a,U,rfl,.inl (bV.of W),by rw[<- Y.length];exact aI S h _ rfl]
  .rename_i R e1
   cases e;rw[fX e1 (by intro _ z;cases z)] at Z;let(a,U,rfl,W,Y):=Z;exact CK V s σ _ _ T Q I r #[a,U,rfl,.inr W,by rw[<- Y.length];exact aI S h _ rfl]
  .rename_i N e1
   cases e;rw[fX e1 (by intro _ z;cases z)] at Z;let(a,rfl,W):=Z;exact CK V s σ _ _ T Q I r #[a,_,rfl,.inl W.sq,by rw[Æ];exact aI S h _ rfl]
  .rename_i z e1
   rw[fX e1 (by intro _ z;cases z)] at Z;cases Z;split at e
   .rename_i P
    cases e;exact Uw V s σ _ _ T Q I r #[z,rfl,á P,aI S h _ rfl]
   .cases e
  .cases e
 .exact h.elim
noncomputable def i7:List D->Option (List Bool)
 | []=>ϊ []
 | .bl b::Z=>(i7 Z).map λr=>b::r
 |_::_=>ϋ
theorem xh:∀{ds} {bs},i7 ds=ϊ bs->ds=bs.map D.bl
 | [],bs,h=>by cases h;rfl
 | .bl b::ds,bs,h=>by
  erw[i7] at h
  cases Z:i7 ds with
  |none=>rw[Z] at h;cases h
  |some r=>rw[Z] at h;cases h;rw[xh Z];rfl
 | .ax::_,_,h=>by cases h
 | .int _::_,_,h=>by cases h
 | .str _::_,_,h=>by cases h
 | .tup _::_,_,h=>by cases h
 | .lst _::_,_,h=>by cases h
 | .cI _::_,_,h=>by cases h
 | .aj _::_,_,h=>by cases h
 | .ty _::_,_,h=>by cases h
 | .cT _::_,_,h=>by cases h
 | .exc ..::_,_,h=>by cases h
 | .dA ..::_,_,h=>by cases h
def Z7:i7 (bs.map D.bl)=ϊ bs:=by
 induction bs with
 |nil=>rfl
 |cons b bs ih=>erw[Û,i7,ih,η]
def nC (ds:List D) (s:ag):Res D:=match ds with
 | [d]=>match res d s with
  | .lst Z=>bY ((i7 Z).map λbs=>.bl (bs.all id)) s
  |_=>ϋ
 |_=>ϋ
def vi (ds:List D) (s:ag):Res D:=match ds with
 | [d]=>match res d s with
  | .lst Z=>bY ((i7 Z).map λbs=>.bl (bs.any id)) s
  |_=>ϋ
 |_=>ϋ
def uN (hc:X.calm=ό):dB X (.builtin "all") (rC X.K Ξ nC):=by
 intro V s σ H U T Q I r qz;let(w,O,rfl,S,Z,h):=qz;delta nC at h;split at h
 .let(v,rfl,R):=lY Z
  split at h
  .rename_i P e1
   let(d,e,h):=gG h
   cases Y:i7 P with
   |none=>rw[Y] at e;cases e
   |some bs =>
    rw[Y] at e;cases e;let(a,U,rfl,W,Z):=j3 S R e1;rw[xh Y] at Z;rw[Z.wM] at W;exact XY hc V s σ _ _ T Q I r #[a,bs,rfl,bV.of W,aI S h _ rfl]
  .exact h.elim
 .exact h.elim
def Qw (hc:X.calm=ό):dB X (.builtin "any") (rC X.K Ξ vi):=by
 intro V s σ H U T Q I r qz;let(w,O,rfl,S,Z,h):=qz;delta vi at h;split at h
 .let(v,rfl,R):=lY Z
  split at h
  .rename_i P e1
   let(d,e,h):=gG h
   cases Y:i7 P with
   |none=>rw[Y] at e;cases e
   |some bs =>
    rw[Y] at e;cases e;let(a,U,rfl,W,Z):=j3 S R e1;rw[xh Y] at Z;rw[Z.wM] at W;exact XZ hc V s σ _ _ T Q I r #[a,bs,rfl,bV.of W,aI S h _ rfl]
  .exact h.elim
 .exact h.elim
def ib (ds:List D) (s:ag):Res D:=match ds with
 | [d]=>match res d s with
  | .lst Z=>ok (.tup Z) s
  | .tup Z=>ok (.tup Z) s
  |_=>ϋ
 |_=>ϋ
def lU:dB X (.type "tuple") (rC X.K Ξ ib):=by
 intro U s σ H Z T Q I r qz;let(w,O,rfl,S,Y,h):=qz;delta ib at h;split at h
 .let(v,rfl,W):=lY Y
  split at h
  .rename_i R e1
   let(a,Z,rfl,V,Y):=j3 S W e1;exact KD U s σ _ _ T Q I r #[a,Z,rfl,.inl #[bV.of V,abX S Y h]]
  .rename_i R e1
   rw[fX e1 (by intro _ z;cases z)] at W;have P:=W;let(a,Z,rfl,V,Y):=W;exact KD U s σ _ _ T Q I r #[a,Z,rfl,.inr #[V,aI S h _ P]]
  .exact h.elim
 .exact h.elim
end
def mx (n:Nat) (x:D) (ds:List D):Bool:=lay x&&cR ds&&ώ (dep x<=n)
def inD (x:D) (ds:List D):Option Bool:=if mx 100 x ds=ό then ϊ (ds.any λy=>beq y x) else ϋ
def nu (d:D) (s:ag):Option (List D):=match res d s with
 | .lst Z=>ϊ Z
 | .tup Z=>ϊ Z
 |_=>ϋ
def cy (x y:D) (s:ag):Res D:=match nu y s with
 |some Z=>bY ((inD x Z).map D.bl) s
 |none=>ϋ
def fN (x y:D) (s:ag):Res D:=match nu y s with
 |some Z=>bY ((inD x Z).map λb=>D.bl (!b)) s
 |none=>ϋ
def M0 (S:aW K w) (h:DV K w d v) (e:nu d w.aN=ϊ ds):∃a xs,v=.ref a/\(w.H a=ϊ (.lst xs)\/bZ K w.H a xs)/\aA K w ds xs:=by
 delta nu at e;split at e
 .rename_i X e1
  cases e;let(a,xs,rfl,Z,Y):=j3 S h e1;exact#[a,xs,rfl,.inl Z,Y]
 .rename_i X e1
  cases e;rw[fX e1 (by intro _ z;cases z)] at h;let(a,xs,rfl,Z,Y):=h;exact#[a,xs,rfl,.inr Z,Y]
 .cases e
section
variable {X:Cx} {Ξ:Wd->bw->Prop} {π:List (þ×Obj)} {σ:St} {s:Ý}
theorem Fc (lx:lay x=ό):∀{ds},cR ds=ό->((iR ds).any λy=>į y (py x))=ds.any λy=>beq y x
 | [],_=>rfl
 |d::ds,h=>by
  erw[cR,Â] at h;erw[iR,List.any_cons,xg d x h.1 lx,Fc lx h.2]
def Ph (h:inD x ds=ϊ b):lay x=ό/\cR ds=ό/\dep x<=100/\(ds.any λy=>beq y x)=b:=by
 delta inD mx at h;split at h
 .rename_i Z
  erw[Â,Å] at Z;exact#[Z.1.1,Z.1.2,Z.2,ahA h]
 .cases h
def fc (hr:bK k X.A):bP X (Ē .In) (rO X.K Ξ cy):=by
 intro π s σ H x y v u Q I J U qz;let(w,T,C,rfl,S,G,F,h):=qz;delta cy at h;split at h
 .rename_i Y E
  let(d,e,h):=gG h
  cases W:inD T Y with
  |none=>rw[W] at e;cases e
  |some b =>
   rw[W] at e;cases e;let(V,Z,B,D):=Ph W;let(R,z):=ox _ V;let(P,t):=wC _ Z;let(bs,O):=(G.py (qS _ V)).reads I J;have N:X.A.units+1+min (ahc (iR Y)) (py T).depth<cLine:=by
    have:=hr.un;omega
   let(a,M,rfl,ha,L):=M0 S F E;have fin:EP X π σ Q (.bool ((iR Y).any λy=>į y _)) s:=#[_,_,I,by rw[Fc V Z,D];rfl,aI S h _ rfl]
   rcases ha with ha|ha
   .let(cs,rc):=(show L2.DV _ (λ_=>False) _ (.list _) _ by exact#[a,M,rfl,not_false,ha,L.py (qN _ Z)]).reads I U
    exact SeqAt.in_list_reads rc O P R N fin
   .let(cs,rc):=(show L2.DV _ (λ_=>False) _ (.tuple _) _ by exact#[a,M,rfl,ha,L.py (qN _ Z)]).reads I U
    exact SeqAt.in_tuple_reads rc O P R N fin
 .exact h.elim
def pL (hr:bK k X.A):bP X (Ē .NotIn) (rO X.K Ξ fN):=by
 intro π s σ H x y v u Q I J U qz;let(w,T,B,rfl,S,G,F,h):=qz;delta fN at h;split at h
 .rename_i Y E
  let(d,e,h):=gG h
  cases W:inD T Y with
  |none=>rw[W] at e;cases e
  |some b =>
   rw[W] at e;cases e;let(V,Z,z,D):=Ph W;let(R,C):=ox _ V;let(P,t):=wC _ Z;let(bs,O):=(G.py (qS _ V)).reads I J;have N:X.A.units+1+min (ahc (iR Y)) (py T).depth<cLine:=by
    have:=hr.un;rw[C];omega
   let(a,M,rfl,ha,L):=M0 S F E;have fin:EP X π σ Q (.bool (!(iR Y).any λy=>į y _)) s:=#[_,_,I,by rw[Fc V Z,D];rfl,aI S h _ rfl]
   rcases ha with ha|ha
   .let(cs,rc):=(show L2.DV _ (λ_=>False) _ (.list _) _ by exact#[a,M,rfl,not_false,ha,L.py (qN _ Z)]).reads I U
    exact SeqAt.notIn_list_reads rc O P R N fin
   .let(cs,rc):=(show L2.DV _ (λ_=>False) _ (.tuple _) _ by exact#[a,M,rfl,ha,L.py (qN _ Z)]).reads I U
    exact SeqAt.notIn_tuple_reads rc O P R N fin
 .exact h.elim
def tP (K:Ň) (Ξ:Wd->bw->Prop) (f:ahv (Option Int)):TO:=fun σ H Q=>∃w env,w.H=H/\aW K w/\cg K w env σ/\Out K Ξ w (f env w.aN) λZ i=>Q i Z.H
def qB:ahv (Option Int):=λ_ s=>ok ϋ s
def qd (f:ahv D):ahv (Option Int):=λenv s=>ai (f env s) λd s=>match d with
 | .int i=>ok (ϊ i) s
 |_=>ϋ
variable {e a b:ŕ} {lo hi:Option ŕ} {pos p2 p3 p4:Pos} {f g:ahv D}
def Pj (h:PO X lo t) (i:∀ σ H Q,t' σ H Q->t σ H Q):PO X lo t':=λπ s σ H Q I Z=>h π s σ H Q I (i σ H Q Z)
def G6:PO X ϋ (tP X.K Ξ qB):=Pj ZJ fun σ H Q Z=>by
 let(w,env,Y,S,W,h):=Z;subst Y;exact aI S h
def FN (he:PE X e (tE X.K Ξ f)):PO X (ϊ e) (tP X.K Ξ (qd f)):=Pj (ZK he) fun σ H Q Y=>by
 let(w,env,W,S,V,h):=Y;subst W;refine#[w,env,rfl,S,V,(Out.ai h).mono λR d P U Z v T=>?_]
 cases d with
 |int i=>exact#[i,T,aI U Z]
 |_=>exact Z.elim
noncomputable def cutD (xs:List D) (lo hi:Option Int):List D:=(xs.drop (HT.bX xs.length 0 lo)).take (HT.bX xs.length xs.length hi-HT.bX xs.length 0 lo)
def xi (d:D) (lo hi:Option Int) (s:ag):Res D:=match res d s with
 | .tup Z=>ok (.tup (cutD Z lo hi)) s
 | .lst Z=>ok (.lst (cutD Z lo hi)) s
 |_=>ϋ
def qD (f:ahv D) (l h:ahv (Option Int)):ahv D:=λenv s=>ai (f env s) λd s=>ai (l env s) λlo s=>ai (h env s) λhi s=>xi d lo hi s
def rSl (K:Ň) (Ξ:Wd->bw->Prop):V->Option Int->Option Int->Hp->VK->Prop:=λx lo hi H Q=>∃w Z,w.H=H/\aW K w/\DV K w Z x/\Out K Ξ w (xi Z lo hi w.aN) λY d=>∀v,DV K Y d v->Q v Y.H
def abZ:yH X (rSl X.K Ξ):=by
 intro π s σ H x v U T lo hi sl Q I R P O pu qz;let(w,M,rfl,S,Y,h):=qz;delta xi at h;split at h
 .rename_i N e1
  rw[fX e1 (by intro _ z;cases z)] at Y;let(a,W,rfl,V,Z):=Y;refine ZP π s σ _ _ v U T lo hi sl Q I R P O pu #[a,W,rfl,V,xZ S ?_ h];delta cutD oP;rw[Z.length];exact(Z.drop _).take _
 .rename_i N e1
  let(a,W,rfl,V,Z):=j3 S Y e1;refine ZN π s σ _ _ v U T lo hi sl Q I R P O pu #[a,W,rfl,bV.of V,yd S ?_ h];delta cutD oP;rw[Z.length];exact(Z.drop _).take _
 .exact h.elim
def G7 (he:PE X e (tE X.K Ξ f)) (hl:PO X lo (tP X.K Ξ fl)) (hu:PO X hi (tP X.K Ξ fh)):PE X (.Subscript e (.Slice lo hi ϋ p2) pos) (tE X.K Ξ (qD f fl fh)) :=
 cE (XS abZ he hl hu) fun σ H Q V=>by
  let(w,env,U,S,Z,h):=V;subst U;exact#[w,env,rfl,S,Z,(Out.ai h).mono λT d Y R P v O=>#[T,env,rfl,R,Z.le Y,(Out.ai P).mono λN i W M L=>#[N,env,rfl,M,Z.le (Y.trans W),(Out.ai L).mono λJ j I G F=>#[J,d,rfl,G,(W.trans I) _ _ O,F]]]]
def mB (d x:D) (s:ag):Res D:=match d with
 | .aj k=>match s[k]? with
  |some (.lst Z)=>if ώ (Z.length<Õ)=ό then ok .ax (s.set k (.lst (Z++[x]))) else ϋ
  |_=>ϋ
 |_=>ϋ
noncomputable def jJ (d:D) (s:ag):Bool:=match d with
 | .aj k=>match s[k]? with
  |some (.lst _)=>ό
  |_=>ύ
 |_=>ύ
def f9 (f g:ahv D):ahv D:=λenv s=>ai (f env s) λd s=>if jJ d s=ό then ai (g env s) λx s=>mB d x s else ϋ
def Oc (S:aW K w) (dv:DV K w d v) (h:jJ d w.aN=ό):∃k a ds xs,d=.aj k/\v=.ref a/\w.ρ[k]?=ϊ a/\w.aN[k]?=ϊ (.lst ds)/\w.H a=ϊ (.lst xs)/\aA K w ds xs:=by
 delta jJ at h;split at h
 .rename_i k
  split at h
  .rename_i ds Z
   let(a,e1,rfl):=dv;let(xs,Y,X):=S.cell k a _ e1 Z;exact#[k,a,ds,xs,rfl,rfl,e1,Z,Y,X]
  .cases h
 .cases h
def ab0 (S:aW K w) (dv:DV K w d v) (du:DV K w y u) (h:Out K Ξ w (mB d y w.aN) q):∃a xs,v=.ref a/\w.H a=ϊ (.lst xs)/\xs.length<Õ/\∃w',w'.H=upd w.H a (.lst (xs++[u]))/\q w' .ax:=by
 delta mB at h;split at h
 .rename_i k
  split at h
  .rename_i Z Y
   split at h
   .rename_i V
    let(a,e1,rfl):=dv;let(xs,U,X):=S.cell k a _ e1 Y;have W:(Cell.lst Z)≠.dead:=by intro z;cases z
    have le:=(Fw.put (o:=.lst (xs++[u])) (c:=.lst (Z++[y])) S e1 Y W).le;refine#[a,xs,rfl,U,by rw[<- X.length];exact á V,w.put k a _ (.lst (Z++[y])),rfl,?_];exact h _ le (S.vd e1 Y W #[_,cY,le.all (X.append (aA.one du))]) rfl
   .exact h.elim
  .exact h.elim
 .exact h.elim
def j9 {apos bh} (ho:PE X o (tE X.K Ξ f)) (ha:PE X a (tE X.K Ξ g))
  (iC:ĭ o "append" X.env (Ħ o X.env)=Ħ o X.env:=by rfl)
  (kl:((Ġ bh (É [a] X.env)).all (λx=>!x.1)&&(ž bh (ŀ [] X.env)).all (λx=>x.1.isSome)
   && ώ (([a]).length+([]:List Ź).length+(if ([]:List Ź).isEmpty then 0 else 1)<30))=ό:=by rfl)
  (iD:(apos.endLine==bh.line)=ό:=by rfl) (hs:É [a] X.env=(ύ,Ħ a X.env)::É [] X.env:=by rfl) (ix:(Ġ bh (É [] X.env)).any (·.1)=ύ:=by rfl) :
  PE X (.Call (.Attribute o "append" apos) [a] [] bh) (tE X.K Ξ (f9 f g)) :=
 cE (uJ œ PySem.F.slot_list_append PySem.F.type_list_append Ww ho (jY ha kP hs) iC kl iD hs ix) fun σ H Q T=>by
  let(w,env,Z,S,W,h):=T;subst Z;refine#[w,env,rfl,S,W,(Out.ai h).mono λR d P V Y v U=>?_];split at Y
  .rename_i O
   let(k,p,z,N,rfl,rfl,e1,e2,e3,t):=Oc V U O;refine#[.inl #[rfl,N,bV.of e3],R,env,rfl,V,W.le P,(Out.ai Y).mono λs y M L J u I=>?_];let(G,E,D,C,B,r,Z,A):=ab0 L (M _ _ U) I J;refine#[G,E,u,D,rfl,C,B,?_];rw[<- Z];exact A _ rfl
  .exact Y.elim
def nD (d i x:D) (s:ag):Option ag:=match d,i with
 | .aj k,.int n=>match s[k]? with
  |some (.lst Z)=>(fz Z.length n).map λj=>s.set k (.lst (Z.set j x))
  |_=>ϋ
 |_,_=>ϋ
def qe (f o i:ahv D):ahv Fl:=λenv s=>ai (f env s) λx s=>ai (o env s) λd s=>ai (i env s) λn s=>match nD d n x s with
 |some Z=>ok (.nx env) Z
 |none=>ϋ
def ab1 (S:aW K w) (dv:DV K w d v) (dn:DV K w i n) (du:DV K w x u) (h:nD d i x w.aN=ϊ s'):∃a xs k j,v=.ref a/\n=.int k/\w.H a=ϊ (.lst xs)/\fz xs.length k=ϊ j/\∃w',w'.H=upd w.H a (.lst (xs.set j u))/\w'.aN=s'/\Le K w w'/\aW K w':=by
 delta nD at h;split at h
 .rename_i k m
  split at h
  .rename_i X Z
   cases Y:fz _ m with
   |none=>rw[Y] at h;cases h
   |some j =>
    rw[Y] at h;cases h;let(a,e1,rfl):=dv;let(xs,U,W):=S.cell k a _ e1 Z;have V:(Cell.lst X)≠.dead:=by intro z;cases z
    have le:=(Fw.put (o:=.lst (xs.set j u)) (c:=.lst (X.set j x)) S e1 Z V).le;exact#[a,xs,m,j,rfl,dn,U,by rw[<- W.length];exact Y,_,rfl,rfl,le,S.vd e1 Z V #[_,cY,le.all (W.set du j)]]
  .cases h
 .cases h
def FO (he:PE X e (tE X.K Ξ f)) (ho:PE X o (tE X.K Ξ fo)) (hi:PE X i (tE X.K Ξ fi))
 (ha:∀v,ahs (.Subscript o i qf) X.env v=(do
   let ov <- ω [v] (Ħ o X.env)
   let iv <- ω [v,ov] (Ħ i X.env)
   agm qf
   ω [v,ov,iv] (setItem ov iv v)
   release [v,ov,iv] []):=by intro _;rfl)
 (hs:ς [.Subscript o i qf] e pos.line X.env=pure ύ:=by rfl) (hw:υ [.Subscript o i qf] e X.env=pure ϋ:=by rfl)
 (h1:(Ņ [.Subscript o i qf] X.env).map (·.2)=[ahs (.Subscript o i qf) X.env]:=by rfl):PS X (.Assign [.Subscript o i qf] e pos) (tS X.K Ξ (qe f fo fi)) :=
 lX (O3 he (abi ho hi set_list ha) hs hw h1) λy σ H Q=>by
  let(w,env,W,S,Z,h):=Q;subst W;refine#[w,env,rfl,S,Z,(Out.ai h).mono λP x V O h1 u N=>?_];refine#[P,env,rfl,O,Z.le V,(Out.ai h1).mono λM d U L J v I=>?_];refine#[M,env,rfl,L,Z.le (V.trans U),(Out.ai J).mono λt n T G Y m F=>?_]
  cases R:nD d n x _ with
  |none=>rw[R] at Y;exact Y.elim
  |some s =>
   rw[R] at Y;let(a,E,k,j,e1,e2,D,C,B,W,A,le,z):=ab1 G (T _ _ I) F ((U.trans T) _ _ N) R;refine#[a,E,k,j,e1,e2,D,C,?_];rw[<- W];exact Y B le z A σ (Z.le (V.trans (U.trans (T.trans le))))
end
def kd (d:D) (s:ag):Option Kn:=match res d s with
 | .ax=>ϊ .ax
 | .bl _=>ϊ .bl
 | .int _=>ϊ .int
 | .str _=>ϊ .str
 | .tup _=>ϊ .tup
 | .lst _=>ϊ .lst
 | .cI _=>ϊ .cI
 |_=>ϋ
def adY (S:aW K w) (h:DV K w d v) (e:kd d w.aN=ϊ k):vG K w.H v k:=by
 delta kd at e
 split at e<;>rename_i e1<;>first | (done) | (try cases e)
 .rw[fX e1 (by intro _ z;cases z)] at h;cases h;trivial
 .rw[fX e1 (by intro _ z;cases z)] at h;cases h;trivial
 .rw[fX e1 (by intro _ z;cases z)] at h;cases h;trivial
 .rw[fX e1 (by intro _ z;cases z)] at h;cases h;trivial
 .rw[fX e1 (by intro _ z;cases z)] at h
  let(a,Y,rfl,Z,_):=h;exact#[Y,Z]
 .let(a,Y,rfl,Z,_):=j3 S h e1
  exact#[Y,bV.of Z]
 .rw[fX e1 (by intro _ z;cases z)] at h
  let(a,rfl,_,Z):=h;exact#[_,Z]
noncomputable def Qx (T:String):Bool:=T=="int"||T=="bool"||T=="str"||T=="tuple"||T=="list"
def nF (ds:List D) (s:ag):Res D:=match ds with
 | [d,.ty T]=>if Qx T=ό then bY ((kd d s).map λk=>.bl (u7 k T)) s else ϋ
 |_=>ϋ
section
variable {X:Cx} {Ξ:Wd->bw->Prop} {e a b:ŕ} {es:List ŕ} {pos:Pos} {f g:ahv D} {fa:ahv (List D)}
def rH:dB X (.builtin "isinstance") (rC X.K Ξ nF):=by
 intro Z s σ H M Y Q I r qz;let(w,L,rfl,S,R,h):=qz;delta nF at h;split at h
 .rename_i d T
  let(v,u,rfl,P,O):=AI R;have N:=O;subst N;split at h
  .rename_i U
   let(J,e,h):=gG h
   cases V:kd d _ with
   |none=>rw[V] at e;cases e
   |some k =>
    rw[V] at e;cases e;have W:=adY S P V;erw[Qx,θ,beq_iff_eq] at U
    rcases U with (((rfl|rfl)|rfl)|rfl)|rfl
    .exact Ux Z s σ _ _ Y Q I r #[v,k,rfl,W,aI S h _ rfl]
    .exact Ue Z s σ _ _ Y Q I r #[v,k,rfl,W,aI S h _ rfl]
    .exact Uy Z s σ _ _ Y Q I r #[v,k,rfl,W,aI S h _ rfl]
    .exact TN Z s σ _ _ Y Q I r #[v,k,rfl,W,aI S h _ rfl]
    .exact Ug Z s σ _ _ Y Q I r #[v,k,rfl,W,aI S h _ rfl]
  .exact h.elim
 .exact h.elim
def se (hv:ü x=ϊ (.type T)) (hg:Gl X x) (hm:X.mg x=ϋ) (hn:x≠"__name__":=by decide) (hd:(x==("__debug__"))=ύ:=by decide):PE X (.Name x pos) (tE X.K Ξ (eC (.ty T))):=rE (v:=.ty T) (NT hg hm hv rfl hn hd) λ_=>rfl
def fR (g:∃t,X.mg x=ϊ (.int i t)) (hg:Gl X x) (hd:(x==("__debug__"))=ύ:=by decide):PE X (.Name x pos) (tE X.K Ξ (eC (.int i))):=by
 let(t,e):=g;exact rE (v:=.int i) (Ej hg e #[t,rfl] hd) λ_=>rfl
noncomputable def rJ:List D->Option (List Int)
 | []=>ϊ []
 | .int i::Z=>(rJ Z).map λr=>i::r
 |_::_=>ϋ
theorem M6:∀{ds} {ns},rJ ds=ϊ ns->ds=ns.map D.int
 | [],ns,h=>by cases h;rfl
 | .int b::ds,ns,h=>by
  erw[rJ] at h
  cases Z:rJ ds with
  |none=>rw[Z] at h;cases h
  |some r=>rw[Z] at h;cases h;rw[M6 Z];rfl
 | .ax::_,_,h=>by cases h
 | .bl _::_,_,h=>by cases h
 | .str _::_,_,h=>by cases h
 | .tup _::_,_,h=>by cases h
 | .lst _::_,_,h=>by cases h
 | .cI _::_,_,h=>by cases h
 | .aj _::_,_,h=>by cases h
 | .ty _::_,_,h=>by cases h
 | .cT _::_,_,h=>by cases h
 | .exc ..::_,_,h=>by cases h
 | .dA ..::_,_,h=>by cases h
def WO:rJ (ns.map D.int)=ϊ ns:=by
 induction ns with
 |nil=>rfl
 |cons b bs ih=>erw[Û,rJ,ih,η]
noncomputable def nG (i:Int):List Int->List Int
 | []=>[i]
 |j::r=>if i<j then i::j::r else if i=j then j::r else j::nG i r
def jh:List Int->List Int
 | []=>[]
 |i::r=>nG i (jh r)
theorem DL:∀{l},k∈nG i l↔k=i\/k∈l
 | []=>by simp[nG]
 |j::r=>by
  delta nG;split
  .simp
  .split
   .rename_i h;subst h;simp
   .rw[Ô,DL,Ô]
    constructor
    .rintro (h|h|h)
     .exact .inr (.inl h)
     .exact .inl h
     .exact .inr (.inr h)
    .rintro (h|h|h)
     .exact .inr (.inl h)
     .exact .inl h
     .exact .inr (.inr h)
theorem Lh:∀{l},l.Pairwise (· < ·)->(nG i l).Pairwise (· < ·)
 | [],_=>by simp[nG]
 |j::r,h=>by
  let(Z,Y):=ö.mp h;delta nG;split
  .rename_i X
   refine ö.mpr #[λk hk=>?_,h]
   rcases Ô.mp hk with rfl|hk
   .exact X
   .have:=Z k hk;omega
  .split
   .exact h
   .refine ö.mpr #[λk hk=>?_,Lh Y]
    rcases DL.mp hk with rfl|hk
    .omega
    .exact Z k hk
theorem qT:∀{l},k∈jh l↔k∈l
 | []=>by simp[jh]
 |i::r=>by simp[jh,DL,qT]
theorem KZ:∀l,(jh l).Pairwise (· < ·)
 | []=>List.Pairwise.nil
 |i::r=>Lh (KZ r)
theorem KG:∀{l m:List Int},l.Pairwise (· < ·)->m.Pairwise (· < ·)->(∀k,k∈l↔k∈m)->l=m
 | [],[],_,_,_=>rfl
 | [],j::m,_,_,h=>by have:=(h j).mpr Ö;cases this
 |i::l,[],_,_,h=>by have:=(h i).mp Ö;cases this
 |i::l,j::m,W,V,h=>by
  let(Y,U):=ö.mp W;let(X,T):=ö.mp V;have e:i=j:=by
   rcases Ô.mp ((h i).mp Ö) with e|e
   .exact e
   .rcases Ô.mp ((h j).mpr Ö) with e'|e'
    .exact e'.symm
    .have:=X i e;have:=Y j e';omega
  subst e;congr 1;refine KG U T λk=>?_;constructor
  .intro Z
   rcases Ô.mp ((h k).mp (Ë _ Z)) with e|e
   .subst e;have:=Y k Z;omega
   .exact e
  .intro Z
   rcases Ô.mp ((h k).mpr (Ë _ Z)) with e|e
   .subst e;have:=X k Z;omega
   .exact e
def Dp (l):(jh l).length<=l.length:=by
 induction l with
 |nil=>exact ahz _
 |cons x l ih =>
  have:(jh (x::l)).length<=(jh l).length+1:=by
   show (nG x _).length<=_;generalize jh l=m
   induction m with
   |nil=>exact ahz _
   |cons y m Z =>
    delta nG;split
    .simp
    .split
     .simp
     .erw[å];omega
  erw[å];omega
def Yn (ns):(ns.foldl PyProof.Rows.step_dedup []).length<=(jh ns).length:=sub_len (CV ns _ List.nodup_nil) λk Z=>qT.mpr ((Mi ns k).mp Z)
def wD (d:D) (s:ag):Res D:=match d with
 | .lst Y=>match rJ Y with
  |some Z=>if ώ ((jh Z).length<64)=ό then ok (.lst ((jh Z).map D.int)) s else ϋ
  |none=>ϋ
 |_=>ϋ
def VM {p p2 mC} (ha:PE X a (tE X.K Ξ f)) (hc:X.calm=ό) (hg:Gl X "sorted") (hm:X.mg "sorted"=ϋ) (hv:ü "sorted"=ϊ (.builtin "sorted")) (H9:Gl X "set") (Ia:X.mg "set"=ϋ) (hv2:ü "set"=ϊ (.type "set"))
  (he:É [a] X.env=(ύ,Ħ a X.env)::É [] X.env:=by rfl) (bM:(Ġ mC (É [] X.env)).any (·.1)=ύ:=by rfl)
  (B5:É [.Call (.Name "set" p2) [a] [] mC] X.env=(ύ,Ħ (.Call (.Name "set" p2) [a] [] mC) X.env)::É [] X.env:=by rfl) (afz:(Ġ pos (É [] X.env)).any (·.1)=ύ:=by rfl) :
  PE X (.Call (.Name "sorted" p) [.Call (.Name "set" p2) [a] [] mC] [] pos) (tE X.K Ξ (e1 wD f)) :=
 cE (DF (UA hc) hg hm hv (jY (Dj (VG hc) H9 Ia hv2 (jY ha kP he) (by decide) (by decide) he bM) kP B5) (by decide) (by decide) B5 afz) fun σ H Q N=>by
  let(w,env,M,S,L,h):=N;subst M;refine#[w,env,rfl,S,L,(Out.ai h).mono λJ d A I Y v G=>?_];delta wD at Y;split at Y
  .split at Y
   .rename_i W F
    split at Y
    .rename_i V
     have V:=á V;let(p,z,rfl,T,R):=G;rw[M6 F] at R;rw[R.MY] at T;have E:=Ş (Yn W) V;refine#[p,W,rfl,T.sq,by omega,λq P=>?_];refine#[q,W,rfl,cY,E,λl y D C B=>?_];have e:=KG C (KZ W) λk=>(B k).trans qT.symm;subst e;have U:=D;have O:=I.grow (o:=.ext (rX X.prog X.w q W)) P;exact Y _ ((Fw.grow P).le.trans (Fw.grow U).le) (O.grow U) rfl _ #[l,_,rfl,#[(show ¬ (J.grow q _).Z l from ow O U),cY],aA.ints _]
    .exact Y.elim
   .exact Y.elim
  .exact Y.elim
def oR (i j:Nat) (fa:ahv (List D)):ahv Fl:=λenv s=>ai (fa env s) λZ s=>match Z with
 | [x,y]=>ok (.nx ((env.set i (ϊ x)).set j (ϊ y))) s
 |_=>ϋ
def AJ (i j) {x y} {px py pt} {kt k2 jr} (hc:X.calm=ό) (hN:X.N.Nodup) (ha:PA X [a,b] (tA X.K Ξ fa)) (hi:X.N[i]?=ϊ x:=by rfl) (hj:X.N[j]?=ϊ y:=by rfl) (gg:i≠j:=by decide)
  (hx:X.env.scope.names.lookup x=ϊ .local:=by rfl) (hy:X.env.scope.names.lookup y=ϊ .local:=by rfl)
  (hw:υ [.Tuple [.Name x px,.Name y py] kt pt] (.Tuple [a,b] k2 jr) X.env=pure (ϊ [x,y]):=by rfl)
  (hs:ς [.Tuple [.Name x px,.Name y py] kt pt] (.Tuple [a,b] k2 jr) pos.line X.env=pure ύ:=by rfl) :
  PS X (.Assign [.Tuple [.Name x px,.Name y py] kt pt] (.Tuple [a,b] k2 jr) pos) (tS X.K Ξ (oR i j fa)):=lX (abk hc hN hi hj gg hx hy ha hw hs) λO σ H W=>by
 let(w,env,V,S,Y,h):=W;subst V;refine#[w,env,rfl,S,Y,(Out.ai h).mono λM L U T Z J R=>?_];split at Z
 .let(v,u,rfl,Q,P):=AI R
  exact#[v,u,rfl,aI T Z _ (((Y.le U).set Q i).set P j)]
 .exact Z.elim
end
end DI
namespace L2
open PySem PySem.Spec PyProof.Rows
structure DS (Y:Cx) (D) (π):Prop where
 loc:D≠Y.env.locals
 fs:D∉Y.fs
 new:Y.ef.heap.objs.size<=D
 cell:∀x c,Y.env.cells.lookup x=ϊ c->c≠D
 pin:∀p∈Y.pn++π,p.1≠D
structure sH (Y) (D) (nt) (caps:St) (π) (o:St) (H) (s) (acc):Prop where
 inv:Inv Y π (o++caps) H s
 len:o.length=nt
 lst:∃ys,s.heap.PlainList D ys/\Vals acc ys.toList
 free:H D=ϋ
 nO:acc.length<=Õ
abbrev si:=St->Hp->List V->(St->List V->Hp->Prop)->Prop
def yg (Y:Cx) (D:þ) (nt:Nat) (caps:St) (c:Code) (m:Sem PySem.Fin) (ta:si):Prop :=
 ∀X o H s Z Q,DS Y D X->sH Y D nt caps X o H s Z->ta (o++caps) H Z Q ->
  ë (ê Y.prog Y.w) Y.A m (λfn T=>fn=.again c/\∃W V U,sH Y D nt caps X W V T U/\Q (W++caps) U V) (λ_ _=>False) s
def CA (J:It) (g:TG) (tf:TT) (ta:si) (τ:St) (acc:List V) (H:Hp) (Q:St->List V->Hp->Prop):Prop:=∃W:Nat->Nat->St->List V->Hp->Prop,(∃m,W 0 m τ acc H) /\
 ∀i m τ acc Z,W i m τ acc Z->(J.stop i Z/\Q τ acc Z) \/
  (J.go i Z/\∃N,(∀ X U T,N X U T->∃S,S < m/\W (i+1) S X U T) /\
   ∀x R,J.vB i Z x R->g x τ R fun Y O=>tf Y O λb P=>if b=ό then ta Y P acc N else N Y acc P)
def Qy (te:TE):si:=fun Y H Z Q=>Z.length+1<=Õ/\te Y H λv X=>Q Y (Z++[v]) X
def Qz (wi:TI) (g:TG) (tf:TT) (ta:si):si:=fun Y H Z Q=>wi Y H λJ X=>CA J g tf ta Y Z X Q
section
variable {Y:Cx} {D:þ} {nt:Nat} {caps:St}
def DS.obj (ds:DS Y D π) (B:sH Y D nt caps π o H s acc):∃oD ys nn,s.heap.get? D=ϊ oD/\oD={ cls:=.type "list",data:=.seq ys nn }/\Vals acc ys.toList/\Inv Y (π++[(D,oD)]) (o++caps) H s:=by
 obtain⟨ys,⟨nn,Z⟩,X⟩:=B.lst;refine#[_,ys,nn,Z,rfl,X,B.inv.qY λp W=>?_]
 rcases Ā.mp W with z|z
 .exact B.inv.pin p (Ò _ z)
 .have e:=by simpa using z
  subst e;exact#[Z,B.free,ds.loc,ds.fs,λv z=>by cases z]
def M7 (hx:Y.xe=λ_ _=>False) (hE:PE Y el te):yg Y D nt caps c ((do let _ <- call (.builtin "list.append") [.ref D,<- Ħ el Y.env]) >>= λ_=>again c) (Qy te):=by
 intro R o H s P Q Z B h;let(O,h):=h;let(N,V,nn,u,M,U,I):=Z.obj B;have q:=hE _ s _ H _ I h;rw[hx] at q;refine À (À (aQ q λy X L=>?_));let(v,T,S,K,J):=L;have W:=S.pin (D,N) (Ò _ (Ò _ ∅));have G:X.heap.PlainList D V:=#[nn,by rw[<- M];exact W.1];have F:V.size<=Õ:=by
  have e:=U.length;erw[û] at e;omega
 refine À (wpAny_list_append_plain G λE C A=>Ä (Ä #[rfl,?_]));have z:=S.oh
 have x:Inv Y R _ T { X with heap:=E,toks:=X.toks }:=z.turned (λb o w e=>(A.2 b w).trans e) W.2.1 Z.loc (.inr Z.new) Z.cell Z.pin
 refine#[o,T,_,#[x,B.len,#[_,C,?_],W.2.1,by simpa using O],J];rw[agM];exact Vals.append U (.cons K .nil)
def LH (hx:Y.xe=λ_ _=>False) (hc:Y.calm=ό)
 (T:Turn Y.prog Y.w Y.K tg J fp it tn) (st0:tn 0 s.heap) (hf:∀b∈fp,gn Y π H b) (ph:D∉fp) (hG:PG Y tg g) (jt:qw g nt) (hF:PF Y tests tf) (hA:yg Y D nt caps (.compLoop e d (.ref it) (.ref D) Y.env) act ta) (ds:DS Y D π) (B:sH Y D nt caps π o H s acc) (hq:(Code.compLoop e d (.ref it) (.ref D) Y.env).quiet=ό)
 (afA:∀(M:Model) A Q' E' s',ë (ê Y.prog Y.w) A (compTurn e d (.ref it) (.ref D) Y.env) Q' (λ_ _=>False) s'->ë (ê Y.prog Y.w) (A.under (.compLoop e d (.ref it) (.ref D) Y.env)) ((ê Y.prog Y.w).den (.compLoop e d (.ref it) (.ref D) Y.env)) Q' E' s')
 (ht:compTurn e d (.ref it) (.ref D) Y.env=(do
   agm p0
   match <- aht (.ref it) with
   |none=>pure (.done .next)
   |some v =>
    ŗ tg (.ref it) v
    ahs tg Y.env v
    let mut ok:=ό
    for c in tests do
     if ok then ok <- isTrue c Y.env (Ħ c Y.env)
    if ok then act else again (.compLoop e d (.ref it) (.ref D) Y.env)))
 (h:CA J g tf ta (o++caps) acc H Q) :
  Ÿ (ê Y.prog Y.w) Y.A (.compLoop e d (.ref it) (.ref D) Y.env) (λr s'=>r=.ok .next/\∃o' H' km,sH Y D nt caps π o' H' s' km/\Q (o'++caps) km H') s:=by
 obtain⟨W,⟨m0,w0⟩,turn⟩:=h;have G:∀{H'} {P},(∀b∈fp,H' b=ϋ)->(∀p∈P,p.1∉fp)->∀b∈fp,gn Y (π++P) H' b:=λhn X b Z=>by
  let(_,f1,sI,f3,f4,f5):=hf b Z;refine#[hn b Z,f1,sI,f3,f4,λp yV=>?_]
  rcases Ā.mp yV with z|z
  .exact f5 p (ó _ z)
  .rcases Ā.mp z with z|z
   .exact f5 p (Ò _ z)
   .exact λe=>X p z (e ▸ Z)
 refine codeAny_loop hq (λn s'=>∃i acc o H',sH Y D nt caps π o H' s' acc/\tn i s'.heap/\(∀b∈fp,H' b=ϋ)/\W i n (o++caps) acc H') (λn s3 hJ=>?_) m0 #[0,acc,o,H,B,st0,λb Z=>(hf b Z).1,w0];let(i,acc,o3,O,V,kA,qr,w3):=hJ;refine afA (ê Y.prog Y.w) _ _ _ _ ?_;rw[ht];let(F,N,nn,ho,eo,E,yW):=ds.obj V;have C:∀p∈[(D,F)],p.1∉fp:=λp X=>by
  have e:=by simpa using X
  subst e;exact ph
 have vV:∀{P} {y} {H'} {s'},Inv Y (π++[(D,F)]++P) y H' s'->s'.heap.PlainList D N/\H' D=ϋ:=λL=>by
  have q:=L.pin (D,F) (Ò _ (ó _ (Ò _ ∅)));exact#[#[nn,by rw[<- eo];exact q.1],q.2.1]
 refine À (Ŭ (À ?_))
 rcases turn i n _ acc O w3 with ⟨stop,q⟩ | ⟨go,N',hN,step⟩
 .have t:=T.done Y rfl rfl rfl hc i _ s3 _ O (λ_ _=>False) yW (G qr C) kA stop
  refine aQ t λr s4 S=>?_;let(m,I4):=S;subst m;let(Ii,n4):=vV (by simpa using I4);exact Ä #[rfl,o3,O,acc,#[I4.oh,V.len,#[N,Ii,E],n4,V.nO],q]
 .have t:=T.item Y rfl rfl rfl hc i _ s3 _ O (λ_ _=>False) yW (G qr C) kA go
  refine aQ t λr s4 S=>?_;let(u,m,S):=S;subst m;refine À (aQ S λ_ s5 h5=>?_);let(x,l,I5,r5,y5,k,yA):=h5;have yB:=I5.pinned (G yA C) (T.obj _ _ k);have q5:=hG _ s5 _ l x u _ yB r5 (jt x o3 _ l _ V.len (step x l y5));rw[hx] at q5;refine À (aQ q5 λ_ s6 h6=>?_);obtain⟨yX,H6,I6,⟨o6,yY,BA⟩,q6⟩:=h6;have R:=hF _ s6 _ H6 _ I6 q6;rw[hx] at R;refine À (aQ R λb s7 h7=>?_);let(H7,I,R):=h7;subst BA;let(B7,n7):=vV I;have j:=I.qY λp X=>by
   rcases Ā.mp X with z|z
   .exact I.pin p (Ò _ (ó _ (ó _ z)))
   .exact I.pin p (Ò _ (Ò _ z))
  have yh:∀{y} {H'} {s'},Inv Y (π++uw fp _) y H' s'->tn _ _/\∀b∈fp,H' b=ϋ:=λL=>by
   refine#[T.keep _ _ _ k λb Z o e=>(L.pin _ (Ò _ (Ò _ (tF Z e)))).1,λb Z=>?_];let(o,e,_):=T.obj _ _ k b Z;exact(L.pin _ (Ò _ (Ò _ (tF Z e)))).2.1
  cases b with
  |false =>
   let(f,a,w7):=hN _ _ _ R;let(t7,f7):=yh j;exact Ä #[rfl,f,a,_,acc,o6,H7,#[j.oh,yY,#[N,B7,E],n7,V.nO],t7,f7,w7]
  |true =>
   have SE:DS Y D (π++uw fp s5.heap):=#[ds.loc,ds.fs,ds.new,ds.cell,λp X=>by
    rcases Ā.mp X with z|z
    ·exact ds.pin p (ó _ z)
    ·rcases Ā.mp z with z|z
     ·exact ds.pin p (Ò _ z)
     ·exact λe=>ph (e ▸ (L4 z).1)]
   refine aQ (hA _ o6 H7 s7 acc N' SE #[j,yY,#[N,B7,E],n7,V.nO] R) λfn s8 h8=>?_;let(efn,o8,H8,afB,U,q8):=h8;subst efn;let(f,a,w8):=hN _ _ _ q8;let(t8,f8):=yh U.inv;exact#[rfl,f,a,_,afB,o8,H8,#[U.inv.oh,U.len,U.lst,U.free,U.nO],t8,f8,w8]
end
def Pk (A) (Q') (E') (s')
 (h:ë (ê P w) A (compTurn (.ListComp el gens sc ps) d i3 av ce) Q' (λ_ _=>False) s'):ë (ê P w) (A.under (.compLoop (.ListComp el gens sc ps) d i3 av ce)) ((ê P w).den (.compLoop (.ListComp el gens sc ps) d i3 av ce)) Q' E' s':=by
 exact wpAny_noted (ė h (λ_ _ q=>q) λ_ _ z=>z.elim)
def Yo (hd:gens[d]?=ϊ #[target,iter,ifs,0])
 (h0:Ÿ (ê P w) A (.compLoop (.ListComp el gens sc ps) d it acc env) R s)
 (h:ë (ê P w) A (pyIter it) (λvW s'=>Ÿ (ê P w) A (.compLoop (.ListComp el gens sc ps) d vW acc env) R s') (λ_ _=>False) s) :
  Ÿ (ê P w) A (.compStart (.ListComp el gens sc ps) d it acc env) R s:=by
 refine ahb ?_;refine wpAny_notedAt ?_;have Z:(clausesOf (.ListComp el gens sc ps))[d]?=ϊ _:=hd;delta compStart;rw[Z];refine À (agY (wpAny_ite ?_));split
 .first
   |exact À (Ä (Ä (ì rfl h0)))
   |exact Ä _
 .refine À (ŵ ?_)
  exact À (Ŭ (À (ė h (λvW s' Y=>Ä (ì rfl Y)) λ_ _ x=>x.elim)))
section
variable {Y:Cx} {D:þ} {nt:Nat} {caps:St}
def DM {el tg src} {gens} {sc} {ps} {tests} {d} {wi} {g} {tf} {ta} {act:þ->Sem _} {c} (hx:Y.xe=λ_ _=>False) (hc:Y.calm=ό) (hd:gens[d]?=ϊ #[tg,src,tests,0])
  (hi:PI Y tg src wi) (hG:PG Y tg g) (jt:qw g nt) (hF:PF Y tests tf) (hA:∀it,yg Y D nt caps (.compLoop (.ListComp el gens sc ps) d (.ref it) (.ref D) Y.env) (act it) ta)
  (ht:∀it,compTurn (.ListComp el gens sc ps) d (.ref it) (.ref D) Y.env=(do
   agm src.pos
   match <- aht (.ref it) with
   |none=>pure (.done .next)
   |some v =>
    ŗ tg (.ref it) v
    ahs tg Y.env v
    let mut ok:=ό
    for c in tests do
     if ok then ok <- isTrue c Y.env (Ħ c Y.env)
    if ok then act it else again (.compLoop (.ListComp el gens sc ps) d (.ref it) (.ref D) Y.env)))
  (hs:∀x,Ă src Y.env x=pure x) :
  yg Y D nt caps c (do
   let x <- Ħ src Y.env
   agm src.pos
   let x <- Ă src Y.env x
   let _ <- runOwn (.compStart (.ListComp el gens sc ps) d (<- ω [x] (pyIter x)) (.ref D) Y.env) Y.env
   again c) (Qz wi g tf ta):=by
 intro X o H s Z Q W B h;let(V,N,nn,a,M,L,I):=W.obj B;have q:=hi _ s _ H _ I h;rw[hx] at q;refine À (aQ q λv s1 K=>À (Ŭ ?_));rw[hs];refine À (Ä (À (Ć (aQ K λi3 G F=>?_))));let(it,E,tn,J,U,e,S,T,R,f2,ca):=F;subst e;have P:=S.pin (D,V) (Ò _ (Ò _ ∅));have C:=λz=>(f2 D z).2.2.2.2.2 (D,V) (Ò _ (Ò _ ∅)) rfl;have y:∀b∈E,gn Y X U b:=λb w=>by
  let(a1,a2,u,t,n,m):=f2 b w;refine#[a1,a2,u,t,n,λp l=>m p ?_]
  rcases Ā.mp l with z|z
  .exact ó _ z
  .exact Ò _ (ó _ z)
 have k:sH Y D nt caps X o U G Z:=#[S.oh,B.len,#[N,#[nn,by rw[<- M];exact P.1],L],P.2.1,B.nO];have loop:=LH hx hc T R y C hG jt hF (hA it) W k rfl (λ_ A j i O h=>Pk A j i O h) (ht it) ca;refine À (wpAny_runOwn ?_);refine ń (Yo hd loop (T.self _ _ _ _ _ R loop)) λr O f=>?_;let(e,q):=f;subst e;exact Ä #[rfl,q]
end
def Pl (wi:TI) (nt:Nat) (cap:List Nat) (g:TG) (tf:TT) (ta:si):TE:=fun σ H Q=>wi σ H λJ X=>CA J g tf ta (Ó nt ϋ++pW cap σ) [] X λ_ Z Y=>∀D,Y D=ϋ->Q (.ref D) (upd Y D (.lst Z))
section
variable {X:Cx}
def M8 {el tg src} {tests} {rest} {sc} {ps} {N} {nt} {cap} {wi} {g} {tf} {ta} {act:Env->þ->þ->Sem _} (hc:X.calm=ό) (S:wZ X sc N nt cap) (jt:qw g nt) (hi:PI X tg src wi)
  (hY:∀cl C s H ex pn,PG (fJ X N sc cl C s H ex pn) tg g/\PF (fJ X N sc cl C s H ex pn) tests tf/\∀D caps it,yg (fJ X N sc cl C s H ex pn) D nt caps (.compLoop (.ListComp el (#[tg,src,tests,0]::rest) sc ps) 0 (.ref it) (.ref D) (compEnvC sc cl C X.env)) (act (compEnvC sc cl C X.env) D it) ta)
  (ht:∀it D ce,compTurn (.ListComp el (#[tg,src,tests,0]::rest) sc ps) 0 (.ref it) (.ref D) ce=(do
   agm src.pos
   match <- aht (.ref it) with
   |none=>pure (.done .next)
   |some v =>
    ŗ tg (.ref it) v
    ahs tg ce v
    let mut ok:=ό
    for c in tests do
     if ok then ok <- isTrue c ce (Ħ c ce)
    if ok then act ce D it else again (.compLoop (.ListComp el (#[tg,src,tests,0]::rest) sc ps) 0 (.ref it) (.ref D) ce)))
  (hs:∀x,Ă src X.env x=pure x:=by intro _;rfl):PE X (.ListComp el (#[tg,src,tests,0]::rest) sc ps) (Pl wi nt cap g tf ta):=by
 intro K s σ H Q I h;let(cl,FP,i):=O8 λn F=>I.ok.has n (S.frees _ F rfl).2;refine wpAny_comprehension_free rfl hs FP S.kind S.names (aQ (hi K s σ H _ I h) λxv s1 h1=>aQ h1 λi3 W h2=>?_);let(it,O,tn,J,E,e,V,T,f,f2,ca):=h2;subst e;refine ď (wpAny_newFunctionEnv S.w9 (by intro y hy;simp at hy) (λh3 l B=>?_) S.kind);generalize d:W.heap.objs.size=D at l B |-;generalize a:W.heap.push _=G at l B |-;generalize Ik:G.objs.size=C at l B |-;have hC:C=D+1:=by rw[<- Ik,<- a,ý,d]
 have sL:D≠C:=by omega
 have U:=ahi d;have k:W.heap.objs.size<=C:=by omega
 have old:=λb o e=>B.extBut b o (ß (È (Í e) k)) (Á _ (a ▸ Á _ e));have vc:h3.PlainList D _:=#[_,B.extBut _ _ sL (Á _ (a ▸ d ▸ Ì _ rfl))];have hV:∀b∈O,b<W.heap.objs.size:=λb M=>by
  let(o,e,_):=T.obj _ _ f b M;exact Í e
 have IB:=V.block (t':=W.toks+([]:List (Str×ã)).length) S i f2 hV old k #[_,l];have Il:D∉dU _:=λz=>by
  rcases Ô.mp (V.m8 D z) with e|e
  .exact absurd (È V.lt U) (by rw[e];exact ò _)
  .exact V.Br U e
 have ph:D∉O:=λz=>absurd (È (hV D z) U) (ò _);have Fd:∀x c,cl.lookup x=ϊ c->c≠D:=λx c e z=>by
  let(v,o,ho,_):=V.cell x c ((i x c).mp e).2;exact absurd (È (Í ho) (by rw[z];exact U)) (ò _)
 have FQ:∀p∈X.pn++K,p.1≠D:=λp hp z=>absurd (È (Í (V.pin p hp).1) (by rw[z];exact U)) (ò _);have fin:∀R τ P Z t,Inv (fJ X N sc cl C W E O (X.pn++K)) [] τ P R->R.heap.PlainList D t->Vals Z t.toList->P D=ϋ->Z.length<=Õ->(∀D,P D=ϋ->Q (.ref D) (upd P D (.lst Z))) ->
   compPost (ê X.prog X.w) X.A X.xe ϋ (EP X K σ Q) (.ref D) C (.ok .next) R:=by
  intro R τ P Z t L pl rv F hz q;let(m,hm,_):=id L.loc;refine#[m,hm,λh' sb=>?_];have G8:=L.aK.but L.free sb;let(n,ho):=pl;have iP:=(sb.2 D sL).trans ho;have new:gm X.prog X.w (upd P D (.lst Z)) h' D (.lst Z):=#[hz,_,n,rv,by simpa using iP];have u:=(L.base.but k sb).adopt (o:=.lst Z) U F;refine#[.ref D,_,V.xx L.os u (G8.adopt F new) L.bare (λb M=>?_),rfl,q D F];let(_,f1,_,f3,f4,f5):=f2 b M;exact#[f3,f1,f4,f5]
 have pk:∀b∈O,gn (fJ X N sc cl C W E O (X.pn++K)) [] E b:=λb M=>by
  let(f0,f1,sI,f3,f4,f5):=f2 b M;refine#[f0,ß (È (hV b M) k),λz=>?_,.inl M,λx c e=>f4 x c ((i x c).mp e).2,λp yV=>?_]
  .rcases Ô.mp (V.m8 b z) with e|e
   .exact f1 e
   .exact sI e
  .exact f5 p (by simpa using yV)
 let(Im,Io,hA1):=hY cl C W E O _;have loop:=LH (Y:=fJ X N sc cl C W E O _) rfl hc T
  (T.keep _ _ _ f λb _ o e=>old b o e) pk ph Im jt Io (hA1 D _ it) #[sL,Il,U,Fd,λp hp=>FQ p (by simpa using hp)] #[IB,by simp,#[_,vc,.nil],V.aK.fresh U,ć _] rfl (λ_ A Q' E' R h=>Pk A Q' E' R h) (ht it D _) ca
 have QA:=ń loop λr R hr=>by
  let(e,o',P,km,j,q'):=hr;subst e;let(t,pl,rv):=j.lst;exact fin R _ P km t j.inv pl rv j.free j.nO q'
 exact codeAny_compStart_list QA (T.self _ _ _ _ _ (T.keep _ _ _ f λb _ o e=>old b o e) QA)
end
end L2
namespace DI
open PySem L2
def n9:ü "isinstance"=ϊ (.builtin "isinstance"):=nofun
def ke:ü "int"=ϊ (.type "int"):=nofun
def ab2:ü "bool"=ϊ (.type "bool"):=nofun
def jf:ü "tuple"=ϊ (.type "tuple"):=nofun
def ab3:ü "list"=ϊ (.type "list"):=nofun
def rK:ü "str"=ϊ (.type "str"):=nofun
def adZ:ü "set"=ϊ (.type "set"):=nofun
def uO:ü "all"=ϊ (.builtin "all"):=nofun
def QC:ü "any"=ϊ (.builtin "any"):=nofun
def jG:ü "len"=ϊ (.builtin "len"):=nofun
def DN:ü "sorted"=ϊ (.builtin "sorted"):=nofun
structure Gd (K) (mg:Str->Option ã) (x) (st) (ps) (f) (fd):Prop where
 mg:mg x=ϊ (.ref f)
 fn:qv K x x st f fd
 b:Binds K fd ps []
def jm (g:D->Env->Option Env) (t:ahv Bool) (act:ahv (List D)) (lg:Env):List D->ag->Res (List D)
 | [],s=>ok [] s
 |d::Z,s=>match g d lg with
  |none=>ϋ
  |some env=>ai (ne (t env s)) λb s=>if b=ό then ai (ne (act env s)) λY s=>ai (jm g t act lg Z s) λX s=>ok (Y++X) s
   else jm g t act lg Z s
def emit (f:ahv D):ahv (List D):=λenv s=>ai (f env s) λx s=>ok [x] s
def more (it:ahv (List D)) (g:D->Env->Option Env) (t:ahv Bool) (act:ahv (List D)):ahv (List D):=λenv s=>ai (it env s) λZ s=>jm g t act env Z s
def xj (nt:Nat) (cap:List Nat) (it:ahv (List D)) (g:D->Env->Option Env) (t:ahv Bool) (act:ahv (List D)):ahv D:=λenv s =>
 ai (it env s) λY s=>ai (ne (jm g t act (Ó nt ϋ++mj cap env) Y s)) λZ s=>mh Z (ok (.lst Z) s)
def Sl (g:D->Env->Option Env) (sl:List Nat):Prop:=∀d env Z,g d env=ϊ Z->Z.length=env.length/\∀i,i∉sl->Z[i]?=env[i]?
def wN (i):Sl (gN i) [i]:=λd env Y h=>by
 have e:=ahA h;subst e;refine#[ù ..,λj Z=>?_];rw[ç (λz=>Z (by simp[z]))]
theorem QD:∀(is:List Nat) ds env aP,iK (is.map gN) ds env=ϊ aP->aP.length=env.length/\∀i,i∉is->aP[i]?=env[i]?
 | [],[],env,aP,h=>by
  have e:=ahA h;rw[e];exact#[rfl,λ_ _=>rfl]
 | [],_::_,_,_,h=>by cases h
 |_::_,[],_,_,h=>by cases h
 |j::is,d::ds,env,aP,h=>by
  have Z:=h;let(Y,X):=QD is ds _ aP Z;refine#[by rw[Y,ù],λi hi=>?_];rw[X i (λz=>hi (Ë _ z)),ç (λz=>hi (by rw[z];exact Ö ..))]
def AD (is):Sl (gT (is.map gN)) is:=λd env Z h=>by
 cases d with
 |tup Y=>exact QD is Y env Z h
 |_=>cases h
def len_same {env aP} (hs:Sl g sl) (hg:g d env=ϊ aP):aP.length=env.length:=(hs d env aP hg).1
def jV (sl:List Nat) (env:Env):Prop:=∀i∈sl,∀d,env[i]?≠ϊ (ϊ d)
def cg.back {env aP} {σ} {g} {sl} {d} (hs:Sl g sl) (hf:jV sl env) (hg:g d env=ϊ aP) (hl:env.length=σ.length) (h:cg K w aP σ):cg K w env σ :=
 #[hl,λi x e=>by
  by_cases hi:i∈sl
  ·exact absurd e (hf i hi x)
  ·exact h.val i x (by rw[(hs d env aP hg).2 i hi];exact e)]
def xH (K:Ň) (Pre:Env->Prop) (ta:si) (act:ahv (List D)):Prop:=∀w env V Y Z W U Q,Pre env->aW K w->cg K w env V->aA K w Z Y ->
 act env w.aN=ϊ (.ok W,U)->Y.length+W.length<=Õ->(∀X T S,Le K w X->aW K X->X.aN=U->cg K X env T->aA K X (Z++W) S->Q T S X.H)->ta V w.H Y Q
def tU {r:Res α} {k} {b:β} {s'} (h:ai r k=ϊ (.ok b,s')):∃a s,r=ϊ (.ok a,s)/\k a s=ϊ (.ok b,s'):=by
 match r,h with
 |some (.ok a,s),h=>exact#[a,s,rfl,h]
def Ey {r} {a:α} {s} (h:ne r=ϊ (.ok a,s)):r=ϊ (.ok a,s):=by
 match r,h with
 |some (.ok b,Z),h=>exact h
def Li {f}:xH K (λ_=>True) (Qy (tE K cU f)) (emit f):=by
 intro w env X W Z J I Q _ S Y V h U T;let(x,H,R,P):=tU h;cases P;refine#[by simpa using U,w,env,rfl,S,Y,?_];rw[R];intro O le N M v L;exact T O X _ le N M (Y.le le) (aA.append (le.all V) (aA.one L))
def Mj {Pre} {g0} {g} {nt} {sl} {t} {act} {ta} {env} {w1} {J} {ds xs accD} {s'} {τ} {acc} {Q}
  (T:Tg K g0 g nt) (hs:Sl g sl) (hf:jV sl env) (hp:∀d aP,g d env=ϊ aP->Pre aP) (hA:xH K Pre ta act) (hJ:mP K w1 J ds) (S1:aW K w1) (eo:cg K w1 env τ) (da:aA K w1 accD acc)
  (h:jm g t act env ds w1.aN=ϊ (.ok xs,s')) (hl:acc.length+xs.length<=Õ) (hQ:∀w' gk vs,Le K w1 w'->aW K w'->w'.aN=s'->cg K w' env gk->aA K w' (accD++xs) vs->Q gk vs w'.H) :
  CA J g0 (tT K cU t) ta τ acc w1.H Q:=by
 refine#[λi m τ acc v=>m=ds.length-i/\i<=ds.length/\∃w' accD xs,w'.H=v/\Le K w1 w'/\aW K w'/\cg K w' env τ/\aA K w' accD acc/\jm g t act env (ds.drop i) w'.aN=ϊ (.ok xs,s')/\acc.length+xs.length<=Õ /\
   (∀Z gk vs,Le K w' Z->aW K Z->Z.aN=s'->cg K Z env gk->aA K Z (accD++xs) vs->Q gk vs Z.H),
  #[_,rfl,ć _,w1,accD,xs,rfl,Le.refl _,S1,eo,da,h,hl,hQ],?_]
 intro i m τ acc v qz;let(rfl,hi,w',accD,xs,rfl,U,O,u,S,Y,N,M):=qz;by_cases L:i<ds.length
 .right
  let(f,c):=(hJ w' U O i).1 _ (Ñ L);rw[Ţ L] at Y;erw[jm] at Y
  cases X:g _ env with
  |none=>rw[X] at Y;cases Y
  |some I =>
   rw[X] at Y;let(b,s2,G,s):=tU Y;have G:=Ey G;refine#[f,fun τ acc r=>∃w' accD xs,w'.H=r/\Le K w1 w'/\aW K w'/\cg K w' env τ/\aA K w' accD acc/\jm g t act env _ _=ϊ _/\acc.length+xs.length<=Õ /\
    (∀Z gk vs,Le K w' Z->aW K Z->Z.aN=s'->cg K Z env _->aA K Z (accD++xs) vs->Q _ vs _),fun sy Bx r q=>#[_,by omega,rfl,L,q],λx a y=>?_]
   let(Z,rfl,V,p,es,dv):=c x a y;refine T.imp _ _ _ _ #[Z,env,_,I,rfl,p,u.le V,dv,X,fun vC R=>#[Z,I,rfl,p,R,?_]];rw[es,G];intro o W n e3
   cases b with
   |true =>
    let(ys,s3,P,h3):=tU s;have P:=Ey P;let(zs,s4,hz,h4):=tU h3;cases h4;rw[<- e3] at P;refine hA o I _ acc accD ys s3 _ (hp _ _ X) n (R.le W) ((V.trans W).all S) P (by rw[Ï] at N;omega) λw4 τ4 vs l S4 e4 k j=>?_;have lv:=j.length;refine#[w4,_,zs,rfl,U.trans (V.trans (W.trans l)),S4,k.back hs hf X ?_,j,by rw[e4];exact hz,?_,λF E D C B A z w=>M F _ D (V.trans (W.trans (l.trans C))) B A z (by rw[<- Đ];exact w)]
    .rw[<- k.len]
     exact(len_same hs X).symm
    .rw[Ï] at N lv
     have:=S.length;omega
   |false =>
    exact#[o,accD,xs,rfl,U.trans (V.trans W),n,(R.le W).back hs hf X (by rw[<- R.len];exact(len_same hs X).symm),(V.trans W).all S,by rw[e3];exact s,N,λF E D C B A z w=>M F _ D (V.trans (W.trans C)) B A z w]
 .left
  have e:i=ds.length:=by omega
  subst e;rw[List.drop_length] at Y;cases Y;exact#[(hJ w' U O _).2 (ahz _),M w' τ acc (Le.refl _) O rfl u (by rw[ð];exact S)]
def CY {Pre Ha} {g0} {g} {nt} {sl} {it} {t} {act} {ta} (T:Tg K g0 g nt) (hs:Sl g sl) (hA:xH K Pre ta act)
  (h1:∀env,Ha env->jV sl env) (h2:∀d env aP,Ha env->g d env=ϊ aP->Pre aP):xH K Ha (Qz (fU K cU it) g0 (tT K cU t) ta) (more it g t act):=by
 intro w env A V Y z y Q X S W U h R P;let(x,v,O,N):=tU h;refine#[w,env,rfl,S,W,?_];rw[O];intro u Z M e1 J L;exact Mj T hs (h1 env X) (λd aP I=>h2 d env aP X I) hA L M (W.le Z) (Z.all U) (by rw[e1];exact N) R λH s G F E D C B=>P H _ G (Z.trans F) E D C B
def Ml (T:Tg K g0 g nt) (hs:Sl g sl) (SG:∀i∈sl,i<nt) (hA:xH K Pre ta act)
 (hp:∀d caps aP,g d (Ó nt ϋ++caps)=ϊ aP->Pre aP) (σ) (H) (Q) :
  tE K Ξ (xj nt cap it g t act) σ H Q->Pl (fU K Ξ it) nt cap g0 (tT K cU t) ta σ H Q:=by
 intro qz;let(w,env,rfl,S,V,h):=qz;refine#[w,env,rfl,S,V,(Out.ai h).mono λB R P O Y J N=>?_]
 cases W:jm g t act _ R _ with
 |none=>rw[W] at Y;exact Y.elim
 |some r =>
  let(r,A):=r;rw[W] at Y
  cases r with
  |error x=>exact Y.elim
  |ok z =>
   let(M,Y):=wB Y;have L:=(V.le P).block nt cap (Ó nt ϋ) ∅;refine Mj T hs (λi hi d e=>?_) (λd aP I=>hp d _ aP I) hA N O L (accD:=[]) rfl W (by simpa using M) λG y F E U D v C p X=>?_
   .rw[æ (by simpa using SG i hi),Į,Ù (SG i hi)] at e
    cases e
   .exact Y _ (E.trans (Fw.grow X).le) (U.grow X) D _ #[p,F,rfl,#[(show ¬ G.Z p from ow U X),cY],(Fw.grow X).le.all C]
def jV.of {g} {sl dH} (hs:Sl g sl) (hd:∀i∈dH,i<nt/\i∉sl) {d} {caps aP:Env} (hg:g d (Ó nt ϋ++caps)=ϊ aP):jV dH aP:=λi hi x e=>by
 let(Z,Y):=hd i hi;rw[(hs _ _ _ hg).2 i Y,æ (by simpa using Z),Į,Ù Z] at e;cases e
def jV.on (hs:Sl g sl) (hd:∀i∈dH,i∉sl) (hf:jV dH env) (hg:g d env=ϊ aP):jV dH aP:=λi hi x e=>by
 rw[(hs _ _ _ hg).2 i (hd i hi)] at e;exact hf i hi x e
section
variable {X:Cx} {Ξ:Wd->bw->Prop} {el tg src sM oT Ir Hb:ŕ} {tests xk Pn:List ŕ} {sc:ahl} {ps pos:Pos} {N:List Str} {nt:Nat} {cap:List Nat} {it jR Cc:ahv (List D)} {gd sO Iu:D->Env->Option Env} {g0 yZ SH:TG} {sl dH qE:List Nat} {ft nQ SI:ahv Bool} {f:ahv D}
abbrev Fe (nt:Nat) (cap:List Nat) (it:ahv (List D)) (g:D->Env->Option Env) (t:ahv Bool) (jR:ahv (List D)) (g2:D->Env->Option Env) (t2:ahv Bool) (f:ahv D):ahv D:=xj nt cap it g t (more jR g2 t2 (emit f))
abbrev Po (nt:Nat) (cap:List Nat) (it:ahv (List D)) (g:D->Env->Option Env) (t:ahv Bool) (jR:ahv (List D)) (g2:D->Env->Option Env) (t2:ahv Bool) (Cc:ahv (List D)) (g3:D->Env->Option Env) (t3:ahv Bool) (f:ahv D):ahv D:=xj nt cap it g t (more jR g2 t2 (more Cc g3 t3 (emit f)))
noncomputable def apart (nt:Nat) (sl dH:List Nat):Bool:=dH.all (λi=>ώ (i<nt)&&!sl.contains i)
def tV (h:apart nt sl dH=ό):∀i∈dH,i<nt/\i∉sl:=λi hi=>by
 have:=Þ.mp h i hi;erw[Â,Å,Ċ,List.contains_eq_mem,decide_eq_false_iff_not] at this;exact this
noncomputable abbrev afC (e el:ŕ) (d:Nat):PySem.Env->þ->þ->Sem PySem.Fin:=λce D it=>(do let _ <- call (.builtin "list.append") [.ref D,<- Ħ el ce]) >>= λ_=>again (.compLoop e d (.ref it) (.ref D) ce)
noncomputable abbrev RM (e src:ŕ) (d:Nat):PySem.Env->þ->þ->Sem PySem.Fin:=λce D it=>do
 let x <- Ħ src ce
 agm src.pos
 let x <- Ă src ce x
 let _ <- runOwn (.compStart e (d+1) (<- ω [x] (pyIter x)) (.ref D) ce) ce
 again (.compLoop e d (.ref it) (.ref D) ce)
def Od (hc:X.calm=ό) (S:wZ X sc N nt cap) (T:Tg X.K g0 gd nt) (gO:Sl gd sl) (T2:Tg X.K yZ sO nt) (cS:Sl sO dH) (hi:PI X tg src (fU X.K Ξ it))
  (hY:∀cl C s H ex pn,PG (fJ X N sc cl C s H ex pn) tg g0/\PF (fJ X N sc cl C s H ex pn) tests (tT X.K cU ft)/\PI (fJ X N sc cl C s H ex pn) sM oT (fU X.K cU jR)/\PG (fJ X N sc cl C s H ex pn) sM yZ/\PF (fJ X N sc cl C s H ex pn) xk (tT X.K cU nQ)/\PE (fJ X N sc cl C s H ex pn) el (tE X.K cU f))
  (vJ:apart nt sl dH=ό:=by rfl) (vK:apart nt [] sl=ό:=by rfl)
  (hs:∀x,Ă src X.env x=pure x:=by intro _;rfl) (Iv:∀ce x,Ă oT ce x=pure x:=by intro _ _;rfl):PE X (.ListComp el [#[tg,src,tests,0],#[sM,oT,xk,0]] sc ps) (tE X.K Ξ (Fe nt cap it gd ft jR sO nQ f)) :=
 cE (M8 (act:=RM _ oT 0) hc S T.pf hi (λcl C s H ex pn=>by
   let(y1,y2,y3,y4,y5,Y):=hY cl C s H ex pn;exact#[y1,y2,λD Z it=>DM rfl hc rfl y3 y4 T2.pf y5 (λV=>M7 rfl Y) (λ_=>rfl) (Iv _)]) (λ_ _ _=>rfl) hs)
  (Ml T gO (λi hi=>(tV vK i hi).1) (CY T2 cS Li (λ_ h=>h) (λ_ _ _ _ _=>trivial)) λd Z U W=>jV.of gO (tV vJ) W)
def Z8 (hc:X.calm=ό) (S:wZ X sc N nt cap) (T:Tg X.K g0 gd nt) (gO:Sl gd sl) (T2:Tg X.K yZ sO nt) (cS:Sl sO dH) (T3:Tg X.K SH Iu nt) (Iw:Sl Iu qE) (hi:PI X tg src (fU X.K Ξ it))
  (hY:∀cl C s H ex pn,PG (fJ X N sc cl C s H ex pn) tg g0/\PF (fJ X N sc cl C s H ex pn) tests (tT X.K cU ft)/\PI (fJ X N sc cl C s H ex pn) sM oT (fU X.K cU jR)/\PG (fJ X N sc cl C s H ex pn) sM yZ/\PF (fJ X N sc cl C s H ex pn) xk (tT X.K cU nQ) /\
   PI (fJ X N sc cl C s H ex pn) Ir Hb (fU X.K cU Cc)/\PG (fJ X N sc cl C s H ex pn) Ir SH/\PF (fJ X N sc cl C s H ex pn) Pn (tT X.K cU SI)/\PE (fJ X N sc cl C s H ex pn) el (tE X.K cU f))
  (vJ:apart nt sl dH=ό:=by rfl) (h13:apart nt sl qE=ό:=by rfl) (h23:apart nt dH qE=ό:=by rfl) (vK:apart nt [] sl=ό:=by rfl)
  (hs:∀x,Ă src X.env x=pure x:=by intro _;rfl) (Iv:∀ce x,Ă oT ce x=pure x:=by intro _ _;rfl) (hf3:∀ce x,Ă Hb ce x=pure x:=by intro _ _;rfl):PE X (.ListComp el [#[tg,src,tests,0],#[sM,oT,xk,0],#[Ir,Hb,Pn,0]] sc ps) (tE X.K Ξ (Po nt cap it gd ft jR sO nQ Cc Iu SI f)) :=
 cE (M8 (act:=RM _ oT 0) hc S T.pf hi (λcl C s H ex pn=>by
   let(y1,y2,y3,y4,y5,W,V,U,R):=hY cl C s H ex pn;exact#[y1,y2,λD Z it=>DM rfl hc rfl y3 y4 T2.pf y5 (λP=>DM (act:=λjR=>afC _ el 2 _ D jR) rfl hc rfl W V T3.pf U (λjR=>M7 rfl R) (λ_=>rfl) (hf3 _)) (λ_=>rfl) (Iv _)]) (λ_ _ _=>rfl) hs)
  (Ml (Pre:=λenv=>jV dH env/\jV qE env) T gO (λi hi=>(tV vK i hi).1) (CY T2 cS (CY T3 Iw Li (λ_ h=>h) (λ_ _ _ _ _=>trivial)) (λ_ h=>h.1) (λd env Q h Y=>jV.on cS (λi hi=>(tV h23 i hi).2) h.2 Y)) λd Z Q Y=>#[jV.of gO (tV vJ) Y,jV.of gO (tV h13) Y])
end
end DI
namespace L2
open PySem PySem.Spec PyProof.Rows
end L2
namespace HT
open PySem PyProof.Rows
def Hc (A:đ) (s:Ý) (y x:ã) (b:Bool):Prop:=∀prog w E Q,Q (.bool b) s->ë (ê prog w) A (richCompare .Lt y x) Q E s
inductive j5 (A) (s):List ã->List ã->Bool->Prop where
 |nn:j5 A s [] [] ύ
 |nc (y) (ys):j5 A s [] (y::ys) ό
 |cn (x) (xs):j5 A s (x::xs) [] ύ
 |eq {xs ys} {b}:SeqAt.EqAt A s x y ό->j5 A s xs ys b->j5 A s (x::xs) (y::ys) b
 |lt {xs ys} {b}:SeqAt.EqAt A s x y ύ->Hc A s x y b->j5 A s (x::xs) (y::ys) b
section
open PySem.SeqAt
open PySem.AutoSeq1 (wpAny_loadPart')
open PySem.MeetsSeq PySem.MeetsSeq2 PySem.MeetsSeq3
def VN (l b:þ) (items pR:Array ã) (n n2:Nat) (dd qu:Option þ) (sl dH:Array (Option ã)) (sP:Bool) :
  Meets (ż.«tuple.__lt__» #[[.ref l,.ref b],[]])
   (λA R s=>s.heap.get? l=ϊ { cls:=.type "tuple",dict:=dd,data:=.seq items n,slots:=sl }/\s.heap.get? b=ϊ { cls:=.type "tuple",dict:=qu,data:=.seq pR n2,slots:=dH } /\
    j5 A.in1 s items.toList pR.toList sP/\R (.ok (.ret (.bool sP))) s) :=
 .of_wp λprog w A R s h=>by
  let(M,g,d,L,os):=s;let(J,I,H,h):=h;have f2:=AutoSeq1.sub_tuple_tuple
  wp_walk using wpAny_loadPart' J,wpAny_loadPart' I,wpAny_forIn_list _ (λrest b W=>b.1=ϋ/\W=#[M,g,d,L,os]/\∃(X ws:List ã),rest=X.zip ws /\
   j5 A.in1 #[M,g,d,L,os] X ws sP/\X.length+pR.size=ws.length+items.size) _
  case turn =>
   rintro ⟨y,x⟩ rest b W ⟨V,rfl,X,ws,Y,U,Z⟩
   cases U with
   |nn=>cases Y
   |nc _ _=>cases Y
   |cn _ _=>cases Y
   |eq T S =>
    rw[ş] at Y
    injection Y with Q K
    injection Q with P O
    subst P O;erw[å] at Z;refine À (T prog w _ _ ?_)
    wp_walk
    exact#[rfl,rfl,_,_,K,S,by omega]
   |lt T S =>
    rw[ş] at Y
    injection Y with Q K
    injection Q with P O
    subst P O;refine À (T prog w _ _ ?_);have N:=S prog w
    wp_walk using N
    exact#[_,rfl,by simpa using h]
  case fin =>
   rintro ⟨F,E⟩ W ⟨V,rfl,X,ws,Y,U,Z⟩;simp only at V;subst V;have G:sP=ώ (items.size<pR.size):=by
    cases U with
    |nn=>erw[Ą] at Z;exact(Î ⋯).symm
    |nc _ _=>erw[Ą,å] at Z;exact(Ã ⋯).symm
    |cn _ _=>erw[Ą,å] at Z;exact(Î ⋯).symm
    |eq _ _=>rw[ş] at Y;cases Y
    |lt _ _=>rw[ş] at Y;cases Y
   rw[G] at h
   wp_walk
   exact#[_,rfl,by simpa [Builtin.Tuple.tupleCompareSizes] using h]
  case h =>
   exact#[rfl,rfl,items.toList,pR.toList,rfl,H,by erw[û];omega]
end
open PySem.SeqAt PySem.MeetsSeq
section
variable {prog:ø} {w:Ĭ} {A:đ} {E:ã->Ý->Prop} {s:Ý}
def Oe (hl:IsTup s.heap l items) (hb:IsTup s.heap b pR) (hA:∀A',A'.units<=A.units+4->j5 A' s items.toList pR.toList sP)
 (hu:A.units<cLine) (h:Q (.bool sP) s):ë (ê prog w) A (richCompare .Lt (.ref l) (.ref b)) Q E s:=by
 obtain⟨⟨cls,X,data,sl⟩,Z,W,n,V⟩:=id hl;obtain⟨⟨P,U,data2,T⟩,Y,S,R,hd2⟩:=id hb;subst W V S hd2;refine richCompare_meets_room #[_,Z,rfl] #[_,Y,rfl] PySem.F.slot_tuple_lt PySem.F.entry_tuple_lt (PySem.F.args_tuple_lt_2 ..) (VN l b items pR n R X U sl T sP)
  #[Z,Y,hA _ ?_,#[(λx=>nomatch x),h]] hu
 show A.units+1<=A.units+4;omega
end
end HT
namespace DI
open PySem L2 HT
mutual
noncomputable def kE:D->D->Option Bool
 | .int i,.int j=>ϊ (ώ (i<j))
 | .str x,.str y=>ϊ (ώ (x.cps.toList<y.cps.toList))
 | .tup Z,.tup Y=>kq Z Y
 |_,_=>ϋ
noncomputable def kq:List D->List D->Option Bool
 | [],[]=>ϊ ύ
 | [],_::_=>ϊ ό
 |_::_,[]=>ϊ ύ
 |x::Z,y::Y=>if beq x y=ό then kq Z Y else kE x y
end
section
variable {X:Cx} {Ξ:Wd->bw->Prop} {π:List (þ×Obj)} {σ:St} {s:Ý} {w:Wd}
def ad0 (I:Inv X π σ w.H s) (A) (lx:lay x=ό) (ly:lay y=ό) (hu:A.units+dep x<cLine) (hx:DV X.K w x v) (hy:DV X.K w y u) (rx:RelV v vx) (ry:RelV u vy):SeqAt.EqAt A s vx vy (beq x y):=by
 let(as,Z):=(hx.py (qS _ lx)).reads I rx;let(bs,Y):=(hy.py (qS _ ly)).reads I ry;let(W,U):=ox _ lx;let(V,T):=ox _ ly;have:=SeqAt.eqAt_reads _ _ A s vx vy as bs Z Y W V ⋯;rw[xg _ _ lx ly] at this;exact this
mutual
theorem QG (I:Inv X π σ w.H s):∀A (x y:D) (b:Bool) (v u:V) (vx vy:ã),kE x y=ϊ b->lay x=ό->lay y=ό->A.units+5*dep x+5<cLine->DV X.K w x v->DV X.K w y u->RelV v vx->RelV u vy->Hc A s vx vy b
 |A,.int i,.int j,b,v,u,vx,vy,h,_,_,_,Z,Y,W,U=>by
  cases h;cases Z;cases Y;let(t,rfl):=W;let(S,rfl):=U;intro prog w E Q q;exact MS A s i t j S prog w E Q q
 |A,.str i,.str j,b,v,u,vx,vy,h,_,_,R,Z,Y,W,U=>by
  cases h;cases Z;cases Y;let(t,rfl):=W;let(S,rfl):=U;intro prog w E Q q;exact(PyProof.Rows.lt_str q)
 |A,.tup P,.tup O,b,v,u,vx,vy,h,N,M,R,Z,Y,W,U=>by
  erw[kE] at h;erw[DV] at Z Y;let(a,as,rfl,L,J):=Z;let(c,cs,rfl,G,T):=Y;cases W;cases U;let(ak,F,C,_):=I.tuple L;let(B,z,r,_):=I.tuple G;intro prog n E Q q;erw[dep] at R;exact Oe C r (λp o=>by
   have:=Pp I p P O b as cs ak B h (by simpa [lay] using N) (by simpa [lay] using M) ⋯ J T F z;simpa using this) ⋯ q
 |_,.ax,_,_,_,_,_,_,h,_,_,_,_,_,_,_=>by cases h
 |_,.bl _,_,_,_,_,_,_,h,_,_,_,_,_,_,_=>by cases h
 |_,.lst _,_,_,_,_,_,_,h,_,_,_,_,_,_,_=>by cases h
 |_,.cI _,_,_,_,_,_,_,h,_,_,_,_,_,_,_=>by cases h
 |_,.aj _,_,_,_,_,_,_,h,_,_,_,_,_,_,_=>by cases h
 |_,.ty _,_,_,_,_,_,_,h,_,_,_,_,_,_,_=>by cases h
 |_,.cT _,_,_,_,_,_,_,h,_,_,_,_,_,_,_=>by cases h
 |_,.exc ..,_,_,_,_,_,_,h,_,_,_,_,_,_,_=>by cases h
 |_,.dA _ _ _,_,_,_,_,_,_,h,_,_,_,_,_,_,_=>by cases h
 |_,.int _,.ax,_,_,_,_,_,h,_,_,_,_,_,_,_=>by cases h
 |_,.int _,.bl _,_,_,_,_,_,h,_,_,_,_,_,_,_=>by cases h
 |_,.int _,.str _,_,_,_,_,_,h,_,_,_,_,_,_,_=>by cases h
 |_,.int _,.tup _,_,_,_,_,_,h,_,_,_,_,_,_,_=>by cases h
 |_,.int _,.lst _,_,_,_,_,_,h,_,_,_,_,_,_,_=>by cases h
 |_,.int _,.cI _,_,_,_,_,_,h,_,_,_,_,_,_,_=>by cases h
 |_,.int _,.aj _,_,_,_,_,_,h,_,_,_,_,_,_,_=>by cases h
 |_,.int _,.ty _,_,_,_,_,_,h,_,_,_,_,_,_,_=>by cases h
 |_,.int _,.cT _,_,_,_,_,_,h,_,_,_,_,_,_,_=>by cases h
 |_,.int _,.exc ..,_,_,_,_,_,h,_,_,_,_,_,_,_=>by cases h
 |_,.int _,.dA ..,_,_,_,_,_,h,_,_,_,_,_,_,_=>by cases h
 |_,.str _,.ax,_,_,_,_,_,h,_,_,_,_,_,_,_=>by cases h
 |_,.str _,.bl _,_,_,_,_,_,h,_,_,_,_,_,_,_=>by cases h
 |_,.str _,.int _,_,_,_,_,_,h,_,_,_,_,_,_,_=>by cases h
 |_,.str _,.tup _,_,_,_,_,_,h,_,_,_,_,_,_,_=>by cases h
 |_,.str _,.lst _,_,_,_,_,_,h,_,_,_,_,_,_,_=>by cases h
 |_,.str _,.cI _,_,_,_,_,_,h,_,_,_,_,_,_,_=>by cases h
 |_,.str _,.aj _,_,_,_,_,_,h,_,_,_,_,_,_,_=>by cases h
 |_,.str _,.ty _,_,_,_,_,_,h,_,_,_,_,_,_,_=>by cases h
 |_,.str _,.cT _,_,_,_,_,_,h,_,_,_,_,_,_,_=>by cases h
 |_,.str _,.exc _ _,_,_,_,_,_,h,_,_,_,_,_,_,_=>by cases h
 |_,.str _,.dA ..,_,_,_,_,_,h,_,_,_,_,_,_,_=>by cases h
 |_,.tup _,.ax,_,_,_,_,_,h,_,_,_,_,_,_,_=>by cases h
 |_,.tup _,.bl _,_,_,_,_,_,h,_,_,_,_,_,_,_=>by cases h
 |_,.tup _,.int _,_,_,_,_,_,h,_,_,_,_,_,_,_=>by cases h
 |_,.tup _,.str _,_,_,_,_,_,h,_,_,_,_,_,_,_=>by cases h
 |_,.tup _,.lst _,_,_,_,_,_,h,_,_,_,_,_,_,_=>by cases h
 |_,.tup _,.cI _,_,_,_,_,_,h,_,_,_,_,_,_,_=>by cases h
 |_,.tup _,.aj _,_,_,_,_,_,h,_,_,_,_,_,_,_=>by cases h
 |_,.tup _,.ty _,_,_,_,_,_,h,_,_,_,_,_,_,_=>by cases h
 |_,.tup _,.cT _,_,_,_,_,_,h,_,_,_,_,_,_,_=>by cases h
 |_,.tup _,.exc ..,_,_,_,_,_,h,_,_,_,_,_,_,_=>by cases h
 |_,.tup _,.dA _ _ _,_,_,_,_,_,h,_,_,_,_,_,_,_=>by cases h
theorem Pp (I:Inv X π σ w.H s):∀(A:đ) (xs ys:List D) (b:Bool) vs us (ps qs:List ã),kq xs ys=ϊ b->cR xs=ό->cR ys=ό->A.units+5*eZ xs+5<cLine->aA X.K w xs vs->aA X.K w ys us->Vals vs ps->Vals us qs->j5 A s ps qs b
 |A,[],[],b,vs,us,ps,qs,h,_,_,_,W,V,Z,Y=>by
  cases h;cases W;cases V;cases Z;cases Y;exact .nn
 |A,[],y::ys,b,vs,us,ps,qs,h,_,_,_,W,V,Z,Y=>by
  cases h;cases W;cases Z;let(u,r,rfl,_,_):=V;cases Y;exact .nc ..
 |A,x::xs,[],b,vs,us,ps,qs,h,_,_,_,W,V,Z,Y=>by
  cases h;cases V;cases Y;let(u,r,rfl,_,_):=W;cases Z;exact .cn ..
 |A,x::xs,y::ys,b,vs,us,ps,qs,h,U,T,L,W,V,Z,Y=>by
  let(v,r,rfl,N,J):=W;let(u,G,rfl,M,Q):=V;erw[cR,Â] at U T;erw[eZ] at L;have F:=Nat.le_max_left (dep x) (eZ xs);have E:=Nat.le_max_right (dep x) (eZ xs)
  cases Z with
  |cons Z P =>
   cases Y with
   |cons Y O =>
    have S:=ad0 I A U.1 T.1 ⋯ N M Z Y;erw[kq] at h;split at h
    .rename_i R
     rw[R] at S;exact .eq S (Pp I A xs ys b _ _ _ _ h U.2 T.2 ⋯ J Q P O)
    .rename_i R
     rw[Ŵ] at R;rw[R] at S;exact .lt S (QG I A x y b _ _ _ _ h U.1 T.1 ⋯ N M Z Y)
end
def jo (x y:D) (s:ag):Res D:=if (lay x&&lay y&&ώ (dep x<=30))=ό then bY ((kE x y).map D.bl) s else ϋ
def vj (hr:bK k X.A):bP X (Ē .Lt) (rO X.K Ξ jo):=by
 intro O s σ H x y v u Q I U T qz;let(w,W,V,rfl,S,R,P,h):=qz;delta jo at h;split at h
 .rename_i Z
  erw[Â,Å] at Z;let(d,e,h):=gG h
  cases Y:kE W V with
  |none=>rw[Y] at e;cases e
  |some b =>
   rw[Y] at e;cases e;exact QG I _ W V b x y v u Y Z.1.1 Z.1.2 (by have:=hr.un;omega) R P U T _ _ _ _ #[.bl b,_,I,rfl,aI S h _ rfl]
 .exact h.elim
end
end DI
namespace DI
open PySem L2
def wq:List D->ag->Res D:=aJ 2 2 (ar (aV (aH (e2 jo (aa 1) (eB fk (af (aa 0) ah)))) (aG (e2 au (aa 0) (aa 1))) bE) (aG (eC (.int 0))))
def qO:List D->ag->Res D:=aJ 1 1 (aG (eB nC (af (ck 2 [] (vf (af (aa 0) (af (qD (aa 0) (qd (eC (.int 1))) qB) ah))) (gT [gN 0,gN 1]) cL (e2 jo (aa 0) (aa 1))) ah)))
def CZ:List D->ag->Res D:=aJ 1 1 (aG (dj (eB nF (af (aa 0) (af (eC (.ty "int")) ah))) (dj (x8 (eB nF (af (aa 0) (af (eC (.ty "bool")) ah)))) (e2 yf (aa 0) (eC (.int 0))))))
def tG:List D->ag->Res D:=aJ 2 2 (aG (dj (aC CZ (af (aa 0) ah)) (e2 jo (aa 0) (aa 1))))
def tK:List D->ag->Res D:=aJ 1 1 (aG (aC tG (af (aa 0) (af (eC (.int (8))) ah))))
def wj:List D->ag->Res D:=aJ 1 1 (aG (dj (eB nF (af (aa 0) (af (eC (.ty "tuple")) ah))) (dj (eB nC (af (ck 1 [] (cB (aa 0)) (gN 0) cL (aC tK (af (aa 0) ah))) ah)) (aC qO (af (aa 0) ah)))))
end DI
namespace ST
open PySem PySem.W PyProof.Rows
structure Ord (α:Type) where
 lt:α->α->Bool
 za:∀a,lt a a=ύ
 tr:∀a b c,lt a b=ό->lt b c=ό->lt a c=ό
 zb:∀a b,lt a b=ύ->lt b a=ύ->a=b
section
variable {α:Type} (O:Ord α)
def Ord.le (a b:α):Prop:=O.lt b a=ύ
variable {O}
def Ord.le_refl (a):O.le a a:=O.za a
def Ord.le_of_lt (h:O.lt a b=ό):O.le a b:=by
 delta Ord.le
 cases Z:O.lt b a with
 |false=>rfl
 |true=>have:=O.tr _ _ _ h Z;rw[O.za] at this;cases this
def Ord.uP (h:O.le a b) (g:O.le b c):O.le a c:=by
 delta Ord.le at *
 cases Z:O.lt c a with
 |false=>rfl
 |true =>
  cases Y:O.lt a b with
  |true=>have:=O.tr _ _ _ Z Y;rw[g] at this;cases this
  |false =>
   have e:=O.zb a b Y h;subst e;rw[g] at Z;cases Z
def Ord.QH (h:O.le a b) (g:O.le b a):a=b:=O.zb _ _ g h
end
def ok (c:Nat->Nat->Bool) (n:Nat):KasT β->(β->Prop)->Prop
 | .ret a,Q=>Q a
 | .ask i j k,Q=>i<n/\j<n/\ok c n (k (c i j)) Q
theorem lV {c} {n} {Q R}:∀{t:KasT β},ok c n t Q->(∀a,Q a->R a)->ok c n t R
 | .ret a,h,i=>i a h
 | .ask _ _ k,h,i=>#[h.1,h.2.1,lV h.2.2 i]
theorem uh {β γ} {c} {n} {f} {Q:γ->Prop}:∀{t:KasT β},ok c n t (λa=>ok c n (f a) Q)->ok c n (t.bind f) Q
 | .ret _,h=>h
 | .ask _ _ k,h=>#[h.1,h.2.1,uh h.2.2]
theorem QI {β} {c} {n} {cmp} (hc:∀i j C,i<n->j<n->C (c i j) s->cmp i j C s) {Q}:∀{t:KasT β},ok c n t (λa=>Q a s)->t.kasWp cmp Q s
 | .ret _,h=>h
 | .ask _ _ k,h=>hc _ _ _ h.1 h.2.1 (QI hc h.2.2)
section
variable {α:Type} {O:Ord α} {x:Nat->α} {n:Nat}
noncomputable def ky (x:Nat->α) (p:Array Nat) (i:Nat):α:=x (p.getD i 0)
def Pm (n:Nat) (p:Array Nat):Prop:=p.size=n/\p.toList.Perm (ä n)
def Up (O:Ord α) (f:Nat->α) (k:Nat):Prop:=∀i j,i<j->j<k->O.le (f i) (f j)
def Dn (O:Ord α) (f:Nat->α) (k:Nat):Prop:=∀i j,i<j->j<k->O.le (f j) (f i)
def Up.more (h:Up O f k) (hk:1<=k) (h1:O.le (f (k-1)) (f k)):Up O f (k+1):=λi j Z X=>by
 by_cases e:j=k
 .subst e
  by_cases Y:i=j-1
  .subst Y;exact h1
  .exact Ord.uP (h i _ ⋯ ⋯) h1
 .exact h i j Z ⋯
def Dn.more (h:Dn O f k) (hk:1<=k) (h1:O.le (f k) (f (k-1))):Dn O f (k+1):=λi j Z X=>by
 by_cases e:j=k
 .subst e
  by_cases Y:i=j-1
  .subst Y;exact h1
  .exact Ord.uP h1 (h i _ ⋯ ⋯)
 .exact h i j Z ⋯
def Pm.lt (h:Pm n p) (hi:i<n):p.getD i 0<n:=by
 have Z:i<p.size:=by rw[h.1];exact hi
 have:p[i]∈p.toList:=by simp
 have e:p.getD i 0=p[i]:=by simp[Array.getD,Z]
 rw[e];exact î.mp (h.2.mem_iff.mp this)
def Pm.rev (h:Pm n p) (i j):Pm n (kas_rev p i j):=#[by rw[kas_rev_size];exact h.1,(Array.perm_iff_toList_perm.mp (mirror_perm p i j _)).trans h.2]
def Pm.bub (h:Pm n p) (i j):Pm n (bubble p i j):=#[by rw[bubble_size];exact h.1,(Array.perm_iff_toList_perm.mp (bubble_perm p i j)).trans h.2]
def wO {p q:Array Nat} {i j} (h:p[i]?=q[j]?):p.getD i 0=q.getD j 0:=by
 rw[Array.getD_eq_getD_getElem?,Array.getD_eq_getD_getElem?,h]
def Ff {i j} (hj:j<=p.size) (k):ky x (kas_rev p i j) k=if i<=k/\k<j then ky x p (i+j-1-k) else ky x p k:=by
 have e:=getElem?_mirror_all (i:=i) hj k;delta ky kas_rev
 split<;>rename_i h
 .rw[Ù h] at e;rw[wO e]
 .rw[é h] at e;rw[wO e]
def Pq {k d} (hk:k<p.size) (hd:d<=k) (i):ky x (bubble p k d) i=if i=k-d then ky x p k else if k-d<i/\i<=k then ky x p (i-1) else ky x p i:=by
 have e:=getElem?_bubble hk d hd i;by_cases h:i=k-d
 .rw[Ù h] at e |-;exact ħ x (wO e)
 .rw[é h] at e |-
  by_cases Z:k-d<i/\i<=k
  .rw[Ù Z] at e |-;exact ħ x (wO e)
  .rw[é Z] at e |-;exact ħ x (wO e)
def Of (hj:j<=p.size) (he:∀k,i<=k->k<j->ky x p k=ky x p (j-1)):ky x (kas_rev p i j)=ky x p:=funext λk=>by
 rw[Ff hj];split
 .rw[he _ ⋯ ⋯,he k ⋯ ⋯]
 .rfl
noncomputable abbrev asks (O:Ord α) (x:Nat->α) (i j:Nat):Bool:=O.lt (x i) (x j)
theorem Fg (hp:Pm n p):∀f m,1<=m->m+f<=n->Up O (ky x p) m->ok (asks O x) n (kas_asc p f m) λr=>m<=r/\r<=m+f/\Up O (ky x p) r/\(r<m+f->O.lt (ky x p r) (ky x p (r-1))=ό)
 |0,m,Y,V,Z=>#[ahz _,ahz _,Z,λz=>absurd z (ò _)]
 |f+1,m,Y,V,Z=>by
  refine#[hp.lt ⋯,hp.lt ⋯,?_]
  show ok _ _ (if O.lt (ky x p m) (ky x p _)=ό then _ else _) _
  cases X:O.lt _ _ with
  |true =>
   exact#[ahz _,by omega,Z,λ_=>X]
  |false =>
   refine lV (Fg hp f _ ⋯ ⋯ (Z.more Y X)) λr W=>#[by omega,by omega,W.2.2.1,λz=>W.2.2.2 ⋯]
structure DS (O:Ord α) (x) (n) (p) (m q):Prop where
 pm:Pm n p
 q1:q+1<=m
 mn:m<=n
 dn:Dn O (ky x p) m
 bl:∀k,m-(q+1)<=k->k<m->ky x p k=ky x p (m-1)
def DS.turn (D:DS O x n p m q):Pm n (kas_rev p (m-(q+1)) m)/\ky x (kas_rev p (m-(q+1)) m)=ky x p :=
 #[D.pm.rev ..,Of (by rw[D.pm.1];exact D.mn) D.bl]
theorem Ar:∀f p m q,m+f<=n->DS O x n p m q->ok (asks O x) n (kas_desc f p m q) λr=>m<=r.2.1/\DS O x n r.1 r.2.1 r.2.2
 |0,p,m,q,_,D=>#[ahz _,D]
 |f+1,p,m,q,P,D=>by
  have q1:=D.q1;refine#[D.pm.lt ⋯,D.pm.lt ⋯,?_]
  show ok _ _ (if O.lt (ky x p m) (ky x p _)=ό then _ else _) _
  cases X:O.lt _ _ with
  |true =>
   have one:∀Y,Pm n Y->ky x Y=ky x p->DS O x n Y (m+1) 0:=λY V U=>#[V,by omega,by omega,by rw[U];exact D.dn.more ⋯ (Ord.le_of_lt X),λk T S=>by rw[show k=m+1-1 by omega]];by_cases W:q > 0
   .rw[Ù W]
    exact lV (Ar f _ _ 0 ⋯ (one _ D.turn.1 D.turn.2)) λr Z=>#[by omega,Z.2]
   .rw[é W]
    exact lV (Ar f _ _ 0 ⋯ (one _ D.pm rfl)) λr Z=>#[by omega,Z.2]
  |false =>
   refine#[D.pm.lt ⋯,D.pm.lt ⋯,?_]
   show ok _ _ (if O.lt (ky x p _) (ky x p m)=ό then _ else _) _
   cases R:O.lt _ _ with
   |true =>
    exact#[ahz _,D]
   |false =>
    have e:=O.zb _ _ X R;refine lV (Ar f p _ _ ⋯ #[D.pm,by omega,by omega,D.dn.more ⋯ (by rw[e];exact Ord.le_refl _),λk T S=>?_]) λr Z=>#[by omega,Z.2];show _=ky x p m;by_cases Q:k=m
    .rw[Q]
    .rw[D.bl k ⋯ ⋯,e]
def Og (hp:Pm n p) (h1:1<=m) (hm:m<=n) (hd:Dn O (ky x p) m):ok (asks O x) n (kas_tail3 m n p) λr=>1<=r.1/\r.1<=n/\Pm n r.2/\Up O (ky x r.2) r.1:=by
 refine uh ?_;have Z:Up O (ky x (kas_rev p 0 m)) m:=λi j W Y=>by
  rw[Ff (by rw[hp.1];exact hm),Ff (by rw[hp.1];exact hm),Ù #[by omega,by omega],Ù #[by omega,Y]];exact hd _ _ ⋯ ⋯
 exact lV (Fg (hp.rev 0 m) _ m h1 ⋯ Z) λr X=>#[by omega,by omega,hp.rev 0 m,X.2.2.1]
def Lj (hp:Pm n p) (h1:1<=m) (hm:m+1<=n) (hd:Dn O (ky x p) (m+1)):ok (asks O x) n (kas_descPart m n p) λr=>1<=r.1/\r.1<=n/\Pm n r.2/\Up O (ky x r.2) r.1:=by
 refine uh (lV (Ar _ p _ 0 ⋯ #[hp,by omega,hm,hd,λk Y X=>by rw[show k=m+1-1 by omega]]) λr Z=>?_);let(W,D):=Z;split
 .exact Og D.turn.1 ⋯ D.mn (by rw[D.turn.2];exact D.dn)
 .exact Og D.pm ⋯ D.mn D.dn
def Yp (hp:Pm n p) (hn:1<=n):ok (asks O x) n (kas_count n p) λr=>1<=r.1/\r.1<=n/\Pm n r.2/\Up O (ky x r.2) r.1:=by
 refine uh (lV (Fg hp _ 1 (ahz _) ⋯ λi j U X=>by omega) λm R=>?_);let(Z,P,Y,Q):=R;split
 .exact#[Z,by omega,hp,Y]
 .rename_i e
  have N:m≠n:=λz=>e (by rw[z];exact Ĵ n);have T:=Q ⋯;split
  .refine#[hp.lt ⋯,hp.lt ⋯,?_]
   show ok _ _ (if O.lt (ky x p 0) (ky x p _)=ό then _ else _) _
   cases S:O.lt _ _ with
   |true =>
    exact#[Z,by omega,hp,Y]
   |false =>
    have W:∀k,0<=k->k<m->ky x p k=ky x p _:=λk _ V=>by
     have a1:O.le (ky x p k) (ky x p (m-1)):=by
      by_cases e:k=m-1
      .rw[e];exact Ord.le_refl _
      .exact Y k _ ⋯ ⋯
     have a2:O.le (ky x p (m-1)) (ky x p k):=by
      by_cases e:k=0
      .rw[e];exact S
      .exact Ord.uP S (Y 0 k ⋯ V)
     exact Ord.QH a1 a2
    have V:=Of (by rw[hp.1];omega) W;refine Lj (hp.rev 0 m) Z ⋯ ?_;rw[V];refine Dn.more (λi j U X=>?_) Z (Ord.le_of_lt T);rw[W i ⋯ ⋯,W j ⋯ X];exact Ord.le_refl _
  .refine Lj hp Z ⋯ (Dn.more (λi j U X=>by omega) Z (Ord.le_of_lt T))
theorem DO (hp:Pm n p) (hk:k<n) (hu:Up O (ky x p) k):∀f l r,r-l<=f->l<=r->r<=k->(∀i,i<l->O.le (ky x p i) (ky x p k))->(∀i,r<=i->i<k->O.le (ky x p k) (ky x p i)) ->
  ok (asks O x) n (kas_place p k f l r) λm=>m<=k/\(∀i,i<m->O.le (ky x p i) (ky x p k))/\(∀i,m<=i->i<k->O.le (ky x p k) (ky x p i))
 |0,l,r,X,W,Y,a,b=>#[by omega,a,λi hi=>b i ⋯]
 |f+1,l,r,X,W,Y,a,b=>by
  delta kas_place;by_cases h:l ≥ r
  .rw[Ù h]
   exact#[by omega,a,λi hi=>b i ⋯]
  .rw[é h]
   refine#[hp.lt hk,hp.lt ⋯,?_]
   show ok _ _ (if O.lt (ky x p k) (ky x p _)=ό then _ else _) _
   cases Z:O.lt _ _ with
   |true =>
    refine DO hp hk hu f l _ ⋯ ⋯ ⋯ a λi hi V=>?_;by_cases e:i=(l+r) / 2
    .rw[e];exact Ord.le_of_lt Z
    .exact Ord.uP (Ord.le_of_lt Z) (hu _ _ ⋯ V)
   |false =>
    refine DO hp hk hu f _ r ⋯ ⋯ Y (λi hi=>?_) b;by_cases e:i=(l+r) / 2
    .rw[e];exact Z
    .exact Ord.uP (hu _ _ ⋯ ⋯) Z
theorem Pt:∀f p k,Pm n p->k+f=n->Up O (ky x p) k->ok (asks O x) n (kas_bin f p k) λq=>Pm n q/\Up O (ky x q) n
 |0,p,k,Y,X,Z=>#[Y,by rw[<- X];exact Z]
 |f+1,p,k,Y,X,Z=>by
  refine uh (lV (DO Y ⋯ Z k 0 k ⋯ (ć _) (ahz _) (λi hi=>by omega) λi Q W=>by omega) λm P=>?_);let(Q,W,N):=P;refine Pt f _ _ (Y.bub ..) ⋯ λi j M K=>?_;have V:k<p.size:=by rw[Y.1];omega
  have L:k-(k-m)=m:=by omega
  rw[Pq V ⋯,Pq V ⋯,L];by_cases U:i=m
  .rw[Ù U,é ⋯,Ù ⋯]
   exact N _ ⋯ ⋯
  .rw[é U]
   by_cases T:m<i/\i<=k
   .rw[Ù T,é ⋯,Ù ⋯]
    exact Z _ _ ⋯ ⋯
   .rw[é T]
    by_cases S:j=m
    .rw[Ù S];exact W _ ⋯
    .rw[é S]
     by_cases R:m<j/\j<=k
     .rw[Ù R]
      by_cases e:i=j-1
      .rw[e];exact Ord.le_refl _
      .exact Z _ _ ⋯ ⋯
     .rw[é R];exact Z _ _ M ⋯
def Z9 (hn:1<=n):ok (asks O x) n (kas_sort n) λq=>Pm n q/\Up O (ky x q) n:=by
 refine uh (lV (Yp #[by simp,by simp] hn) λr X=>?_);let(W,V,Y,Z):=X;split
 .rw[Nat.max_eq_left W]
  exact Pt _ _ _ Y ⋯ Z
 .rw[show r.1=n by omega] at Z
  exact#[Y,Z]
end
section
variable {α:Type} {O:Ord α} {x:Nat->α} {prog:ø} {w:Ĭ} {A:đ} {E:ã->Ý->Prop} {s:Ý}
def BB (prog:ø) (w:Ĭ) (A:đ) (O:Ord α) (x:Nat->α) (us:List ã) (t:Ý):Prop :=
 ë (ê prog w) A (keyKind' us.toArray) (fun Z Y=>Y=t/\∀i j C,i<us.length->j<us.length->C (O.lt (x i) (x j)) t->ë (ê prog w) A (keyLt' Z (us.getD i Value.none) (us.getD j Value.none)) C (λ_ _=>False) t) (λ_ _=>False) t
def nO (us:List ã) (h:us.length<2):(us.toArray.zip us.toArray).map (·.2)=((List.toArray (ä us.length)).toList.map λi=>us.getD i Value.none).toArray:=by
 rcases us with _ | ⟨u,_ | ⟨v,r⟩⟩
 .exact Array.toList_inj.mp ∅
 .exact Array.toList_inj.mp ∅
 ·(simp at h;omega)
def K0 (hb:s.heap.get? b=ϊ (ahj "list" us.toArray m)) (hz:us.length<64)
 (hk:2<=us.length->∀h1,(∀c o,c≠b->s.heap.get? c=ϊ o->h1.get? c=ϊ o)->BB prog w A O x us { s with heap:=h1 })
 (hR:∀q h' e,Pm us.length q->Up O (ky x q) us.length->(∀c o,c≠b->s.heap.get? c=ϊ o->h'.get? c=ϊ o)->h'.get? b=ϊ (ahj "list" (q.toList.map λi=>us.getD i Value.none).toArray e)->R (.done (.ret .none)) { s with heap:=h' }) :
  ë (ê prog w) A (ż.«list.sort» #[[.ref b],[]]) R E s:=by
 have line:us.length<=Õ:=by rw[ε];omega
 obtain⟨e1,N⟩:∃e1,(s.heap.update b _).get? b=ϊ (ahj _ _ e1):=#[_,get?_update_seq hb λ_=>#v[]];generalize U:((s.heap.update b _).push (ahj _ _ 0)).push (ahj _ _ 0)=Y;have X:Y.get? b=ϊ (ahj "list" #v[] e1):=by rw[<- U];exact Á _ (Á _ N)
 have old:∀c o,c≠b->s.heap.get? c=ϊ o->Y.get? c=ϊ o:=λc o W e=>by
  rw[<- U];exact Á _ (Á _ (by rw[ű _ _ _ _ W];exact e))
 have last:=λq h1 T =>
  hR q _ _ h1 T (λc o W e=>by rw[ű _ _ _ _ W];exact old c o W e) (get?_update_seq X λ_=>(q.toList.map λi=>us.getD i _).toArray)
 rw[list_sort_plain];refine À (listItems_at hb rfl (À (listUpdate_at hb rfl ?_ (by exact line) (ć _))));refine À (seqEpoch_at N rfl (À (wpAny_newTuple (À (ag0 (Ć ?_) (ć _))) (by exact line))));rw[U];dsimp only;by_cases Z:us.toArray.size<2
 .rw[Ù Z,Ù Z]
  refine À (Ä ?_);refine À (Ä ?_);have K:=by
   exact nO us (by exact Z)
  refine À (seqEpoch_at X rfl (À (listUpdate_at X rfl ?_ (ć _) ?_)))
  .erw[Ļ,Ê,ô]
   rw[K];refine Ä (last _ #[by simp,by simp] λi j D M=>?_);rw[Ü] at Z;omega
  .show ((us.toArray.zip _).map _).size<=Õ+1
   simp;omega
 .rw[é Z,é Z]
  rw[Ü] at Z;refine À (ė (hk ⋯ Y old) (fun B t S=>?_) λ_ _ z=>z.elim);let(rfl,S):=S
  have tree:(kas_sort _).kasWp _ (λq t=>t={ s with heap:=Y }/\Pm _ q/\Up O _ _) _ :=
   QI (λi j C hi M J=>S i j C hi M J) (lV (Z9 ⋯) λq L=>#[rfl,L])
  refine À (ė (kat_run (Q:=λV t=>∃q:Array Nat,q.size=us.length/\arrOf V=q.map _/\failedOf V=ϋ/\t={ s with heap:=Y }/\Pm _ q/\Up O (ky x q) _)
   rfl ⋯ hz (λq V t a1 a2 I H=>#[q,a1,a2,I,H]) tree) ?_ λ_ _ z=>z)
  rintro ⟨⟨⟩,V⟩ t ⟨q,L,P,G,rfl,T,F⟩;rw[kat_snds rfl P];refine À (seqEpoch_at X rfl (À (listUpdate_at X rfl ?_ (ć _) ?_)))
  .rw[G]
   erw[Ļ,Ê,ô];exact Ä (last q T F)
  .rw[Ü,Æ,û]
   omega
def WQ (hl:s.heap.IsList l us.toArray) (hz:us.length<64)
 (hk:2<=us.length->∀h1,(∀c o,s.heap.get? c=ϊ o->h1.get? c=ϊ o)->BB prog w A.in1.in1 O x us { s with heap:=h1 })
 (hQ:∀q h' b e,Pm us.length q->Up O (ky x q) us.length->(∀c o,s.heap.get? c=ϊ o->h'.get? c=ϊ o)->s.heap.objs.size<=b->h'.get? b=ϊ (ahj "list" (q.toList.map λi=>us.getD i Value.none).toArray e)->Q (.ref b) { s with heap:=h' }) :
  ë (ê prog w) A (call (.builtin "sorted") [.ref l]) Q E s:=by
 have line:us.length<=Õ:=by rw[ε];omega
 refine af6 kind_sorted plain_sorted entry_sorted (args_sorted1 _) ?_;refine À (Ä (À (collect_list hl (À (ag0 ?_ line)) line)));generalize X:((s.heap.push _).update _ _)=h1;have W:h1.objs.size=s.heap.objs.size+1:=by rw[<- X,Heap.size_update,size_push']
 have U:∀c o,s.heap.get? c=ϊ o->h1.get? c=ϊ o:=λc o e=>by
  have Z:=Í e;rw[<- X,ű _ _ _ _ (ß Z)];exact Á _ e
 have V:(h1.push _).get? _=ϊ (ahj "list" us.toArray 0):=Ì _ rfl;have old:∀c o,s.heap.get? c=ϊ o->c≠h1.objs.size/\(h1.push (ahj "list" us.toArray 0)).get? c=ϊ o:=λc o e=>by
  have Z:=Í e;exact#[ß (by rw[W];exact Ģ Z),Á _ (U c o e)]
 refine À (Ć (ă slot_list_sort #[_,V,rfl] entry_list_sort (K0 V hz (λz h' Y=>hk z h' λc o e=>Y c o (old c o e).1 (old c o e).2) λq h' e T S Y R=>#[_,rfl,?_]) (args_list_sort _)));exact Ä #[_,rfl,hQ q h' _ e T S (λc o e=>Y c o (old c o e).1 (old c o e).2) (by rw[W];exact ŭ _) R]
end
open HT
def Ez:∀a:List Int,lexLt a a=ύ:=λa=>by
 induction a with
 |nil=>rfl
 |cons i r ih=>rw[mY,Ù rfl];exact ih
def ab4:∀a b c:List Int,lexLt a b=ό->lexLt b c=ό->lexLt a c=ό:=λa=>by
 induction a with
 |nil =>
  intro b c h g
  cases b with
  |nil=>cases h
  |cons j s=>cases c with
   |nil=>cases g
   |cons k t=>rfl
 |cons i r ih =>
  intro b c h g
  cases b with
  |nil=>cases h
  |cons j s =>
   cases c with
   |nil=>cases g
   |cons k t =>
    rw[mY] at h g |-;by_cases e1:i=j
    .subst e1
     rw[Ù rfl] at h;by_cases e2:i=k
     .rw[Ù e2] at g |-;exact ih s t h g
     .rw[é e2] at g |-;exact g
    .rw[é e1] at h
     have h:=á h;by_cases e2:j=k
     .subst e2
      rw[é e1];exact Ã h
     .rw[é e2] at g
      have g:=á g;rw[é ⋯];exact Ã ⋯
def aaa:∀a b:List Int,lexLt a b=ύ->lexLt b a=ύ->a=b:=λa=>by
 induction a with
 |nil =>
  intro b h g
  cases b with
  |nil=>rfl
  |cons j s=>cases h
 |cons i r ih =>
  intro b h g
  cases b with
  |nil=>cases g
  |cons j s =>
   rw[mY] at h g;by_cases e:i=j
   .subst e
    rw[Ù rfl] at h g;rw[ih s h g]
   .rw[é e] at h
    rw[é (Ĥ e)] at g;have h:=of_decide_eq_false h;have g:=of_decide_eq_false g;omega
section
variable {prog:ø} {w:Ĭ} {A:đ} {E:ã->Ý->Prop} {s:Ý}
noncomputable def ins (O:Ord α) (a:α):List α->List α
 | []=>[a]
 |b::r=>if O.lt b a=ό then b::ins O a r else a::b::r
def dF (O:Ord α):List α->List α
 | []=>[]
 |a::r=>ins O a (dF O r)
end
section
variable {α:Type} {O:Ord α}
def M9 (a) (l):(ins O a l).Perm (a::l):=by
 induction l with
 |nil=>exact .refl _
 |cons b r ih =>
  delta ins;split
  .exact(List.Perm.cons b ih).trans (List.Perm.swap a b r)
  .exact .refl _
def kM (l):(dF O l).Perm l:=by
 induction l with
 |nil=>exact .refl _
 |cons a r ih=>exact(M9 a _).trans (ih.cons a)
def ab5 (a) (l) (h:l.Pairwise O.le):(ins O a l).Pairwise O.le:=by
 induction l with
 |nil=>exact List.pairwise_singleton ..
 |cons b r ih =>
  let(X,W):=ö.mp h;delta ins
  split<;>rename_i Z
  .refine ö.mpr #[λc Y=>?_,ih W]
   rcases Ô.mp ((M9 a r).mem_iff.mp Y) with e|e
   .rw[e];exact Ord.le_of_lt Z
   .exact X c e
  .have Z:=by rw[Ŵ] at Z;exact Z
   refine ö.mpr #[λc Y=>?_,h]
   rcases Ô.mp Y with e|e
   .rw[e];exact Z
   .exact Ord.uP Z (X c e)
def wF (l):(dF O l).Pairwise O.le:=by
 induction l with
 |nil=>exact .nil
 |cons a r ih=>exact ab5 a _ ih
def Dq:∀{l m:List α},l.Perm m->l.Pairwise O.le->m.Pairwise O.le->l=m:=by
 intro l
 induction l with
 |nil=>intro m h _ _;exact h.nil_eq
 |cons a r ih =>
  intro m h Z Y
  cases m with
  |nil=>exact absurd h.length_eq ∅
  |cons b t =>
   let(a1,a2):=ö.mp Z;let(X,W):=ö.mp Y;have e:a=b:=by
    rcases Ô.mp (h.mem_iff.mp Ö) with e|e
    .exact e
    .rcases Ô.mp (h.mem_iff.mpr Ö) with e'|e'
     .exact e'.symm
     .exact Ord.QH (a1 b e') (X a e)
   subst e;rw[ih h.cons_inv a2 W]
def DP (h:l.Perm m):dF O l=dF O m:=Dq ((kM l).trans (h.trans (kM m).symm)) (wF l) (wF m)
def WR (hp:Pm xs.length q) (hu:Up O (ky (λi=>xs.getD i d) q) xs.length):q.toList.map (λi=>xs.getD i d)=dF O xs:=by
 refine Dq ?_ ?_ (wF xs)
 .refine(hp.2.map _).trans ?_
  have:(ä xs.length).map (λi=>xs.getD i d)=xs:=by
   apply ŧ;intro i;by_cases hi:i<xs.length
   .simp[hi]
   .simp[hi,af9 hi]
  rw[this];exact(kM xs).symm
 .rw[List.pairwise_iff_getElem]
  intro i j hi W Z;have V:(q.toList.map λi=>xs.getD i d).length=xs.length:=by rw[Æ,û,hp.1]
  have Y:j<q.size:=by rw[hp.1];omega
  have X:i<q.size:=by omega
  have:=hu i j Z ⋯;delta ky at this;simpa [X,Y] using this
end
end ST
namespace DI
open PySem L2
section
variable {X:Cx} {Ξ:Wd->bw->Prop} {a e tg:ŕ} {p pos:Pos} {f:ahv D} {fa:ahv (List D)}
noncomputable def rL (n:Nat):List D:=(ä n).map λi:Nat=>D.int ((n)-1-i)
def WS (n):(rL n).length=n:=by simp[rL]
def WT (n i):(rL n)[i]?=if i<n then ϊ (.int ((n)-1-i)) else ϋ:=by
 delta rL;rw[à];split
 .rename_i h;rw[ķ h];rfl
 .rw[ě (by simp;omega)];rfl
def Pu:mP K w (Bw n) (rL n):=λX V W i=>by
 refine#[λd Z=>?_,λY=>by rw[WS] at Y;exact Y];rw[WT] at Z;split at Z
 .cases Z
  exact#[by assumption,λx U ⟨e1,e2⟩=>#[X,e1.symm,Le.refl _,W,rfl,e2]]
 .cases Z
def IA (fa:ahv (List D)):ahv (List D):=λenv s=>ai (fa env s) λZ s=>match Z with
 | [.int j]=>if (kU j&&ώ (0<=j))=ό then ok (rL j.toNat) s else ϋ
 |_=>ϋ
def ad1 {p2 mC} (hg:Gl X "reversed") (hm:X.mg "reversed"=ϋ) (H9:Gl X "range") (Ia:X.mg "range"=ϋ) (ha:PA X [a] (tA X.K Ξ fa))
  (he:É [a] X.env=(ύ,Ħ a X.env)::É [] X.env:=by rfl) (bM:(Ġ mC (É [] X.env)).any (·.1)=ύ:=by rfl)
  (hs:É [.Call (.Name "range" p2) [a] [] mC] X.env=[(ύ,Ħ (.Call (.Name "range" p2) [a] [] mC) X.env)]:=by rfl)
  (B5:É [.Call (.Name "range" p2) [a] [] mC] X.env=(ύ,Ħ (.Call (.Name "range" p2) [a] [] mC) X.env)::É [] X.env:=by rfl) :
  PI X tg (.Call (.Name "reversed" p) [.Call (.Name "range" p2) [a] [] mC] [] pos) (fU X.K Ξ (IA fa)) :=
 rg (abQ hg hm (jY (Dj U2 H9 Ia nofun ha (by decide) (by decide) he bM) kP B5) hs) fun σ H R V=>by
  let(w,env,U,S,T,h):=V;subst U;refine#[w,env,rfl,S,T,(Out.ai h).mono λM L J Q Z I P=>?_];split at Z
  .rename_i j
   split at Z
   .rename_i Y
    erw[kU,Â,Å] at Y;let(v,r,rfl,O,N):=P;have e1:=O;have e2:=N;subst e1 e2;refine#[j,rfl,λq W=>?_];refine#[q,j.toNat,rfl,?_,by omega,?_]
    .rw[cY,Int.toNat_of_nonneg Y.2]
    .exact Z _ (Fw.grow W).le (Q.grow W) rfl _ Pu
   .exact Z.elim
  .exact Z.elim
end
end DI
namespace L2
open PySem PySem.Spec PyProof.Rows
structure Pw (sc:ahl) (cl gP:List (Str×þ)) (C:Nat) (h:ū):Prop where
 old:∀n c,gP.lookup n=ϊ c->(C<c/\(n,NameKind.cell)∈sc.names/\∃v,h.IsCell c v)\/cl.lookup n=ϊ c
 own:∀n,sc.names.lookup n=ϊ .cell\/(cl.lookup n).isSome=ό->∃c,gP.lookup n=ϊ c
 inj:(∀x y c,cl.lookup x=ϊ c->cl.lookup y=ϊ c->x=y)->(∀x c,cl.lookup x=ϊ c->c<C)->∀x y c,gP.lookup x=ϊ c->gP.lookup y=ϊ c->x=y
theorem Dr:∀names n acc,(agt n names acc).lookup x=ϊ c->((x,NameKind.cell)∈names/\n<=c)\/acc.lookup x=ϊ c
 | [],n,acc,h=>.inr h
 |(y,k)::r,n,acc,h=>by
  delta agt at h;split at h
  .rename_i Z
   have Z:=by simpa using Z
   subst Z
   rcases Dr r _ _ h with ⟨h1,Y⟩|h1
   .exact .inl #[Ë _ h1,by omega]
   .rw[Ė] at h1
    split at h1
    .rename_i e
     have e:=by simpa using e
     subst e;cases h1;exact .inl #[Ö,ahz _]
    .exact .inr h1
  .rcases Dr r n acc h with ⟨h1,Y⟩|h1
   .exact .inl #[Ë _ h1,Y]
   .exact .inr h1
theorem Dt:∀(names) (n:Nat) (acc:List (Str×þ)),(∀x y c,acc.lookup x=ϊ c->acc.lookup y=ϊ c->x=y)->(∀x c,acc.lookup x=ϊ c->c<n)->∀x y c,(agt n names acc).lookup x=ϊ c->(agt n names acc).lookup y=ϊ c->x=y
 | [],n,acc,hi,X=>hi
 |(z,k)::r,n,acc,hi,X=>by
  delta agt;split
  .refine Dt r _ _ (λx y c Z Y=>?_) λx c Z=>?_
   .rw[Ė] at Z Y
    split at Z
    .rename_i e1
     split at Y
     .rename_i e2
      exact(by simpa using e1:x=z).trans (by simpa using e2:y=z).symm
     .cases Z
      exact absurd (X y _ Y) (ò _)
    .split at Y
     .cases Y
      exact absurd (X x _ Z) (ò _)
     .exact hi x y c Z Y
   .rw[Ė] at Z
    split at Z
    .cases Z;exact ō _
    .exact Ģ (X x c Z)
  .exact Dt r n acc hi X
theorem DQ {lo:Nat}:∀(names) (h) (acc:List (Str×þ)),lo<=h.objs.size->(∀x c,acc.lookup x=ϊ c->lo<=c->h.IsCell c ϋ)->(agt h.objs.size names acc).lookup x=ϊ c->lo<=c->(pushCells h names).IsCell c ϋ
 | [],h,acc,_,Z,e,Y=>Z x c e Y
 |(z,k)::r,h,acc,V,Z,e,Y=>by
  delta agt at e;delta pushCells;split at e
  .rename_i W
   rw[Ù W];have U:(h.push { cls:=.type "cell",data:=.cell ϋ }).objs.size=h.objs.size+1:=ý ..;refine DQ r _ _ ⋯ (λy d X T=>?_) (by rw[U];exact e) Y;rw[Ė] at X;split at X
   .cases X
    exact#[_,Ì _ rfl,rfl]
   .exact(Z y d X T).keeps λb o q=>Á _ q
  .rename_i W
   rw[é W];exact DQ r h acc V Z e Y
def Uk {Q:Env->Ý->Prop}
 (hQ:∀gP h3,((∀x c,cl.lookup x=ϊ c->c<s.heap.objs.size)->Pw scope cl gP s.heap.objs.size h3)->h3.Ns s.heap.objs.size (λ_=>ϋ)->(∀b o,s.heap.get? b=ϊ o->h3.get? b=ϊ o)->Q (newEnv scope s.heap.objs.size globals gP qual ϋ .none (ϊ env) bi) { s with heap:=h3 }) :
  ë M A (newFunctionEnv scope globals cl [] qual ϋ .none (ϊ env) bi) Q E s:=by
 erw[newFunctionEnv,Option.isSome_some,ú];refine À (wpAny_alloc ?_)
 refine À (wpAny_layCells _ (λname kind cells=>by cases Z:kind==NameKind.cell<;>simp[Z]) _ _ _ _ ?_)
 rw[ý _];erw[List.forIn_nil];refine À (Ä (Ä ?_));have Y:(s.heap.push { cls:=.type "dict",data:=.dict #v[] }).objs.size=s.heap.objs.size+1:=ý ..;refine hQ _ _ (λX=>#[λn c e=>?_,λn W=>?_,λhi V=>Dt _ _ _ hi λx c e=>Ģ (V x c e)]) ((Heap.Ns.new _ _).keeps (pushCells_keeps _ _)) λb o e=>pushCells_keeps _ _ b o (Á _ e)
 .rcases Dr _ _ _ e with ⟨h1,U⟩|h1
  .exact .inl #[by omega,h1,ϋ,DQ _ _ cl ⋯ (λx d q T=>absurd (X x d q) (Nat.not_lt.mpr (Nat.le_of_succ_le T))) (by rw[Y];exact e) U]
  .exact .inr h1
 .exact agj.mp (ź _ _ cl W)
abbrev gw (X:Cx) (N:List Str) (sc:ahl) (cl:List (Str×þ)) (C:þ) (s:Ý) (H:Hp) (ex:List þ) (pn:List (þ×Obj)):Cx:={ fJ X N sc cl C s H ex pn with fn:=λx=>sc.names.lookup x==ϊ .cell }
structure xl (X:Cx) (sc:ahl) (N:List Str) (nt) (cap:List Nat):Prop where
 kind:sc.kind=.function
 names:∀x∈sc.names,x.2=.local->sc.names.lookup x.1=ϊ .local
 cells:∀x∈sc.names,x.2=.cell->sc.names.lookup x.1=ϊ .cell
 frees:∀x∈sc.names,x.2=.free->sc.names.lookup x.1=ϊ .free/\(X.env.scope.names.lookup x.1=ϊ .cell\/X.env.scope.names.lookup x.1=ϊ .free)
 len:N.length=nt+cap.length
 GS:∀k j,cap[k]?=ϊ j->∃x,X.N[j]?=ϊ x/\N[nt+k]?=ϊ x/\(x,NameKind.free)∈sc.names
section
variable {X:Cx} {sc:ahl} {N:List Str} {nt:Nat} {cap:List Nat} {cl gP:List (Str×þ)} {s:Ý} {h1:ū} {H:Hp} {σ:St} {π:List (þ×Obj)} {fp:List þ} {C:þ} {t':Nat}
def Inv.ab6 (I:Inv X π σ H s) (S:xl X sc N nt cap) (dX:∀n c,cl.lookup n=ϊ c↔((n,NameKind.free)∈sc.names/\X.env.cells.lookup n=ϊ c)) (i5:Pw sc cl gP C h1) (hf:∀b∈fp,gn X π H b) (hV:∀b∈fp,b<s.heap.objs.size)
  (hk:∀b o,s.heap.get? b=ϊ o->h1.get? b=ϊ o) (hC:s.heap.objs.size<=C) (qx:∃m,h1.Ns C m):Inv (gw X N sc gP C s H fp (X.pn++π)) [] (m9 nt cap σ) H { s with heap:=h1,toks:=t' }:=by
 have M:=I.m8;have T:∀x c,cl.lookup x=ϊ c->c<s.heap.objs.size:=λx c e=>by
  let(v,o,W,_):=I.cell x c ((dX x c).mp e).2;exact Í W
 have G:∀x,(relabel sc _).names.lookup x=ϊ .cell\/(relabel sc X.env).names.lookup x=ϊ .free->(x,NameKind.free)∈sc.names\/sc.names.lookup x=ϊ _:=λx Z=>by
  rw[zB] at Z
  cases e:sc.names.lookup x with
  |none=>rw[e] at Z;rcases Z with z|z<;>cases z
  |some k =>
   have hm:(x,k)∈sc.names:=by
    let(l1,l2,e1,_):=List.lookup_eq_some_iff.mp e;rw[e1];simp
   rw[e] at Z
   cases k with
   |free=>exact .inl hm
   |cell=>exact .inr rfl
   |_=>revert Z;simp
 have F:∀x,(x,NameKind.free)∈sc.names->∃c,X.env.cells.lookup x=ϊ c:=λx Z=>I.ok.has x (S.frees _ Z rfl).2;have L:∀x c,(x,NameKind.free)∈sc.names->X.env.cells.lookup x=ϊ c->gP.lookup x=ϊ c:=λx c Z R=>by
  have e:=(dX x c).mpr #[Z,R];let(d,hd):=i5.own x (.inr (by rw[e];rfl))
  rcases i5.old x d hd with ⟨_,q,_⟩|q
  .have Q:=S.cells _ q rfl
   have V:=(S.frees _ Z rfl).1;rw[Q] at V;cases V
  .rw[e] at q
   cases q;exact hd
 have ok:Cx.Ok (gw X N sc gP C s H fp (X.pn++π)):=by
  refine#[I.ok.mod,?_,I.ok.glob,I.ok.blt,hC,?_,?_,?_,I.ok.hd,I.ok.frames,.inl rfl,?_,I.bs,Ø I.ok.jq I.sz,?_,?_,I.stack,I.wK]
  .exact S.kind
  .exact i5.inj (λx y c Z E=>I.ok.inj x y c ((dX x c).mp Z).2 ((dX y c).mp E).2) λx c e=>È (T x c e) hC
  .intro x Z
   rcases G x Z with hm|hm
   .let(c,e):=F x hm
    exact#[c,L x c hm e]
   .exact i5.own x (.inl hm)
  .intro x c Z e
   rcases i5.old x c e with ⟨q,_,_⟩|q
   .exact Ø hC (Nat.le_of_lt q)
   .have V:=(S.frees _ ((dX x c).mp q).1 rfl).1
    have Q:=by simpa using Z
    rw[Q] at V;cases V
  .intro b Y
   refine#[ß (È (hV b Y) hC),λx c e=>?_]
   rcases i5.old x c e with ⟨q,_,_⟩|q
   .exact ś (È (hV b Y) (Ø hC (Nat.le_of_lt q)))
   .exact(hf b Y).2.2.2.2.1 x c ((dX x c).mp q).2
  .intro b o e Y
   rcases(hf b Y).2.2.2.1 with z|z
   .exact I.ok.p9 b o e z
   .exact absurd (È (Í e) (Ø I.ok.jq z)) (ò _)
  .intro b Y z
   rcases Ô.mp (M b z) with e|e
   .exact(hf b Y).2.1 e
   .exact(hf b Y).2.2.1 e
 let(m,hm):=qx;let(mX,D,B):=I.loc;refine#[ok,rfl,I.bare,Un.kept hk,#[m,hm,λi x v e1 e2 e3=>?_],λx c e=>?_,I.aK.fresh hC,λx c e=>?_,λp A=>?_,I.aK.kept hk,?_]
 .
  have hi:=by
   apply af9;intro K;have:(m9 nt cap σ)[i]?=ϊ ϋ:=by
    delta m9;rw[æ (by simpa using K),Į,Ù K]
   rw[this] at e2;cases e2
  have U:(cap.map λj=>(σ[j]?).getD ϋ)[i-nt]?=ϊ (ϊ v):=by
   have e:=e2;delta m9 at e;rw[ñ (by simpa using hi)] at e;simpa using e
  rw[à] at U
  cases P:cap[i-nt]? with
  |none=>rw[P] at U;cases U
  |some j =>
   rw[P] at U;have ev:(σ[j]?).getD ϋ=ϊ v:=ahA U;have w:σ[j]?=ϊ (ϊ v):=by
    cases q:σ[j]? with
    |none=>rw[q] at ev;cases ev
    |some z=>rw[q] at ev;exact ħ ϊ ev
   let(y,f1,f2,J):=S.GS _ _ P;rw[Nat.add_sub_cancel' hi] at f2;have t:=ahA (f2.symm.trans e1);subst t;let(g1,g2):=S.frees _ J rfl;have h:qp _ y:=.inr g2;let(u,r,l):=B j y v f1 w h;refine#[u,r,.inr #[?_,?_]]
   .show (relabel sc _).names.lookup y=ϊ _\/(relabel sc _).names.lookup y=ϊ _
    rw[zB,g1];erw[η];split
    .exact .inl rfl
    .exact .inr rfl
   .rcases l with ⟨k,_⟩ | ⟨_,c,R,g⟩
    .have f:X.env.scope.names.lookup y=ϊ _:=k
     rw[f] at g2
     rcases g2 with z|z<;>cases z
    .let(O,W,hd):=g
     exact#[c,L y c J R,O,hk _ _ W,hd]
 .rcases i5.old x c e with ⟨_,_,q⟩|q
  .exact q
  .let(v,O,W,hd):=I.cell x c ((dX x c).mp q).2
   exact#[v,O,hk _ _ W,hd]
 .rcases i5.old x c e with ⟨q,_,_⟩|q
  .exact I.aK.fresh ⋯
  .exact I.jD x c ((dX x c).mp q).2
 .have a:p∈X.pn++π:=by simpa using A
  let(e,n,ne,nf,d):=I.pin p a;refine#[hk _ _ e,n,ß (È (Í e) hC),λz=>?_,d]
  rcases Ô.mp (M _ z) with q|q
  .exact ne q
  .exact nf q
 .delta m9
  rw[Ï,ň,Æ];exact S.len.symm
end
def U3 {A} {R} {s} {el tg src} {tests} {sc} {ps} {i3 av} {ce} {XT} (hx:∀x s,XT x s->notedBy (ê P w) A ce (λx s'=>R (.error x) s') x s) (J:Nat->Ý->Prop)
  (turn:∀n s,J n s->ë (ê P w) A (aht i3) (λr s1=>match r with
   |none=>R (.ok .next) s1
   |some v=>ë (ê P w) A (ŗ tg i3 v) (λ_ s2=>ë (ê P w) A (ahs tg ce v) (λ_ s3 =>
     ë (ê P w) A (forIn tests ό λc r=>if r=ό then do let ok <- isTrue c ce (Ħ c ce);pure (Ł ok) else pure (Ł r)) (λok s4 =>
      if ok=ό then ë (ê P w) A (Ħ el ce) (λy s5=>ë (ê P w) A (call (.builtin "list.append") [av,y]) (λ_ s6=>∃m,m<n/\J m s6) XT s5) XT s4
      else ∃m,m<n/\J m s4) XT s3) XT s2) XT s1) XT s)
  (n) (h:J n s):Ÿ (ê P w) A (.compLoop (.ListComp el [#[tg,src,tests,0]] sc ps) 0 i3 av ce) R s:=by
 refine codeAny_loop rfl J (λn s X=>?_) n h;refine wpAny_noted ?_;rw[compTurn_list];refine À (Ŭ (À (ė (turn n s X) (λr s1 Z=>?_) hx)))
 cases r with
 |none=>exact Ä Z
 |some v =>
  refine À (ė Z (λ_ s2 W=>?_) hx);refine À (ė W (λ_ s3 V=>À (ė V (λok s4 Y=>?_) hx)) hx)
  cases ok with
  |false=>exact Ä #[rfl,Y]
  |true =>
   exact À (À (ė Y (λy s5 U=>À (ė U (λ_ s6 T=>Ä (Ä #[rfl,T])) hx)) hx))
structure QJ (P) (w) (E el tg src) (tests) (new:Sem ã) (ap) (mk:þ->List V->HO) (mH:List V->Prop) where
 o0:Obj
 live:o0.isFreed=ύ
 Ac:þ->List V->ū->Prop
 clauses:clausesOf E=[#[tg,src,tests,0]]
 turns:∀{R} {s} {i3 av} {ce} {XT} (_:∀x s,XT x s->notedBy (ê P w) A ce (λx s'=>R (.error x) s') x s) (J:Nat->Ý->Prop)
  (turn:∀n s,J n s->ë (ê P w) A (aht i3) (λr s1=>match r with
   |none=>R (.ok .next) s1
   |some v=>ë (ê P w) A (ŗ tg i3 v) (λ_ s2=>ë (ê P w) A (ahs tg ce v) (λ_ s3 =>
     ë (ê P w) A (forIn tests ό λc r=>if r=ό then do let ok <- isTrue c ce (Ħ c ce);pure (Ł ok) else pure (Ł r)) (λok s4 =>
      if ok=ό then ë (ê P w) A (Ħ el ce) (λy s5=>ë (ê P w) A (call (.builtin ap) [av,y]) (λ_ s6=>∃m,m<n/\J m s6) XT s5) XT s4
      else ∃m,m<n/\J m s4) XT s3) XT s2) XT s1) XT s)
  (n) (_:J n s),Ÿ (ê P w) A (.compLoop E 0 i3 av ce) R s
 new:∀{X} {s} {Q},Q (.ref s.heap.objs.size) { s with heap:=s.heap.push o0 }->ë (ê P w) A new Q X s
 start:∀{R} {s} {it acc} {env},Ÿ (ê P w) A (.compLoop E 0 it acc env) R s->ë (ê P w) A (pyIter it) (λvW s'=>Ÿ (ê P w) A (.compLoop E 0 vW acc env) R s') (notedBy (ê P w) A env λx s'=>R (.error x) s') s->Ÿ (ê P w) A (.compStart E 0 it acc env) R s
 init:∀{h},h.get? D=ϊ o0->Ac D [] h
 obj:∀{acc} {h},Ac D acc h->∃o,h.get? D=ϊ o/\∀v,o.data≠.cell v
 iX:∀{acc} {h h'},Ac D acc h->(∀o,h.get? D=ϊ o->h'.get? D=ϊ o)->Ac D acc h'
 Px:∀{acc} {h} {H},mH acc->Ac D acc h->gm P w (upd H D (mk D acc)) h D (mk D acc)
 add:∀{E} {s} {D} {acc} {v} {y} {Q},Ac D acc s.heap->RelV v y->mH acc->mH (acc++[v])->(∀h' tk,Ĩ D s.heap h'->Ac D (acc++[v]) h'->Q .none { s with heap:=h',toks:=tk })->ë (ê P w) A (call (.builtin ap) [.ref D,y]) Q E s
section
variable {X:Cx}
def VO {N} {nt:Nat} {cap} {wi:TI} {g:TG} {tf:TT} {te:TE} {p1:Pos} {use} {R} {π} {s:Ý} {σ:St} {H:Hp} {Q:VK} {new} {ap:String} {mk} {mH} (B:QJ X.prog X.w E el tg src tests new ap mk mH) (hc:X.calm=ό) (S:xl X sc N nt cap) (jt:qw g nt) (hi:PI X tg src wi)
  (xy:Cx->ã->Ý->Prop) (hY:∀cl (C:þ) (s:Ý) (H:Hp) ex pn,PG ((gw X N sc cl C s H ex pn).ie (xy (gw X N sc cl C s H ex pn))) tg g/\PF ((gw X N sc cl C s H ex pn).ie (xy (gw X N sc cl C s H ex pn))) tests tf/\PE ((gw X N sc cl C s H ex pn).ie (xy (gw X N sc cl C s H ex pn))) el te)
  (hs:∀x,Ă src X.env x=pure x) (I:Inv X π σ H s) (h:wi σ H λJ H1=>Sr mk mH J nt (pW cap σ) g tf te H1 Q)
  (hxe:∀cl (C:þ) (s2:Ý) (H2:Hp) fp (D:þ) (x:ã) (s':Ý),Inv X π σ H2 s2->s2.heap.objs.size<=C->(∀b∈fp,gn X π H2 b)->xy (gw X N sc cl C s2 H2 fp (X.pn++π)) x s'->notedBy (ê X.prog X.w) X.A (compEnvC sc cl C X.env) (λx iQ=>compPost (ê X.prog X.w) X.A X.xe use R (.ref D) C (.error x) iQ) x s')
  (GZ:∀(s':Ý) (H1:Hp) (D C:þ) m,(∀h',Ĩ C s'.heap h'->Inv X π σ H1 { s' with heap:=h' })->s'.heap.Ns C m->H1 C=ϋ->C≠X.env.locals->C∉X.fs->X.ef.heap.objs.size<=C->(∀x c,X.env.cells.lookup x=ϊ c->c≠C)->(∀p∈X.pn++π,p.1≠C)->Q (.ref D) H1->compPost (ê X.prog X.w) X.A X.xe use R (.ref D) C (.ok .next) s') :
  ë (ê X.prog X.w) X.A (comprehension E sc X.env p1 new ύ (Ħ src X.env) use) R X.xe s:=by
 let(cl,FP,dX):=O8 λn f=>I.ok.has n (S.frees _ f rfl).2;refine wpAny_comprehension_free B.clauses hs FP S.kind S.names (aQ (hi π s σ H _ I h) λxv s1 h1=>aQ h1 λi3 s2 h2=>?_);obtain⟨it,fp,tn,J,H2,e,O,T,hU,f2,W,⟨m0,w0⟩,turn⟩:=h2;subst e;refine B.new (Uk λd h3 l oS sC=>?_);generalize hD:s2.heap.objs.size=D at l oS sC |-;generalize hG:s2.heap.push B.o0=G at l oS sC |-;generalize Ik:G.objs.size=C at l oS sC |-;have hC:C=D+1:=by rw[<- Ik,<- hG,ý,hD]
 have sL:D≠C:=by omega
 have k:=ahi hD;have t:s2.heap.objs.size<=C:=by omega
 have old:=λb o e=>sC b o (hG ▸ Á _ e);have vc:=B.init (sC _ _ (hG ▸ hD ▸ Ì _ B.live));have hV:∀b∈fp,b<s2.heap.objs.size:=λb U=>by
  let(o,e,_):=T.obj _ _ hU b U;exact Í e
 have l:=l λx c e=>by
  let(v,o,ho,_):=O.cell x c ((dX x c).mp e).2;exact È (Í ho) t
 have IB:=O.ab6 (t':=s2.toks) S dX l f2 hV old t #[_,oS];have Il:D∉dU X.stack:=λz=>by
  rcases Ô.mp (O.m8 D z) with e|e
  .exact absurd (È O.lt k) (by rw[e];exact ò _)
  .exact O.Br k e
 have ph:D∉fp:=λz=>absurd (È (hV D z) k) (ò _);have Fd:∀x c,d.lookup x=ϊ c->c≠D:=λx c e z=>by
  rcases l.old x c e with ⟨q,_,_⟩|e
  .rw[z] at q
   exact absurd q (by rw[hC];exact Nat.not_lt.mpr (ŭ D))
  .let(v,o,ho,_):=O.cell x c ((dX x c).mp e).2
   exact absurd (È (Í ho) (by rw[z];exact k)) (ò _)
 have FQ:∀p∈X.pn++π,p.1≠D:=λp L z=>absurd (È (Í (O.pin p L).1) (by rw[z];exact k)) (ò _);have IB:=IB.ie (xy (gw X N sc d C s2 H2 fp (X.pn++π)));have SK:∀x s',((gw X N sc d C s2 H2 fp (X.pn++π)).ie _).xe x s'->notedBy _ X.A _ (λx iQ=>compPost _ X.A X.xe use R (.ref D) C (.error x) iQ) x s':=λx s' z=>hxe d C s2 H2 fp D x s' O t f2 z;generalize M:(gw X N sc d C s2 H2 fp _).ie _=Y at IB SK;have pk:∀{P:Hp} {pl},(∀b∈fp,P b=ϋ)->(∀p∈pl,p.1∉fp)->∀b∈fp,gn Y pl P b:=λ{P pl} f L b U=>by
  subst M;let(_,f1,sI,f3,f4,f5):=f2 b U;refine#[f b U,ß (È (hV b U) t),λz=>?_,.inl U,λx c e=>(l.old x c e).elim (λq z=>ś (È (hV b U) (Ø t (Nat.le_of_lt q.1))) z) λe=>f4 x c ((dX x c).mp e).2,λp yV=>?_]
  .rcases Ô.mp (O.m8 b z) with e|e
   .exact f1 e
   .exact sI e
  .rcases Ā.mp yV with z|z
   .exact f5 p z
   .exact λe=>L p z (e ▸ U)
 have Im:=M ▸ (hY _ _ _ _ _ _).1;have Io:=M ▸ (hY _ _ _ _ _ _).2.1;have hE1:=M ▸ (hY _ _ _ _ _ _).2.2;have eP:Y.prog=X.prog:=M ▸ rfl;have eW:Y.w=X.w:=M ▸ rfl;have eA:Y.A=X.A:=M ▸ rfl;have eK:Y.K=X.K:=M ▸ rfl;have eE:Y.env=compEnvC sc d C X.env:=M ▸ rfl;have eC:Y.calm=ό:=M ▸ hc;have eS:Y.ef.heap.objs.size<=D:=M ▸ k;have eF:D∉Y.fs:=M ▸ Il;have eL:D≠Y.env.locals:=M ▸ sL;have eCl:∀x c,Y.env.cells.lookup x=ϊ c->c≠D:=M ▸ Fd;have eN:∀p∈Y.pn,p.1≠D:=M ▸ FQ;have fin:∀(s':Ý) (j:St) (P:Hp) (Z:List V),Inv Y [] j P s'->B.Ac D Z s'.heap->P D=ϋ->mH Z->(∀D,P D=ϋ->Q (.ref D) (upd P D (mk D Z))) ->
   compPost (ê X.prog X.w) X.A X.xe use R (.ref D) C (.ok .next) s':=by
  intro s' j P Z F pl f hz q;subst M;let(m,hm,_):=id F.loc;refine GZ s' _ D C m (λh' sb=>?_) hm ?_ (λz=>absurd (È O.lt t) (by rw[z];exact ò _)) (O.Br t) (Ø O.sz t) (λx c e z=>?_) (λp L z=>absurd (È (Í (O.pin p L).1) (by rw[z];exact t)) (ò _)) (q D f)
  .have G8:=F.aK.but F.free sb
   have u:=(F.base.but t sb).adopt (o:=mk D Z) k f;refine O.xx (ch:=fp) F.os u (G8.adopt f (B.Px hz (B.iX pl λo e=>(sb.2 D sL).trans e))) F.bare (λb U=>?_);let(_,f1,_,f3,f4,f5):=f2 b U;exact#[f3,f1,f4,f5]
  .rw[bB (Ĥ sL)]
   exact F.free
  .let(v,o,i4,_):=O.cell x c e
   exact absurd (È (Í i4) (by rw[z];exact t)) (ò _)
 have loop:Ÿ (ê X.prog X.w) X.A (.compLoop E 0 (.ref it) (.ref D) (compEnvC sc d C X.env)) (compPost (ê X.prog X.w) X.A X.xe use R (.ref D) C)
   { s2 with heap:=h3 }:=by
  refine B.turns SK (λn s'=>∃i Z o P,Inv Y [] (o++pW cap σ) P s'/\o.length=nt/\tn i s'.heap/\(∀b∈fp,P b=ϋ)/\B.Ac D Z s'.heap/\P D=ϋ/\W i n Z P) ?_ m0
   #[0,[],_,H2,IB,by simp,T.keep _ _ _ hU λb _ o e=>old b o e,λb U=>(f2 b U).1,vc,O.aK.fresh k,w0]
  intro n s3 qz;let(i,Z,o3,H3,I3,SM,kA,qr,SN,nD3,w3):=qz;generalize hτ:o3++pW cap σ=j at I3;let(a,ho,ad2):=B.obj SN;have yW:Inv Y [(D,a)] j H3 s3:=I3.qY λp L=>by
   have e:=by simpa using L
   subst e;exact#[ho,nD3,eL,eF,ad2]
  have sJ:∀p∈[(D,a)],p.1∉fp:=λp L=>by
   have e:=by simpa using L
   subst e;exact ph
  have vV:∀{pl} {gk:St} {P:Hp} {s':Ý},Inv Y ([(D,a)]++pl) gk P s'->B.Ac D Z s'.heap/\P D=ϋ:=λF=>by
   have q:=F.pin (D,a) (Ò _ (ó _ ∅));exact#[B.iX SN λo e=>by rw[ho] at e;cases e;exact q.1,q.2.1]
  rcases turn i n Z H3 w3 with ⟨stop,hz,q⟩ | ⟨go,hz,N',hN,step⟩
  .have hd:=T.done Y eP eW eK eC i [(D,a)] s3 j H3 Y.xe yW (pk qr sJ) kA stop
   rw[eA] at hd;refine aQ hd λr s4 h4=>?_;let(hr,I4):=h4;subst hr;let(Ii,n4):=vV (pl:=[]) (by simpa using I4);exact fin s4 j H3 Z (Inv.oh I4) Ii n4 hz q
  .have hd:=T.item Y eP eW eK eC i [(D,a)] s3 j H3 Y.xe yW (pk qr sJ) kA go
   rw[eA] at hd;refine aQ hd λr s4 h4=>?_;let(u,hr,h4):=h4;subst hr;refine aQ h4 λ_ s5 h5=>?_;let(x,H5,I5,r5,y5,mG,yA):=h5;have yB:=I5.pinned (pk yA sJ) (T.obj _ _ mG);have q5:=Im _ s5 j H5 x u _ yB r5 (hτ ▸ jt x o3 _ H5 _ SM (step o3 x H5 SM y5));rw[eP,eW,eA,eE] at q5;refine aQ q5 λ_ s6 h6=>?_;obtain⟨yX,H6,I6,⟨o6,yY,BA⟩,q6⟩:=h6;have q7:=Io _ s6 yX H6 _ I6 q6;rw[eP,eW,eA,eE] at q7;refine aQ q7 λb s7 h7=>?_;let(H7,I7,q7):=h7;have yh:∀{gk:St} {P:Hp} {s':Ý},Inv Y ([(D,a)]++uw fp s5.heap) gk P s'->tn (i+1) s'.heap/\∀b∈fp,P b=ϋ:=λF=>by
    refine#[T.keep _ _ _ mG λb U o e=>(F.pin (b,o) (Ò _ (Ò _ (tF U e)))).1,λb U=>?_];let(o,e,_):=T.obj _ _ mG b U;exact(F.pin (b,o) (Ò _ (Ò _ (tF U e)))).2.1
   cases b with
   |false =>
    let(m',hm,w7):=hN _ _ q7;let(B7,n7):=vV I7;let(t7,f7):=yh I7;exact#[m',hm,i+1,Z,o6,H7,BA ▸ I7.qY (λp L=>by simp at L),yY,t7,f7,B7,n7,w7]
   |true =>
    have q8:=hE1 _ s7 yX H7 _ I7 q7;rw[eP,eW,eA,eE] at q8;refine aQ q8 λy s8 h8=>?_;let(v,H8,I8,r8,q9):=h8;let(m',hm,w8):=hN _ _ q9;let(Ic,n8):=vV I8;let(t8,f8):=yh I8;have BZ:mH (Z++[v]):=by
     rcases turn (i+1) m' _ H8 w8 with q|q
     .exact q.2.1
     .exact q.2.1
    refine B.add Ic r8 hz BZ λh9 tk9 B6 Ie=>?_;have Ig:Inv Y [] yX H8 s8:=I8.qY (λp L=>by simp at L)
    have I9:Inv Y [] yX H8 { s8 with heap:=h9,toks:=tk9 }:=Ig.turned (it:=D) (λb o U e=>(B6.2 b U).trans e) n8 eL (.inr eS) eCl (λp L=>eN p (by simpa using L))
    exact#[m',hm,i+1,Z++[v],o6,H8,BA ▸ I9,yY,T.keep _ _ _ t8 λb U o e=>(B6.2 b (λz=>ph (z ▸ U))).trans e,f8,Ie,n8,w8]
 exact B.start loop (T.self _ _ _ _ _ (T.keep _ _ _ hU λb _ o e=>old b o e) loop)
def afE {el tg src} {tests} {sc} {ps}:QJ P w (.ListComp el [#[tg,src,tests,0]] sc ps) el tg src tests (newList []) "list.append" (λ_ acc=>.lst acc) (λacc=>acc.length<=Õ) where
 o0:={ cls:=.type _,dict:=ϋ,data:=.seq _ }
 live:=rfl
 Ac:=λD acc h=>∃Z,h.PlainList D Z/\Vals acc Z.toList
 clauses:=rfl
 turns:=U3
 new:=λh=>ď h
 start:=codeAny_compStart_list
 init:=λe=>#[_,#[_,e],.nil]
 obj:=λ⟨_,⟨_,e⟩,_⟩=>#[_,e,λ_ z=>by cases z]
 iX:=λ⟨Z,⟨n,e⟩,r⟩ k=>#[Z,#[n,k _ e],r]
 Px:=λX ⟨Z,⟨n,e⟩,r⟩=>#[X,_,n,r,by simpa using e]
 add:=λ{A E s D acc v y Q} ⟨Z,W,r⟩ V X _ q=>wpAny_list_append_plain (hsz:=by have e:=r.length;erw[û] at e;omega) W λU Y T=>q U _ T #[_,Y,by rw[agM];exact Vals.append r (.cons V .nil)]
def Yq (hc:X.calm=ό) (S:xl X sc N nt cap) (jt:qw g nt) (hi:PI X tg src wi)
 (hY:∀cl C s H ex pn,PG (gw X N sc cl C s H ex pn) tg g/\PF (gw X N sc cl C s H ex pn) tests tf/\PE (gw X N sc cl C s H ex pn) el te)
 (hs:∀x,Ă src X.env x=pure x:=by intro _;rfl):PE X (.ListComp el [#[tg,src,tests,0]] sc ps) (xB wi nt cap g tf te):=by
 intro T s σ H Q I h;exact VO afE hc S jt hi (λ_ _ _=>False) hY hs I h (λ_ _ _ _ _ _ _ _ _ _ _ z=>z.elim) λR Z D C m Y W _ _ _ _ _ _ q=>#[m,W,λV U=>#[.ref D,Z,Y V U,rfl,q]]
end
noncomputable def Fh (sc:ahl) (on:List (Str×NameKind)) (oN N:List Str) (nt:Nat) (cap:List Nat):Bool :=
 ώ (sc.kind=.function)&&sc.names.all (λx=>ώ (x.2=.local->sc.names.lookup x.1=ϊ .local))&&sc.names.all (λx=>ώ (x.2=.cell->sc.names.lookup x.1=ϊ .cell)) &&
 sc.names.all (λx=>ώ (x.2=.free->sc.names.lookup x.1=ϊ .free/\(on.lookup x.1=ϊ .cell\/on.lookup x.1=ϊ .free)))&&ώ (N.length=nt+cap.length) &&
 (ä cap.length).all (λk=>match cap[k]? with
  |some j=>match oN[j]? with
   |some x=>ώ (N[nt+k]?=ϊ x)&&ώ ((x,NameKind.free)∈sc.names)
   |none=>ύ
  |none=>ό)
def FR (h:Fh sc X.env.scope.names X.N N nt cap=ό):xl X sc N nt cap:=by
 delta Fh at h;erw[Â,Þ,Å] at h;obtain⟨⟨⟨⟨⟨Z,Y⟩,W⟩,V⟩,U⟩,T⟩:=h;refine#[Z,Y,W,λx S e=>V x S e,U,λk j e=>?_];have R:=(Ç.mp e).1;have:=T k (î.mpr R);rw[e] at this;dsimp only at this
 cases ex:X.N[j]? with
 |none=>rw[ex] at this;cases this
 |some x =>
  rw[ex] at this;erw[Â,Å] at this;exact#[x,rfl,this.1,this.2]
end L2
namespace DI
open PySem L2
section
variable {X:Cx} {Ξ:Wd->bw->Prop} {e a b c tg el src:ŕ} {es rest tests:List ŕ} {pos:Pos} {f g h:ahv D} {fa:ahv (List D)} {ft gt:ahv Bool}
def EA (hc:X.calm=ό) (S:xl X sc N nt cap) (T:Tg X.K g0 gd nt) (hi:PI X tg src (fU X.K Ξ it))
 (hY:∀cl C s H ex pn,PG (gw X N sc cl C s H ex pn) tg g0/\PF (gw X N sc cl C s H ex pn) tests (tT X.K cU ft)/\PE (gw X N sc cl C s H ex pn) el (tE X.K cU f))
 (hs:∀x,Ă src X.env x=pure x:=by intro _;rfl):PE X (.ListComp el [#[tg,src,tests,0]] sc ps) (tE X.K Ξ (ck nt cap it gd ft f)) :=
 cE (Yq hc S T.pf hi hY hs) fun σ H Q h=>VL T.imp (λR Z i h=>Yj R Z i h) (Yg σ H Q h)
end
end DI
namespace L2
open PySem PySem.Spec PyProof.Rows
section
variable {X:Cx} {tg:ŕ}
def Oh (h:-1<=i):Ŏ i (-1) (-1)=i+1:=by
 delta Ŏ;simp;omega
def ad3 (ta:TA):TI:=fun σ H R=>ta σ H λZ Y=>∃i,Z=[.int i,.int (-1),.int (-1)]/\-1<=i/\i<1000000/\R (Bw (i+1).toNat) Y
def WU {p pos} (hg:Gl X "range") (hm:X.mg "range"=ϋ) (ha:PA X [a,b,c] ta) (hs:É [a,b,c] X.env=[(ύ,Ħ a X.env),(ύ,Ħ b X.env),(ύ,Ħ c X.env)]:=by rfl) (cS:É [b,c] X.env=[(ύ,Ħ b X.env),(ύ,Ħ c X.env)]:=by rfl) :
  PI X tg (.Call (.Name "range" p) [a,b,c] [] pos) (ad3 ta):=by
 intro T s σ H R I h;refine Call_ (pP I hg hm boot_range (ĩ (aQ (ha pos T s σ H _ I h) λJ Y O=>?_) (by rw[hs,cS]) (by rw[cS];rfl)));let(G,S,N,M,W):=O;let(i,e,W,F,q):=W;subst e
 cases M with
 |cons r Z =>
  cases Z with
  |cons L Z =>
   cases Z with
   |cons V Z =>
    cases Z;let(t,rfl):=r;let(Q,rfl):=L;let(P,rfl):=V;refine call_range_3 (by decide) ?_ (.inl (PyProof.noPylong_small ⋯));refine wpAny_pyIter_range (IsRange.new ..) ?_ ?_
    .delta Builtin.Range.small
     rw[Oh W];simp only[č,Â,θ,Å,beq_iff_eq,show ¬ (-1) > 0 by decide,ô];omega
    .have U:Inv X T σ S { Y with heap:=Y.heap.push { cls:=.type "range",data:=.fields #v[.int i t,.int (-1) Q,.int (-1) P] },toks:=Y.toks }:=N.kept λb o e=>Á _ e
     rw[Oh W];refine#[_,_,_,_,S,rfl,
      U.kept λb o e=>Á _ e,MX _ _,?_,λb K=>?_,q]
     .have e1:(((i+1).toNat))-1+((0:Nat))*(-1)=i:=by omega
      have e2:(((i+1).toNat))-((0:Nat))=i+1:=by omega
      rw[e1,e2];exact Ì _ rfl
     .have e:b=(Y.heap.push { cls:=.type "range",data:=.fields #v[.int i t,.int (-1) Q,.int (-1) P] }).objs.size:=by simpa using K
      subst e;exact U.rS (ahz _) (U.aK.fresh (ahz _))
end
end L2
namespace DI
open PySem L2
section
variable {X:Cx} {Ξ:Wd->bw->Prop} {a b c tg:ŕ} {pos:Pos} {fa:ahv (List D)}
def IC (fa:ahv (List D)):ahv (List D):=λenv s=>ai (fa env s) λZ s=>match Z with
 | [.int i,.int (-1),.int (-1)]=>if (ώ (-1<=i)&&ώ (i<1000000))=ό then ok (rL (i+1).toNat) s else ϋ
 |_=>ϋ
def ab7 {p} (hg:Gl X "range") (hm:X.mg "range"=ϋ) (ha:PA X [a,b,c] (tA X.K Ξ fa)) (hs:É [a,b,c] X.env=[(ύ,Ħ a X.env),(ύ,Ħ b X.env),(ύ,Ħ c X.env)]:=by rfl) (cS:É [b,c] X.env=[(ύ,Ħ b X.env),(ύ,Ħ c X.env)]:=by rfl):PI X tg (.Call (.Name "range" p) [a,b,c] [] pos) (fU X.K Ξ (IC fa)) :=
 rg (WU hg hm ha hs cS) fun σ H R W=>by
  let(w,env,V,S,U,h):=W;subst V;refine#[w,env,rfl,S,U,(Out.ai h).mono λJ I G T Z F Q=>?_];split at Z
  .rename_i i
   split at Z
   .rename_i Y
    erw[Â,Å] at Y;let(v,r,rfl,P,v2,E,rfl,O,D,C,rfl,N,M):=Q;have e1:=P;have e2:=O;have e3:=N;have L:=M;subst e1 e2 e3 L;exact#[i,rfl,Y.1,Y.2,aI T Z _ Pu]
   .exact Z.elim
  .exact Z.elim
end
end DI
namespace L2
open PySem PySem.Spec PyProof.Rows
end L2
namespace DI
open PySem L2
section
variable {X:Cx} {Ξ:Wd->bw->Prop} {a:ŕ} {p pos:Pos} {f g:ahv D} {fa:ahv (List D)}
def yj (d i:D) (s:ag):Res D:=match d,i with
 | .aj k,.int n=>match s[k]? with
  |some (.lst Z)=>match fz Z.length n with
   |some j=>match Z[j]? with
    |some x=>if ώ (Z.length<Õ)=ό then ok x (s.set k (.lst (Z.eraseIdx j))) else ϋ
    |none=>ϋ
   |none=>ϋ
  |_=>ϋ
 |_,_=>ϋ
def Hd (f g:ahv D):ahv D:=λenv s=>ai (f env s) λd s=>if jJ d s=ό then ai (g env s) λx s=>yj d x s else ϋ
theorem aA.erase:∀{ds} {xs} j,aA K w ds xs->aA K w (ds.eraseIdx j) (xs.eraseIdx j)
 | [],xs,j,h=>by
  have e:=h;subst e;exact h
 |d::ds,xs,0,h=>by
  let(v,r,rfl,_,Z):=h;exact Z
 |d::ds,xs,j+1,h=>by
  let(v,r,rfl,Y,Z):=h;exact#[v,_,rfl,Y,aA.erase j Z]
def ab8 (S:aW K w) (dv:DV K w d v) (dn:DV K w i n) (h:Out K Ξ w (yj d i w.aN) q):∃a xs m j y,v=.ref a/\n=.int m/\w.H a=ϊ (.lst xs)/\fz xs.length m=ϊ j/\xs[j]?=ϊ y/\xs.length<Õ/\∃w' x,w'.H=upd w.H a (.lst (xs.eraseIdx j))/\q w' x/\DV K w' x y:=by
 delta yj at h;split at h
 .rename_i k m
  split at h
  .rename_i X Y
   split at h
   .rename_i j V
    split at h
    .rename_i x U
     split at h
     .rename_i T
      let(a,e1,rfl):=dv;have e2:=dn;subst e2;let(xs,R,Z):=S.cell k a _ e1 Y;let(y,Q,P):=Z.get' j x U;have W:(Cell.lst X)≠.dead:=by intro z;cases z
      have le:=(Fw.put (o:=.lst (xs.eraseIdx j)) (c:=.lst (X.eraseIdx j)) S e1 Y W).le;refine#[a,xs,m,j,y,rfl,rfl,R,by rw[<- Z.length];exact V,Q,by rw[<- Z.length];exact á T,_,x,rfl,?_,le _ _ P];exact h _ le (S.vd e1 Y W #[_,cY,le.all (Z.erase j)]) rfl
     .exact h.elim
    .exact h.elim
   .exact h.elim
  .exact h.elim
 .exact h.elim
def ad4 {apos bh} (ho:PE X o (tE X.K Ξ f)) (ha:PE X a (tE X.K Ξ g))
  (iC:ĭ o "pop" X.env (Ħ o X.env)=Ħ o X.env:=by rfl)
  (kl:((Ġ bh (É [a] X.env)).all (λx=>!x.1)&&(ž bh (ŀ [] X.env)).all (λx=>x.1.isSome)
   && ώ (([a]).length+([]:List Ź).length+(if ([]:List Ź).isEmpty then 0 else 1)<30))=ό:=by rfl)
  (iD:(apos.endLine==bh.line)=ό:=by rfl) (hs:É [a] X.env=(ύ,Ħ a X.env)::É [] X.env:=by rfl) (ix:(Ġ bh (É [] X.env)).any (·.1)=ύ:=by rfl) :
  PE X (.Call (.Attribute o "pop" apos) [a] [] bh) (tE X.K Ξ (Hd f g)) :=
 cE (uJ œ PySem.F.slot_list_pop PySem.F.type_list_pop XX ho (jY ha kP hs) iC kl iD hs ix) fun σ H Q T=>by
  let(w,env,Z,S,W,h):=T;subst Z;refine#[w,env,rfl,S,W,(Out.ai h).mono λR d P V Y v U=>?_];split at Y
  .rename_i O
   let(k,p,q,N,rfl,rfl,e1,e2,e3,n):=Oc V U O;refine#[.inl #[rfl,N,bV.of e3],R,env,rfl,V,W.le P,(Out.ai Y).mono λl y M L J u I=>?_];let(G,E,m,j,z,D,rfl,C,B,A,i,e,x,Z,t,s):=ab8 L (M _ _ U) I J;let(r,c,b,s4):=En B;have hz:=ε;refine#[G,E,m,j,z,D,rfl,C,by omega,by omega,r,A,?_];rw[<- Z];exact t _ s
  .exact Y.elim
end
open HT PyProof.Rows
section
variable {X:Cx} {Ξ:Wd->bw->Prop}
def Mm (h:Vals xs us):∀{q:List Nat},(∀i∈q,i<us.length)->Vals (q.map λi=>xs.getD i .ax) (q.map λi=>us.getD i Value.none):=by
 intro q
 induction q with
 |nil=>intro _;exact .nil
 |cons i q ih =>
  intro Z;refine .cons ?_ (ih λj Y=>Z j (Ë _ Y));have hi:=Z i Ö;clear ih Z
  induction h generalizing i with
  |nil=>simp at hi
  |cons a _ ih =>
   cases i with
   |zero=>exact a
   |succ i=>simpa using ih i (by simpa using hi)
def Na {K} {w} {ds} {xs} (h:aA K w ds xs):∀{q:List Nat},(∀i∈q,i<ds.length)->aA K w (q.map λi=>ds.getD i .ax) (q.map λi=>xs.getD i .ax):=by
 intro q
 induction q with
 |nil=>intro _;exact rfl
 |cons i q ih =>
  intro Z;have hi:=Z i Ö;let(v,e,Y):=h.get' i _ (Ñ hi);refine#[_,_,rfl,?_,ih λj X=>Z j (Ë _ X)];have e1:ds.getD i .ax=ds[i]:=by simp[hi]
  have e2:xs.getD i .ax=v:=by simp[e]
  show DV K w (ds.getD i _) (xs.getD i _);rw[e1,e2];exact Y
def Nb {O} {ks} {f:α->D} {d} {q} (hp:ST.Pm ks.length q) (hu:ST.Up O (ST.ky (λi=>ks.getD i d) q) ks.length):q.toList.map (λi=>(ks.map f).getD i .ax)=(ST.dF O ks).map f:=by
 rw[<- ST.WR hp hu,Ĝ];refine ag9 λi hi=>?_;have:=î.mp (hp.2.mem_iff.mp hi);simp[this]
end
end DI
namespace TK
open PySem PySem.W PyProof.Rows DI
mutual
noncomputable def kd:D->Bool
 | .int _=>ό
 | .str x=>è x
 | .tup Z=>i9 Z
 |_=>ύ
noncomputable def i9:List D->Bool
 | []=>ό
 |k::Z=>kd k&&i9 Z
end
mutual
def KA (h:ū):D->ã->Prop
 | .int i,v=>∃t,v=.int i t
 | .str x,v=>∃t,v=.str x t
 | .tup Z,v=>∃a o ak n,v=.ref a/\h.get? a=ϊ o/\o.cls=.type "tuple"/\o.data=.seq ak n/\gy h Z ak.toList
 |_,_=>False
def gy (h:ū):List D->List ã->Prop
 | [],Z=>Z=[]
 |k::Y,Z=>∃v r,Z=v::r/\KA h k v/\gy h Y r
end
mutual
theorem rj:∀k,kd k=ό->lay k=ό
 | .int _,_=>rfl
 | .str _,h=>h
 | .tup Z,h=>by erw[kd] at h;exact Nc Z h
 | .ax,h=>by cases h
 | .bl _,h=>by cases h
 | .lst _,h=>by cases h
 | .cI _,h=>by cases h
 | .aj _,h=>by cases h
 | .ty _,h=>by cases h
 | .cT _,h=>by cases h
 | .exc ..,h=>by cases h
 | .dA ..,h=>by cases h
theorem Nc:∀ks,i9 ks=ό->cR ks=ό
 | [],_=>rfl
 |k::ks,h=>by
  erw[i9,cR,Â] at h |-;exact#[rj k h.1,Nc ks h.2]
end
mutual
theorem KA.reads:∀k v,KA h k v->∃as,Reads h v (py k) as
 | .int i,v,q=>by let(t,rfl):=q;exact#[_,.int i t]
 | .str x,v,q=>by let(t,rfl):=q;exact#[_,.str x t]
 | .tup Z,v,q=>by
  erw[KA] at q;let(a,o,ak,n,rfl,Y,X,W,r):=q;let(as,r):=gy.reads Z _ r;exact#[as,.tuple Y X W r]
 | .ax,_,q=>by cases q
 | .bl _,_,q=>by cases q
 | .lst _,_,q=>by cases q
 | .cI _,_,q=>by cases q
 | .aj _,_,q=>by cases q
 | .ty _,_,q=>by cases q
 | .cT _,_,q=>by cases q
 | .exc ..,_,q=>by cases q
 | .dA ..,_,q=>by cases q
theorem gy.reads:∀ks vs,gy h ks vs->∃as,ReadsAll h vs (iR ks) as
 | [],vs,q=>by cases q;exact#[_,.nil]
 |k::ks,vs,q=>by
  let(v,r,rfl,Z,Y):=q;let(as,Z):=KA.reads k v Z;let(bs,Y):=gy.reads ks r Y;exact#[_,.cons Z Y]
end
mutual
theorem KA.keep (hk:∀a o,h.get? a=ϊ o->o.cls=.type "tuple"->(∃ak n,o.data=.seq ak n)->h'.get? a=ϊ o):∀x v,KA h x v->KA h' x v
 | .int i,v,p=>p
 | .str i,v,p=>p
 | .tup X,v,p=>by
  let(a,o,ak,n,e,W,Z,Y,r):=p;exact#[a,o,ak,n,e,hk a o W Z #[ak,n,Y],Z,Y,gy.keep hk X _ r]
 | .ax,_,q=>by cases q
 | .bl _,_,q=>by cases q
 | .lst _,_,q=>by cases q
 | .cI _,_,q=>by cases q
 | .aj _,_,q=>by cases q
 | .ty _,_,q=>by cases q
 | .cT _,_,q=>by cases q
 | .exc ..,_,q=>by cases q
 | .dA ..,_,q=>by cases q
theorem gy.keep (hk:∀a o,h.get? a=ϊ o->o.cls=.type "tuple"->(∃ak n,o.data=.seq ak n)->h'.get? a=ϊ o):∀xs vs,gy h xs vs->gy h' xs vs
 | [],vs,p=>p
 |x::xs,vs,p=>by
  let(v,r,e,Z,Y):=p;exact#[v,r,e,KA.keep hk x v Z,gy.keep hk xs r Y]
end
section
variable {prog:ø} {w:Ĭ}
noncomputable instance aiY:DecidableEq (List D):=λa b=>Classical.propDecidable _
end
end TK
namespace TK
open PySem PySem.W PyProof.Rows DI L2
noncomputable def ak:D->List D
 | .tup Z=>Z
 |_=>[]
section
variable {X:Cx} {π:List (þ×Obj)} {σ:L2.St} {s:Ý} {w:Wd}
mutual
theorem ad5 (I:Inv X π σ w.H s):∀d v u,kd d=ό->DI.DV X.K w d v->RelV v u->KA s.heap d u
 | .int i,v,u,_,h,r=>by cases h;exact r
 | .str x,v,u,_,h,r=>by cases h;exact r
 | .tup Z,v,u,k,h,r=>by
  let(a,Y,rfl,W,V):=h;cases r;obtain⟨ak,U,⟨o,T,S,n,R⟩,_⟩:=I.tuple W;exact#[a,o,_,n,rfl,T,S,R,AK I Z Y _ k V (by simpa using U)]
 | .ax,_,_,k,_,_=>by cases k
 | .bl _,_,_,k,_,_=>by cases k
 | .lst _,_,_,k,_,_=>by cases k
 | .cI _,_,_,k,_,_=>by cases k
 | .aj _,_,_,k,_,_=>by cases k
 | .ty _,_,_,k,_,_=>by cases k
 | .cT _,_,_,k,_,_=>by cases k
 | .exc ..,_,_,k,_,_=>by cases k
 | .dA ..,_,_,k,_,_=>by cases k
theorem AK (I:Inv X π σ w.H s):∀ds vs us,i9 ds=ό->DI.aA X.K w ds vs->Vals vs us->gy s.heap ds us
 | [],vs,us,_,h,r=>by cases h;cases r;rfl
 |d::ds,vs,us,k,h,r=>by
  let(v,Z,rfl,Y,W):=h;erw[i9,Â] at k
  cases r with
  |cons r V=>exact#[_,_,rfl,ad5 I d v _ k.1 Y r,AK I ds Z _ k.2 W V]
end
end
end TK
namespace TK
open PySem PySem.W PyProof.Rows DI L2
open HT
section
variable {s:Ý}
def ad6 (kx:kd x=ό) (ky:kd y=ό) (hu:A.units+dep x<cLine) (hx:KA s.heap x vx) (hy:KA s.heap y vy):SeqAt.EqAt A s vx vy (beq x y):=by
 let(as,Z):=KA.reads _ _ hx;let(bs,Y):=KA.reads _ _ hy;let(X,V):=ox _ (rj _ kx);let(W,U):=ox _ (rj _ ky);have:=SeqAt.eqAt_reads _ _ A s vx vy as bs Z Y X W ⋯;rw[xg _ _ (rj _ kx) (rj _ ky)] at this;exact this
mutual
theorem ad7:∀A x y b vx vy,kE x y=ϊ b->kd x=ό->kd y=ό->A.units+5*dep x+5<cLine->KA s.heap x vx->KA s.heap y vy->Hc A s vx vy b
 |A,.int i,y,b,vx,vy,h,_,_,_,Z,Y=>by
  cases y with
  |int j =>
   cases h;let(t,rfl):=Z;let(X,rfl):=Y;exact λprog w E Q q=>MS A s i t j X prog w E Q q
  |_=>cases h
 |A,.str i,y,b,vx,vy,h,_,_,_,Z,Y=>by
  cases y with
  |str j =>
   cases h;let(t,rfl):=Z;let(X,rfl):=Y;exact λprog w E Q q=>(PyProof.Rows.lt_str q)
  |_=>cases h
 |A,.tup W,y,b,vx,vy,h,V,ky,U,Z,Y=>by
  cases y with
  |tup T =>
   let(a,o,ak,n,rfl,S,R,P,r):=Z;let(H,O,G,N,rfl,M,L,K,J):=Y;erw[dep] at U;exact λprog w E Q q=>Oe #[o,S,R,n,P] #[O,M,L,N,K] (λI F=>Fi I W T b _ _ h V ky ⋯ r J) ⋯ q
  |_=>cases h
 |_,.ax,_,_,_,_,_,k,_,_,_,_=>by cases k
 |_,.bl _,_,_,_,_,_,k,_,_,_,_=>by cases k
 |_,.lst _,_,_,_,_,_,k,_,_,_,_=>by cases k
 |_,.cI _,_,_,_,_,_,k,_,_,_,_=>by cases k
 |_,.aj _,_,_,_,_,_,k,_,_,_,_=>by cases k
 |_,.ty _,_,_,_,_,_,k,_,_,_,_=>by cases k
 |_,.cT _,_,_,_,_,_,k,_,_,_,_=>by cases k
 |_,.exc ..,_,_,_,_,_,k,_,_,_,_=>by cases k
 |_,.dA ..,_,_,_,_,_,k,_,_,_,_=>by cases k
theorem Fi:∀A xs ys b ps qs,kq xs ys=ϊ b->i9 xs=ό->i9 ys=ό->A.units+5*eZ xs+5<cLine->gy s.heap xs ps->gy s.heap ys qs->j5 A s ps qs b
 |A,[],ys,b,ps,qs,h,_,_,_,V,Z=>by
  cases V
  cases ys with
  |nil=>cases h;cases Z;exact .nn
  |cons y ys=>cases h;let(v,r,rfl,_):=Z;exact .nc ..
 |A,x::xs,ys,b,ps,qs,h,Y,ky,T,V,Z=>by
  let(v,r,rfl,U,S):=V
  cases ys with
  |nil=>cases h;cases Z;exact .cn ..
  |cons y ys =>
   let(u,R,rfl,g1,g2):=Z;erw[i9,Â] at Y ky;erw[eZ] at T;have Q:=Nat.le_max_left (dep x) (eZ xs);have X:=ad6 (A:=A) Y.1 ky.1 ⋯ U g1;erw[kq] at h;split at h
   .rename_i W
    rw[W] at X;exact .eq X (Fi A xs ys b _ _ h Y.2 ky.2 ⋯ S g2)
   .rename_i W
    rw[Ŵ] at W;rw[W] at X;exact .lt X (ad7 A x y b _ _ h Y.1 ky.1 ⋯ U g1)
end
end
section
variable {prog:ø} {w:Ĭ} {A:đ} {E:ã->Ý->Prop} {s:Ý}
def WV (h:j5 A s xs ys b):∀i,fin=ώ (xs.length<ys.length)->Q b s->KatLex prog w A t fin Q (xs.zip ys) (i+1) s:=by
 induction h with
 |nn=>intro i Z q;rw[Z];exact q
 |nc y ys=>intro i Z q;rw[Z];exact q
 |cn x xs=>intro i Z q;rw[Z];exact q
 |eq Y _ ih =>
  intro i Z q;exact kat_cons (Y prog w _ _ (kat_yes (ih _ (by rw[Z];simp) q)))
 |lt Y X =>
  intro i Z q;refine kat_cons (Y prog w _ _ (kat_no ?_));rw[show (t&&(i+1==0))=ύ by simp];exact kat_one _ _ (X prog w _ _ q)
def WW (hs:x=y->j5 A s xs ys b) (hf:fin=ώ (xs.length<ys.length)) (q:Q (if x=y then b else ώ (x.cps.toList<y.cps.toList)) s) :
  KatLex prog w A ό fin Q ((.str x t::xs).zip (.str y u::ys)) 0 s:=by
 refine kat_cons (wpAny_eqBool_str ?_);by_cases e:x=y
 .rw[Ù e] at q
  rw[Ã e];exact kat_yes (WV (hs e) 0 hf q)
 .rw[é e] at q
  rw[Î e];exact kat_no (oneLt_str q)
end
inductive Pg where
 |made (m d:Int) (h l:List Int)
 |cu (m d k:Int)
noncomputable def ti (l:List Int):D:=.tup (l.map D.int)
def Pg.d:Pg->D
 | .made m d h l=>.tup [.str "made",.int m,.int d,.tup [ti h,ti l]]
 | .cu m d k=>.tup [.str "mended",.int m,.int d,.int k]
theorem Py (h:ti a=ti b):a=b:=by
 injection h with h
 exact List.map_inj_right (λx y e=>by injection e) |>.mp h
def Pg.ad8 {p q:Pg} (h:p.d=q.d):p=q:=by
 cases p<;>cases q<;>erw[Pg.d,D.tup.injEq,Ō,D.int.injEq,and_true,reduceCtorEq,and_false,false_and] at h
 .let(_,Z,Y,X,W):=h
  rw[Z,Y,Py X,Py W]
 .let(_,Z,Y,X):=h
  rw[Z,Y,X]
noncomputable def encL:List Int->List Int
 | []=>[0]
 |x::Z=>1::x::encL Z
def Pg.enc:Pg->List Int
 | .made m d h l=>0::m::d::(encL h++encL l)
 | .cu m d k=>[1,m,d,k]
theorem DR:∀{a b u v},encL a++u=encL b++v->a=b/\u=v
 | [],[],u,v,h=>by simpa  using h
 | [],y::b,u,v,h=>by simp[encL] at h
 |x::a,[],u,v,h=>by simp[encL] at h
 |x::a,y::b,u,v,h=>by
  erw[encL,Č,Ō,true_and] at h;let(Z,Y):=DR h.2;exact#[by rw[h.1,Z],Y]
def Pg.aab {p q:Pg} (h:p.enc=q.enc):p=q:=by
 cases p<;>cases q<;>erw[Pg.enc,Ō,and_true,true_and,reduceCtorEq,false_and,Int.reduceEq] at h
 .let(Y,X,W):=h
  have Z:=DR (u:=encL _++[]) (v:=encL _++[]) (by simpa using W);have V:=DR Z.2;rw[Y,X,Z.1,V.1]
 .rw[h.1,h.2.1,h.2.2]
def cz:ST.Ord Pg where
 lt p q:=lexLt p.enc _
 za p:=ST.Ez _
 tr _ _ _ h g:=ST.ab4 _ _ _ h g
 zb _ _ h g:=Pg.aab (ST.aaa _ _ h g)
theorem zR:∀a b:List Int,iM (a.map D.int) (b.map D.int)=ώ (a=b)
 | [],[]=>rfl
 | [],_::_=>rfl
 |_::_,[]=>rfl
 |x::a,y::b=>by
  erw[Û,iM,beq,zR a b]
  by_cases e:x=y<;>simp[e]
theorem Mn:∀a b:List Int,kq (a.map D.int) (b.map D.int)=ϊ (lexLt a b)
 | [],[]=>rfl
 | [],_::_=>rfl
 |_::_,[]=>rfl
 |x::a,y::b=>by
  erw[Û,kq,beq,kE,mY,Mn a b]
  by_cases e:x=y<;>simp[e]
theorem EB:∀a b u v,lexLt (encL a++u) (encL b++v)=if a=b then lexLt u v else lexLt a b
 | [],[],u,v=>by simp[encL,mY]
 | [],y::b,u,v=>by rfl
 |x::a,[],u,v=>by rfl
 |x::a,y::b,u,v=>by
  erw[encL,Č,mY,ú,EB a b u v,Ō]
  by_cases e:x=y<;>simp[e]
def QK (p q):kE p.d q.d=ϊ (cz.lt p q):=by
 have U:¬ ((ģ "made")=ģ "mended"):=nofun
 have T:¬ ((ģ "mended")=ģ "made"):=nofun
 have S:ώ ((ģ "made").cps.toList<(ģ "mended").cps.toList)=ό:=nofun
 have R:ώ ((ģ "mended").cps.toList<(ģ "made").cps.toList)=ύ:=nofun
 show _=ϊ (lexLt _ q.enc)
 cases p with
 |made m d h l =>
  cases q with
  |made Z Y W X =>
   erw[Pg.d,Pg.enc,kE,kq,beq,iM,ti,mY,zR,Mn,EB,Ĵ,ú,Bool.and_true];have:=EB l X [] [];erw[ð] at this;rw[this]
   by_cases e1:m=Z<;>by_cases e2:d=Y<;>by_cases e3:h=W<;>by_cases Q:l=X<;>simp[e1,e2,e3,Q,ST.Ez]
  |cu Z Y V=>erw[Pg.d,Pg.enc,kE,kq,beq,mY,beq_iff_eq,U,S,ô];simp
 |cu m d k =>
  cases q with
  |made Z Y W X=>erw[Pg.d,Pg.enc,kE,kq,beq,mY,beq_iff_eq,T,R,ô];simp
  |cu Z Y V =>
   erw[Pg.d,Pg.enc,kE,kq,beq,mY,Ĵ,ú]
   by_cases e1:m=Z<;>by_cases e2:d=Y<;>by_cases e3:k=V<;>simp[e1,e2,e3,ST.Ez]
def aac (l:List Int):i9 (l.map D.int)=ό:=by
 induction l with
 |nil=>rfl
 |cons x l ih=>simpa only [Û,i9,kd,ĵ] using ih
def Yr (l:List Int):eZ (l.map D.int)=0:=by
 induction l with
 |nil=>rfl
 |cons x l ih=>erw[Û,eZ,dep,ih];rfl
def Bd (p:Pg):kd p.d=ό:=by
 have Z:è "made"=ό:=nofun
 have Y:è "mended"=ό:=nofun
 cases p<;>erw[Pg.d,kd,i9,ti,aac,Z,Y,Ğ]
def uy (p:Pg):dep p.d<=3:=by
 cases p<;>erw[Pg.d,dep,eZ,ti,Yr]<;>decide
def Ys (p:Pg):∃(x:Str) (r:List D),p.d=.tup (.str x::r):=by
 cases p<;>exact#[_,_,rfl]
def FT {p:Pg} {v} (q:KA h p.d v):∃(x:Str) (r:List D) (a:þ) (o:Obj) (ak:Array ã) (n:Nat) (t:Tok) (us:List ã),p.d=.tup (.str x::r)/\v=.ref a/\h.get? a=ϊ o/\o.cls=.type "tuple"/\o.data=.seq ak n/\ak.toList=.str x t::us/\gy h r us/\i9 r=ό:=by
 let(x,r,e):=Ys p;have k:=Bd p;rw[e] at q k;obtain⟨a,o,ak,n,e1,Z,Y,X,u,us,e2,⟨t,e3⟩,W⟩:=q;erw[kd,i9,Â] at k;exact#[x,r,a,o,ak,n,t,us,e,e1,Z,Y,X,by rw[e2,e3],W,k.2]
section
variable {prog:ø} {w:Ĭ} {A:đ} {E:ã->Ý->Prop} {s:Ý}
def WX:∀{ps:List Pg} {us},gy s.heap (ps.map Pg.d) us->∃fs,KatTups s.heap us fs/\(∀v∈fs,∃x t,v=Value.str x t)/\fs.length=us.length:=by
 intro ps
 induction ps with
 |nil=>intro us h;cases h;exact#[_,KatTups.nil,λv hv=>(õ hv).elim,rfl]
 |cons p ps ih =>
  intro us h;let(v,r,rfl,Z,Y):=h;let(fs,X,W,V):=ih Y;let(x,_,a,o,ak,n,t,R,_,rfl,U,T,S,hi,_):=FT Z;refine#[_,.cons U T S (by rw[<- ĺ,hi];rfl) X,λv hv=>?_,by simp[V]]
  rcases Ô.mp hv with rfl|hv
  .exact#[x,t,rfl]
  .exact W v hv
def kas_get:∀{ds} {us},gy h ds us->∀i,i<us.length->KA h (ds.getD i .ax) (us.getD i Value.none):=by
 intro ds
 induction ds with
 |nil=>intro us h i hi;cases h;cases hi
 |cons d ds ih =>
  intro us h i hi;let(v,r,rfl,Z,Y):=h
  cases i with
  |zero=>exact Z
  |succ i=>exact ih Y i (by simpa using hi)
def aad:∀{ds} {us},gy h ds us->ds.length=us.length:=by
 intro ds
 induction ds with
 |nil=>intro us h;cases h;rfl
 |cons d ds ih=>intro us h;let(v,r,rfl,Y,Z):=h;simp[ih Z]
def ab9 (hu:A.units+100<cLine) (h1:KA s.heap p.d v) (h2:KA s.heap q.d u) (hC:C (cz.lt p q) s):ë (ê prog w) A (keyLt' (tuples' ό) v u) C E s:=by
 let(x,r,a,o,ak,n,t,N,e,rfl,W,M,V,hi,U,k):=FT h1;let(Z,T,L,K,J,I,H,S,R,rfl,Q,G,P,X,Y,O):=FT h2;have dl:=uy p;rw[e] at dl;erw[dep,eZ] at dl;have lt:=QK p q;rw[e,R] at lt;erw[kE,kq] at lt;have be:beq (.str x) (.str Z)=ό↔x=Z:=by simp[beq]
 refine kat_lt W V Q P ?_;rw[hi,X];refine WW (b:=cz.lt p q) (λex=>?_) ?_ ?_
 .rw[Ù (be.mpr ex)] at lt
  exact Fi A r T _ _ _ lt k O (by have:=Nat.le_max_right (0) (eZ r);omega) U Y
 .simp[<- û,hi,X]
 .by_cases ex:x=Z
  .rw[Ù ex];exact hC
  .rw[é λz=>ex (be.mp z)] at lt
   rw[é ex,ahA lt];exact hC
def Nd {ps:List Pg} (t:gy s.heap (ps.map Pg.d) us) (h2:2<=us.length) (hu:A.units+100<cLine) (d):ST.BB prog w A cz (λi=>ps.getD i d) us s:=by
 let(fs,Z,Y,S):=WX t;have X:=aad t;rw[Æ] at X;have at_:=λi hi=>by
  have:=kas_get t i hi;rwa [show (ps.map _).getD i _=(ps.getD i d).d by simp[aho,à,Ñ (show i<ps.length by omega)]] at this
 refine kat_kind (T:=.type "str") Z ⋯ (λv W=>?_) (by decide) #[rfl,λi j C hi V U=>?_]
 .let(x,R,rfl):=Y v W
  exact .of_pure rfl
 .exact ab9 hu (at_ i hi) (at_ j V) U
end
end TK
namespace TK
open PySem PySem.W PyProof.Rows DI L2
open Classical in
def uQ (xs:List D):Option D:=if h:∃Z,xs=Z.map Pg.d then ϊ (.lst ((ST.dF cz (Classical.choose h)).map Pg.d)) else ϋ
def VP:∀{a b:List Pg},a.map Pg.d=b.map Pg.d->a=b:=λh=>List.map_inj_right (λ_ _ e=>Pg.ad8 e) |>.mp h
def zW (ps):uQ (ps.map Pg.d)=ϊ (.lst ((ST.dF cz ps).map Pg.d)):=by
 delta uQ;have h:∃Z:List Pg,ps.map _=Z.map Pg.d:=#[ps,rfl];rw[dif_pos h];have:=VP (Classical.choose_spec h);rw[<- this]
def xm (ds:List D) (s:ag):Res D:=match ds with
 | [d]=>match res d s with
  | .lst Z=>if Z.length<64 then bY (uQ Z) s else ϋ
  |_=>ϋ
 |_=>ϋ
section
variable {X:Cx} {Ξ:Wd->bw->Prop}
def Oi (ps:List Pg):i9 (ps.map Pg.d)=ό:=by
 induction ps with
 |nil=>rfl
 |cons p ps ih=>erw[Û,i9,Bd,ih,Ğ]
def aae (hr:bK k X.A):dB X (.builtin "sorted") (rC X.K Ξ xm):=by
 intro y s σ H M t Q I r qz;let(w,p,rfl,S,Y,h):=qz;delta xm at h;split at h
 .let(v,rfl,L):=lY Y
  split at h
  .rename_i n e1
   let(a,M,rfl,J,Y):=j3 S L e1;split at h
   .let(m,e2,h):=gG h
    let(u,rfl,G):=vals1 r;cases G;let(ak,W,F,E):=I.list (bV.of J);have T:=W.length.symm.trans Y.length.symm;have e3:=e2;delta uQ at e3;split at e3
    .rename_i Z
     let(V,D):=Z;subst D;rw[zW] at e2;cases e2;have P:V.length=ak.length:=by rw[T,Æ]
     refine ST.WQ (x:=λi=>V.getD i (.cu 0 0 0)) F.isList ⋯ (λC l R=>Nd (gy.keep (λb o U _ _=>R b o U) _ _ (AK I _ _ _ (Oi V) Y W)) C (by have:=hr.un;show X.A.units+1+1+100<cLine;omega) _) λq j b e Z O R U B=>?_;have N:∀i∈q.toList,i<(V.map _).length:=λi hi=>by rw[<- T];exact î.mp (Z.2.mem_iff.mp hi)
     rw[<- P] at Z O;have z:=I.aK.fresh U;refine#[.ref b,_,I.laid (o:=.lst _) R U #[?_,_,e,Mm W (by rw[T];exact N),B],rfl,?_]
     .rw[Æ,û,Z.1,P,W.length.symm];exact E
     .refine yd S ?_ h b z
      rw[<- Nb Z O];exact Na Y N
    .cases e3
   .exact h.elim
  .exact h.elim
 .exact h.elim
end
def FU (f:DI.ahv D):DI.ahv D:=λenv s=>ai (f env s) λx s=>ai (truth x s) λb s=>ok (.bl (!b)) s
def aca (ha:PE X a (tE X.K Ξ f)):PE X (.UnaryOp .Not a pos) (tE X.K Ξ (FU f)):=by
 intro Y s σ H Q I qz;let(w,env,rfl,S,U,h):=qz;refine UnaryOp_ (aQ (ha Y s σ _ (λv W=>∃b,rT X.K v W b/\Q (.bl (!b)) W) I #[w,env,rfl,S,U,(Out.ai h).mono λE x D V T v R=>?_]) λv P ⟨x,O,N,M,b,L,J⟩=>?_)
 .let(b,t,G):=rT.of V R (Out.ai T)
  exact#[b,t,aI V G _ rfl]
 .refine not_of (ė (E5 Y P σ O x v (λc Z=>Q (.bl (!c)) Z) N M #[b,L,J]) (λc C ⟨Z,F,q⟩=>#[.bl _,Z,F,rfl,q]) λ_ _ z=>z)
end TK
namespace ST
open PySem PySem.Spec PyProof.Rows
end ST
namespace DI
open PySem L2
end DI
namespace L2
open PySem PySem.Spec PyProof.Rows
end L2
namespace DI
open PySem L2
end DI
namespace L2
open PySem PySem.Spec PyProof.Rows
end L2
namespace DI
open PySem L2
end DI
namespace L2
open PySem PySem.Spec PyProof.Rows
end L2
namespace DI
open PySem L2
section
variable {X:Cx} {Ξ:Wd->bw->Prop} {pos:Pos}
def RO {ds} {vs} {Q:VK} (S:aW K w) (ao:aA K w ds vs) (h:Out K Ξ w (ok (D.aj w.aN.length) (w.aN++[.lst ds])) λw' d=>∀v,DV K w' d v->Q v w'.H):∀p,w.H p=ϋ->Q (.ref p) (upd w.H p (.lst vs)):=λp Z=>by
 have le:=(Fw.cell (o:=.lst vs) (c:=.lst ds) S Z).le;refine h _ le (S.FI Z #[_,cY,le.all ao]) rfl _ #[p,?_,rfl];show (w.ρ++[p])[w.aN.length]?=ϊ p;rw[<- S.len];simp
end
end DI
namespace L2
open PySem PySem.Spec PyProof.Rows
end L2
namespace DI
open PySem L2
end DI
namespace L2
open PySem PySem.Spec PyProof.Rows
open AutoSeq1 (wpAny_loadPart')
end L2
namespace DI
open PySem L2
end DI
namespace L2
open PySem PySem.Spec PyProof.Rows
section
variable {X:Cx} {pos:Pos}
def ad9 (i j k:Nat) (ta:TA):TS:=λD σ H=>ta σ H λZ Y=>∃v w u,Z=[v,w,u]/\D.nx (((σ.set i (ϊ v)).set j (ϊ w)).set k (ϊ u)) Y
def vals3 (r:Vals [v,w,u] us):∃a b c,us=[a,b,c]/\RelV v a/\RelV w b/\RelV u c:=by
 cases r with
 |cons p q =>
  let(b,c,rfl,Z,Y):=vals2 q;exact#[_,b,c,rfl,p,Z,Y]
def aaf {kt k2 jr} (hc:X.calm=ό) (hN:X.N.Nodup) (hi:X.N[i]?=ϊ x) (hj:X.N[j]?=ϊ y) (hk:X.N[k]?=ϊ z) (gg:i≠j) (sF:i≠k) (ID:j≠k)
 (hx:X.env.scope.names.lookup x=ϊ .local) (hy:X.env.scope.names.lookup y=ϊ .local) (hz:X.env.scope.names.lookup z=ϊ .local) (ha:PA X [a,b,c] ta)
 (hw:υ [.Tuple [.Name x px,.Name y py,.Name z pz] kt pt] (.Tuple [a,b,c] k2 jr) X.env=pure (ϊ [x,y,z]))
 (hs:ς [.Tuple [.Name x px,.Name y py,.Name z pz] kt pt] (.Tuple [a,b,c] k2 jr) pos.line X.env=pure ύ) :
  PS X (.Assign [.Tuple [.Name x px,.Name y py,.Name z pz] kt pt] (.Tuple [a,b,c] k2 jr) pos) (ad9 i j k ta):=by
 intro Y s σ H D I h;refine À (Ŭ ?_);refine À (Ä ?_);refine À (Tuple_ (aQ (ha _ Y s σ H _ I h) λB Z R=>?_));let(A,W,Q,P,v,w,u,e1,O):=R;subst e1;let(V,U,T,rfl,M,L,K):=vals3 P;refine ď ?_ (by show 3<=Õ;decide)
 have J:Inv X Y σ W { Z with heap:=Z.heap.push { cls:=.type "tuple",data:=.seq [V,U,T].toArray } }:=Q.kept λb o e=>Á _ e
 rw[hw];refine À (Ä ?_);refine À (ŵ (À (unpackItems_tuple (items:=#v[V,U,T]) (I.ok.hd hc) (IsTup.new _ _) λt G=>?_)));have F:=J.kept (t':=Z.toks) λb o e=>G b o (ß (Í e)) e;refine À (Ś (agP (pK F hN hk (.inl hz) K (λr E=>?_) (.inr hz))));refine Ś (agP (pK E hN hj (.inl hy) L (λq C=>?_) (.inr hy)));refine Ś (agP (pK C hN hi (.inl hx) M (λp S=>assignInOrder_nil (Ä ?_)) (.inr hx)));rw[List.set_comm _ _ (Ĥ ID),List.set_comm _ _ (Ĥ sF),List.set_comm _ _ (Ĥ gg)] at S;exact#[_,W,S,O]
end
end L2
namespace DI
open PySem L2
section
variable {X:Cx} {Ξ:Wd->bw->Prop} {a b c:ŕ} {pos:Pos} {fa:ahv (List D)}
def vm (i j k:Nat) (fa:ahv (List D)):ahv Fl:=λenv s=>ai (fa env s) λZ s=>match Z with
 | [x,y,z]=>ok (.nx (((env.set i (ϊ x)).set j (ϊ y)).set k (ϊ z))) s
 |_=>ϋ
def Fj (i j k) {x y z} {px py pz pt} {kt k2 jr} (hc:X.calm=ό) (hN:X.N.Nodup) (ha:PA X [a,b,c] (tA X.K Ξ fa)) (hi:X.N[i]?=ϊ x:=by rfl) (hj:X.N[j]?=ϊ y:=by rfl) (hk:X.N[k]?=ϊ z:=by rfl) (gg:i≠j:=by decide) (sF:i≠k:=by decide) (ID:j≠k:=by decide)
  (hx:X.env.scope.names.lookup x=ϊ .local:=by rfl) (hy:X.env.scope.names.lookup y=ϊ .local:=by rfl) (hz:X.env.scope.names.lookup z=ϊ .local:=by rfl)
  (hw:υ [.Tuple [.Name x px,.Name y py,.Name z pz] kt pt] (.Tuple [a,b,c] k2 jr) X.env=pure (ϊ [x,y,z]):=by rfl)
  (hs:ς [.Tuple [.Name x px,.Name y py,.Name z pz] kt pt] (.Tuple [a,b,c] k2 jr) pos.line X.env=pure ύ:=by rfl) :
  PS X (.Assign [.Tuple [.Name x px,.Name y py,.Name z pz] kt pt] (.Tuple [a,b,c] k2 jr) pos) (tS X.K Ξ (vm i j k fa)):=lX (aaf hc hN hi hj hk gg sF ID hx hy hz ha hw hs) λL σ H W=>by
 let(w,env,V,S,Y,h):=W;subst V;refine#[w,env,rfl,S,Y,(Out.ai h).mono λJ I U T Z G R=>?_];split at Z
 .let(v,r,rfl,Q,P):=R
  let(u,t,rfl,O,M):=AI P;exact#[v,u,t,rfl,aI T Z _ ((((Y.le U).set Q i).set O j).set M k)]
 .exact Z.elim
end
def tw:List D->ag->Res D:=aJ 2 2 (aG (x8 (eB vi (af (ck 1 [1] (cB (aa 0)) (gN 0) cL (e2 cy (aa 0) (aa 1))) ah))))
def qR:List D->ag->Res D:=aJ 1 3 (ar (aV (ff (eQ (cD (eB nF (af (aa 0) (af (eC (.ty "tuple")) ah))))) (aH (e2 cp (eB fk (af (aa 0) ah)) (eC (.int 2))))) (aG (eC (.bl ύ))) bE) (ar (aT (aa 0) (gT [(gN 1),(gN 2)])) (aG (dj (aC wj (af (aa 1) ah)) (dj (aC wj (af (aa 2) ah)) (aC tw (af (aa 1) (af (aa 2) ah))))))))
def tH:List D->ag->Res D:=aJ 1 1 (aG (aC tG (af (aa 0) (af (eC (.int (4))) ah))))
def tW:List D->ag->Res D:=aJ 1 1 (aG (aC tG (af (aa 0) (af (eC (.int (31))) ah))))
def wy:List D->ag->Res D:=aJ 1 5 (ar (aV (ff (eQ (cD (eB nF (af (aa 0) (af (eC (.ty "tuple")) ah))))) (aH (e2 cp (eB fk (af (aa 0) ah)) (eC (.int 4))))) (aG (eC (.bl ύ))) bE) (ar (aT (aa 0) (gT [(gN 1),(gN 2),(gN 3),(gN 4)])) (ar (aV (ff (eQ (cD (aC tH (af (aa 2) ah)))) (eQ (cD (aC tW (af (aa 3) ah))))) (aG (eC (.bl ύ))) bE) (ar (aV (aH (e2 aX (aa 1) (eC (.str "made")))) (aG (aC qR (af (aa 4) ah))) bE) (aG (dj (e2 aX (aa 1) (eC (.str "mended"))) (aC tK (af (aa 4) ah))))))))
def zN:List D->ag->Res D:=aJ 1 1 (aG (dj (eB nF (af (aa 0) (af (eC (.ty "tuple")) ah))) (dj (e2 rZ (eB fk (af (aa 0) ah)) (eC (.int (24)))) (dj (eB nC (af (ck 1 [] (cB (aa 0)) (gN 0) cL (aC wy (af (aa 0) ah))) ah)) (aC qO (af (aa 0) ah))))))
def mW:List D->ag->Res D:=aJ 4 4 (aG (ck 1 [1,2,3] (cB (aa 0)) (gN 0) (fj (aH (e2 aX (e2 au (aa 0) (eC (.int 0))) (eC (.str "made")))) (fj (aH (e2 aX (e2 au (aa 0) (eC (.int 1))) (aa 1))) (aH (e2 cy (aa 2) (e2 au (e2 au (aa 0) (eC (.int 3))) (aa 3)))))) (e2 au (aa 0) (eC (.int 2)))))
def tm:List D->ag->Res D:=aJ 3 3 (aG (ck 1 [1,2] (cB (aa 0)) (gN 0) (fj (aH (e2 aX (e2 au (aa 0) (eC (.int 0))) (eC (.str "mended")))) (fj (aH (e2 aX (e2 au (aa 0) (eC (.int 1))) (aa 1))) (aH (e2 aX (e2 au (aa 0) (eC (.int 3))) (aa 2))))) (e2 au (aa 0) (eC (.int 2)))))
def zu:List D->ag->Res D:=aJ 3 3 (aG (eB vi (af (ck 1 [1,2] (cB (aa 0)) (gN 0) cL (vO jo rZ (aa 1) (aa 0) (aa 2))) ah)))
def wz:List D->ag->Res D:=aJ 3 5 (ar (aT (aC mW (af (aa 0) (af (aa 1) (af (aa 2) (af (eC (.int (1))) ah))))) (gN 3)) (ar (aT (aC tm (af (aa 0) (af (aa 1) (af (aa 2) ah)))) (gN 4)) (aG (Fe 2 [3,4] (cB (e1 wD (aC mW (af (aa 0) (af (aa 1) (af (aa 2) (af (eC (.int (0))) ah))))))) (gN 0) cL (B4 (af (aa 0) (af (eC (.int (31))) ah))) (gN 1) (fj (ff (aH (e2 cy (aa 1) (aa 2))) (fj (aH (e2 aX (aa 1) (aa 0))) (aH (e2 cy (aa 0) (aa 3))))) (eQ (cD (aC zu (af (aa 3) (af (aa 0) (af (aa 1) ah))))))) (cC (af (aa 0) (af (aa 1) ah)))))))
def zI:List D->ag->Res D:=aJ 1 1 (aG (Po 4 [0] (dI (af (eC (.int (4))) ah)) (gN 0) cL (dI (af (eC (.int (8))) ah)) (gN 1) cL (cB (aC wz (af (aa 4) (af (aa 0) (af (aa 1) ah))))) (gT [gN 2,gN 3]) cL (cC (af (aa 0) (af (aa 1) (af (aa 2) (af (aa 3) ah)))))))
def tL:List D->ag->Res D:=aJ 1 1 (aG (dj (aC zN (af (aa 0) ah)) (TK.FU (aC zI (af (aa 0) ah)))))
def zw:List D->ag->Res D:=aJ 3 8 (ar (aT (aC mW (af (aa 0) (af (aa 1) (af (aa 2) (af (eC (.int (0))) ah))))) (gN 3)) (ar (aT (aC tm (af (aa 0) (af (aa 1) (af (aa 2) ah)))) (gN 4)) (ar (aT (eNew ah) (gN 5)) (ar (aT (eC (.bl ύ)) (gN 6)) (ar (fI (dI (af (eC (.int (31))) ah)) (gN 7) (ar (aT (i6 (e2 cy (aa 7) (aa 3)) (dj (aa 6) (e2 fN (aa 7) (aa 4)))) (gN 6)) (aV (cD (aa 6)) (cj (f9 (aa 5) (aa 7))) bE))) (aG (oQ (aa 5))))))))
def zy:List D->ag->Res D:=aJ 3 8 (ar (aT (aC mW (af (aa 0) (af (aa 1) (af (aa 2) (af (eC (.int (1))) ah))))) (gN 3)) (ar (aT (aC tm (af (aa 0) (af (aa 1) (af (aa 2) ah)))) (gN 4)) (ar (aT (eNew ah) (gN 5)) (ar (aT (eC (.bl ύ)) (gN 6)) (ar (fI (IA (af (eC (.int (31))) ah)) (gN 7) (ar (aV (ff (cD (aa 6)) (ff (aH (e2 cy (aa 7) (aa 3))) (aH (e2 cy (aa 7) (aa 4))))) (cj (f9 (aa 5) (aa 7))) bE) (aT (dj (i6 (aa 6) (e2 cy (aa 7) (aa 3))) (e2 fN (aa 7) (aa 4))) (gN 6)))) (aG (oQ (aa 5))))))))
def wt:List D->ag->Res D:=aJ 2 2 (aG (eB ib (af (ck 1 [1,0] (dI (af (eC (.int (8))) ah)) (gN 0) (aH (e2 cy (aa 1) (e2 au (aa 2) (aa 0)))) (aa 0)) ah)))
def tu:List D->ag->Res D:=aJ 2 4 (ar (aT (ck 1 [0,1] (dI (af (eC (.int (8))) ah)) (gN 0) cL (aC zw (af (aa 1) (af (aa 2) (af (aa 0) ah))))) (gN 2)) (ar (aT (ck 1 [0,1] (dI (af (eC (.int (8))) ah)) (gN 0) cL (aC zy (af (aa 1) (af (aa 2) (af (aa 0) ah))))) (gN 3)) (aG (ck 1 [2,3] (dI (af (eC (.int (31))) ah)) (gN 0) cL (cC (af (aC wt (af (aa 1) (af (aa 0) ah))) (af (aC wt (af (aa 2) (af (aa 0) ah))) ah)))))))
section
variable {X:Cx} {Ξ:Wd->bw->Prop} {a b:ŕ} {pos:Pos} {fa:ahv (List D)}
def Fm (ds:List D) (s:ag):Res D:=match ds with
 | [d]=>match res d s with
  | .lst Z=>ok (.aj s.length) (s++[.lst Z])
  | .tup Z=>ok (.aj s.length) (s++[.lst Z])
  |_=>ϋ
 |_=>ϋ
def aag:dB X (.type "list") (rC X.K Ξ Fm):=by
 intro U s σ H Y T Q I r qz;let(w,P,rfl,S,Z,h):=qz;delta Fm at h;split at h
 .let(v,rfl,W):=lY Z
  split at h
  .rename_i R e1
   let(a,Y,rfl,V,Z):=j3 S W e1;exact KR U s σ _ _ T Q I r #[a,Y,rfl,.inl (bV.of V),RO S Z h]
  .rename_i R e1
   rw[fX e1 (by intro _ z;cases z)] at W;let(a,Y,rfl,V,Z):=W;exact KR U s σ _ _ T Q I r #[a,Y,rfl,.inr V,RO S Z h]
  .exact h.elim
 .exact h.elim
end
end DI
namespace L2
open PySem
def df:Sem α->Prop
 | .pure _=>True
 | .raise _=>True
 | .unsupported _=>True
 | .finish _=>True
 | .rule _ k=>df (k ())
 | .at _ k=>df (k ())
 | .load _ _ k=>∀o,df (k o)
 | .update _ _ f k=>(∀o,(f o).dict=o.dict)/\df (k ())
 | .loadIfAlive _ k=>∀o,df (k o)
 | .point _ k=>df (k ())
 | .register ..=>True
 | .alloc _ k=>∀a,df (k a)
 | .fresh k=>∀t,df (k t)
 | .ask k=>∀t,df (k t)
 | .choose _ _ k=>∀n,df (k n)
 | .os _ _ k=>∀r,df (k r)
 | .call ..=>False
 | .handled _ k=>∀v,df (k v)
 | .genState _ k=>∀v,df (k v)
 | .newGen _ k=>∀v,df (k v)
 | .resume ..=>False
 | .yield ..=>True
 | .stack k=>∀v,df (k v)
 | .fork ..=>True
 | .thread k=>∀v,df (k v)
 | .await ..=>True
def Dk (h0 h:ū):Prop:=h0.objs.size<=h.objs.size/\∀b o,h0.get? b=ϊ o->∀Z,h.get? b=ϊ Z->Z.dict=o.dict
def Dk.refl (h):Dk h h:=#[ahz _,λb o e Y Z=>by rw[e] at Z;cases Z;rfl]
theorem Dk.push (k:Dk h0 h) (o):Dk h0 (h.push o):=by
 refine#[Ø k.1 (by rw[ý];exact ŭ _),λb p e X W=>k.2 b p e X ?_];have Z:=È (Í e) k.1;let(Y,V):=agy.mp W;refine agy.mpr #[?_,V];have:(h.push o).objs[b]?=h.objs[b]?:=by
  show (h.objs.push o)[b]?=_;rw[Array.getElem?_push_lt Z,Array.getElem?_eq_getElem Z]
 rw[this] at Y;exact Y
def Dk.upd (k:Dk h0 h) {a} {f} (hf:∀o,(f o).dict=o.dict) (ha:(h.get? a).isSome):Dk h0 (h.update a f):=by
 refine#[by rw[Heap.size_update];exact k.1,λb p e X Y=>?_];by_cases W:b=a
 .subst W
  let(V,e1):=agj.mp ha;have U:=k.2 b p e V e1;let(Z,S):=agy.mp Y;let(T,R):=agy.mp e1;have:=by
   let(objs,l):=h;have Z:(objs.modify b f)[b]?=ϊ X:=Z;rw[Array.getElem?_modify,Ù rfl,T] at Z;exact(ahA Z).symm
  rw[this,hf,U]
 .rw[ű _ _ _ _ W] at Y
  exact k.2 b p e X Y
def Yt (M) (Γ) (t:Sem α):∀{Q} {E} {p} {s},df t->Sem.wp M Γ t Q E p s->∀{h0},Dk h0 s.heap ->
  Sem.wp M Γ t (λa p' s'=>Q a p' s'/\Dk h0 s'.heap) (λe p' s'=>E e p' s'/\Dk h0 s'.heap) p s:=by
 induction t with
 |pure a=>intro Q E p s d h h0 k;exact#[h,k]
 |raise e=>intro Q E p s d h h0 k;exact#[h,k]
 |unsupported w=>intro Q E p s d h h0 k;exact h.elim
 |finish w=>intro Q E p s d h h0 k;exact h.elim
 |rule t Z ih=>intro Q E p s d h h0 k;exact ih _ d h k
 | «at» t Z ih=>intro Q E p s d h h0 k;exact ih _ d h k
 |load a pt Z ih=>intro Q E p s d h h0 k;let(o,e,h):=h;exact#[o,e,ih o (d o) h k]
 |loadIfAlive a Z ih=>intro Q E p s d h h0 k;exact ih _ (d _) h k
 |point a Z ih=>intro Q E p s d h h0 k;exact ih _ d h k
 |register a Z ih=>intro Q E p s d h h0 k;exact h.elim
 |fresh Z ih=>intro Q E p s d h h0 k;exact ih _ (d _) h k
 |ask Z ih=>intro Q E p s d h h0 k;exact ih _ (d _) h k
 |choose a n Z ih=>intro Q E p s d h h0 k;exact#[h.1,ih _ (d _) h.2 k]
 |os a n Z ih=>intro Q E p s d h h0 k;exact ih _ (d _) h k
 |call a b c n Z ih=>intro Q E p s d h h0 k;exact ĉ d
 |handled a Z ih=>intro Q E p s d h h0 k;exact ih _ (d _) h k
 |genState a Z ih=>intro Q E p s d h h0 k;let(o,e,h):=h;exact#[o,e,ih _ (d _) h k]
 |newGen a Z ih=>intro Q E p s d h h0 k;exact ih _ (d _) h k
 |resume a b c Z ih=>intro Q E p s d h h0 k;exact ĉ d
 |yield a b c Z ih=>intro Q E p s d h h0 k;exact h.elim
 |stack Z ih=>intro Q E p s d h h0 k;exact ih _ (d _) h k
 |fork a Z ih=>intro Q E p s d h h0 k;exact h.elim
 |thread Z ih=>intro Q E p s d h h0 k;exact ih _ (d _) h k
 |await a b c e Z ih=>intro Q E p s d h h0 k;exact h.elim
 |alloc o Z ih=>intro Q E p s d h h0 k;exact ih _ (d _) h (k.push o)
 |update a pt f Z ih=>intro Q E p s d h h0 k;exact#[h.1,ih _ d.2 h.2 (k.upd d.1 h.1)]
def zX {A} {t:Sem α} {Q} {E} {s} (d:df t) (h:ë M A t Q E s):ë M A t (λa s'=>Q a s'/\Dk s.heap s'.heap) (λe s'=>E e s'/\Dk s.heap s'.heap) s :=
 fun Z p i=>Yt M Z t d (h Z p i) (Dk.refl _)
def gF {f:α->Sem β} (h:df t) (g:∀a,df (f a)):df (t >>= f):=by
 induction t with
 |pure a=>exact g a
 |raise e=>trivial
 |unsupported w=>trivial
 |finish w=>trivial
 |rule t k ih=>exact ih _ h
 | «at» t k ih=>exact ih _ h
 |load a p k ih=>exact λo=>ih o (h o)
 |loadIfAlive a k ih=>exact λo=>ih o (h o)
 |point a k ih=>exact ih _ h
 |register a k ih=>trivial
 |fresh k ih=>exact λo=>ih o (h o)
 |ask k ih=>exact λo=>ih o (h o)
 |choose a n k ih=>exact λo=>ih o (h o)
 |os a n k ih=>exact λo=>ih o (h o)
 |call a b c n k ih=>exact h.elim
 |handled a k ih=>exact λo=>ih o (h o)
 |genState a k ih=>exact λo=>ih o (h o)
 |newGen a k ih=>exact λo=>ih o (h o)
 |resume a b c k ih=>exact h.elim
 |yield a b c k ih=>trivial
 |stack k ih=>exact λo=>ih o (h o)
 |fork a k ih=>trivial
 |thread k ih=>exact λo=>ih o (h o)
 |await a b c e k ih=>trivial
 |alloc o k ih=>exact λo=>ih o (h o)
 |update a p f k ih=>exact#[h.1,ih _ h.2]
def zY (v) (i):df (field v i):=by
 refine gF ?_ λa=>?_
 .cases v with
  |ref a =>
   refine gF (λo=>trivial) λo=>?_
   split<;>trivial
  |_=>trivial
 .split<;>trivial
def Yu (g) (o):(Obj.mapFields g o).dict=o.dict:=by
 delta Obj.mapFields
 split<;>rfl
def Fn (v) (i) (x):df (setField v i x):=by
 cases v with
 |ref a =>
  refine gF (λo=>trivial) λo=>?_;split
  .split
   .exact#[Yu _,trivial]
   .trivial
  .trivial
 |_=>trivial
def acb (ty) (vs):df (newFields ty vs):=by
 show df (if vs.toArray.size > Õ+2 then _ else newObjAsIs _ _)
 split
 .trivial
 .exact λ_=>trivial
def Du (e) (f):df (setFlight e f):=by
 refine gF (zY ..) λa=>?_;split
 .exact Fn ..
 .trivial
theorem Nf:∀l,df (readyFrames l)
 | []=>trivial
 |env::outer=>by
  delta readyFrames;split
  .refine gF (λo=>trivial) λo=>?_
   split
   .trivial
   .refine gF ?_ λb=>gF ?_ λv=>gF #[λ_=>rfl,trivial] λ_=>Nf outer
    .delta behindIsImport
     split
     .trivial
     .split
      .trivial
      .exact gF (zY ..) λ_=>trivial
    .cases outer with
     |nil =>
      show df (if (env.scope.isGenerator||env.scope.isCoroutine)=ό then pure _ else _)
      split
      .trivial
      .exact λ_=>trivial
     |cons _ _=>trivial
  .trivial
def Yv (env):df (frameOf env):=by
 refine gF (λ_=>trivial) λl=>gF ?_ λr=>?_
 .generalize l.dropWhile _=Z
  cases Z with
  |nil=>trivial
  |cons a r=>exact gF (Nf _) λ_=>trivial
 .split<;>trivial
def Yw (f) (b):df (entryPlaceOf f b):=by
 refine gF (λ_=>trivial) λa=>?_
 split<;>trivial
def Oj (e) (env):df (noteFrame e env):=by
 delta noteFrame;split
 .refine gF (zY ..) λZ=>?_
  rename_i L _;have jp:df (frameOf env >>= λf=>entryPlaceOf L (Z != Value.none) >>= λY=>EntryCells.newEntry Z f Value.none (ł L) Value.none Y >>= λb=>setField e 1 b) :=
   gF (Yv env) λf=>gF (Yw _ _) λY=>gF (acb ..) λb=>Fn ..
  split
  .refine gF (zY ..) λx=>?_
   split
   .trivial
   .exact gF (Fn ..) λ_=>jp
  .exact jp
 .trivial
def Yx (env) (e):df (leaving env e):=by
 exact gF (Oj e env) λ_=>Du ..
open PySem.Spec PyProof.Rows
structure nT (P) (w) (outer) (H:Hp) (s:Ý) (H') (B) (a) (cls a0) (h):Prop where
 fl:agS B outer a cls a0 h
 old:∀b o,s.heap.get? b=ϊ o->H b=ϋ->b∉dU outer->B.get? b=ϊ o
 there:∀b o,s.heap.get? b=ϊ o->b∉dU outer->∃o',B.get? b=ϊ o'
 slot:∀b o,s.heap.get? b=ϊ o->b∈dU outer->∃sl,h.get? b=ϊ { o with slots:=sl }
 aK:dG P w H' B
 free:∀b o,s.heap.get? b=ϊ o->H b=ϋ->H' b=ϋ
 gK:∀b xs,H b=ϊ (.tup xs)->H' b=ϊ (.tup xs)
 fQ:∀b o u,H b=ϊ (.bx o u)->H' b=ϊ (.bx o u)
 gM:∀b ps,H b=ϊ (.cK ps)->∃more,H' b=ϊ (.cK (ps++more))
def Dm (h:ū) (a:þ) (m:Option þ):Prop:=∀Z,m=ϊ Z->∃o,h.get? a=ϊ o/\o.dict=ϊ Z
def Dm.ax (h) (a):Dm h a ϋ:=λ_ z=>by cases z
def Dm.on {a} {m} (x:Dm h a m) (k:Dk h h') (t:∃o,h'.get? a=ϊ o):Dm h' a m:=λY e=>by
 let(o,e1,e2):=x Y e;let(Z,e3):=t;exact#[Z,e3,(k.2 a o e1 Z e3).trans e2]
def fV (P:ø) (w:Ĭ):qt:=λouter H s E e Z=>∃a cls X Y B m,e=.ref a/\Z.os=s.os/\ahq Z.gens/\nT P w outer H s Y B a cls X Z.heap/\Dm Z.heap a m/\E cls m Y
section
variable {P:ø} {w:Ĭ} {outer:List Env} {H H':Hp} {s:Ý} {B h h':ū} {a:þ} {cls a0:ã}
def nT.un (F:nT P w outer H s H' B a cls a0 h):Un (dU outer) [] H H' s.heap h where
 keep:=λb o e n Z _=>F.fl.1 b o (F.old b o e n Z)
 slot:=λb o e n Z _=>F.slot b o e Z
 free:=λb o e n _=>F.free b o e n
 there:=λb o e _=>by
  by_cases Z:b∈dU outer
  .let(sl,q):=F.slot b o e Z
   exact#[_,q]
  .let(Y,q):=F.there b o e Z
   exact#[Y,F.fl.1 b Y q]
 gK:=F.gK
 fQ:=F.fQ
 gM:=F.gM
def nT.held (F:nT P w outer H s H' B a cls a0 h):dG P w H' h:=F.aK.kept λb o e=>F.fl.1 b o e
def nT.on (F:nT P w outer H s H' B a cls a0 h) (hf:agS B outer a cls a0 h') (hs:h.UpToSlots h'):nT P w outer H s H' B a cls a0 h' :=
 { F with
  fl:=hf
  slot:=λb o e Z=>by
   let(sl,q):=F.slot b o e Z;let(_,U,Y,X):=F.fl.2.2.1.mem Z;rw[q] at Y;cases Y;let(W,V):=hs b _ q X;exact#[W,V] }
def gm.aea (x:gm P w H h a o):∃ob,h.get? a=ϊ ob:=by
 cases o with
 |lst Z=>let(_,_,_,_,e):=x;exact#[_,e]
 |tup Z=>let(_,_,_,ob,e,_):=x;exact#[ob,e]
 |dK Y=>let(_,_,_,_,o,_,_,e,_):=x;exact#[_,e]
 |dT Y=>let(_,_,_,_,o,_,_,e,_):=x;exact#[_,e]
 |set S n=>let(o,_,_,_,e,_):=x;exact#[_,e]
 |ins C X fs=>let(_,_,_,e,_):=x;exact#[_,e]
 |own y=>exact x
 |xd fs=>obtain⟨_,⟨_,_,_,e,_⟩,_⟩:=x;exact#[_,e]
 |eT lo hi=>let(_,_,_,e):=x;exact#[_,e]
 |bx ob u=>let(e,_):=x;exact#[_,e]
 |cK W=>exact#[_,x]
 |met f y=>exact#[_,x]
 |ext V=>let(_,e,_):=x;exact e
def nT.new (F:nT P w outer H s H' B a cls a0 h):H' a=ϋ:=by
 cases e:H' a with
 |none=>rfl
 |some o =>
  let(Y,Z):=(F.aK a o e).aea;rw[F.fl.2.1] at Z;cases Z
end
structure Lv (X:Cx) (E):Prop where
 xe:X.xe=λe s'=>ë (ê X.prog X.w) X.A (leaving X.env e) (λ_ iQ=>fV X.prog X.w X.outer X.my X.ef E e iQ) (λe' iQ=>fV X.prog X.w X.outer X.my X.ef E e' iQ) s'
 nK:X.stack=X.env::X.outer
 fr:X.env.frame=ϊ X.env.locals
 ex:X.ex=[]
section
variable {X:Cx} {E:XK} {π:List (þ×Obj)} {σ:St} {H:Hp} {s:Ý}
def Inv.AL (I:Inv X π σ H s) (L:Lv X E) {b} {o} (e:X.ef.heap.get? b=ϊ o) (hb:b∉dU X.outer):b∉dU X.stack:=λz=>by
 rcases Ô.mp (I.m8 b z) with q|q
 .exact absurd (Í e) (by rw[q];exact Nat.not_lt.mpr I.ok.above)
 .exact hb q
def DT (L:Lv X E) {b} (hb:b∈dU X.outer):b∈dU X.stack:=by
 rw[L.nK];delta dU;rw[agd,L.fr];exact Ë _ hb
def dY (L:Lv X E):Passes (fV X.prog X.w) X E:=by
 intro π σ H s e S I h;let(a,cls,R,M,B,m,rfl,os,bare,F,K,q):=h;rw[L.xe];have fl:=F.fl;rw[L.nK] at fl
 refine ė (zX (Yx ..) (wpAny_leaves_onW (E:=λ_ _=>False) (Q:=λ_ P=>∃Y,P={ S with heap:=Y }/\agS B _ a cls R Y/\S.heap.UpToSlots Y) (by rw[I.ok.frames,L.nK]) L.fr fl λY V U=>#[Y,rfl,V,U])) (λ_ P z=>?_) λ_ _ z=>z.1.elim
 obtain⟨⟨Y,rfl,V,U⟩,J⟩:=z
 refine#[a,cls,R,M,B,m,rfl,os.trans I.os,bare,#[V,λb o e n Z=>?_,λb o e Z=>?_,λb o e Z=>?_,F.aK,λb o e n=>?_,λb O e=>F.gK b O (I.base.gK b O e),λb o u e=>F.fQ b o u (I.base.fQ b o u e),λb G e=>?_],K.on J (let ⟨o,e,_⟩:=V.there;#[o,e]),q]
 .exact F.old b o (I.base.keep b o e n Z (by rw[L.ex];simp)) (I.base.free b o e n (by rw[L.ex];simp)) (I.AL L e Z)
 .let(T,W):=I.base.there b o e (by rw[L.ex];simp)
  exact F.there b T W (I.AL L e Z)
 .let(sl,W):=I.base.slot b o e (I.ok.mE b Z) Z (by rw[L.ex];simp)
  let(A,e2):=F.slot b _ W (DT L Z);let(_,y,N,D):=F.fl.2.2.1.mem (DT L Z);rw[e2] at N;cases N;let(C,e3):=U b _ e2 D;exact#[C,e3]
 .let(T,W):=I.base.there b o e (by rw[L.ex];simp)
  exact F.free b T W (I.base.free b o e n (by rw[L.ex];simp))
 .let(x,e1):=I.base.gM b G e
  let(v,e2):=F.gM b _ e1;exact#[_,by rw[e2,Array.append_assoc]]
def VQ (L:Lv X E) (I:Inv X π σ H s) {h1} {e} {cls} {us} (hm:Heap.MadeExcOf s.heap h1 e cls us) (q:E cls ϋ H):X.xe (.ref e) { s with heap:=h1 }:=by
 rw[L.xe];have V:=I.stack;have U:∀b u,H b=ϊ u->b∉dU _:=λb u e z=>by rw[I.wK b z] at e;cases e
 refine wpAny_leaves_madeW (by rw[I.ok.frames,L.nK]) L.fr (λb o e=>PySem.W.of_hideAll _ e) ?_ hm λK t S _ _ R=>#[e,cls,_,H,PySem.W.hideAll _ (dU X.stack),ϋ,rfl,I.os,I.bare,#[S,λb o e n Z=>?_,λb o e Z=>?_,λb o e Z=>?_,λb u e=>?_,λb o e n=>I.base.free b o e n (by rw[L.ex];simp),I.base.gK,I.base.fQ,I.base.gM],Dm.ax _ _,q]
 .rw[<- L.nK]
  refine PySem.W.funFrames_hide V λenv Q a P=>?_;exact agn.mpr #[env,Q,P]
 .exact agc _ (I.base.keep b o e n Z (by rw[L.ex];simp)) (I.AL L e Z)
 .let(O,Y):=I.base.there b o e (by rw[L.ex];simp)
  exact#[O,agc _ Y (I.AL L e Z)]
 .let(sl,Y):=I.base.slot b o e (I.ok.mE b Z) Z (by rw[L.ex];simp)
  let(_,J,T,N):=V.mem (DT L Z);rw[Y] at T;cases T;let(M,e3):=R b _ (hm.keeps b _ Y) N;exact#[M,e3]
 .refine(I.aK b u e).iX (λc v hc z=>agc _ z ?_) (λ_ z=>z) λ_ _ z=>z
  rcases hc with rfl|hc
  .exact U c _ e
  .exact U c _ hc
def acd (X:Cx) (M:Mod X.K X.mg X.base) {x} {C} {vY} {newId} (eC:í X.K Ð x=ϊ (ϊ (.ref C))) (qC:ahr X.K C vY newId=ό):OwnCls x C vY newId X.mg X.base:=by
 have KB:=M.lu;refine#[ı KB M.glob eC,?_];delta ahr at qC;split at qC
 case h_2=>cases qC
 rename_i S cd sl R;split at qC
 case h_2=>cases qC
 rename_i H bm Z a1 a2 Y nw V Q U;erw[Â,beq_iff_eq,Ċ] at qC;obtain⟨⟨⟨⟨⟨P,O⟩,N⟩,L⟩,T⟩,J⟩:=qC;subst P O;cases cd;subst Q N;have I:sl=#v[Z,a1,a2,Y,ϊ (.builtin nw),V]:=by cases sl;simp only at U;rw[U]
 subst I;exact#[bm,_,_,_,_,_,_,_,_,_,S,Z,a1,a2,Y,V,_,KB _ _ R,.of_isNs (PySem.W.isNs_of_in KB T),PySem.W.nsMap_none_of_in KB T J,PySem.W.tail_of_in KB L]
def Yy {C} {vY} {B newId Pz} {np bh pos} {oU} {rest} {t} (L:Lv X E) (eC:í X.K Ð x=ϊ (ϊ (.ref C))) (qC:ahr X.K C vY newId=ό) (FB:ExcBaseFacts B newId Pz vY) (hc:X.calm=ό) (hg:Gl X x) (ha:PA X (oU::rest) t) (hd:(x==("__debug__"))=ύ:=by decide)
  (he:É (oU::rest) X.env=(ύ,Ħ oU X.env)::É rest X.env:=by rfl) (ix:(Ġ bh (É rest X.env)).any (·.1)=ύ:=by rfl) :
  PS X (.Raise (ϊ (.Call (.Name x np) (oU::rest) [] bh)) ϋ pos) (λ_ σ H=>t σ H λvs H1=>vs.length<=Õ/\E (.ref C) ϋ H1):=by
 intro π s σ H D I h;have O:=acd X I.ok.mod eC qC;let(Q,N,nm,q,bs,hdct,sn,sub,ab,col,dd,k0,k1,k2,k3,k5,mN,W,V,U,T):=O.obj;refine wpAny_Raise_call_subT (nm:=nm) (q:=q) (N:=N) (bs:=bs) (hdct:=hdct) (sn:=sn) (sub:=sub) (ab:=ab) (col:=col) (dd:=dd) (k0:=k0) (k1:=k1) (k2:=k2) (k3:=k3) (k5:=k5)
  FB (T.hasType FB.hasBase) (I.ok.hd hc) (by rw[he];show (ύ||(Ġ bh _).any _)=ύ;rw[ix];rfl) U (qZ I hg O.bound #[rfl,?_] hd)
 have Y:=ha bh π s σ H _ I h;rw[he] at Y |-;refine Calls.evalArgs_plain (aQ Y λP M ⟨vs,H1,Z,r,z,S⟩=>#[rfl,by rw[<- r.length];exact z,Z.bk _ _ W,V.keeps Z.bk,T.keeps Z.bk,λJ e R=>?_]);exact VQ L Z R S
end
end L2
namespace DI
open PySem L2
abbrev GG (K:Ň) (mg:Str->Option ã) (x:Str) (st:Stmt) (ps:List Str):Prop:=∃f fd,Gd K mg x st ps f fd
abbrev bQ (P:ø) (w:Ĭ) (K:Ň) (mg:Str->Option ã) (base:ū) (x:Str) (st:Stmt) (ps:List Str) (k:Nat) (fn:List D->ag->Res D):Prop:=∀{f} {fd},Gd K mg x st ps f fd->dg P w K mg base fB k f fd ps (mO K fn)
noncomputable def qh (N ps:List Str) (sc:ahl):Bool:=ώ (sc.kind=.function)&&!sc.isCoroutine&&!sc.isGenerator&&ώ N.Nodup&&ώ (N.take ps.length=ps)&&ps.all (λx=>ώ (sc.names.lookup x=ϊ .local\/sc.names.lookup x=ϊ .cell))&&sc.names.all (λy=>ώ (y.2≠.free))
def kR (h:qh N ps sc=ό):ue N ps sc:=by
 delta qh at h;erw[Â,Ċ,Å,Þ] at h;obtain⟨⟨⟨⟨⟨⟨Z,Y⟩,X⟩,W⟩,V⟩,U⟩,T⟩:=h;exact#[Z,Y,X,W,V,U,T]
def bT (G:Gd K mg x st ps f fd) (N) (S:qh N ps (cJ st)=ό)
 (hb:N.Nodup->∀bo A outer s H E,bK k (A.deeper (ĸ x (cJ st) s.heap.objs.size f bo))->dW (iI fB P w K mg base N x (cJ st) f bo A outer s H E).oZ (gU st) (tS K cU b)) :
  dg P w K mg base fB (k+1) f fd ps (mO K (aJ ps.length N.length b)):=adW G.fn (kR S) (hb (kR S).nd)
section
variable {X:Cx} {Ξ:Wd->bw->Prop} {e a b c tg el src:ŕ} {es rest tests:List ŕ} {pos:Pos} {f g h:ahv D} {fa:ahv (List D)} {ft gt:ahv Bool}
def aO {x} {st} {ps} {fn} {p} (G:GG X.K X.mg x st ps) (F:bQ X.prog X.w X.K X.mg X.base x st ps k fn) (hr:bK n X.A) (ha:PA X (e::es) (tA X.K Ξ fa)) (hk:k<=n:=by decide) (hg:Gl X x:=by rfl) (dq:(x==("__debug__"))=ύ:=by decide)
  (he:É (e::es) X.env=(ύ,Ħ e X.env)::É es X.env:=by rfl) (bM:(Ġ pos (É es X.env)).any (·.1)=ύ:=by rfl):PE X (.Call (.Name x p) (e::es) [] pos) (tE X.K Ξ (aC fn fa)):=by
 let(f,fd,G):=G;exact abV (F G) (hr.mono hk) hg G.mg G.fn.kp G.b ha dq he bM
def aq (ha:PE X a (tE X.K Ξ f)) (hs:É [a] X.env=(ύ,Ħ a X.env)::É [] X.env:=by rfl):PA X [a] (tA X.K Ξ (af f ah)):=bC ha cH hs
def bt (ha:PE X a (tE X.K Ξ f)) (hb:PE X b (tE X.K Ξ g)) (h1:É [a,b] X.env=(ύ,Ħ a X.env)::É [b] X.env:=by rfl) (h2:É [b] X.env=(ύ,Ħ b X.env)::É [] X.env:=by rfl):PA X [a,b] (tA X.K Ξ (af f (af g ah))):=bC ha (bC hb cH h2) h1
def fF (ha:PE X a (tE X.K Ξ f)) (hb:PE X b (tE X.K Ξ g)) (hc:PE X c (tE X.K Ξ h)) (h1:É [a,b,c] X.env=(ύ,Ħ a X.env)::É [b,c] X.env:=by rfl) (h2:É [b,c] X.env=(ύ,Ħ b X.env)::É [c] X.env:=by rfl) (h3:É [c] X.env=(ύ,Ħ c X.env)::É [] X.env:=by rfl):PA X [a,b,c] (tA X.K Ξ (af f (af g (af h ah)))):=bC ha (bC hb (bC hc cH h3) h2) h1
def eR {px} {sc} {ps} (N) {cap} {it} (hi:PI X (.Name x px) src (fU X.K Ξ it))
  (hY:∀cl C s H ex pn,PF (gw X N sc cl C s H ex pn) tests (tT X.K cU ft)/\PE (gw X N sc cl C s H ex pn) el (tE X.K cU f))
  (hc:X.calm=ό:=by rfl) (S:Fh sc X.env.scope.names X.N N 1 cap=ό:=by kernel_rfl) (nd:N.Nodup:=by decide +kernel) (h0:N[0]?=ϊ x:=by rfl) (hx:∀cl C s H ex pn,(gw X N sc cl C s H ex pn).env.scope.names.lookup x=ϊ .local:=by intros;rfl) (hs:∀x,Ă src X.env x=pure x:=by intro _;rfl) :
  PE X (.ListComp el [#[.Name x px,src,tests,0]] sc ps) (tE X.K Ξ (ck 1 cap it (gN 0) ft f)) :=
 EA hc (FR S) (ug 0) hi (λcl C s H ex pn=>#[iT nd h0 (.inl (hx cl C s H ex pn)) (.inr (hx cl C s H ex pn)),hY cl C s H ex pn]) hs
end
def gB (mg:Str->Option ã) (E:XK):Wd->bw->Prop:=λw x=>∃C,mg x.c=ϊ (.ref C)/\match x.many with
 |none=>E (.ref C) ϋ w.H
 |some i=>∀Z Y t,w.H Z=ϋ->adL "many" Y=ϊ (ϊ (.int i t))->E (.ref C) (ϊ Z) (upd w.H Z (.bx Y (.own Z)))
def nU (mg:Str->Option ã) (K:Ň) (f:List D->ag->Res D):Sp:=λX H Q E=>∃w Z,w.H=H/\aW K w/\aA K w Z X/\Out K (gB mg E) w (f Z w.aN) λY d=>∀v,DV K Y d v->Q v Y.H
def ng (c:Str) (fa:ahv (List D)):ahv Fl:=λenv s=>ai (fa env s) λZ s=>if ώ (Z.length<=10)=ό then ϊ (.error #[c,ϋ],s) else ϋ
def nH (K:Ň) (mg:Str->Option ã) (x:Str):Prop:=∃C,í K Ð x=ϊ (ϊ (.ref C))/\mg x=ϊ (.ref C)/\ahr K C [.type "ValueError",.type "Exception",.type "BaseException",.type "object"] "ValueError.__new__"=ό
def eG (fn:List D->ag->Res D) (fa:ahv (List D)):ahv D:=λenv s=>ai (fa env s) fn
section
variable {X:Cx} {E:XK} {Ξ:Wd->bw->Prop} {e a b c:ŕ} {es rest:List ŕ} {pos:Pos} {f g h:ahv D} {fa:ahv (List D)}
def oq {np bh} {oU} (L:Lv X E) (hO:nH X.K X.mg x) (ha:PA X (oU::rest) (tA X.K (gB X.mg E) fa)) (hc:X.calm=ό:=by rfl) (hg:Gl X x:=by rfl) (hd:(x==("__debug__"))=ύ:=by decide)
  (he:É (oU::rest) X.env=(ύ,Ħ oU X.env)::É rest X.env:=by rfl) (ix:(Ġ bh (É rest X.env)).any (·.1)=ύ:=by rfl) :
  PS X (.Raise (ϊ (.Call (.Name x np) (oU::rest) [] bh)) ϋ pos) (tS X.K (gB X.mg E) (ng x fa)) :=
 let ⟨C,eC,V,U⟩:=hO
 lX (Yy L eC U PySem.F.excBase_ValueError hc hg ha hd he ix) λN σ H T=>by
  let(w,env,R,S,Q,h):=T;subst R;refine#[w,env,rfl,S,Q,(Out.ai h).mono λW M J P Z I O=>?_];split at Z
  .rename_i Y
   have Y:=á Y;let(G,e1,q):=Z W (Le.refl W) P rfl;rw[V] at e1;cases e1;exact#[Ø (by rw[<- O.length];exact Y) (by decide),q]
  .exact Z.elim
def aah {fA} {fd} {qA} {fn} {x} {p} (L:Passes (fV X.prog X.w) X E) (F:dg X.prog X.w X.K X.mg X.base (fV X.prog X.w) k fA fd qA (nU X.mg X.K fn)) (hr:bK k X.A) (hg:Gl X x) (hm:X.mg x=ϊ (.ref fA)) (hk:ľ X.K (.ref fA)=ό) (hb:Binds X.K fd qA [])
  (ha:PA X (e::es) (tA X.K (gB X.mg E) fa)) (dq:(x==("__debug__"))=ύ:=by decide) (he:É (e::es) X.env=(ύ,Ħ e X.env)::É es X.env:=by rfl) (bM:(Ġ pos (É es X.env)).any (·.1)=ύ:=by rfl) :
  PE X (.Call (.Name x p) (e::es) [] pos) (tE X.K (gB X.mg E) (eG fn fa)):=cE (Al F hr hg hm hk hb .nil L ha dq he bM) fun σ H Q Z=>by
 let(w,env,Y,S,W,h):=Z;subst Y;refine#[w,env,rfl,S,W,(Out.ai h).mono λV U O T R N P=>?_];show nU _ _ fn _ _ Q E;rw[ð];exact#[V,U,rfl,T,P,R]
def Fo {K} {w} {r:Res α} {k} (h:Out K cU w r k):Out K Ξ w r k:=by
 match r,h with
 |some (.ok a,s),h=>exact h
 |some (.error x,s),h=>exact λZ l S e=>(h Z l S e).elim
def AM:Passes (fV X.prog X.w) X E0:=λ_ _ _ _ _ _ _ ⟨_,_,_,_,_,_,_,_,_,_,_,q⟩=>q.elim
def aai {fA} {fd} {qA} {fn} {x} {p} (F:dg X.prog X.w X.K X.mg X.base (fV X.prog X.w) k fA fd qA (nU X.mg X.K fn)) (hr:bK k X.A) (hg:Gl X x) (hm:X.mg x=ϊ (.ref fA)) (hk:ľ X.K (.ref fA)=ό) (hb:Binds X.K fd qA [])
  (ha:PA X (e::es) (tA X.K Ξ fa)) (dq:(x==("__debug__"))=ύ:=by decide) (he:É (e::es) X.env=(ύ,Ħ e X.env)::É es X.env:=by rfl) (bM:(Ġ pos (É es X.env)).any (·.1)=ύ:=by rfl) :
  PE X (.Call (.Name x p) (e::es) [] pos) (tE X.K Ξ (aC fn fa)):=cE (Al F hr hg hm hk hb .nil AM ha dq he bM) fun σ H Q Z=>by
 let(w,env,Y,S,W,h):=Z;subst Y;refine#[w,env,rfl,S,W,(Out.ai h).mono λV U O T R N P=>?_];show nU _ _ fn _ _ Q E0;rw[ð];exact#[V,U,rfl,T,P,Fo R.ne]
end
def nh {K} {mg} {base} {x} {st} {f} {fd} {ps} {k} {b} (G:Gd K mg x st ps f fd) (N) (S:qh N ps (cJ st)=ό)
  (hb:N.Nodup->∀bo A outer s H E,bK k (A.deeper (ĸ x (cJ st) s.heap.objs.size f bo))->Lv (iI (fV P w) P w K mg base N x (cJ st) f bo A outer s H E) E->dW (iI (fV P w) P w K mg base N x (cJ st) f bo A outer s H E) (gU st) (tS K (gB mg E) b)) :
  dg P w K mg base (fV P w) (k+1) f fd ps (nU mg K (aJ ps.length N.length b)):=by
 let(J,I,kV,doc,pm,an,bo,ct,F,rfl,lk,W):=G.fn.ex;refine Ba lk W (kR S) (λV H Q E h=>?_) λA outer s H V Q E U h=>?_
 .let(w,T,rfl,S,Y,h):=h
  rw[<- Y.length];delta aJ at h;split at h
  .assumption
  .exact h.elim
 .let(R,T,rfl,O,Y,h):=h
  refine#[_,hb (kR S).nd bo A outer s _ E U #[rfl,rfl,rfl,rfl],?_];delta aJ at h;split at h
  .rename_i M
   rw[<- M] at h;refine#[R,_,rfl,O,Y.env _,(Out.ai h).mono λD L C X Z=>?_]
   cases L with
   |nx env=>intro B _;exact aI X Z _ rfl
   |rt d=>have q:=aI X Z;exact q
   |bk env=>exact Z.elim
   |ct env=>exact Z.elim
  .exact h.elim
end DI
namespace L2
open PySem PySem.Spec PyProof.Rows PySem.W
structure aeb (env:Env) (names:List _) (cl:List _):Prop where
 xI:∀x c,cl.lookup x=ϊ c->env.cells.lookup x=ϊ c
 all:∀x,(x,NameKind.free)∈names->∃c,cl.lookup x=ϊ c
theorem DU:∀(names:List _) acc,(∀x,(x,NameKind.free)∈names->∃c,env.cells.lookup x=ϊ c)->(∀x c,acc.lookup x=ϊ c->env.cells.lookup x=ϊ c) ->
  ∃cl,(forIn names acc λp r=>(match p with | (name,kind)=>if kind==.free then (do let c <- cellOf env name;pure (Ł ((name,c)::r))) else pure (Ł r):Sem _))=pure cl /\
   (∀x c,cl.lookup x=ϊ c->env.cells.lookup x=ϊ c)/\(∀x,(x,NameKind.free)∈names->∃c,cl.lookup x=ϊ c)/\∀x c,acc.lookup x=ϊ c->∃c,cl.lookup x=ϊ c
 | [],acc,_,Y=>#[acc,by simp,Y,λ_ h=>(õ h).elim,λx c h=>#[c,h]]
 |(y,k)::r,acc,W,Y=>by
  by_cases V:k=.free
  .subst V
   let(c,e):=W y Ö;have U:∀x Z,((y,c)::acc).lookup x=ϊ Z->env.cells.lookup x=ϊ Z:=λx Z h=>by
    rw[Ė] at h;split at h
    .rename_i q
     have q:=by simpa using q
     cases h;rw[q];exact e
    .exact Y x Z h
   let(cl,T,S,R,X):=DU r _ (λx h=>W x (Ë _ h)) U;have Q:=X y c ∅;refine#[cl,?_,S,λx h=>?_,λx Z h=>?_]
   .rw[ag8]
    erw[Ĵ,ú,cellOf,e,pure_bind];exact T
   .rcases Ô.mp h with q|q
    .cases q;exact Q
    .exact R x q
   .by_cases q:x=y
    .rw[q];exact Q
    .exact X x Z (by rw[Ė,show (x==y)=ύ by simpa using q];exact h)
  .let(cl,T,S,R,X):=DU r acc (λx h=>W x (Ë _ h)) Y
   refine#[cl,?_,S,λx h=>?_,X]
   .rw[ag8]
    have P:(k==NameKind.free)=ύ:=by simpa using V
    erw[P,Ê,ô,pure_bind];exact T
   .rcases Ô.mp h with q|q
    .cases q;exact absurd rfl V
    .exact R x q
def Yz {scope} (hc:∀x,(x,NameKind.free)∈scope.names->∃c,env.cells.lookup x=ϊ c):∃cl,closureFor scope env=pure cl/\aeb env scope.names cl:=by
 let(cl,Z,Y,X,_):=DU _ [] hc (λx c h=>by cases h);refine#[cl,?_,Y,X];delta closureFor;erw[pure_bind,bind_pure];exact Z
noncomputable abbrev AN (q:Str) (params:Arguments) (body:ŕ) (scope:ahl) (cl:List (Str×þ)) (pm:ã) (c':þ) (ju:ã):Obj:=kla_obj "<lambda>" q params body scope cl pm c' ju
section
variable {X:Cx} {π:List (þ×Obj)} {σ:St} {H:Hp} {s:Ý}
def Inv.table {P c':þ} {ps Ce} {oc} {h'} {t'} (I:Inv X π σ H s) (hP:H P=ϊ (.cK ps)) (hx:agf P s.heap h') (hc:s.heap.objs.size<=c') (oY:h'.get? c'=ϊ oc) (ht:h'.get? P=ϊ (tabObj (ps++Ce))) :
  Inv X π σ (upd (upd H c' (.bx oc (.own c'))) P (.cK (ps++Ce))) { s with heap:=h',toks:=t' }:=by
 have W:=I.aK.fresh hc;have ne:∀b u,H b=u->u≠ϊ _->b≠P:=λb u e d z=>by rw[z,hP] at e;exact d e.symm
 have at_:∀b u,H b=ϊ u->b≠P->upd (upd H c' (.bx oc (.own c'))) P (.cK (ps++Ce)) b=ϊ u:=λb u e n=>by rw[bB n,bB (eh e W)];exact e
 refine I.un #[λb o e n _ _=>hx b o (ne b _ n (by intro z;cases z)) e,λb o e n _ _=>#[_,hx b o (ne b _ n (by intro z;cases z)) e],λb o e n _=>?_,λb o e _=>?_,λb V e=>at_ b _ e (ne b _ e (by intro z;cases z)),λb o u e=>at_ b _ e (ne b _ e (by intro z;cases z)),λb U e=>?_] λb u e=>?_
 .rw[bB (ne b _ n (by intro z;cases z)),bB (ß (È (Í e) hc))];exact n
 .by_cases Z:b=P
  .exact#[_,Z ▸ ht]
  .exact#[o,hx b o Z e]
 .by_cases Z:b=P
  .subst Z
   rw[hP] at e;cases e;exact#[Ce,cY]
  .exact#[#v[],by rw[at_ b _ e Z];simp]
 .by_cases Z:b=P
  .subst Z
   rw[cY] at e;cases e;exact ht
  .rw[bB Z] at e
   by_cases Y:b=c'
   .subst Y
    rw[cY] at e;cases e;exact#[oY,oc,oY]
   .rw[bB Y] at e
    refine(I.aK b u e).iX (λc v hc q=>hx c v ?_ q) (λc q=>at_ c _ q (ne c _ q (by intro z;cases z))) λc V q=>at_ c _ q (ne c _ q (by intro z;cases z))
    rcases hc with z|z
    .rw[z];exact Z
    .exact ne c _ z (by intro z;cases z)
def YA {scope} {jK} {cl} {c P} {ps} {E} {A} {Q} (I:Inv X π σ H s) (dX:closureFor scope X.env=pure cl) (Be:X.env.code=.ref c) (C:CodeHd X.base c P) (hb:X.base.BuiltinsAt X.mg P)
  (hP:H P=ϊ (.cK ps)) (ht:TriplesOk ps.toList) (He:defaultsOf params X.env=([],[]))
  (afF:∀cv,codeAmong jK ps.toList=ϊ cv->∃c' oc vs t,cv=.ref c'/\H c'=ϊ (.bx oc (.own c'))/\oc.data=.fields vs/\vs[1]?=ϊ (.str (X.env.qual++"<lambda>") t))
  (h:∀(f c':þ) ju oc vs t H1 s1,Inv X π σ H1 s1->s.heap.objs.size<=f->H1 f=ϋ->s1.heap.get? f=ϊ (AN (X.env.qual++"<lambda>") params body scope cl ((X.mg "__name__").getD .none) c' ju)->H1 c'=ϊ (.bx oc (.own c'))->oc.data=.fields vs->vs[1]?=ϊ (.str (X.env.qual++"<lambda>") t) ->
   (H1=H\/(H c'=ϋ/\c'≠P/\H1=upd (upd H c' (.bx oc (.own c'))) P (.cK (ps++#v[ł jK.line,ł jK.col,.ref c']))/\TriplesOk (ps++#v[ł jK.line,ł jK.col,.ref c']).toList))->Q (.ref f) s1) :
  ë (ê X.prog X.w) A (Ħ (.Lambda params body scope jK) X.env) Q E s:=by
 have Y:=I.aK P _ hP;have G:=C.keeps I.bk
 have F:s.heap.BuiltinsAt _ P:=let ⟨bm,o,a1,a2,y,x,v,r⟩:=hb;#[bm,o,a1,a2,y,x,I.bk _ _ v,r]
 have W:=I.ok.mod.glob.keeps I.bk;have V:Ð≠P:=λq=>by
  let(o,g,d,e,U,_):=W;rw[q,Y] at e;cases e;cases U
 refine kla_eval He ?_
 cases T:codeAmong jK _ with
 |some cv =>
  let(c',oc,vs,t,rfl,u,p,m):=afF cv T;refine kla_makeFunctionHit dX I.ok.glob W Be G Y ht T F λju h' S l Z=>?_
  have R:Inv X π σ H { s with heap:=h'.push (AN (X.env.qual++"<lambda>") params body scope cl ((X.mg "__name__").getD .none) c' ju),toks:=S }:=I.kept λb o e=>Á _ (l b o e)
  exact h _ c' ju oc vs t H _ R Z (I.aK.fresh Z) (Ì _ rfl) u p m (.inl rfl)
 |none =>
  refine kla_makeFunction dX I.ok.glob W Be G Y ht T V F λc' ju h' S k O D N M=>?_;let(c₂,oc,vs,t,e2,j,U,i):=N;cases e2;have L:=I.aK.fresh O;have B:c'≠P:=λz=>by rw[z,hP] at L;cases L
  have R:=I.table (t':=S) hP (h':=h'.push (AN (X.env.qual++"<lambda>") params body scope cl ((X.mg "__name__").getD .none) c' ju)) (λb o n e=>Á _ (k b o n e)) O (Á _ j) (Á _ M);have K:=Ø O (Nat.le_of_lt D);have J:h'.objs.size≠P:=λz=>by have:=Í Y;rw[<- z] at this;exact absurd (È this K) (ò _)
  refine h _ c' ju oc vs t _ _ R K ?_ (Ì _ rfl) ?_ U i (.inr #[L,B,rfl,?_])
  .rw[bB J,bB (ś D)];exact I.aK.fresh K
  .rw[bB B,cY]
  .rw[Array.toList_append]
   exact TriplesOk_snoc _ _ _ _ ht
end
def WY {c cv} {a b} (l) (h:TriplesOk l) (e:codeAmong pos (l++[ł a,ł b,c])=ϊ cv):codeAmong pos l=ϊ cv\/cv=c:=by
 fun_induction TriplesOk l with
 |case1 =>
  erw[ġ,codeAmong,ł] at e;split at e
  .cases e;exact .inr rfl
  .cases e
 |case2 a t b u x rest ih =>
  erw[Č,codeAmong] at e |-;split
  .rename_i q;rw[Ù q] at e;exact .inl e
  .rename_i q;rw[é q] at e;exact ih h e
 |case3 l Z Y=>exact h.elim
noncomputable def vZ (P:ø) (w:Ĭ) (K:Ň) (mg:Str->Option ã) (base:ū) (N:List Str) (qual:Str) (scope:ahl) (f:þ) (cd:ã) (cl:List (Str×þ)) (A:đ) (outer:List Env) (s:Ý) (H:Hp) (E:XK):Cx where
 prog:=P
 w:=w
 K:=K
 mg:=mg
 base:=base
 A:=A.deeper (envX qual scope s.heap.objs.size f cd cl)
 N:=N
 ef:=s
 my:=H
 env:=envX qual scope s.heap.objs.size f cd cl
 outer:=outer
 stack:=envX qual scope s.heap.objs.size f cd cl::outer
 ex:=[]
 calm:=ό
 fn:=λ_=>ύ
 pn:=[]
 xe:=λe Y=>ë (ê P w) (A.deeper (envX qual scope s.heap.objs.size f cd cl)) (leaving (envX qual scope s.heap.objs.size f cd cl) e) (λ_ Z=>fV P w outer H s E e Z) (λX Z=>fV P w outer H s E X Z) Y
structure YB (N:List Str) (scope:ahl):Prop where
 co:scope.isCoroutine=ύ
 gen:scope.isGenerator=ύ
 kind:scope.kind=.function
 w9:∀x∈scope.names,x.2≠.cell
def ace {K} {mg} {base} {k} {f c'} {N} {q} {params} {body} {scope} {cl} {pm ju} {vs:List V} {t:XK->TE} {oc} {fs} {tq}
  (S:YB N scope) (ho:base.get? f=ϊ (AN q params body scope cl pm c' ju)) (hl:N.length=vs.length)
  (inj:∀x y c,cl.lookup x=ϊ c->cl.lookup y=ϊ c->x=y) (has:∀x,scope.names.lookup x=ϊ .free->∃c,cl.lookup x=ϊ c) (oE:∀x c,cl.lookup x=ϊ c->∃v,base.IsCell c v)
  (hv:∀(i:Nat) x v,N[i]?=ϊ x->vs[i]?=ϊ v->scope.names.lookup x=ϊ .free/\∃c u,cl.lookup x=ϊ c/\base.IsCell c (ϊ u)/\RelV v u)
  (pq:oc.data=.fields fs) (hV:fs[1]?=ϊ (.str q tq))
  (ma:∀A outer s H E,bK k (A.deeper (envX q scope s.heap.objs.size f (.ref c') cl))->Lv (vZ P w K mg base N q scope f (.ref c') cl A outer s H E) E->PE (vZ P w K mg base N q scope f (.ref c') cl A outer s H E) body (t E)) :
  dg P w K mg base (fV P w) (k+1) f (kla_fn "<lambda>" q params body scope cl pm (.ref c') ju) [] (λus H Q E=>us=[]/\H c'=ϊ (.bx oc (.own c'))/\t E (vs.map ϊ) H Q):=by
 refine#[λus H Q E h=>by rw[h.1];rfl,λA outer s H args us M Q E W Z L r G=>?_];let(_,F,D):=G;have lim:=Z.mod.nolimit.keeps λb o e=>(Z.bs b o e).1;have bk:=λb o e=>(Z.bs b o e).1;have U:s.heap.CodeRec _ q:=#[c',oc,fs,tq,rfl,(Z.aK c' _ F).1,pq,hV];refine kla_callFunE W.depth (bk _ _ ho) rfl S.co S.gen rfl U (L _ _ _ _ ?_);refine wpAny_newFunctionEnv S.w9 (λx C=>absurd C ∅) (λB n T=>?_) S.kind;have Y:=λb o e=>T.extBut b o (ß (Í e)) (Á _ e);refine#[lim.keeps Y,?_];have m:bK k (A.deeper (envX q scope s.heap.objs.size f (.ref c') cl)):=W.deeper _;have R:∀c v,base.IsCell c v->H c=ϋ:=λc v ⟨o,e,_⟩=>(Z.bs c o e).2;have O:∀b,b∉(vZ P w K mg base N q scope f (.ref c') cl A outer s H E).ex:=λb z=>absurd (show b∈([]) from z) ∅
 have I:Inv (vZ P w K mg base N q scope f (.ref c') cl A outer s H E) [] (vs.map ϊ) H { s with heap:=B,toks:=s.toks+([]:List (Str×ã)).length }:=by
  refine#[#[Z.mod,S.kind,rfl,rfl,ahz _,inj,λy hy=>?_,λy c h=>absurd h Ú,λ_=>W.hd,Around.frames_deeper Z.frames,.inr #[rfl,rfl],λb z=>absurd z (O b),Z.bs,Z.jq,λb _ _=>O b,λb z=>absurd z (O b),Z.jj,Z.mE],
   rfl,Z.bare,Un.kept Y,#[_,n,λi y v l X h3=>?_],λy c h=>?_,Z.aK.fresh (ahz _),λy c h=>?_,λp j=>absurd (show p∈([]) from j) ∅,Z.aK.kept Y,?_]
  .rcases hy with hy|hy
   .exact absurd rfl (S.w9 _ (Ķ hy))
   .exact has y hy
  .have g:vs[i]?=ϊ v:=by
    rw[à] at X
    cases e:vs[i]? with
    |none=>rw[e] at X;cases X
    |some a=>rw[e] at X;cases X;rfl
   let(d,c,u,e1,e2,r2):=hv i y v l g;exact#[u,r2,.inr #[.inr d,c,e1,(e2.keeps bk).keeps Y]]
  .let(v,e):=oE y c h
   exact#[v,(e.keeps bk).keeps Y]
  .let(v,e):=oE y c h
   exact R c v e
  .rw[Æ];exact hl.symm
 refine kla_codeExpr (ė (ma A outer s H E m #[rfl,rfl,rfl,rfl] _ _ _ H Q I D) (λu s' h=>?_) λe s' h=>h);let(v,H',J,rv,z):=h;exact#[v,H',J.os,J.bare,J.base,J.aK,rv,z]
end L2
namespace DI
open PySem L2 PySem.W
def aed (pre:Hp->Prop):Prop:=∀H Z,(∀b o u,H b=ϊ (.bx o u)->Z b=ϊ (.bx o u))->pre H->pre Z
def zc (P:ø) (w:Ĭ) (K:Ň) (mg:Str->Option ã) (base:ū) (k:Nat) (pre:Hp->Prop) (f:þ) (vs:List V) (ds:List D) (th:ag->Res D):Prop :=
 aed pre/\∃fd,(∃o,base.get? f=ϊ o/\o.data=.func fd)/\Binds K fd [] [] /\
  dg P w K mg base (fV P w) k f fd [] (λX H Q E=>X=[]/\pre H/\∃Z,Z.H=H/\aW K Z/\aA K Z ds vs/\Out K (gB mg E) Z (th Z.aN) λY d=>∀v,DV K Y d v->Q v Y.H)
noncomputable def v5 (cl:D) (th:ag->Res D) (i:Nat):ahv D:=λenv s=>open Classical in if env[i]?=ϊ (ϊ cl) then th s else ϋ
def spT (K:Ň) (pre:Hp->Prop) (cl:D) (fn:List D->ag->Res D):Sp:=λY H Q _=>pre H/\∃w,w.H=H/\aW K w/\aA K w [cl] Y/\Out K cU w (fn [cl] w.aN) λZ d=>∀v,DV K Z d v->Q v Z.H
def QM {K} {mg} {base} {x} {st} {f} {fd} {ps} {k} {b} {pre} {cl} (G:Gd K mg x st ps f fd) (N) (S:qh N ps (cJ st)=ό)
  (hb:N.Nodup->∀bo A outer s H E,pre H->bK k (A.deeper (ĸ x (cJ st) s.heap.objs.size f bo))->dW (iI fB P w K mg base N x (cJ st) f bo A outer s H E).oZ (gU st) (tS K cU b)) :
  dg P w K mg base fB (k+1) f fd ps (spT K pre cl (aJ ps.length N.length b)):=by
 refine G.fn.ok (kR S) (λW H Q E h=>?_) (λbo A outer s H W Q E V h=>?_)
 .let(_,w,rfl,S,Y,h):=h
  rw[<- Y.length];delta aJ at h;split at h
  .assumption
  .exact h.elim
 .let(U,w,rfl,T,Y,h):=h
  refine#[_,hb (kR S).nd bo A outer s _ E U V,?_];delta aJ at h;split at h
  .rename_i R
   rw[<- R] at h;refine#[w,_,rfl,T,Y.env _,(Out.ai h).mono λM O L X Z=>?_]
   cases O with
   |nx env=>intro J _;exact aI X Z _ rfl
   |rt d=>have q:=aI X Z;exact q
   |bk env=>exact Z.elim
   |ct env=>exact Z.elim
  .exact h.elim
noncomputable def oI (env:Env):List Nat->Option (List D)
 | []=>ϊ []
 |i::r=>match env[i]?,oI env r with
  |some (ϊ d),ϊ Z=>ϊ (d::Z)
  |_,_=>ϋ
theorem Ng {env} {σ} (eo:cg K w env σ):∀{caps} {ds},oI env caps=ϊ ds->∃vs,aA K w ds vs/\∀(i:Nat) j v,caps[i]?=ϊ j->vs[i]?=ϊ v->σ[j]?=ϊ (ϊ v)
 | [],ds,h=>by cases h;exact#[_,rfl,λi j v h=>by simp at h]
 |j::r,ds,h=>by
  delta oI at h;split at h
  .rename_i d R e1 e2
   cases h;let(v,X,W):=eo.val j d e1;let(vs,V,U):=Ng eo e2;refine#[_,#[v,vs,rfl,W,V],λi T S Z Y=>?_]
   cases i with
   |zero=>cases Z;cases Y;exact X
   |succ i=>exact U i T S (by simpa using Z) (by simpa using Y)
  .cases h
noncomputable def PB (dN N:List Str) (caps:List Nat) (SU sc:ahl):Bool:=ώ (sc.kind=.function)&&!sc.isCoroutine&&!sc.isGenerator&&sc.names.all (λy=>ώ (y.2≠.cell))&&ώ (N.length=caps.length) &&
 (N.zip caps).all (λp=>ώ (dN[p.2]?=ϊ p.1)&&ώ (SU.names.lookup p.1=ϊ .cell)&&ώ (sc.names.lookup p.1=ϊ .free))&&sc.names.all (λy=>ώ (y.2≠.free)||ώ (SU.names.lookup y.1=ϊ .cell))
abbrev Cg (P:ø) (w:Ĭ) (K:Ň) (mg:Str->Option ã) (x:Str) (st:Stmt) (ps:List Str) (k kt:Nat) (g:D->(ag->Res D)->List D->ag->Res D):Prop :=
 ∀{base} {pre} {f} {vs} {ds} {th},zc P w K mg base kt pre f vs ds th->∀{gA} {fd},Gd K mg x st ps gA fd->dg P w K mg base fB k gA fd ps (spT K pre (.dA f vs ds) (g (.dA f vs ds) th))
section
variable {X:Cx} {Ξ:Wd->bw->Prop} {pos:Pos}
def pX (X:Cx) (H:Hp) (s:Ý):ū:=hideAll s.heap (dU X.stack++Hv s.heap H)
def zS {s} {b} {o} (e:s.heap.get? b=ϊ o) (n:H b=ϋ) (hf:b∉dU X.stack):(pX X H s).get? b=ϊ o:=hideAll_get _ e λz=>by
 rcases Ā.mp z with z|z
 .exact hf z
 .have:=(ÿ.mp z).2
  rw[n] at this;cases this
def Nh {s} {b} {o} (e:(pX X H s).get? b=ϊ o):s.heap.get? b=ϊ o/\H b=ϋ/\b∉dU X.stack:=by
 have e1:=of_hideAll _ e;refine#[e1,?_,λz=>?_]
 .cases q:H b with
  |none=>rfl
  |some u =>
   have:(pX X H s).get? b=ϋ:=hideAll_none _ (Ò _ (ÿ.mpr #[î.mpr (Í e1),by rw[q];rfl]));rw[e] at this;cases this
 .have:(pX X H s).get? b=ϋ:=hideAll_none _ (ó _ z)
  rw[e] at this;cases this
def _root_.L2.Inv.acf {σ:St} {H} {s} (I:Inv X π σ H s):∀b o,X.base.get? b=ϊ o->(pX X H s).get? b=ϊ o:=λb o e=>zS (I.bs b o e).1 (I.bs b o e).2 λz=>by
 have:=(I.stack.mem z).1;rw[e] at this;cases this
def _root_.L2.Inv.aee {σ:St} {H} {s} (I:Inv X π σ H s):oO X.prog X.w X.K X.mg (pX X H s) X.A X.stack s H:=by
 have k:=I.acf;refine#[I.ok.frames,#[I.ok.mod.lu.keeps k,I.ok.mod.glob.keeps k,?_,I.ok.mod.nolimit.keeps k],λb o e=>#[(Nh e).1,(Nh e).2.1],ahi (hideAll_size ..),?_,I.wK,I.aK,I.bare]
 .let(Z,Y,W):=I.ok.mod.blt
  exact#[Z,Y.keeps k,W]
 .refine funFrames_hide I.stack λenv V a U=>ó _ ?_
  exact agn.mpr #[env,V,U]
end
end DI
namespace L2
open PySem PySem.Spec PyProof.Rows PySem.W
section
variable {X:Cx} {π:List (þ×Obj)} {σ:St} {H:Hp} {s:Ý}
def As {A} {E} {i} {x} {pos} {Q} (I:Inv X π σ H s) (hN:X.N.Nodup) (hi:X.N[i]?=ϊ x) (hk:X.env.scope.names.lookup x=ϊ .local) (h:∀s',Inv X π (σ.set i ϋ) H s'->Q () s') :
  ë M A (do bindName X.env x .none;unbindBehindTheSuite X.env x pos) Q E s:=by
 let(m,S,R):=id I.loc;have P:(X.env.scope.kind==.class||(X.env.scope.kind==.module&&X.env.locals != X.env.globals))=ύ:=by rw[I.ok.kind];rfl
 have lA:=I.lA;refine wpAny_nameGoes_keeps hk S P λw v O Z=>?_;refine h _ #[I.ok,I.os,I.bare,#[λb o e n W Y=>?_,λb o e n W Y=>?_,I.base.free,λb o e Y=>?_,I.base.gK,I.base.fQ,I.base.gM],#[_,O,λj y L e1 e2 e3=>?_],λy c e=>?_,I.free,I.jD,λp K=>?_,λb J e=>?_,by rw[ù];exact I.len]
 .exact(Z.2 b (ß (È (Í e) I.ok.above))).trans (I.base.keep b o e n W Y)
 .let(sl,e1):=I.base.slot b o e n W Y
  exact#[sl,(Z.2 b (ß (È (Í e) I.ok.above))).trans e1]
 .let(G,e1):=I.base.there b o e Y
  exact#[G,(Z.2 b (ß (È (Í e) I.ok.above))).trans e1]
 .by_cases V:j=i
  .subst V
   have U:=(Ç.mp e2).1;rw[ù] at U;rw[â U] at e2;cases e2
  .rw[ç (Ĥ V)] at e2
   let(F,D,q):=R j y L e1 e2 e3;refine#[F,D,?_]
   rcases q with ⟨k,e⟩ | ⟨k,c,e,z⟩
   .refine .inl #[k,?_]
    have:y≠x:=λe=>V (DE hN e1 (e ▸ hi));simp[this,e]
   .exact .inr #[k,c,e,z.sameBut Z (lA y c e)]
 .let(T,z):=I.cell y c e
  exact#[T,z.sameBut Z (lA y c e)]
 .let(e,n,ne,C,d):=I.pin p K
  exact#[(Z.2 _ ne).trans e,n,ne,C,d]
 .refine(I.aK b J e).iX (λc T B q=>(Z.2 c ?_).trans q) (λ_ q=>q) λ_ _ q=>q
  rintro rfl
  rcases B with z|z
  .have:=I.free;rw[z,e] at this;cases this
  .have:=I.free;rw[z] at this;cases this
noncomputable abbrev Cx.held (X:Cx) (a:þ):Cx:={ X with A:=X.A.mark (ϊ (.ref a)),calm:=ύ,xe:=λ_ _=>False }
theorem Inv.held (I:Inv X π σ H s) (a):Inv (X.held a) π σ H s:=by
 obtain⟨⟨a1,a2,Z,Y,W,V,U,T,w,S,R,Q,P,O,N,M,L,K⟩,J,G,F,E,D,C,B,A,y,x⟩:=I;exact#[#[a1,a2,Z,Y,W,V,U,T,λz=>absurd z Ú,S,R,Q,P,O,N,M,L,K],J,G,F,E,D,C,B,A,y,x]
def Inv.AO (ok:X.Ok) (I:Inv (X.held a) π σ H s):Inv X π σ H s:=by
 let(_,Z,Y,W,V,U,T,S,R,Q,P):=I;exact#[ok,Z,Y,W,V,U,T,S,R,Q,P]
def AQ (X:Cx) (π:List (þ×Obj)) (σ:St) (E:XK) (e:ã) (s':Ý):Prop:=∃Z Y,Inv X π σ Z Y/\fV X.prog X.w X.stack Z Y E e s'
def j6 {E'} {e} {s'} {cn n} {np BC} {yl} {xK} {j} {CM} {D} (Th:AQ X π σ E e s') (L:X.stack=X.env::X.outer) (hf:X.env.frame=ϊ X.env.locals)
  (hN:X.N.Nodup) (hj:X.N[j]?=ϊ n) (qF:X.env.scope.names.lookup n=ϊ .local) (hg:Gl X cn) (hm:X.mg cn=ϊ (.ref CM)) (hd:(cn==("__debug__"))=ύ)
  (h:∀cls m H' ,E cls m H'->exmOne X.K cls (.ref CM)=ϊ ό/\∀a o,H' a=ϋ->o.cls=cls->(notCls o=ό/\∀dx,m=ϊ dx->o.dict=ϊ dx)->∀s5,Inv (X.held a) π (σ.set j (ϊ (.ref a))) (upd H' a (.bx o (.own a))) s5 ->
   ë (ê X.prog X.w) (X.held a).A (execs (yl::xK) X.env) (SP (X.held a) π { nx:=fun bg H'=>D.nx (bg.set j ϋ) H',rt:=D.rt,bk:=fun bg H'=>D.bk (bg.set j ϋ) H',ct:=fun bg H'=>D.ct (bg.set j ϋ) H' }) (λ_ _=>False) s5) :
  ë (ê X.prog X.w) X.A (noteFrame e X.env) (λ_ u0=>ë (ê X.prog X.w) X.A (setFlight e ϋ) (λ_ afI=>ë (ê X.prog X.w) X.A (handleBy e X.env [.ExceptHandler (ϊ (.Name cn np)) (ϊ n) (yl::xK) BC]) (SP X π D) E' afI) E' u0) E' s':=by
 let(H1,G,Y,a,cls,O,H',B,m,rfl,os,bare,F,dm,hE):=Th;let(C,hh):=h cls m H' hE
 refine ė (zX (Oj ..) (wpAny_looks_onW (E:=λ_ _=>False) (Q:=λ_ s2=>∃W,s2={ s' with heap:=W }/\Heap.HeldW B _ a cls O _ W/\s'.heap.UpToSlots W) (by rw[Y.ok.frames,L]) hf (by have:=F.fl;rw[L] at this;exact this) λW x y=>#[W,rfl,x,y])) (λ_ s2 z=>?_) λ_ _ z=>z.1.elim
 obtain⟨⟨W,rfl,QN,t⟩,s⟩:=z
 refine ė (zX (Du ..) (wpAny_landsW (E:=λ_ _=>False) (Q:=λ_ s3=>∃Z,s3={ s' with heap:=Z }/\agS B _ a cls O Z/\W.UpToSlots Z) QN λZ x y=>#[Z,rfl,x,y])) (λ_ s3 z=>?_) λ_ _ z=>z.1.elim
 obtain⟨⟨Z,rfl,RP,p⟩,l⟩:=z
 have ze:=(dm.on s (let ⟨o,e,_⟩:=QN.there;#[o,e])).on l (let ⟨o,e,_⟩:=RP.there;#[o,e])
 have R:agS B X.stack a cls O Z:=by rw[L];exact RP
 have k:=F.on R (t.trans p);have i:G.heap.get? a=ϋ:=by
  cases q:G.heap.get? a with
  |none=>rfl
  |some o =>
   by_cases P:a∈dU X.stack
   .let(_,o2,e2,hd2):=R.2.2.1.mem P
    let(M,ws,e3,_,e4,_):=R.first
    rw[e3] at e2;cases e2;exact absurd e4 (hd2 _)
   .let(o',e1):=F.there a o q P
    rw[F.fl.2.1] at e1;cases e1
 have I3:=Y.xx (s':={ s' with heap:=Z }) os k.un k.held bare (λb z=>absurd z ∅)
 refine wpAny_handleBy_cons (codeAny_handlers_test ?_) (by intro q;cases q);refine(qZ (I3.held a) hg hm ?_ hd);let(ob,g,xV):=R.there;have LT:Looks (ê X.prog X.w) Z (typeOf (.ref a)) cls:=by subst xV;exact(Looks.ld g).andThen .now
 refine(exm_one I3.gb LT C).here ?_;refine codeAny_handlers_suite_as ?_
 refine ė (zX (Du ..) (lands_againW (E:=λ_ _=>False) (Q:=λ_ s4=>∃V,s4={ s' with heap:=V }/\agS B _ a cls O V/\Z.UpToSlots V) R λV x y=>#[V,rfl,x,y])) (λ_ s4 z=>?_) λ_ _ z=>z.1.elim
 obtain⟨⟨V,rfl,I,d⟩,dk4⟩:=z
 have zf:=ze.on dk4 (let ⟨o,e,_⟩:=I.there;#[o,e])
 have F4:=k.on I d;let(M,H,afK):=I.there;have S:=F4.new
 have I4:Inv X π σ (upd H' a (.bx M (.own a))) { s' with heap:=V }:=by
  have u:=F4.un;have gj:∀b o,G.heap.get? b=ϊ o->b≠a:=λb o e z=>by rw[z,i] at e;cases e
  refine Y.xx os #[u.keep,u.slot,λb o e n C=>?_,u.there,λb xs e=>?_,λb o v e=>?_,λb ps e=>?_] (λb v e=>?_) bare (λb z=>absurd z ∅)
  .rw[bB (gj b o e)];exact u.free b o e n C
  .have:=u.gK b xs e;rw[bB (eh this S)];exact this
  .have:=u.fQ b o v e;rw[bB (eh this S)];exact this
  .let(more,this):=u.gM b ps e;exact#[more,by rw[bB (eh this S)];exact this]
  .by_cases P:b=a
   .subst P
    rw[cY] at e;cases e;exact#[H,M,H]
   .rw[bB P] at e
    refine(F4.held b v e).iX (λ_ _ _ q=>q) (λc q=>?_) λc xs q=>?_
    .rw[bB (eh q S)];exact q
    .rw[bB (eh q S)];exact q
 refine pK I4 hN hj (.inl qF) (v:=.ref a) rfl (λs5 I5=>?_) (.inr qF)
 refine ė (hh a M S afK #[by let(o2,vs,e1,_,e2,_):=I.first;rw[H] at e1;cases e1;delta notCls;rw[e2],λdx e=>by let(o,e1,e2):=zf dx e;rw[H] at e1;cases e1;exact e2] s5 (I5.held a)) (λf s6 q=>?_) λ_ _ z=>z.elim
 cases f with
 |next =>
  let(bg,U,J,q):=q;exact As (J.AO Y.ok) hN hj qF λs7 T=>#[_,U,T,q]
 |brk =>
  let(bg,U,J,q):=q;exact As (J.AO Y.ok) hN hj qF λs7 T=>#[_,U,T,q]
 |cont =>
  let(bg,U,J,q):=q;exact As (J.AO Y.ok) hN hj qF λs7 T=>#[_,U,T,q]
 |ret u =>
  let(v,bg,U,J,r,q):=q;exact As (J.AO Y.ok) hN hj qF λs7 T=>#[v,_,U,T,r,q]
end
end L2
namespace DI
open PySem L2 PySem.W
def cg.unset {env} {σ} (h:cg K w env σ) (i):cg K w (env.set i ϋ) (σ.set i ϋ):=by
 refine#[by rw[ù,ù];exact h.len,λj X e=>?_];by_cases Z:i=j
 .subst Z
  have Y:=(Ç.mp e).1;rw[ù] at Y;rw[â Y] at e;cases e
 .rw[ç Z] at e
  rw[ç Z];exact h.val j X e
section
variable {X:Cx} {E:XK} {pos:Pos}
def acg {σ:St} {s} {w} {env} {Q} {k i:Nat} {x} {p} {pre} {f} {vs} {ds} {th} (T:zc X.prog X.w X.K X.mg X.base k pre f vs ds th) (h0:pre X.my) (hr:bK k X.A)
  (hN:X.N[i]?=ϊ x) (hv:qp X.env.scope x) (hd:(x==("__debug__"))=ύ) (fe:(x==("__classdict__"))=ύ)
  (I:Inv X π σ w.H s) (S:aW X.K w) (eo:cg X.K w env σ) (he:env[i]?=ϊ (ϊ (.dA f vs ds))) (h:Out X.K (gB X.mg E) w (th w.aN) λw' d=>∀v,DV X.K w' d v->Q v w'.H) :
  ë (ê X.prog X.w) X.A (Ħ (.Call (.Name x p) [] [] pos) X.env) (EP X π σ Q) (AQ X π σ E) s:=by
 obtain⟨P,fd,⟨o,O,M⟩,L,F⟩:=T;let(v,e1,e2):=eo.val i _ he;let(rfl,J):=e2;refine PySem.wpAny_Call_Name_kw ?_;have V:=(E4 (X:=X.ie λe R=>AQ X π σ E e R) (pos:=p) hN hv hd fe π s σ _ (λv G=>v=.ref f/\G=w.H) (I.ie _) #[_,e1,rfl,rfl]);refine aQ V λu U V=>?_;let(v,z,Z,r,rfl,rfl):=V;have Z:=Z.ou;subst r;have D:∀h,h.get? f=ϊ o->∃k,(k=Keeper.frame\/k=Keeper.machine\/k=Keeper.boundFrame)/\Looks (ê X.prog X.w) h (keeperOf (.ref f)) k:=λh e=>by
  let(y,t,C,os):=o;cases M;exact#[_,.inl rfl,(Looks.ld e).andThen .now]
 refine PySem.W.callWith_of rfl D (PyProof.Rows.evalArgs_nil3 #[Z.bk _ _ O,?_]);refine agi (ń (F.run _ _ U _ _ _ _ Q E hr Z.lg (L U _ Z.gb rfl) .nil #[rfl,P _ _ (λb o u e=>Z.base.fQ b o u e) h0,w,rfl,S,J,h]) λr R Y=>?_)
 cases r with
 |error e=>exact#[_,U,Z,Y]
 |ok B =>
  cases B with
  |ret u=>exact Z.after Y
  |next=>exact ĉ Y
  |brk=>exact ĉ Y
  |cont=>exact ĉ Y
end
end DI
namespace L2
open PySem PySem.Spec PySem.Calls PyProof.Rows PySem.W PySem.Builtin PySem.Builtin.ObjectAttr PySem.Builtin.Getset_descriptor
section
variable {prog:ø} {w:Ĭ} {A:đ} {E:ã->Ý->Prop} {s:Ý} {K:Ň} {x C:þ}
noncomputable def pY (K:Ň) (C:þ):Bool:=(findIn K (.ref C) "__getattribute__"==ϊ (ϊ (.builtin "BaseException.__getattribute__")))&&(findIn K (.ref C) "__getattr__"==ϊ ϋ)&&(clsIn K C).isSome&&(findIn K (.ref C) "__class__"==ϊ (ϊ (.builtin "object.__class__")))&&(specialIn K (.builtin "object.__class__") "__get__"==ϊ (ϊ (.builtin "getset_descriptor.__get__")))&&(takesIn K (.builtin "object.__class__")==ϊ ό)&&(mroIn K C (.type "object")==ϊ ό)&&(mroIn K C (.type "BaseException")==ϊ ό)
def ach {M:Model} {QP:ã} {Q:Unit->Ý->Prop} (LT:Looks M s.heap (typeOf (.ref x)) (.ref C)) (M5:Looks M s.heap (isSubtype (.ref C) (.type "BaseException")) ό) (hq:Q () s):ë M A (agZ "BaseException.__getattribute__" #[[.ref x,QP],[]]) Q E s:=by
 have Y:builtinKind "BaseException.__getattribute__"=ϊ .slot:=nofun
 have Z:splitId "BaseException.__getattribute__"=ϊ ("BaseException","__getattribute__"):=nofun
 have X:=F.args_bexc_ga (.ref x) QP;erw[agZ,Y,Z];refine À ?_;delta isInstance
 repeat (first|with_reducible refine LT.at ?_|with_reducible refine M5.at ?_|wp_step)
 exact hq
def cls_read {Q:Option ã->Ý->Prop} (X:K.In s.heap) (LT:Looks (ê prog w) s.heap (typeOf (.ref x)) (.ref C)) (hc:pY K C=ό) (h:Q (ϊ (.ref C)) { s with toks:=s.toks+1 }) :
  ë (ê prog w) A (getAttr? (.ref x) "__class__") Q E s:=by
 delta pY at hc;erw[Â,beq_iff_eq] at hc;obtain⟨⟨⟨⟨⟨⟨⟨Y,W⟩,_⟩,V⟩,U⟩,T⟩,S⟩,R⟩:=hc;let(Z,g,d,t,os):=s;have M1:=looks_findIn (M:=ê prog w) X Y;have M2:=looks_findIn (M:=ê prog w) X W;have P:Looks (ê prog w) Z (find (.ref x) (.ref C) "__class__") (.bind (.builtin "getset_descriptor.__get__") (.builtin "object.__class__")) :=
  (looks_findIn X V).andThen ((looks_specialIn X U).andThen ((show Looks (ê prog w) Z (dataDescriptor? (ϊ (.builtin "object.__class__")) (ϊ (.builtin "getset_descriptor.__get__"))) (ϊ (.builtin "getset_descriptor.__get__",.builtin "object.__class__")) from (looks_takesIn X T).andThen .now).andThen (Looks.tag .now)))
 have L:=looks_mroIn (M:=ê prog w) X S;have O:=looks_mroIn (M:=ê prog w) X R;have N:=F.attr_ValueError.ga.bind (.ref x);delta getAttr? getAttrBy? getAttrBy;refine À (wpAny_mkText (À (Ů (Ć (À (LT.at (À (M1.at ?_))))))));show ë _ _ (getAttrByItsOwn (.ref x) _ (.ref C) (.builtin "BaseException.__getattribute__") ύ ύ) _ _ _;delta getAttrByItsOwn;refine À (M2.at (À (Ů (Ć ?_))));show ë _ _ (boundAndCalled (.builtin "BaseException.__getattribute__") (.ref x) _) _ _ _;delta boundAndCalled;rw[N];refine À (Ä (agi (ţ F.attr_ValueError.ga.plain F.entry_bexc_ga ?_)));refine ach LT O ?_;delta ż.«object.__getattribute__»;rw[show slotArgs "__getattribute__" 1 #[[.ref x]++[.str "__class__" t],[]]=pure (.ref x,[.str "__class__" t]) from rfl];refine À (Ä ?_);dsimp only;rw[show attrName (.str "__class__" t)=pure ("__class__":Str) from rfl];refine À (Ä (À (LT.at (À (P.at ?_)))));show ë _ _ (ω [Value.builtin "object.__class__"] (call (.builtin "getset_descriptor.__get__") [.builtin "object.__class__",.ref x,.ref C]) >>= ret) _ _ _;refine À (Ć (agi ?_));refine ţ KF.slot_gs.plain KF.entry_gs (KF.slot_gs.check _ _ _ _ _ _ _ _ KF.type_class (KF.args_gs _ _ _) ?_);delta ż.«getset_descriptor.__get__» descrGet;rw[dga_obj];refine À (Ä ?_);delta descrGetter descrCheckInstance descrNameAndClass isInstance;erw[KF.owner_class]
 repeat lk
 refine#[agx _ nofun,Ń KF.entry_class ?_];delta ż.«object.__class__» shownTypeOf
 repeat lk
 exact h
def YC (ho:o.cls=.ref C) (hc:pY K C=ό):KitX K (.ref x) (.ref C) (λh=>h.get? x=ϊ o) where
 ty:=λM h _ e=>ho ▸ (Looks.ld e).andThen .now
 it:=λM h X _=>by
  delta pY at hc;erw[Â] at hc;have z:=hc.1.1.1.1.1.2;delta clsIn at z;split at z
  .rename_i q
   intro Y W V U k r;exact À (wpAny_loadPart (k _ _ (X _ _ q)) (Ä r))
  .cases z
 ne:=λh T S ak n sl X Z=>by
  delta pY at hc;erw[Â] at hc;have z:=hc.1.1.1.1.1.2;refine Bool.eq_false_iff.mpr λq=>?_;have e:=Value.ref.inj (beq_iff_eq.mp q);subst e;delta clsIn at z;split at z
  .rename_i r
   have z:=(X _ _ r).symm.trans Z;cases z
  .cases z
 ca:=λX e k=>cls_read X (ho ▸ (Looks.ld e).andThen .now) hc k
end
end L2
namespace DI
open PySem L2 PySem.W
def fx (cs:List Str) (yes:Str->Bool) (d:D) (s:ag):Res D:=match d with
 | .ax=>ok (.bl ύ) s
 | .exc c _=>if ώ (c∈cs)=ό then ok (.bl (yes c)) s else ϋ
 |_=>ϋ
def ui (K:Ň) (cs:List Str) (T:ã) (yes:Str->Bool):Prop:=kitOne K (.type "NoneType") T=ϊ ύ/\∀c∈cs,∃C,nsIn K Ð c=ϊ (ϊ (.ref C))/\pY K C=ό/\kitOne K (.ref C) T=ϊ (yes c)
section
variable {X:Cx} {Ξ:Wd->bw->Prop} {a:ŕ} {pos:Pos} {f:ahv D}
def acj {yes} (hc:ui X.K cs T yes) {vT} (hT:∀u,RelV vT u->u=T):dB X (.builtin "isinstance") (λxs H Q=>∃(w:Wd) (d:D) (x:V),w.H=H/\aW X.K w/\DV X.K w d x/\xs=[x,vT]/\Out X.K Ξ w (fx cs yes d w.aN) λw' d=>∀v,DV X.K w' d v->Q v w'.H):=by
 intro A s σ H y N Q I r qz;let(w,d,x,rfl,S,P,rfl,h):=qz;obtain⟨W,Y,U,Z⟩:∃W,RelV x W/\∃U,N=[W,U]/\RelV vT U:=by
  cases r with
  |cons Y Z=>cases Z with|cons Z M=>cases M;exact#[_,Y,_,rfl,Z]
 let(rfl,Z):=Z;cases hT _ Z
 cases d with
 |ax =>
  have e:=P;subst e;have e:=Y;subst e;exact kia_one kitx_none I.gb trivial hc.1 (by intro z;cases z) λR=>#[.bl ύ,_,I.tok R,rfl,aI S h _ rfl]
 |exc c _ =>
  obtain⟨b,o,C,rfl,L,⟨J,G⟩,_⟩:=P;have e:=Y;subst e;delta fx at h;dsimp only at h;split at h
  .rename_i F
   let(t,O,E,B):=hc.2 c (á F);rw[G] at O;cases O;exact kia_one (YC J E) I.gb (I.aK b _ L.2).1 B (by intro z;cases z) λR=>#[.bl _,_,I.tok R,rfl,aI S h _ rfl]
  .exact h.elim
 |_=>exact h.elim
def PC {yes} {vT} {cn} {p np} (hc:ui X.K cs T yes) (hT:∀u,RelV vT u->u=T) (h1:PE X (.Name cn np) (tC vT)) (ha:PE X a (tE X.K Ξ f)) (hm:X.mg "isinstance"=ϋ) (hv:ü "isinstance"=ϊ (.builtin "isinstance")) (hg:Gl X "isinstance":=by rfl)
  (hs:É [a,.Name cn np] X.env=(ύ,Ħ a X.env)::É [.Name cn np] X.env:=by rfl) (gO:É [.Name cn np] X.env=(ύ,Ħ (.Name cn np) X.env)::É [] X.env:=by rfl) (bM:(Ġ pos (É [.Name cn np] X.env)).any (·.1)=ύ:=by rfl) :
  PE X (.Call (.Name "isinstance" p) [a,.Name cn np] [] pos) (tE X.K Ξ (e1 (fx cs yes) f)) :=
 cE (DF (acj hc hT) hg hm hv (jY ha (jY h1 kP gO) hs) (by decide) (by decide) hs bM) fun σ H Q Z=>by
  let(w,env,Y,S,W,h):=Z;subst Y;exact#[w,env,rfl,S,W,(Out.ai h).mono λV x P U h1 v1 R=>#[V,x,v1,rfl,U,R,rfl,h1]]
end
open PyProof.Rows PySem.SeqAt
def Hf (d:D) (s:ag):Res D:=match d with
 | .lst Z=>match i7 Z with
  |some bs=>ok (.int (bs.count ό)) s
  |none=>ϋ
 |_=>ϋ
def IT (d:D) (s:ag):Res D:=match d with
 | .lst Z=>match i7 Z with
  |some bs=>if (ώ (bs.idxOf ό<bs.length)&&ώ (bs.length<=100))=ό then ok (.int (bs.idxOf ό)) s else ϋ
  |none=>ϋ
 |_=>ϋ
theorem QQ:∀(bs:List Bool) m h,m<bs.idxOf ό->bs[m]=ύ
 | [],m,h,_=>absurd h (ahd _)
 |true::r,m,h,g=>by simp at g
 |false::r,0,h,g=>rfl
 |false::r,m+1,h,g=>by
  have e:(ύ::r).idxOf ό=r.idxOf ό+1:=by rw[List.idxOf_cons];rfl
  exact QQ r m (by simpa using h) ⋯
noncomputable def vn:ã->Bool
 | .bool b=>b
 |_=>ύ
theorem Dv:∀{bs:List Bool} {ak},Vals (bs.map V.bl) ak->ak=bs.map agh
 | [],_,.nil=>rfl
 |b::r,_,.cons e t=>by
  rw[e,Dv t];rfl
theorem Ol:∀bs:List Bool,(bs.map agh).countP vn=bs.count ό
 | []=>rfl
 |b::r=>by
  rw[Û,List.countP_cons,List.count_cons,Ol r]
  cases b<;>rfl
def PD {bs:List Bool} (y) (hy:y∈(bs.map agh).toArray):EqAt A s y (.bool ό) (vn y):=by
 have hy:y∈bs.map agh:=by simpa using hy
 let(b,_,rfl):=ï.mp hy;have h:=EqAt.bool_bool (A:=A) (s:=s) b ό
 cases b<;>exact h
section
variable {X:Cx} {Ξ:Wd->bw->Prop} {o:ŕ} {f:ahv D} {p apos bh:Pos} {j:Nat}
def YD:vE X "list.count" (λx xs H Q=>∃(a:þ) (bs:List Bool),x=.ref a/\xs=[.bl ό]/\bV X.K H a (bs.map V.bl)/\Q (.int (bs.count ό)) H):=by
 intro G s σ H x xs v Y Q I W U qz;let(a,bs,rfl,rfl,T,h):=qz;have e:=W;subst e;obtain⟨u,rfl,rfl⟩:∃u,Y=[u]/\u=agh ό:=by
  cases U with|cons S R=>cases R;exact#[_,rfl,S]
 let(ak,P,O,_):=I.list T;cases Dv P;obtain⟨⟨cls,N,data,sl⟩,n,Z,M,_,L⟩:=O;subst M L;refine Ŧ PySem.F.slot_list_count #[_,Z,rfl] PySem.F.entry_list_count (PySem.F.args_list_count_2 ..) (list_countAt a _ n N sl _ vn) #[Z,λy J=>PD y J,?_];rw[Ol];exact#[.int _,H,I.tok _,#[_,rfl],h]
def YE:vE X "list.index" (λx xs H Q=>∃(a:þ) (bs:List Bool),x=.ref a/\xs=[.bl ό]/\bV X.K H a (bs.map V.bl)/\bs.idxOf ό<bs.length/\bs.length<=100/\Q (.int (bs.idxOf ό)) H):=by
 intro B s σ H x xs v W Q I U T qz;let(a,bs,rfl,rfl,S,R,A,h):=qz;have e:=U;subst e;obtain⟨u,rfl,rfl⟩:∃u,W=[u]/\u=agh ό:=by
  cases T with|cons P O=>cases O;exact#[_,rfl,P]
 let(ak,N,M,_):=I.list S;cases Dv N;obtain⟨⟨cls,L,data,sl⟩,n,Z,J,_,G⟩:=M;subst J G;have sz:(bs.map agh).toArray.size=bs.length:=by simp
 refine Ŧ PySem.F.slot_list_index #[_,Z,rfl] PySem.F.entry_list_index (PySem.F.args_list_index_2 ..) (list_indexAt a _ n L sl _ vn _ (by rw[sz];exact R) ⋯ ?_ ?_) #[Z,λy E=>PD y E,?_]
 .simp[vn,List.getElem_idxOf]
 .intro m Y D
  have C:=QQ bs m (by rw[sz] at Y;exact Y) D;simp[vn,C]
 .exact#[.int _,H,I.tok _,#[_,rfl],h]
def ack (ho:PE X o (tE X.K Ξ f))
  (iC:ĭ o "count" X.env (Ħ o X.env)=Ħ o X.env:=by rfl)
  (kl:((Ġ bh (É [.Constant (.bool ό) j p] X.env)).all (λx=>!x.1)&&(ž bh (ŀ [] X.env)).all (λx=>x.1.isSome)
   && ώ (([.Constant (.bool ό) j p]:List ŕ).length+([]:List Ź).length+(if ([]:List Ź).isEmpty then 0 else 1)<30))=ό:=by rfl)
  (iD:(apos.endLine==bh.line)=ό:=by rfl) (hs:É [.Constant (.bool ό) j p] X.env=(ύ,Ħ (.Constant (.bool ό) j p) X.env)::É [] X.env:=by rfl) (ix:(Ġ bh (É [] X.env)).any (·.1)=ύ:=by rfl) :
  PE X (.Call (.Attribute o "count" apos) [.Constant (.bool ό) j p] [] bh) (tE X.K Ξ (e1 Hf f)) :=
 cE (uJ œ PySem.F.slot_list_count PySem.F.type_list_count YD ho (jY FE kP hs) iC kl iD hs ix) fun σ H Q W=>by
  let(w,env,V,S,U,h):=W;subst V;refine#[w,env,rfl,S,U,(Out.ai h).mono λO d N T Z v R=>?_]
  cases d with
  |lst M =>
   delta Hf at Z;dsimp only at Z;split at Z
   .rename_i bs P
    let(a,L,rfl,Y,r):=R;cases xh P;cases r.wM;exact#[.inl #[rfl,_,Y.sq],a,bs,rfl,rfl,Y.sq,aI T Z _ rfl]
   .exact Z.elim
  |_=>exact Z.elim
def aef (ho:PE X o (tE X.K Ξ f))
  (iC:ĭ o "index" X.env (Ħ o X.env)=Ħ o X.env:=by rfl)
  (kl:((Ġ bh (É [.Constant (.bool ό) j p] X.env)).all (λx=>!x.1)&&(ž bh (ŀ [] X.env)).all (λx=>x.1.isSome)
   && ώ (([.Constant (.bool ό) j p]:List ŕ).length+([]:List Ź).length+(if ([]:List Ź).isEmpty then 0 else 1)<30))=ό:=by rfl)
  (iD:(apos.endLine==bh.line)=ό:=by rfl) (hs:É [.Constant (.bool ό) j p] X.env=(ύ,Ħ (.Constant (.bool ό) j p) X.env)::É [] X.env:=by rfl) (ix:(Ġ bh (É [] X.env)).any (·.1)=ύ:=by rfl) :
  PE X (.Call (.Attribute o "index" apos) [.Constant (.bool ό) j p] [] bh) (tE X.K Ξ (e1 IT f)) :=
 cE (uJ œ PySem.F.slot_list_index PySem.F.type_list_index YE ho (jY FE kP hs) iC kl iD hs ix) fun σ H Q V=>by
  let(w,env,U,S,T,h):=V;subst U;refine#[w,env,rfl,S,T,(Out.ai h).mono λN d M R Z v P=>?_]
  cases d with
  |lst L =>
   delta IT at Z;dsimp only at Z;split at Z
   .rename_i bs O
    split at Z
    .rename_i Y
     rw[Â,Å,Å] at Y;let(a,J,rfl,W,r):=P;cases xh O;cases r.wM;exact#[.inl #[rfl,_,W.sq],a,bs,rfl,rfl,W.sq,Y.1,Y.2,aI R Z _ rfl]
    .exact Z.elim
   .exact Z.elim
  |_=>exact Z.elim
end
end DI
namespace L2
open PySem PySem.Spec PyProof.Rows PySem.W
end L2
namespace DI
open PySem L2 PySem.W
def QR {K} {mg} {base} {x} {st} {f c T} {fd} {ps} {k} {b} (G:Gd K mg x st ps f fd) (hx:nsIn K Ð x=ϊ (ϊ (.ref f))) (ht:tabIn K x=ϊ (c,T)) (N) (S:qh N ps (cJ st)=ό)
  (hb:N.Nodup->∀A outer s H E,bK k (A.deeper (ĸ x (cJ st) s.heap.objs.size f (.ref c)))->dW (iI fB P w K mg base N x (cJ st) f (.ref c) A outer s H E).oZ (gU st) (tS K cU b)) :
  dg P w K mg base fB (k+1) f fd ps (mO K (aJ ps.length N.length b)):=by
 let(D,C,kV,doc,pm,an,X,ct,B,rfl,lk,V):=G.fn.ex;have U:X=.ref c:=by
  delta tabIn at ht;rw[hx] at ht;dsimp only at ht;rw[lk] at ht
  cases X with
  |ref z =>
   dsimp only at ht;split at ht
   .split at ht
    .cases ht;rfl
    .cases ht
   .cases ht
  |_=>cases ht
 subst U;refine Ba lk V (kR S) (λR H Q E h=>?_) λA outer s H R Q E O h=>?_
 .let(w,M,rfl,S,Y,h):=h
  rw[<- Y.length];delta aJ at h;split at h
  .assumption
  .exact h.elim
 .let(L,M,rfl,J,Y,h):=h
  refine#[_,(hb (kR S).nd A outer s _ E O).oZ,?_];delta aJ at h;split at h
  .rename_i I
   rw[<- I] at h;refine#[L,_,rfl,J,Y.env _,(Out.ai h).mono λy F v W Z=>?_]
   cases F with
   |nx env=>intro u _;exact aI W Z _ rfl
   |rt d=>have q:=aI W Z;exact q
   |bk env=>exact Z.elim
   |ct env=>exact Z.elim
  .exact h.elim
def UG:ü "ValueError"=ϊ (.type "ValueError"):=nofun
noncomputable def isNm (n c:Str):Bool:=ώ (c=n)
noncomputable def anyS (_:Str):Bool:=ό
abbrev lK (P:ø) (w:Ĭ) (K:Ň) (mg:Str->Option ã) (base:ū) (x:Str) (st:Stmt) (ps:List Str) (k:Nat) (fn:List D->ag->Res D):Prop:=∀{f} {fd},Gd K mg x st ps f fd->dg P w K mg base (fV P w) k f fd ps (nU mg K fn)
def gC (K:Ň) (mg:Str->Option ã) (cs:List Str) (n:Str):Prop:=∃C,mg n=ϊ (.ref C)/\ui K cs (.ref C) (isNm n)
def SV (K:Ň) (mg:Str->Option ã) (cs:List Str) (n:Str):Prop:=∃Z,mg n=ϊ (.ref Z)/\∀c∈cs,∃C,nsIn K Ð c=ϊ (ϊ (.ref C))/\mg c=ϊ (.ref C)/\exmOne K (.ref C) (.ref Z)=ϊ ό
section
variable {X:Cx} {E:XK} {Ξ:Wd->bw->Prop} {e a b c:ŕ} {es rest:List ŕ} {pos:Pos} {f g h:ahv D} {fa:ahv (List D)}
def kf {x} {st} {ps} {fn} {p} (G:GG X.K X.mg x st ps) (F:lK X.prog X.w X.K X.mg X.base x st ps k fn) (L:Passes (fV X.prog X.w) X E) (hr:bK n X.A) (ha:PA X (e::es) (tA X.K (gB X.mg E) fa)) (hk:k<=n:=by decide) (hg:Gl X x:=by rfl) (dq:(x==("__debug__"))=ύ:=by decide)
  (he:É (e::es) X.env=(ύ,Ħ e X.env)::É es X.env:=by rfl) (bM:(Ġ pos (É es X.env)).any (·.1)=ύ:=by rfl):PE X (.Call (.Name x p) (e::es) [] pos) (tE X.K (gB X.mg E) (eG fn fa)):=by
 let(f,fd,G):=G;exact aah L (F G) (hr.mono hk) hg G.mg G.fn.kp G.b ha dq he bM
def FV {x} {st} {ps} {fn} {p} (G:GG X.K X.mg x st ps) (F:lK X.prog X.w X.K X.mg X.base x st ps k fn) (hr:bK n X.A) (ha:PA X (e::es) (tA X.K Ξ fa)) (hk:k<=n:=by decide) (hg:Gl X x:=by rfl) (dq:(x==("__debug__"))=ύ:=by decide)
  (he:É (e::es) X.env=(ύ,Ħ e X.env)::É es X.env:=by rfl) (bM:(Ġ pos (É es X.env)).any (·.1)=ύ:=by rfl):PE X (.Call (.Name x p) (e::es) [] pos) (tE X.K Ξ (aC fn fa)):=by
 let(f,fd,G):=G;exact aai (F G) (hr.mono hk) hg G.mg G.fn.kp G.b ha dq he bM
def gW {p np} (hc:gC X.K X.mg cs cn) (ha:PE X a (tE X.K Ξ f)) (hm:X.mg "isinstance"=ϋ) (hg:Gl X "isinstance":=by rfl) (IU:Gl X cn:=by rfl) (hd:(cn==("__debug__"))=ύ:=by decide)
  (hs:É [a,.Name cn np] X.env=(ύ,Ħ a X.env)::É [.Name cn np] X.env:=by rfl) (gO:É [.Name cn np] X.env=(ύ,Ħ (.Name cn np) X.env)::É [] X.env:=by rfl) (bM:(Ġ pos (É [.Name cn np] X.env)).any (·.1)=ύ:=by rfl) :
  PE X (.Call (.Name "isinstance" p) [a,.Name cn np] [] pos) (tE X.K Ξ (e1 (fx cs (isNm cn)) f)):=by
 let(C,Z,h):=hc;exact PC (vT:=.ref C) h (λu r=>r) (Ej IU Z rfl hd) ha hm n9 hg hs gO bM
def acm {p np} (hc:ui X.K cs (.type "ValueError") anyS) (ha:PE X a (tE X.K Ξ f)) (hm:X.mg "isinstance"=ϋ) (hmV:X.mg "ValueError"=ϋ) (hg:Gl X "isinstance":=by rfl) (IU:Gl X "ValueError":=by rfl)
  (hs:É [a,.Name "ValueError" np] X.env=(ύ,Ħ a X.env)::É [.Name "ValueError" np] X.env:=by rfl) (gO:É [.Name "ValueError" np] X.env=(ύ,Ħ (.Name "ValueError" np) X.env)::É [] X.env:=by rfl) (bM:(Ġ pos (É [.Name "ValueError" np] X.env)).any (·.1)=ύ:=by rfl) :
  PE X (.Call (.Name "isinstance" p) [a,.Name "ValueError" np] [] pos) (tE X.K Ξ (e1 (fx cs anyS) f)) :=
 PC (vT:=.ty _) hc (λu r=>r) (NT IU hmV UG rfl) ha hm n9 hg hs gO bM
end
def ni (K:Ň) (cs asked:List Str) (j6:Str):Bool :=
 cs.all (λc=>match nsIn K Ð c with
  |some (ϊ (.ref C))=>excIn K C [.type "ValueError",.type "Exception",.type "BaseException",.type "object"] "ValueError.__new__"&&pY K C&&(kitOne K (.ref C) (.type "ValueError")==ϊ ό) &&
   (match nsIn K Ð j6 with|some (ϊ (.ref Z))=>exmOne K (.ref C) (.ref Z)==ϊ ό | _=>ύ) &&
   asked.all (λn=>match nsIn K Ð n with|some (ϊ (.ref A))=>kitOne K (.ref C) (.ref A)==ϊ (isNm n c) | _=>ύ)
  |_=>ύ) &&
 asked.all (λn=>match nsIn K Ð n with|some (ϊ (.ref A))=>kitOne K (.type "NoneType") (.ref A)==ϊ ύ | _=>ύ)&&(kitOne K (.type "NoneType") (.type "ValueError")==ϊ ύ) &&
 (match nsIn K Ð j6 with|some (ϊ (.ref _))=>ό | _=>ύ)
noncomputable def AR (K:Ň) (x:Str):Bool:=match tabIn K x with
 |some (c,P)=>codeHdIn K c P&&(K.lookup P).isNone
 |none=>ύ
def Om (h:AR K x=ό):∃c P,tabIn K x=ϊ (c,P)/\codeHdIn K c P=ό/\K.lookup P=ϋ:=by
 delta AR at h;split at h
 .rename_i c P e
  rw[Â] at h;exact#[c,P,e,h.1,af7.mp h.2]
 .cases h
def xn {p:þ->Bool} (h:(match nsIn K Ð x with|some (ϊ (.ref C))=>p C | _=>ύ)=ό):∃C,nsIn K Ð x=ϊ (ϊ (.ref C))/\p C=ό:=by
 split at h
 .rename_i C e
  exact#[C,e,h]
 .cases h
section
variable {K:Ň} {cs asked:List Str} {j6:Str} {h:ū} {mg:Str->Option ã}
def x_at (f:ni K cs asked j6=ό) {c} (hc:c∈cs):∃C,nsIn K Ð c=ϊ (ϊ (.ref C))/\excIn K C [.type "ValueError",.type "Exception",.type "BaseException",.type "object"] "ValueError.__new__"=ό/\pY K C=ό/\kitOne K (.ref C) (.type "ValueError")=ϊ ό /\
  (∃CM,nsIn K Ð j6=ϊ (ϊ (.ref CM))/\exmOne K (.ref C) (.ref CM)=ϊ ό)/\∀n∈asked,∃A,nsIn K Ð n=ϊ (ϊ (.ref A))/\kitOne K (.ref C) (.ref A)=ϊ (isNm n c):=by
 delta ni at f;erw[Â] at f;let(C,e,q):=xn (Þ.mp f.1.1.1 c hc);erw[Â,beq_iff_eq] at q;obtain⟨⟨⟨⟨X,W⟩,V⟩,Z⟩,Y⟩:=q;let(CM,U,Z):=xn Z;refine#[C,e,X,W,V,#[CM,U,beq_iff_eq.mp Z],λn T=>?_];let(A,S,Y):=xn (Þ.mp Y n T);exact#[A,S,beq_iff_eq.mp Y]
def qi (X:K.In h) (G:h.Ns Ð mg) (f:ni K cs asked j6=ό) {c} (hc:c∈cs):nH K mg c:=by
 let(C,e,q,_):=x_at f hc;exact#[C,e,mg_of X G e,q]
def afL (X:K.In h) (G:h.Ns Ð mg) (f:ni K cs asked j6=ό):SV K mg cs j6:=by
 have Z:=f;delta ni at Z;erw[Â] at Z;let(Y,e,_):=xn Z.2;refine#[Y,mg_of X G e,λc W=>?_];obtain⟨C,e1,_,_,_,⟨V,e2,q⟩,_⟩:=x_at f W;rw[e] at e2;cases e2;exact#[C,e1,mg_of X G e1,q]
def gY (X:K.In h) (G:h.Ns Ð mg) (f:ni K cs asked j6=ό) {n} (hn:n∈asked):gC K mg cs n:=by
 have Z:=f;delta ni at Z;erw[Â] at Z;let(A,e,q):=xn (Þ.mp Z.1.1.2 n hn);refine#[A,mg_of X G e,beq_iff_eq.mp q,λc Y=>?_];let(C,e1,_,W,_,_,V):=x_at f Y;let(T,e2,U):=V n hn;rw[e] at e2;cases e2;exact#[C,e1,W,U]
def aeg (f:ni K cs asked j6=ό):ui K cs (.type "ValueError") anyS:=by
 have Z:=f;delta ni at Z;erw[Â,beq_iff_eq] at Z;refine#[Z.1.2,λc Y=>?_];let(C,e1,_,X,W,_):=x_at f Y;exact#[C,e1,X,W]
end
end DI
namespace L2
open PySem PySem.Spec PyProof.Rows PySem.W
structure iH (k) (A:đ):Prop where
 dp:A.depth+3*k+5<recursionLimit
 un:A.units+16*k+200<cLine
def bK.h {A} (r:bK k A):iH k A:=#[r.dp,r.un]
def iH.mono {j k} {A} (r:iH k A) (h:j<=k):iH j A:=#[by have:=r.dp;omega,by have:=r.un;omega]
theorem iH.deeper {A} (r:iH (k+1) A) (env):iH k (A.deeper env) :=
 #[by have:=r.dp;show A.depth+1+3*k+5 < _;omega,by have:=r.un;show A.units+3+16*k+200 < _;omega]
theorem iH.depth {A} (r:iH k A):A.depth<recursionLimit:=by have:=r.dp;omega
def iH.held {A} (r:iH k A) (v):iH k (A.mark v):=#[r.dp,r.un]
structure Bf (P) (w) (K) (mg) (base) (k) (f) (fd) (ps:List Str) (sp:Sp):Prop where
 len:∀vs H Q E,sp vs H Q E->vs.length=ps.length
 run:∀A outer s H args us vs Q E,iH k A->oO P w K mg base A outer s H->BindsTo s fd args (ps.zip us)->Vals vs us->sp vs H Q E ->
  Ÿ (ê P w) A (.call (.ref f) args) (CR fB outer P w H s Q E) s
noncomputable abbrev _root_.PySem.Around.Bg (A:đ):đ:={ A with handled:=ϋ }
noncomputable abbrev Cx.loud (X:Cx) (A:đ):Cx:={ X with A:=A,calm:=ύ,xe:=λ_ _=>False }
theorem Inv.loud {π} {σ:St} {H} {s} (I:Inv X π σ H s) (A) (h:A.frames=X.A.frames):Inv (X.loud A) π σ H s:=by
 obtain⟨⟨a1,a2,Z,Y,W,V,U,T,v,S,R,Q,P,O,N,M,L,K⟩,J,G,F,E,D,C,B,y,x,w⟩:=I;exact#[#[a1,a2,Z,Y,W,V,U,T,λz=>absurd z Ú,h.trans S,R,Q,P,O,N,M,L,K],J,G,F,E,D,C,B,y,x,w]
def acn {K} {mg} {base} {k} {f} {name qual} {params} {body} {scope} {dV kV doc pm bo ct oc} {an od}
  {jP} {N ps} {sp} (lk:K.lookup f=ϊ #[oc,od,.func (Ŕ name qual params body scope dV kV doc pm an bo ct),jP]) (fe:adM K bo qual=ό) (S:ue N ps scope)
  (len:∀vs H Q E,sp vs H Q E->vs.length=ps.length)
  (ma:∀(A:đ) outer s H vs Q E,iH k (A.deeper (envOfC qual scope s.heap.objs.size f bo))->sp vs H Q E ->
   ∃t,dW ((iI fB P w K mg base N qual scope f bo A.Bg outer s H E).loud (A.deeper (envOfC qual scope s.heap.objs.size f bo))) body t/\t { nx:=λ_ H'=>Q .ax H',rt:=Q } (start N vs) H) :
  Bf P w K mg base (k+1) f (Ŕ name qual params body scope dV kV doc pm an bo ct) ps sp:=by
 refine#[len,λA outer s H args n vs Q E R Z L r O=>?_];have G:=len _ _ _ _ O;have M:=Z.mod.lu.keeps λb o e=>(Z.bs b o e).1;have lim:=Z.mod.nolimit.keeps λb o e=>(Z.bs b o e).1;refine codeAny_call_function R.depth (M _ _ lk) rfl S.co S.gen rfl (PySem.W.codeRec_of M fe) (L _ _ _ _ ?_);refine wpAny_newFunctionEnv_cells S.kind (λy F=>?_) λenv D C x=>?_
 .rcases S.par _ (ag4 F).1 with q|q
  .exact .inl q
  .exact .inr #[q,ź _ _ _ (.inl q)]
 subst D;refine#[lim.keeps x.toInCall.keep,codeAny_func ?_];let(t,B,z):=ma A outer s H vs Q E (R.deeper _) O;have I:=(L9 (CX:=fB) (A:=A.Bg) (E:=E) S rfl #[Z.frames,Z.mod,Z.bs,Z.jq,Z.jj,Z.mE,Z.aK,Z.bare] G r x).loud (A.deeper _) rfl;refine ė (B C _ H _ I z) (λp U Y=>?_) λe U Y=>Y.elim;have fin:∀{X} {H'} {v} {u},Inv ((iI fB P w K mg base N qual scope f bo A.Bg outer s H E).loud (A.deeper (envOfC qual scope s.heap.objs.size f bo))) [] X H' U->RelV v u->Q v H'->CE outer P w H s Q u U :=
  λ{X H' v u} J T q=>#[v,H',J.os,J.bare,J.base,J.aK,T,q]
 cases p with
 |ret u=>let(v,X,H',J,T,q):=Y;exact fin J T q
 |next=>let(X,H',J,q):=Y;exact fin (v:=V.ax) J rfl q
 |brk=>let(_,_,_,q):=Y;exact q.elim
 |cont=>let(_,_,_,q):=Y;exact q.elim
section
variable {X:Cx} {k:Nat} {f:þ} {fd:FuncData} {ps:List Str} {sp:Sp} {E:XK} {x:Str} {p pos:Pos} {e:ŕ} {es:List ŕ} {t:TA}
def YF (F:Bf X.prog X.w X.K X.mg X.base k f fd ps sp) (hr:iH k X.A) (hg:Gl X x) (hm:X.mg x=ϊ (.ref f)) (hk:ľ X.K (.ref f)=ό) (hb:Binds X.K fd ps [])
  (ha:PA X (e::es) t) (dq:(x==("__debug__"))=ύ:=by decide) (he:É (e::es) X.env=(ύ,Ħ e X.env)::É es X.env:=by rfl) (bM:(Ġ pos (É es X.env)).any (·.1)=ύ:=by rfl) :
  PE X (.Call (.Name x p) (e::es) [] pos) (Qm sp [] E0 t):=by
 intro T s σ H Q I h;refine Ŝ (qZ I hg hm ?_ dq);refine ags I.ok.mod.lu hk (aQ (ha pos T s σ H _ I h) λW V ⟨O,S,Y,r,q⟩=>#[Y.gb,?_]) he bM;have U:=r.append .nil;have R:(W++[]).length=ps.length:=by rw[<- U.length];exact F.len _ _ _ _ q
 refine agi (ń (F.run _ _ V S _ _ _ Q E0 hr Y.lg (hb V W Y.gb R) U q) λr N Z=>?_)
 cases r with
 |error e=>exact ĉ Z
 |ok P =>
  cases P with
  |ret u=>exact Y.after Z
  |next=>exact ĉ Z
  |brk=>exact ĉ Z
  |cont=>exact ĉ Z
end
end L2
namespace DI
open PySem L2 PySem.W
abbrev SW (P:ø) (w:Ĭ) (K:Ň) (mg:Str->Option ã) (base:ū) (x:Str) (st:Stmt) (ps:List Str) (k:Nat) (fn:List D->ag->Res D):Prop:=∀{f} {fd},Gd K mg x st ps f fd->Bf P w K mg base k f fd ps (mO K fn)
def aeh {K} {mg} {base} {x} {st} {f} {fd} {ps} {k} {b} (G:Gd K mg x st ps f fd) (N) (S:qh N ps (cJ st)=ό)
  (hb:N.Nodup->∀bo (A:đ) outer s H E,iH k (A.deeper (ĸ x (cJ st) s.heap.objs.size f bo))->dW ((iI fB P w K mg base N x (cJ st) f bo A.Bg outer s H E).loud (A.deeper (ĸ x (cJ st) s.heap.objs.size f bo))) (gU st) (tS K cU b)) :
  Bf P w K mg base (k+1) f fd ps (mO K (aJ ps.length N.length b)):=by
 let(L,J,kV,doc,pm,an,bo,ct,I,rfl,lk,W):=G.fn.ex;refine acn lk W (kR S) (λV H Q E h=>?_) λA outer s H V Q E U h=>?_
 .let(w,T,rfl,S,Y,h):=h
  rw[<- Y.length];delta aJ at h;split at h
  .assumption
  .exact h.elim
 .let(w,T,rfl,R,Y,h):=h
  refine#[_,hb (kR S).nd bo A outer s _ E U,?_];delta aJ at h;split at h
  .rename_i O
   rw[<- O] at h;refine#[w,_,rfl,R,Y.env _,(Out.ai h).mono λF M D X Z=>?_]
   cases M with
   |nx env=>intro C _;exact aI X Z _ rfl
   |rt d=>have q:=aI X Z;exact q
   |bk env=>exact Z.elim
   |ct env=>exact Z.elim
  .exact h.elim
def pZ (cs:List Str) (told:Str) (f:ahv D) (j:Nat) (b:ahv Fl):ahv Fl:=λenv s=>match f env s with
 |none=>ϋ
 |some (.ok d,s)=>ok (.rt (.tup [.str told,d])) s
 |some (.error x,s)=>if ώ (x.c∈cs)=ό then ai (b (env.set j (ϊ (.exc x.c x.many))) s) λZ s=>match Z with
   | .nx env=>ok (.nx (env.set j ϋ)) s
   | .rt d=>ok (.rt d) s
   |_=>ϋ else ϋ
section
variable {X:Cx} {E:XK} {Ξ:Wd->bw->Prop} {e a b c:ŕ} {es rest:List ŕ} {pos:Pos} {f g h:ahv D} {fa:ahv (List D)}
def aei {x} {st} {ps} {fn} {p} (G:GG X.K X.mg x st ps) (F:SW X.prog X.w X.K X.mg X.base x st ps k fn) (hr:iH n X.A) (ha:PA X (e::es) (tA X.K Ξ fa)) (hk:k<=n:=by decide) (hg:Gl X x:=by rfl) (dq:(x==("__debug__"))=ύ:=by decide)
  (he:É (e::es) X.env=(ύ,Ħ e X.env)::É es X.env:=by rfl) (bM:(Ġ pos (É es X.env)).any (·.1)=ύ:=by rfl):PE X (.Call (.Name x p) (e::es) [] pos) (tE X.K Ξ (aC fn fa)):=by
 let(f,fd,G):=G;refine cE (YF (F G) (hr.mono hk) hg G.mg G.fn.kp G.b ha dq he bM) fun σ H Q Z=>?_;let(w,env,Y,S,W,h):=Z;subst Y;refine#[w,env,rfl,S,W,(Out.ai h).mono λV U O T R N P=>?_];show mO _ fn _ _ Q E0;rw[ð];exact#[V,U,rfl,T,P,R.ne]
noncomputable def IV:ahv D:=λ_ _=>ϋ
def RQ:PE X e (tE X.K Ξ IV):=λ_ _ _ _ _ _ ⟨_,_,_,_,_,h⟩=>h.elim
def FW (x y:D) (s:ag):Res D:=match x,y with
 | .int i,.int j=>ok (.bl (!(i==j))) s
 |_,_=>ϋ
def aej:bP X (Ē .NotEq) (rO X.K Ξ FW):=by
 intro Z s σ H x y v u Q I Y W qz;let(w,R,P,rfl,S,U,T,h):=qz;delta FW at h;split at h
 .rename_i i j
  cases U;cases T;refine Ql Z s σ _ _ _ v u Q I Y W #[rfl,?_];have:(!ώ (V.int i=V.int j))=!(i==j):=by
   rw[Ī];simp
  rw[this];exact aI S h _ rfl
 .exact h.elim
def aco {k i j:Nat} {x cn n told:Str} {p bh rW afM np BC c0:Pos} {k0 k1} {pre:Hp->Prop} {f:þ} {vs:List V} {ds:List D} {th:ag->Res D} {yl:Stmt} {xK:List Stmt} {b:ahv Fl} {cs:List Str} (T:zc X.prog X.w X.K X.mg X.base k pre f vs ds th) (h0:pre X.my) (hr:bK k X.A)
  (hc:∃CM,X.mg cn=ϊ (.ref CM)/\∀c∈cs,∃C,nsIn X.K Ð c=ϊ (ϊ (.ref C))/\X.mg c=ϊ (.ref C)/\exmOne X.K (.ref C) (.ref CM)=ϊ ό)
  (hs:∀a,dW (X.held a) (yl::xK) (tS X.K cU b)) (SA:X.N.Nodup)
  (L:X.stack=X.env::X.outer:=by rfl) (hf:X.env.frame=ϊ X.env.locals:=by rfl) (hj:X.N[j]?=ϊ n:=by rfl) (qF:X.env.scope.names.lookup n=ϊ .local:=by rfl) (hg:Gl X cn:=by rfl) (hdc:(cn==("__debug__":Str))=ύ:=by decide)
  (hN:X.N[i]?=ϊ x:=by rfl) (hv:qp X.env.scope x:=by first|exact ſ rfl|exact Or.inr (ſ rfl)|exact Or.inr (Or.inr rfl)) (hd:(x==("__debug__":Str))=ύ:=by decide) (fe:(x==("__classdict__":Str))=ύ:=by decide)
  (h1:É [.Constant (.str told) k0 c0,.Call (.Name x p) [] [] bh] X.env=(ύ,Ħ (.Constant (.str told) k0 c0) X.env)::É [.Call (.Name x p) [] [] bh] X.env:=by rfl) (h2:É [.Call (.Name x p) [] [] bh] X.env=(ύ,Ħ (.Call (.Name x p) [] [] bh) X.env)::É [] X.env:=by rfl) :
  PS X (.Try [.Return (ϊ (.Tuple [.Constant (.str told) k0 c0,.Call (.Name x p) [] [] bh] k1 rW)) afM] [.ExceptHandler (ϊ (.Name cn np)) (ϊ n) (yl::xK) BC] [] [] pos) (tS X.K cU (pZ cs told (v5 (.dA f vs ds) th i) j b)):=by
 intro π s σ H D I aD;let(w,env,eH,S,eo,h):=aD;subst eH;let(CM,nN,i5):=hc;delta pZ v5 at h;by_cases he:env[i]?=ϊ (ϊ (.dA f vs ds))
 case neg=>rw[é he] at h;exact h.elim
 rw[Ù he] at h;refine wpAny_Try_except ?_
 let E:XK:=λcls m U=>∃(Y:Wd) (c:Str) (C:þ) (G:Option Int),Y.H=U/\aW X.K Y/\cg X.K Y env σ/\cls=.ref C/\c∈cs/\X.mg c=ϊ (.ref C)/\(∀i,G=ϊ i->∃W R t,m=ϊ W/\(¬ Y.Z W/\Y.H W=ϊ (.bx R (.own W)))/\lookIn "many" R=ϊ (ϊ (.int i t)))/\Out X.K cU Y (ai (b (env.set j (ϊ (.exc c G))) Y.aN) λF s=>match F with
   | .nx env=>ok (.nx (env.set j ϋ)) s
   | .rt d=>ok (.rt d) s
   |_=>ϋ) (RG X.K D)
 have hth:Out X.K (gB X.mg E) w (th w.aN) λY d=>∀v,DV X.K Y d v->∀q,Y.H q=ϋ->D.rt (.ref q) (upd Y.H q (.tup [.str told,v])):=by
  cases hr:th w.aN with
  |none=>rw[hr] at h;exact h.elim
  |some q =>
   let(q,s2):=q;rw[hr] at h
   cases q with
   |ok d =>
    intro Y l P e v dv q g;have l2:=(Fw.grow (K:=X.K) (o:=.tup [.str told,v]) g).le;exact h (Y.grow q (.tup [.str told,v])) (l.trans l2) (P.grow g) e (.ref q) #[q,_,rfl,bZ.of cY,#[.str told,[v],rfl,rfl,l2.all #[v,[],rfl,dv,rfl]]]
   |error y =>
    intro Y l P e;dsimp only at h;split at h
    .rename_i B
     have B:=á B;let(C,_,h2,_):=i5 _ B;refine#[C,h2,?_]
     cases hm:y.many with
     |none =>
      refine#[Y,y.c,C,ϋ,rfl,P,eo.le l,rfl,B,h2,(λi z=>by cases z),?_];rw[hm] at h;rw[e];exact h.from l
     |some i =>
      intro W R t O hl;have le:=(Fw.grow (K:=X.K) (o:=.bx R (.own W)) O).le;refine#[Y.grow W (.bx R (.own W)),y.c,C,ϊ i,rfl,P.grow O,(eo.le l).le le,rfl,B,h2,λi' z=>?_,?_]
      .cases z
       exact#[W,R,t,rfl,#[λz=>ow P O z,cY],hl]
      .rw[hm] at h
       show Out X.K cU _ (ai (b (env.set j (ϊ (.exc y.c (ϊ i)))) Y.aN) _) _;rw[e];exact(h.from l).from le
    .exact h.elim
 have ma:=λ{M:Ý} (I:Inv X π σ w.H M)=>acg (pos:=bh) (p:=p) (Q:=λv U=>∀q,U q=ϋ->D.rt (.ref q) (upd U q (.tup [.str told,v]))) T h0 hr hN hv hd fe I S eo he hth;refine wpAny_execs_cons (ė (wpAny_Return_some (Q:=SP X π { nx:=λ_ _=>False,rt:=D.rt }) (E:=AQ X π σ E) (wpAny_Tuple_spliced ?_)) (λF M q=>?_) λe M q=>?_)
 .rw[h1]
  refine agr (Calls.Constant_str (k:=k0) (pos:=c0) ?_);rw[h2];refine agr (aQ (ma (I.tok _)) λu M g=>Calls.spliced_nil ?_);let(v,H1,I1,r,q):=g;refine#[show 2<=Õ by decide,?_];have hf:H1 M.heap.objs.size=ϋ:=I1.aK.fresh (ahz _);refine#[.ref M.heap.objs.size,σ,upd H1 M.heap.objs.size (.tup [.str told,v]),I1.laid (t':=M.toks) (λb u e=>Á _ e) (ahz _) ?_,rfl,q _ hf];exact#[show 2<=Õ by decide,_,.cons #[_,rfl] (.cons r .nil),#[_,Ì _ rfl,rfl,_,rfl]]
 .cases F with
  |next=>let(_,_,_,z):=q;exact ĉ z
  |ret v=>exact q
  |brk=>let(_,_,_,z):=q;exact ĉ z
  |cont=>let(_,_,_,z):=q;exact ĉ z
 .refine j6 (D:=D) q L hf SA hj qF hg nN hdc λcls m U hE=>?_
  let(Y,c,C,G,rfl,P,jT,rfl,BP,hmc,hmm,ho):=hE;let(C2,k1,k2,k3):=i5 c BP;rw[hmc] at k2;cases k2;refine#[k3,λa o O oY pq s5 I5=>?_];have le:=(Fw.grow (K:=X.K) (o:=.bx o (.own a)) O).le;have S5:=P.grow (o:=.bx o (.own a)) O;have dv:DV X.K (Y.grow a (.bx o (.own a))) (.exc c G) (.ref a):=by
   erw[DV];refine#[a,o,C,rfl,#[λz=>ow P O z,cY],#[oY,k1],λi hi=>?_];let(W,R,t,q1,q2,q3):=hmm i hi;exact#[pq.1,W,R,t,pq.2 W q1,(Fw.grow (K:=X.K) (o:=.bx o (.own a)) O).bx W R _ q2.1 q2.2,q3]
  have hd:=hs a s5 (σ.set j (ϊ (.ref a))) _ { nx:=fun J U=>D.nx (J.set j ϋ) U,rt:=D.rt,bk:=fun J U=>D.bk (J.set j ϋ) U,ct:=fun J U=>D.ct (J.set j ϋ) U } I5
   #[Y.grow a (.bx o (.own a)),env.set j (ϊ (.exc c G)),rfl,S5,(jT.le le).set dv j,(Out.ai (ho.from le)).mono λw6 F l6 S6 q=>?_]
  .exact hd
  .cases F with
   |nx aP=>exact fun J e'=>aI S6 q (J.set j ϋ) (e'.unset j)
   |rt d=>have z:=aI S6 q;exact z
   |bk aP=>exact q.elim
   |ct aP=>exact q.elim
end
end DI
namespace L2
open PySem PySem.Spec PyProof.Rows
end L2
namespace DI
open PySem L2
end DI
namespace L2
open PySem PySem.Spec PyProof.Rows
end L2
namespace DI
open PySem L2
def qj (ds:List D) (s:ag):Res D:=match ds with
 | [.bl b]=>ok (.int (if b then 1 else 0)) s
 |_=>ϋ
def uR {Ξ}:dB X (.type "int") (rC X.K Ξ qj):=by
 intro V s σ H U T Q I r qz;let(w,R,rfl,S,Z,h):=qz;delta qj at h;split at h
 .rename_i b
  let(v,rfl,Y):=lY Z;have e:=Y;subst e;let(u,rfl,W):=vals1 r;have e:=W;subst e;exact call_int_bool #[.int _,_,I.tok _,#[_,rfl],aI S h _ rfl]
 .exact h.elim
end DI
namespace L2
open PySem PySem.Spec PySem.Calls PyProof.Rows PySem.W PySem.Builtin PySem.Builtin.ObjectAttr PySem.Builtin.Getset_descriptor
end L2
namespace DI
open PySem L2 PySem.W
end DI
namespace L2
open PySem PySem.Spec PyProof.Rows PySem.W
end L2
namespace DI
open PySem L2 PySem.W
noncomputable def vo {α:Type} (f:Str) (v:α):List (Str×α)->List (Str×α)
 | []=>[(f,v)]
 |(g,x)::r=>if g=f then (g,v)::r else (g,x)::vo f v r
def jL (c:Str) (d:D) (s:ag):Option (Nat×List (Str×D)):=match d with
 | .aj k=>(match s[k]? with
  |some (.ins Z fs)=>if ώ (Z=c)=ό then ϊ (k,fs) else ϋ
  |_=>ϋ)
 |_=>ϋ
def Au {s} {k} {fs} (h:jL c d s=ϊ (k,fs)):d=.aj k/\s[k]?=ϊ (.ins c fs):=by
 delta jL at h;split at h
 .split at h
  .rename_i e
   split at h
   .rename_i Z
    cases h;rw[á Z] at e;exact#[rfl,e]
   .cases h
  .cases h
 .cases h
section
variable {K:Ň} {w:Wd}
theorem Oo:∀{fs:List _} {vs:List _} {f:Str} {d},vs.map (·.1)=fs.map (·.1)->aA K w (fs.map (·.2)) (vs.map (·.2))->fs.lookup f=ϊ d->∃v,vs.lookup f=ϊ v/\DV K w d v
 | [],vs,f,d,_,_,h=>by cases h
 |(g,x)::fs,vs,f,d,e,Y,h=>by
  cases vs with
  |nil=>cases e
  |cons p vs =>
   let(X,v):=p;erw[Û,Ō] at e;let(rfl,e):=e;let(U,r,e1,W,V):=Y;cases e1;rw[Ė] at h |-
   cases Z:f==X with
   |true =>
    rw[Z] at h;cases h;exact#[v,rfl,W]
   |false =>
    rw[Z] at h;exact Oo e V h
theorem EC:∀{fs:List (Str×D)} {vs:List (Str×V)} {f},vs.map (·.1)=fs.map (·.1)->fs.lookup f=ϋ->vs.lookup f=ϋ
 | [],vs,f,e,_=>by
  cases vs with
  |nil=>rfl
  |cons _ _=>cases e
 |(g,x)::fs,vs,f,e,h=>by
  cases vs with
  |nil=>cases e
  |cons p vs =>
   let(Y,v):=p;erw[Û,Ō] at e;let(rfl,e):=e;rw[Ė] at h |-
   cases Z:f==Y with
   |true=>rw[Z] at h;cases h
   |false =>
    rw[Z] at h;exact EC e h
theorem PH {d} {v} (dv:DV K w d v):∀{fs} {vs},vs.map (·.1)=fs.map (·.1)->aA K w (fs.map (·.2)) (vs.map (·.2))->(gX f v vs).map (·.1)=(vo f d fs).map (·.1)/\aA K w ((vo f d fs).map (·.2)) ((gX f v vs).map (·.2))
 | [],vs,e,_=>by
  cases vs with
  |nil=>exact#[rfl,aA.one dv]
  |cons _ _=>cases e
 |(g,x)::fs,vs,e,X=>by
  cases vs with
  |nil=>cases e
  |cons p vs =>
   let(W,u):=p;erw[Û,Ō] at e;let(rfl,e):=e;let(S,r,e1,V,Y):=X;cases e1;delta gX vo;by_cases Z:W=f
   .rw[Ù Z,Ù Z]
    exact#[by erw[Û,e],#[v,_,rfl,dv,Y]]
   .rw[é Z,é Z]
    let(U,T):=PH dv e Y;exact#[by erw[Û,U],#[u,_,rfl,V,T]]
def AS {k} {fs} {v} (S:aW K w) (dv:DV K w (.aj k) v) (e:w.aN[k]?=ϊ (.ins c fs)):∃a C dx vs,w.ρ[k]?=ϊ a/\v=.ref a/\nsIn K Ð c=ϊ (ϊ (.ref C))/\w.H a=ϊ (.ins C dx vs)/\vs.map (·.1)=fs.map (·.1)/\aA K w (fs.map (·.2)) (vs.map (·.2)):=by
 let(a,e1,rfl):=dv;let(C,dx,vs,Z,Y,X,W):=S.cell k a _ e1 e;exact#[a,C,dx,vs,e1,rfl,Z,Y,X,W]
end
def ym (K:Ň) (c f:Str):Prop:=∃C,nsIn K Ð c=ϊ (ϊ (.ref C))/\lC K C/\pQ K C f
def iO (c f:Str) (d:D) (s:ag):Res D:=match jL c d s with
 |some (_,fs)=>(match fs.lookup f with
  |some x=>ok x s
  |none=>ϋ)
 |none=>ϋ
def rM (c f:Str) (fv fo:ahv D):ahv Fl:=λenv s=>ai (fv env s) λv s=>ai (fo env s) λo s=>match jL c o s with
 |some (k,fs)=>if ώ (fs.length<1000)=ό then ok (.nx env) (s.set k (.ins c (vo f v fs))) else ϋ
 |none=>ϋ
section
variable {X:Cx} {Ξ:Wd->bw->Prop} {e o value:ŕ} {pos pos':Pos} {g fo fv:ahv D} {c f:Str}
def p6 (hF:ym X.K c f) (he:PE X e (tE X.K Ξ g)) (hb:ĭ e f X.env (Ħ e X.env)=Ħ e X.env:=by rfl):PE X (.Attribute e f pos) (tE X.K Ξ (e1 (iO c f) g)) :=
 cE (abv he hb) fun σ H Q V=>by
  let(w,env,U,S,T,h):=V;subst U;refine#[w,env,rfl,S,T,(Out.ai h).mono λD d B Y Z v R=>?_];let(C,P,O,N):=hF;delta iO at Z;split at Z
  .rename_i k fs e1
   let(rfl,e3):=Au e1;split at Z
   .rename_i x e2
    let(a,A,M,L,_,rfl,W,J,I,G):=AS Y R e3;rw[P] at W;cases W;let(u,F,E):=Oo I G e2;exact#[a,C,M,L,u,rfl,J,O,N,F,aI Y Z _ E]
   .exact Z.elim
  .exact Z.elim
def QS (hF:ym X.K c f) (ho:PE X o (tE X.K Ξ fo)) (hv:PE X value (tE X.K Ξ fv)) (hs:swapsWith value (ϊ (.Attribute o f pos')) pos.line X.env=pure ύ:=by rfl):PS X (.Assign [.Attribute o f pos'] value pos) (tS X.K Ξ (rM c f fv fo)) :=
 lX (abw ho hv hs) λl σ H G=>by
  let(w,env,F,S,W,h):=G;subst F;refine#[w,env,rfl,S,W,(Out.ai h).mono λE y Q D B u A=>?_];refine#[E,env,rfl,D,W.le Q,(Out.ai B).mono λj d P V Z v x=>?_];let(C,O,t,s):=hF;split at Z
  .rename_i k fs e1
   let(rfl,e3):=Au e1;split at Z
   .rename_i U
    have U:=á U;let(a,i,T,N,M,rfl,L,r,J,q):=AS V x e3;rw[O] at L;cases L;have Y:=by have:=ħ List.length J;simpa using this
    refine#[a,C,T,N,rfl,r,t,s,by rw[Y];exact U,?_];have I:(Cell.ins c fs)≠.dead:=by intro z;cases z
    have R:=(Fw.put (o:=.ins C T (gX f u N)) (c:=.ins c (vo f y fs)) V M e3 I).le;let(p,n):=PH (P _ _ A) J q;have m:=V.vd (c:=.ins c _) M e3 I #[C,T,_,O,cY,p,R.all n];exact Z _ R m rfl σ (W.le (Q.trans (P.trans R)))
   .exact Z.elim
  .exact Z.elim
end
structure Gm (K) (c m q:Str) (st) (ps) (f) (fd):Prop where
 fn:qv K m q st f fd
 b:Binds K fd ps []
def GM (K:Ň) (c m q:Str) (st:Stmt) (ps:List Str):Prop:=∃C f fd,nsIn K Ð c=ϊ (ϊ (.ref C))/\lC K C/\Meth K C m f/\Gm K c m q st ps f fd
abbrev kH (P:ø) (w:Ĭ) (K:Ň) (mg:Str->Option ã) (base:ū) (c m q:Str) (st:Stmt) (ps:List Str) (k:Nat) (fn:List D->ag->Res D):Prop:=∀{f} {fd},Gm K c m q st ps f fd->dg P w K mg base (fV P w) k f fd ps (nU mg K fn)
def pS {K} {mg} {base} {c m q} {st} {f} {fd} {ps} {k} {b} (G:Gm K c m q st ps f fd) (N) (S:qh N ps (cJ st)=ό)
  (hb:N.Nodup->∀bo A outer s H E,bK k (A.deeper (ĸ q (cJ st) s.heap.objs.size f bo))->Lv (iI (fV P w) P w K mg base N q (cJ st) f bo A outer s H E) E->dW (iI (fV P w) P w K mg base N q (cJ st) f bo A outer s H E) (gU st) (tS K (gB mg E) b)) :
  dg P w K mg base (fV P w) (k+1) f fd ps (nU mg K (aJ ps.length N.length b)):=by
 let(J,I,kV,doc,pm,an,bo,ct,F,rfl,lk,W):=G.fn.ex;refine Ba lk W (kR S) (λV H Q E h=>?_) λA outer s H V Q E U h=>?_
 .let(w,T,rfl,S,Y,h):=h
  rw[<- Y.length];delta aJ at h;split at h
  .assumption
  .exact h.elim
 .let(R,T,rfl,O,Y,h):=h
  refine#[_,hb (kR S).nd bo A outer s _ E U #[rfl,rfl,rfl,rfl],?_];delta aJ at h;split at h
  .rename_i M
   rw[<- M] at h;refine#[R,_,rfl,O,Y.env _,(Out.ai h).mono λD L C X Z=>?_]
   cases L with
   |nx env=>intro B _;exact aI X Z _ rfl
   |rt d=>have q:=aI X Z;exact q
   |bk env=>exact Z.elim
   |ct env=>exact Z.elim
  .exact h.elim
def cQ (c m:Str) (fn:List D->ag->Res D) (fo:ahv D) (fa:ahv (List D)):ahv D:=λenv s=>ai (fo env s) λo s=>match jL c o s with
 |some (_,fs)=>if (fs.lookup m).isNone=ό then ai (fa env s) λZ s=>fn (o::Z) s else ϋ
 |none=>ϋ
def iy (c m:Str) (fn:List D->ag->Res D) (fo:ahv D) (fa:ahv (List D)):ahv D:=cQ c m (λZ s=>ne (fn Z s)) fo fa
def kW (c:Str) (fn:List D->ag->Res D):ahv D:=λ_ s=>ai (ne (fn [.aj s.length] (s++[.ins c []]))) λd Z=>match d with
 | .ax=>ok (.aj s.length) Z
 |_=>ϋ
def GK (K:Ň) (mg:Str->Option ã) (c q:Str) (st:Stmt) (ps:List Str):Prop:=∃C f fd,nsIn K Ð c=ϊ (ϊ (.ref C))/\mg c=ϊ (.ref C)/\Mk K C f/\Gm K c "__init__" q st ps f fd
section
variable {X:Cx} {E:XK} {Ξ:Wd->bw->Prop} {e o:ŕ} {es:List ŕ} {pos apos:Pos} {fo:ahv D} {fa:ahv (List D)} {c m q:Str} {st:Stmt} {ps:List Str} {k n:Nat} {fn:List D->ag->Res D} {pl:Sem Bool}
def Ni {t} (hC:nsIn X.K Ð c=ϊ (ϊ (.ref C))) (ht:∀w' env R,aW X.K w'->cg X.K w' env σ->Out X.K (gB X.mg E) w' (fa env w'.aN) (λw1 ds=>∀vs,aA X.K w1 ds vs->R vs w1.H)->t σ w'.H R)
  (aD:tE X.K (gB X.mg E) (cQ c m fn fo fa) σ H Q):A9 C m (nU X.mg X.K fn) [] E (tE X.K (gB X.mg E) fo) t σ H Q:=by
 let(w,env,T,S,Y,h):=aD;subst T;refine#[w,env,rfl,S,Y,(Out.ai h).mono λw1 d P W Z v V=>?_];split at Z
 .rename_i k fs e1
  let(rfl,e3):=Au e1;split at Z
  .rename_i O
   let(a,B,N,vs,A,rfl,U,M,L,z):=AS W V e3;rw[hC] at U;cases U;refine#[a,N,vs,rfl,M,EC L (af7.mp O),?_];refine ht w1 env _ W (Y.le P) ((Out.ai Z).mono λJ ds I G F y D=>?_);rw[ð];exact#[J,.aj k::ds,rfl,G,#[_,_,rfl,I _ _ V,D],F]
  .exact Z.elim
 .exact Z.elim
def nv (hM:GM X.K c m q st ps) (F:kH X.prog X.w X.K X.mg X.base c m q st ps k fn) (L:Passes (fV X.prog X.w) X E) (hr:bK n X.A) (ho:PE X o (tE X.K (gB X.mg E) fo)) (ha:PA X (e::es) (tA X.K (gB X.mg E) fa)) (hk:k<=n:=by decide)
  (gu:É (e::es) X.env=(ύ,Ħ e X.env)::É es X.env:=by rfl) (bM:(Ġ pos (É es X.env)).any (·.1)=ύ:=by rfl)
  (ht:Ħ (.Call (.Attribute o m apos) (e::es) [] pos) X.env=(do
   let ov <- Ħ o X.env
   agm apos.atName
   let (f,first) <- ω [ov] (ag3 ov m pl)
   callWith pos f first (Ġ pos (É (e::es) X.env)) (ž pos (ŀ [] X.env))):=by rfl) :
  PE X (.Call (.Attribute o m apos) (e::es) [] pos) (tE X.K (gB X.mg E) (cQ c m fn fo fa)):=by
 let(C,f,fd,Z,Y,W,G):=hM;exact cE (NW ho Y W (F G) (hr.mono hk) G.b .nil L ha gu bM ht) fun σ H Q h=>Ni Z (λV env R U T S=>#[V,env,rfl,U,T,S]) h
def uz (hM:GM X.K c m q st ps) (F:kH X.prog X.w X.K X.mg X.base c m q st ps k fn) (L:Passes (fV X.prog X.w) X E) (hr:bK n X.A) (ho:PE X o (tE X.K (gB X.mg E) fo)) (hk:k<=n:=by decide)
  (ht:Ħ (.Call (.Attribute o m apos) [] [] pos) X.env=(do
   let ov <- Ħ o X.env
   agm apos.atName
   let (f,first) <- ω [ov] (ag3 ov m pl)
   callWith pos f first (Ġ pos (É [] X.env)) (ž pos (ŀ [] X.env))):=by rfl) :
  PE X (.Call (.Attribute o m apos) [] [] pos) (tE X.K (gB X.mg E) (cQ c m fn fo ah)):=by
 let(C,f,fd,Z,Y,W,G):=hM;exact cE (MQ ho Y W (F G) (hr.mono hk) G.b .nil L ht) fun σ H Q h=>Ni Z (λT env R V S U=>aI V (a:=([])) U _ rfl) h
def Mo {t} (hC:nsIn X.K Ð c=ϊ (ϊ (.ref C))) (ht:∀w' env R,aW X.K w'->cg X.K w' env σ->Out X.K Ξ w' (fa env w'.aN) (λw1 ds=>∀vs,aA X.K w1 ds vs->R vs w1.H)->t σ w'.H R)
  (aD:tE X.K Ξ (iy c m fn fo fa) σ H Q):A9 C m (nU X.mg X.K fn) [] E0 (tE X.K Ξ fo) t σ H Q:=by
 let(w,env,T,S,Y,h):=aD;subst T;refine#[w,env,rfl,S,Y,(Out.ai h).mono λw1 d P W Z v V=>?_];split at Z
 .rename_i k fs e1
  let(rfl,e3):=Au e1;split at Z
  .rename_i O
   let(a,D,N,vs,B,rfl,U,M,L,A):=AS W V e3;rw[hC] at U;cases U;refine#[a,N,vs,rfl,M,EC L (af7.mp O),?_];refine ht w1 env _ W (Y.le P) ((Out.ai Z).mono λJ ds I G F z E=>?_);rw[ð];exact#[J,.aj k::ds,rfl,G,#[_,_,rfl,I _ _ V,E],Fo F.ne]
  .exact Z.elim
 .exact Z.elim
def aek (hM:GM X.K c m q st ps) (F:kH X.prog X.w X.K X.mg X.base c m q st ps k fn) (hr:bK n X.A) (ho:PE X o (tE X.K Ξ fo)) (ha:PA X (e::es) (tA X.K Ξ fa)) (hk:k<=n:=by decide)
  (gu:É (e::es) X.env=(ύ,Ħ e X.env)::É es X.env:=by rfl) (bM:(Ġ pos (É es X.env)).any (·.1)=ύ:=by rfl)
  (ht:Ħ (.Call (.Attribute o m apos) (e::es) [] pos) X.env=(do
   let ov <- Ħ o X.env
   agm apos.atName
   let (f,first) <- ω [ov] (ag3 ov m pl)
   callWith pos f first (Ġ pos (É (e::es) X.env)) (ž pos (ŀ [] X.env))):=by rfl) :
  PE X (.Call (.Attribute o m apos) (e::es) [] pos) (tE X.K Ξ (iy c m fn fo fa)):=by
 let(C,f,fd,Z,Y,W,G):=hM;exact cE (NW ho Y W (F G) (hr.mono hk) G.b .nil AM ha gu bM ht) fun σ H Q h=>Mo Z (λV env R U T S=>#[V,env,rfl,U,T,S]) h
def xo (hM:GM X.K c m q st ps) (F:kH X.prog X.w X.K X.mg X.base c m q st ps k fn) (hr:bK n X.A) (ho:PE X o (tE X.K Ξ fo)) (hk:k<=n:=by decide)
  (ht:Ħ (.Call (.Attribute o m apos) [] [] pos) X.env=(do
   let ov <- Ħ o X.env
   agm apos.atName
   let (f,first) <- ω [ov] (ag3 ov m pl)
   callWith pos f first (Ġ pos (É [] X.env)) (ž pos (ŀ [] X.env))):=by rfl) :
  PE X (.Call (.Attribute o m apos) [] [] pos) (tE X.K Ξ (iy c m fn fo ah)):=by
 let(C,f,fd,Z,Y,W,G):=hM;exact cE (MQ ho Y W (F G) (hr.mono hk) G.b .nil AM ht) fun σ H Q h=>Mo Z (λT env R V S U=>aI V (a:=([])) U _ rfl) h
def xN {p} (hM:GK X.K X.mg c q st ps) (F:kH X.prog X.w X.K X.mg X.base c "__init__" q st ps k fn) (hr:bK n X.A) (hk:k+1<=n:=by decide) (hg:Gl X c:=by rfl) (dq:(c==("__debug__"))=ύ:=by decide) :
  PE X (.Call (.Name c p) [] [] pos) (tE X.K Ξ (kW c fn)):=by
 let(C,f,fd,R,P,M,G):=hM;refine cE (XQ M (F G) (hr.mono hk) hg P G.b .nil AM dq) fun σ H Q O=>?_;let(w,env,N,S,u,h):=O;subst N;intro x Z L Y ne;have W:(w.grow Z (.own x)).H x=ϋ:=by show upd _ Z _ x=ϋ;rw[bB (Ĥ ne)];exact L
 have V:=S.grow (o:=.own x) Y;have J:=(Fw.grow (K:=X.K) (o:=.own x) Y).le;have I:=(Fw.cell (o:=.ins C Z []) (c:=.ins c []) V W).le;have E:=V.FI (c:=.ins c []) W #[C,Z,[],R,cY,rfl,rfl];have U:DV X.K ((w.grow Z (.own x)).cell x (.ins C Z []) (.ins c [])) (.aj w.aN.length) (.ref x):=by
  refine#[x,?_,rfl];show (w.ρ++[x])[w.aN.length]?=ϊ x;rw[<- S.len];simp
 refine#[_,_,rfl,E,aA.one U,?_];have D:=(Out.ai h).from (J.trans I);refine Fo (D.ne.mono λt d B z T v y=>?_)
 cases d with
 |ax=>exact#[y,aI z T _ (B _ _ U)]
 |_=>exact T.elim
end
end DI
namespace ST
open PySem PySem.W PyProof.Rows
section
variable {α:Type} {O:Ord α} {x:Nat->α} {prog:ø} {w:Ĭ} {A:đ} {E:ã->Ý->Prop} {s:Ý}
def YG {us} {Q} (ht:IsTup s.heap l us.toArray) (hz:us.length<=Õ)
  (h:∀h1,s.heap.objs.size<=h1.objs.size->(∀c o,s.heap.get? c=ϊ o->h1.get? c=ϊ o)->Q us { s with heap:=h1 }):ë (ê prog w) A (collect (.ref l)) Q E s:=by
 let(o,X,W,n,V):=ht;have Y:(s.heap.push (ahj "list" #v[] 0)).get? l=ϊ o:=Á _ X;have Z:(s.heap.push _).get? _=ϊ (ahj "list" #v[] 0):=Ì _ rfl;refine À (wpAny_runValue (Ń entry_proto_collect' ?_));refine À (ag0 (Ä #[agx _ nofun,Ń entry_list_iadd' ?_]));show ë _ _ (μ _ _ _) _ _ _;refine À (agl #[o,Y,W] ?_);rw[Ù ∅];refine À (listItems_at Y V (À (listItems_at Z rfl ?_)));refine À (listUpdate_at Z rfl (Ä ?_) (ć _) (by erw[Array.size_append,Ü,Ą];omega));refine À (wpAny_load (get?_update_seq Z _) ?_);show ë _ _ (pure _) Q E _;rw[show ((#v[]:Array ã)++us.toArray).toList=us by simp];refine Ä (h _ ?_ λc o e=>?_)
 .rw[Heap.size_update,size_push'];exact ŭ _
 .rw[ű _ _ _ _ (ß (Í e))]
  exact Á _ e
def VR {us} {Q} (hl:IsTup s.heap l us.toArray) (hz:us.length<64)
  (hk:2<=us.length->∀h1,(∀c o,s.heap.get? c=ϊ o->h1.get? c=ϊ o)->BB prog w A.in1.in1 O x us { s with heap:=h1 })
  (hQ:∀q h' b e,Pm us.length q->Up O (ky x q) us.length->(∀c o,s.heap.get? c=ϊ o->h'.get? c=ϊ o)->s.heap.objs.size<=b->h'.get? b=ϊ (ahj "list" (q.toList.map λi=>us.getD i Value.none).toArray e)->Q (.ref b) { s with heap:=h' }) :
  ë (ê prog w) A (call (.builtin "sorted") [.ref l]) Q E s:=by
 have line:us.length<=Õ:=by rw[ε];omega
 refine af6 kind_sorted plain_sorted entry_sorted (args_sorted1 _) ?_;refine À (Ä (À (YG hl line λh1 W Y=>À (ag0 ?_ line))));have X:(h1.push _).get? _=ϊ (ahj "list" us.toArray 0):=Ì _ rfl;have old:∀c o,s.heap.get? c=ϊ o->c≠h1.objs.size/\(h1.push (ahj "list" us.toArray 0)).get? c=ϊ o:=λc o e=>#[ß (Í (Y c o e)),Á _ (Y c o e)];refine À (Ć (ă slot_list_sort #[_,X,rfl] entry_list_sort (K0 X hz (λz h' Z=>hk z h' λc o e=>Z c o (old c o e).1 (old c o e).2) λq h' e V U Z T=>#[_,rfl,?_]) (args_list_sort _)));exact Ä #[_,rfl,hQ q h' _ e V U (λc o e=>Z c o (old c o e).1 (old c o e).2) W T]
end
end ST
namespace TK
open PySem PySem.W PyProof.Rows DI L2
def wQ (ds:List D) (s:ag):Res D:=match ds with
 | [.tup Z]=>if Z.length<64 then bY (uQ Z) s else ϋ
 |_=>ϋ
def YH {Ξ} {k} (hr:bK k X.A):dB X (.builtin "sorted") (rC X.K Ξ wQ):=by
 intro y s σ H M t Q I r qz;let(w,p,rfl,S,Y,h):=qz;delta wQ at h;split at h
 .let(v,rfl,L):=lY Y
  let(a,M,rfl,J,Y):=L;split at h
  .let(n,e2,h):=gG h
   let(u,rfl,G):=vals1 r;cases G;let(ak,W,F,E):=I.tuple J;have T:=W.length.symm.trans Y.length.symm;have e3:=e2;delta uQ at e3;split at e3
   .rename_i Z
    let(V,D):=Z;subst D;rw[zW] at e2;cases e2;have P:V.length=ak.length:=by rw[T,Æ]
    refine ST.VR (x:=λi=>V.getD i (.cu 0 0 0)) F ⋯ (λC m R=>Nd (gy.keep (λb o U _ _=>R b o U) _ _ (AK I _ _ _ (Oi V) Y W)) C (by have:=hr.un;show X.A.units+1+1+100<cLine;omega) _) λq l b e Z O R U B=>?_;have N:∀i∈q.toList,i<(V.map _).length:=λi hi=>by rw[<- T];exact î.mp (Z.2.mem_iff.mp hi)
    rw[<- P] at Z O;have z:=I.aK.fresh U;refine#[.ref b,_,I.laid (o:=.lst _) R U #[?_,_,e,Mm W (by rw[T];exact N),B],rfl,?_]
    .rw[Æ,û,Z.1,P,W.length.symm];exact E
    .refine yd S ?_ h b z
     rw[<- Nb Z O];exact Na Y N
   .cases e3
  .exact h.elim
 .exact h.elim
end TK
namespace DI
open PySem L2
section
variable {X:Cx} {Ξ:Wd->bw->Prop} {f:ahv D}
def yn (d:D) (s:ag):Res D:=match d with
 | .aj k=>match s[k]? with
  |some (.lst Z)=>match Z[Z.length-1]? with
   |some x=>ok x (s.set k (.lst Z.dropLast))
   |none=>ϋ
  |_=>ϋ
 |_=>ϋ
theorem aA.dropLast {ds} {xs} (h:aA K w ds xs):aA K w ds.dropLast xs.dropLast:=by
 rw[List.dropLast_eq_take,List.dropLast_eq_take,h.length];exact h.take _
def acp {apos bh} (ho:PE X o (tE X.K Ξ f)) (iC:ĭ o "pop" X.env (Ħ o X.env)=Ħ o X.env:=by rfl) (iD:(apos.endLine==bh.line)=ό:=by rfl) :
  PE X (.Call (.Attribute o "pop" apos) [] [] bh) (tE X.K Ξ (e1 yn f)) :=
 cE (abC œ PySem.F.slot_list_pop PySem.F.type_list_pop abD ho iC iD) fun σ H Q N=>by
  let(w,env,M,S,L,h):=N;subst M;refine#[w,env,rfl,S,L,(Out.ai h).mono λE d D Y Z v J=>?_];delta yn at Z;split at Z
  .rename_i k
   split at Z
   .rename_i T W
    split at Z
    .rename_i x I
     let(a,e1,rfl):=J;let(V,R,U):=Y.cell k a _ e1 W;let(y,P,G):=U.get' _ x I;rw[U.length] at P;refine#[.inl #[rfl,V,bV.of R],a,V,y,rfl,rfl,R,P,?_];have O:(Cell.lst T)≠.dead:=by intro z;cases z
     have le:=(Fw.put (o:=.lst V.dropLast) (c:=.lst T.dropLast) Y e1 W O).le;exact Z _ le (Y.vd e1 W O #[_,cY,le.all U.dropLast]) rfl _ (le _ _ G)
    .exact Z.elim
   .exact Z.elim
  .exact Z.elim
end
end DI
namespace L2
open PySem PySem.Spec PyProof.Rows PySem.W
end L2
namespace DI
open PySem L2 PySem.W
def IY (K:Ň) (mg:Str->Option ã) (x:Str):Prop:=∃f,nsIn K Ð x=ϊ (ϊ (.ref f))/\mg x=ϊ (.ref f)
def ael {mg} {x} {st} {ps} {f} {fd} (h:IY K mg x) (G:Gd K mg x st ps f fd):nsIn K Ð x=ϊ (ϊ (.ref f)):=by
 let(X,Z,Y):=h;have e:=G.mg;rw[Y] at e;cases e;exact Z
end DI
namespace L2
open PySem PySem.Spec PyProof.Rows
noncomputable def IZ (x:Str):It:=#[λi _=>i<x.cps.size,λi H v Z=>Z=H/\∃c,x.cps[i]?=ϊ c/\v=.str #[#v[c]],λi _=>x.cps.size<=i]
def Nj {K} {tg} (it) (x) (t) (b:Bool):Turn P w K tg (IZ x) [it] it (λi h=>h.IsStrIter it (if b then "str_ascii_iterator" else "str_iterator") x t i) where
 mem:=by simp
 obj:=λi h Z c T=>by
  have e:=by simpa using T
  subst e;let(o,S,C,L):=Z;exact#[o,S,λv z=>by rw[L] at z;cases z]
 keep:=λi h Y Z k=>let ⟨o,S,r⟩:=Z;#[o,k it ∅ o S,r]
 item:=by
  intro X B hw y T i J s σ H E I O Z G;subst B hw y;let(f0,f1,f2,N,f4,M):=O it ∅;have hi:i<x.cps.size:=G;have V:x.cps[i]?=ϊ x.cps[i]:=by simp[hi]
  have go:∀Y,Y.IsStrIter it _ x t _->Ĩ it _ Y->∃u,ϊ (Value.str _ s.toks)=ϊ u /\
    ë (ê X.prog X.w) X.A (ŗ tg _ u) (λ_ q=>∃v F,Inv X J σ F q/\RelV v u/\(IZ x).vB i H v F/\q.heap.IsStrIter it (if b then "str_ascii_iterator" else "str_iterator") x t (i+1)/\∀b∈[it],F b=ϋ) E _:=λY U R=>by
   have p:Inv X J σ H { s with heap:=Y,toks:=s.toks+1 }:=I.turned (λb o W e=>R.extBut b o (by simpa using W) e) f0 f1 N f4 M
   let(o,S,C,L):=id U
   refine#[_,rfl,xA S C L (by cases b<;>decide) #[.str _,H,p,#[_,rfl],#[rfl,_,V,rfl],U,λb W=>(O b W).1]]
  cases b with
  |true=>exact wpAny_pyNext_ascii_item Z V λY U R=>go Y U R
  |false=>exact wpAny_pyNext_wide_item Z V λY U R=>go Y U R
 done:=by
  intro X B hw y T i J s σ H E I O Z G;let(f0,f1,f2,N,f4,M):=O it ∅;have V:x.cps[i]?=ϋ:=by simp;exact G
  cases b with
  |true=>exact wpAny_pyNext_ascii_end (I.ok.hd T) Z V λY D=>#[rfl,I.turned (λb o W e=>D b o W e) f0 f1 N f4 M]
  |false=>exact wpAny_pyNext_wide_end (I.ok.hd T) Z V λY D=>#[rfl,I.turned (λb o W e=>D b o W e) f0 f1 N f4 M]
 self:=λA i s Q E Z h=>by
  cases b with
  |true=>exact wpAny_pyIter_striter_ascii Z h
  |false=>exact wpAny_pyIter_striter_wide Z h
def afN (tl:TE):TI:=fun σ H R=>tl σ H λx Z=>∃y,x=.str y/\R (IZ y) Z
def acq {tg l} {tl} (hl:PE X l tl):PI X tg l (afN tl):=by
 intro W s σ H R I h;refine aQ (hl W s σ H _ I h) λv T ⟨x,Y,Z,S,Q⟩=>?_;let(y,e,q):=Q;subst e;let(t,rfl):=S;have V:∀b∈[T.heap.objs.size],gn X W Y b:=λb P=>by
  have e:=by simpa using P
  subst e;exact Z.rS (ahz _) (Z.aK.fresh (ahz _))
 cases U:y.cps.all _ with
 |true=>exact wpAny_pyIter_ascii U #[_,_,_,_,Y,rfl,Z.kept λb o e=>Á _ e,Nj _ y t ό,#[_,Ì _ rfl,rfl,rfl],V,q]
 |false=>exact wpAny_pyIter_wide U #[_,_,_,_,Y,rfl,Z.kept λb o e=>Á _ e,Nj _ y t ύ,#[_,Ì _ rfl,rfl,rfl],V,q]
section
variable {X:Cx}
def rJoin (K:Ň):V->List V->Hp->VK->Prop:=λx Z H Q=>∃(y:Str) (a:þ) (zs:List Str),x=.str y/\Z=[.ref a]/\bV K H a (zs.map V.str)/\JoinOk y zs=ό/\Q (.str (Ĳ y zs)) H
theorem Mp:∀{zs} {us},Vals (zs.map V.str) us->∃l,us=strValues l/\l.map (·.1)=zs
 | [],_,.nil=>#[[],rfl,rfl]
 |z::zs,_,.cons r Z=>by
  let(t,rfl):=r;let(l,rfl,e):=Mp Z;exact#[(z,t)::l,rfl,by simp[e]]
def aaj:vE X "str.join" (rJoin X.K):=by
 intro R s σ H x P v O Q I W V h;let(y,a,zs,rfl,rfl,U,Y,q):=h;let(t,rfl):=W;let(u,rfl,T):=V.one;cases T;let(ak,r,p,N):=I.list U;let(l,rfl,e):=Mp r;subst e;have Z:=Y;delta JoinOk at Z;rw[Ċ] at Z;refine Ŧ F.slot_str_join (typeIs_str s y t) F.entry_str_join (F.args_str_join_2 ..) (meets_str_join_list y t a l Z) #[p.isList,post_join l #[joinOk_length Y,λS k=>?_]];refine#[.str _,H,I.tok k,#[S,rfl],?_];rw[show Txt.join y _=Ĳ y _ from StrLaws.glued_eq_join ..];exact q
def acr:V->List V->Hp->VK->Prop:=λx Z H Q=>∃(a y:Str),x=.str a/\Z=[.str y]/\(y.length==0)=ύ/\a.length+2<=Õ/\∀p,H p=ϋ->Q (.ref p) (upd H p (.lst ((ļ a y).map V.str)))
theorem KH:∀zs tk,Vals (zs.map V.str) (strsFrom tk zs)
 | [],_=>.nil
 |z::zs,tk=>.cons #[_,rfl] (KH zs _)
def YI:vE X "str.split" acr:=by
 intro R s σ H x M v L Q I P O h;let(a,y,rfl,rfl,T,S,q):=h;let(t,rfl):=P;let(u,rfl,N):=O.one;let(U,rfl):=N;have fresh:=I.aK.fresh (ahz _);have fin:∀ak k,Vals _ ak->EP X R σ Q _ _:=λak k r=>by
  have Y:((ļ a y).map V.str).length<=Õ:=by rw[Æ];exact Ø (agT a y) S
  refine#[.ref _,_,I.laid (o:=.lst _) (t':=k) (λb o e=>Á _ e) (ahz _) #[Y,ak,0,r,Ì _ rfl],rfl,q _ fresh]
 by_cases Z:(ώ (a.length<y.length)||ώ (Builtin.Str.strKind a<Builtin.Str.strKind y))=ό
 .refine Ŧ F.slot_str_split (typeIs_str s a t) F.entry_str_split (F.args_str_split_2 ..) (meets_str_split_cannot_occur a y t U Z) ?_
  have e:ļ a y=[a]:=by delta ļ;rw[Ù Z]
  have:=fin [.str a t] s.toks (by rw[e];exact .cons #[_,rfl] .nil);exact this
 .by_cases W:(ŏ a y 0 a.length (a.length+1)).isEmpty=ό
  .refine Ŧ F.slot_str_split (typeIs_str s a t) F.entry_str_split (F.args_str_split_2 ..) (meets_str_split_not_found a y t U (by simpa using Z) T W) ?_
   have e:ļ a y=[a]:=by delta ļ;rw[é Z,Ù W]
   have:=fin [.str a t] s.toks (by rw[e];exact .cons #[_,rfl] .nil);exact this
  .have e:ļ a y=Builtin.Str.partsBetween a (ŏ a y 0 a.length (a.length+1)) y.length:=by delta ļ;rw[é Z,é W]
   refine Ŧ F.slot_str_split (typeIs_str s a t) F.entry_str_split (F.args_str_split_2 ..) (meets_str_split_sep a y t U (by simpa using Z) T (by simpa using W) ⋯ (by rw[<- e];exact Ø (agT a y) S)) ?_;have:=fin (strsFrom s.toks _) (s.toks+(ļ a y).length) (KH ..);rw[e] at this;exact this
def UH:dB X (.type "int") (λxs H Q=>∃(x:Str) (n:Int),xs=[.str x]/\x.length<=640/\af8 x=ϊ n/\Q (.int n) H):=by
 intro U s σ H xs T Q I r h;let(x,n,rfl,Z,Y,q):=h;let(u,rfl,V):=vals1 r;let(t,rfl):=V;exact PySem.W.KIN.call_text Y Z #[.int n,H,I.tok _,#[_,rfl],q]
end
section
variable {prog:ø} {w:Ĭ} {A:đ} {E:ã->Ý->Prop} {s:Ý}
theorem Mq {it l} {items} (gj:l≠it):∀n i s Q,s.heap.IsListIter it l i->s.heap.IsList l items->i+n<=items.size ->
  (∀h',h'.IsListIter it l (i+n)->Ĩ it s.heap h'->Q ((items.toList.drop i).take n) { s with heap:=h' })->ë (ê prog w) A (draw (.ref it) n) Q E s
 |0,i,s,Q,hit,_,_,Z=>by
  exact Ä (by simpa using Z _ hit (Heap.SameBut.refl ..))
 |n+1,i,s,Q,hit,W,hle,Z=>by
  have V:i<items.size:=by omega
  have T:items.toList.drop i=items[i]::items.toList.drop (i+1):=by simp[Ţ,V]
  refine À (wpAny_pyNext_list_item hit W (x:=items[i]) (by simp[V]) λS R U=>?_)
  have P:S.IsList l items:=let ⟨o,e,r⟩:=W;#[o,U.extBut l o gj e,r]
  refine À (Ć (Mq gj n _ _ _ R P ⋯ λO Y X=>Ä ?_));have z:=Z _ (by rw[show i+(n+1)=i+1+n by omega];exact Y) (U.trans X);rw[T] at z;exact z
def U4 {items} {targets} {Q} (hh:A.handled=ϋ) (hl:s.heap.IsList l items) (hn:targets.length=items.size) (hs:targets.findIdx? (·.1)=ϋ)
  (h:∀h',agf s.heap.objs.size s.heap h'->ë (ê prog w) A (assignInOrder (targets.map (·.2)) items.toList) Q E { s with heap:=h' }):ë (ê prog w) A (unpack (.ref l) targets) Q E s:=by
 have Y:l≠s.heap.objs.size:=by let(o,U,_):=hl;exact ß (Í U)
 have X:∀o,(s.heap.push o).IsList l items:=λo=>let ⟨u,e,r⟩:=hl;#[u,Á _ e,r]
 delta unpack;rw[hn,hs];refine À (Ć ?_);refine À ?_;refine À (wpAny_specialOf hl.typeIs slot_list_iter.lookup (Ä ?_));refine À (Ć (Ť hl (À (Ć (Mq Y _ 0 _ _ #[_,Ì _ rfl,rfl,rfl] (X _) ⋯ λT S W=>?_)))));rw[Ž ∅,é ∅]
 have R:T.IsList l items:=let ⟨o,e,r⟩:=X _;#[o,W.extBut l o Y e,r]
 refine À (Ć (wpAny_pyNext_list_end hh S R ∅ λP Z=>?_));exact Ä (h _ λb o V e=>Z b o V (W.extBut b o V (Á _ e)))
end
section
variable {X:Cx}
def afP (K:Ň) (n:Nat) (t:qq):TG:=λv σ H Q=>∃a Z,v=.ref a/\bV K H a Z/\Z.length=n/\t Z σ H Q
def acs {k} {pos} {t} {n} (hc:X.calm=ό) (h:lB X es t)
  (hn:(Ņ es X.env).length=n:=by rfl) (gu:(Ņ es X.env).findIdx? (·.1)=ϋ:=by rfl):PG X (.Tuple es k pos) (afP X.K n t):=by
 intro Y s σ H v u Q I r hw;let(a,W,e1,V,U,hw):=hw;subst e1;cases r;let(ak,Z,T,P):=I.list V;refine À (Ŭ (U4 (I.ok.hd hc) T.isList (by simp[hn,<- U,Z.length]) gu λO S=>?_));have R:=I.kept (t':=s.toks) λb o e=>S b o (ß (Í e)) e;exact h Y _ σ H W _ Q R (by simpa using Z) hw
end
end L2
namespace DI
open PySem L2
section
variable {X:Cx} {Ξ:Wd->bw->Prop} {e a b o:ŕ} {es:List ŕ} {pos:Pos} {f g:ahv D}
def gL (gs:List (D->Env->Option Env)):D->Env->Option Env:=λd env=>match d with
 | .lst Z=>iK gs Z env
 |_=>ϋ
def FZ {k} (hc:X.calm=ό) (h:lB X es (vQ X.K (iK gl))) (hn:(Ņ es X.env).length=gl.length:=by rfl) (gu:(Ņ es X.env).findIdx? (·.1)=ϋ:=by rfl):PG X (.Tuple es k pos) (gD X.K (gL gl)) :=
 E9 (acs hc h hn gu) λv σ H Q W=>by
  let(w,env,d,V,U,S,T,R,Z,k):=W
  cases d with
  |lst P =>
   let(p,O,e1,N,Y):=R;subst U;exact#[p,O,e1,N.sq,by rw[<- Y.length];exact zV Z,w,env,P,V,rfl,S,T,Y,Z,k]
  |_=>cases Z
noncomputable def I0 (x:Str):List D:=x.cps.toList.map λc=>D.str #[#v[c]]
def xP (f:ahv D):ahv (List D):=λenv s=>ai (f env s) λd s=>match d with
 | .str x=>ok (I0 x) s
 |_=>ϋ
def QT (hl:PE X a (tE X.K Ξ f)):PI X tg a (fU X.K Ξ (xP f)) :=
 rg (acq hl) fun σ H R V=>by
  let(w,env,U,S,T,h):=V;subst U;refine#[w,env,rfl,S,T,(Out.ai h).mono λM d L Q W v P=>?_]
  cases d with
  |str x =>
   have e:=P;refine#[x,e,aI Q W _ λO J N i=>#[λd Z=>?_,λhl=>?_]]
   .delta I0 at Z
    rw[à] at Z;let(c,Y,rfl):=agE.mp Z;rw[ĺ] at Y;refine#[(Array.getElem?_eq_some_iff.mp Y).1,λz I ⟨e1,G,e2,e3⟩=>#[O,e1.symm,Le.refl _,N,rfl,?_]];rw[Y] at e2;cases e2;exact e3
   .delta I0 at hl
    rw[Æ] at hl;exact hl
  |_=>exact W.elim
noncomputable def strs?:List D->Option (List Str)
 | []=>ϊ []
 | .str x::r=>(strs? r).map (x::·)
 |_=>ϋ
theorem Oq:∀{ds} {zs} {vs},strs? ds=ϊ zs->aA K w ds vs->vs=zs.map V.str
 | [],zs,vs,h,Z=>by cases h;exact Z
 |d::ds,zs,vs,h,Z=>by
  let(v,r,rfl,Y,X):=Z
  cases d with
  |str x =>
   delta strs? at h;let(W,U,rfl):=agE.mp h;rw[Oq U X,Y];rfl
  |_=>cases h
theorem Nk:∀zs:List Str,aA K w (zs.map D.str) (zs.map V.str)
 | []=>rfl
 |z::zs=>#[_,_,rfl,rfl,Nk zs]
def hW (m:Str->D->ag->Res D) (f g:ahv D):ahv D:=λenv s=>ai (f env s) λd s=>match d with
 | .str y=>ai (g env s) λx s=>m y x s
 |_=>ϋ
def kg (y:Str) (x:D) (s:ag):Res D:=match res x s with
 | .lst Z=>match strs? Z with
  |some zs=>if JoinOk y zs=ό then ok (.str (Ĳ y zs)) s else ϋ
  |none=>ϋ
 |_=>ϋ
def nj (a:Str) (x:D) (s:ag):Res D:=match x with
 | .str y=>if (!(y.length==0)&&ώ (a.length+2<=Õ))=ό then ok (.lst ((ļ a y).map D.str)) s else ϋ
 |_=>ϋ
def AU {apos bh} (ho:PE X o (tE X.K Ξ f)) (ha:PE X a (tE X.K Ξ g))
  (iC:ĭ o "join" X.env (Ħ o X.env)=Ħ o X.env:=by rfl)
  (kl:((Ġ bh (É [a] X.env)).all (λx=>!x.1)&&(ž bh (ŀ [] X.env)).all (λx=>x.1.isSome)
   && ώ (([a]).length+([]:List Ź).length+(if ([]:List Ź).isEmpty then 0 else 1)<30))=ό:=by rfl)
  (iD:(apos.endLine==bh.line)=ό:=by rfl) (hs:É [a] X.env=(ύ,Ħ a X.env)::É [] X.env:=by rfl) (ix:(Ġ bh (É [] X.env)).any (·.1)=ύ:=by rfl) :
  PE X (.Call (.Attribute o "join" apos) [a] [] bh) (tE X.K Ξ (hW kg f g)) :=
 cE (uJ PySem.F.plainAttrs_str PySem.F.slot_str_join PySem.F.type_str_join aaj ho (jY ha kP hs) iC kl iD hs ix) fun σ H Q T=>by
  let(w,env,R,S,Y,h):=T;subst R;refine#[w,env,rfl,S,Y,(Out.ai h).mono λP d O N W v M=>?_]
  cases d with
  |str y =>
   have e:=M;subst e;refine#[rfl,P,env,rfl,N,Y.le O,(Out.ai W).mono λD x C V Z u L=>?_];delta kg at Z;split at Z
   .rename_i B J
    split at Z
    .rename_i zs I
     split at Z
     .rename_i G
      let(p,A,rfl,U,E):=j3 V L J;rw[Oq I E] at U;exact#[y,p,zs,rfl,rfl,bV.of U,G,aI V Z _ rfl]
     .exact Z.elim
    .exact Z.elim
   .exact Z.elim
  |_=>exact W.elim
def Av {apos bh} (ho:PE X o (tE X.K Ξ f)) (ha:PE X a (tE X.K Ξ g))
  (iC:ĭ o "split" X.env (Ħ o X.env)=Ħ o X.env:=by rfl)
  (kl:((Ġ bh (É [a] X.env)).all (λx=>!x.1)&&(ž bh (ŀ [] X.env)).all (λx=>x.1.isSome)
   && ώ (([a]).length+([]:List Ź).length+(if ([]:List Ź).isEmpty then 0 else 1)<30))=ό:=by rfl)
  (iD:(apos.endLine==bh.line)=ό:=by rfl) (hs:É [a] X.env=(ύ,Ħ a X.env)::É [] X.env:=by rfl) (ix:(Ġ bh (É [] X.env)).any (·.1)=ύ:=by rfl) :
  PE X (.Call (.Attribute o "split" apos) [a] [] bh) (tE X.K Ξ (hW nj f g)) :=
 cE (uJ PySem.F.plainAttrs_str PySem.F.slot_str_split PySem.F.type_str_split YI ho (jY ha kP hs) iC kl iD hs ix) fun σ H Q P=>by
  let(w,env,O,S,U,h):=P;subst O;refine#[w,env,rfl,S,U,(Out.ai h).mono λN d M L T v J=>?_]
  cases d with
  |str y =>
   have e:=J;subst e;refine#[rfl,N,env,rfl,L,U.le M,(Out.ai T).mono λI x E R Y u G=>?_];delta nj at Y;split at Y
   .rename_i z
    split at Y
    .rename_i W
     rw[Â,Ċ,Å] at W;have e:=G;subst e;refine#[y,z,rfl,rfl,W.1,W.2,λp V=>?_];exact Y _ (Fw.grow V).le (R.grow V) rfl _ #[p,_,rfl,#[(show ¬ I.Z p from ow R V),cY],Nk _]
    .exact Y.elim
   .exact Y.elim
  |_=>exact T.elim
def lh (ds:List D) (s:ag):Res D:=match ds with
 | [.int i]=>if ώ (i.natAbs.log2<1920)=ό then ok (.str (toString i)) s else ϋ
 |_=>ϋ
def uT:dB X (.type "str") (rC X.K Ξ lh):=by
 intro Z s σ H U Y Q I r qz;let(w,T,rfl,S,W,h):=qz;delta lh at h;split at h
 .rename_i i
  split at h
  .rename_i hi
   let(v,rfl,V):=lY W;have e:=V;subst e;exact Uu Z s σ _ _ Y Q I r #[i,rfl,á hi,aI S h _ rfl]
  .exact h.elim
 .exact h.elim
def kh (ds:List D) (s:ag):Res D:=match ds with
 | [.str x]=>if ώ (x.length<=640)=ό then (match af8 x with
  |some n=>ok (.int n) s
  |none=>ϋ) else ϋ
 |_=>ϋ
def uA:dB X (.type "int") (rC X.K Ξ kh):=by
 intro Z s σ H T Y Q I r qz;let(w,R,rfl,S,W,h):=qz;delta kh at h;split at h
 .rename_i x
  split at h
  .rename_i hi
   split at h
   .rename_i n V
    let(v,rfl,U):=lY W;have e:=U;subst e;exact UH Z s σ _ _ Y Q I r #[x,n,rfl,á hi,V,aI S h _ rfl]
   .exact h.elim
  .exact h.elim
 .exact h.elim
def F0 (x y:D) (s:ag):Res D:=match x,y with
 | .str i,.str j=>ok (.bl (!(ŏ j i 0 j.length 1).isEmpty)) s
 |_,_=>ϋ
def aep:bP X (Ē .In) (rO X.K Ξ F0):=by
 intro Z s σ H x y v u Q I Y W qz;let(w,T,R,rfl,S,V,U,h):=qz;delta F0 at h;split at h
 .rename_i i j
  have e1:=V;have e2:=U;subst e1 e2;exact Wt Z s σ _ _ _ v u Q I Y W #[i,j,rfl,rfl,aI S h _ rfl]
 .exact h.elim
def qk (f g:ahv D):ahv D:=λenv s=>ai (f env s) λd s=>match d with
 | .str x=>if ώ (x.length<=Õ)=ό then (if (x.length==0)=ό then g env s else ok (.str x) s) else ϋ
 |_=>ϋ
def F1 {rest} (ha:PE X a (tE X.K Ξ f)) (hb:PE X (.BoolOp .Or (b::rest) pos) (tE X.K Ξ g)):PE X (.BoolOp .Or (a::b::rest) pos) (tE X.K Ξ (qk f g)):=by
 intro U s σ H Q I L;let(w,env,J,S,T,h):=L;subst J
 refine PyProof.Rows.BoolOp_or (aQ (ha U s σ _ (λv V=>∃x,v=.str x/\x.length<=Õ/\if (x.length==0)=ό then tE X.K Ξ g σ V Q else Q (.str x) V) I #[w,env,rfl,S,T,(Out.ai h).mono λR d G P Z v F=>?_]) λv E ⟨x,V,D,O,W⟩=>?_)
 .cases d with
  |str x =>
   have e:=F;subst e
   have Z:Out _ Ξ R (if ώ _=ό then (if (x.length==0)=ό then g env _ else ok _ _) else ϋ) (λC d=>∀v,DV _ C d v->Q v _):=Z
   split at Z
   .rename_i B
    refine#[x,rfl,á B,?_];split at Z
    .rename_i Y
     rw[Ù Y];exact#[R,env,rfl,P,T.le G,Z]
    .rename_i Y
     rw[é Y];exact aI P Z _ rfl
   .exact Z.elim
  |_=>exact Z.elim
 .let(y,rfl,A,W):=W
  refine ė (E5 U E σ V _ v (λk z=>z=V/\k=((y.length:Int) != 0)) D O #[_,#[A,rfl],rfl,rfl]) (λk u ⟨N,M,e2,t⟩=>?_) λ_ _ h=>h;subst e2 t
  cases Y:((y.length:Int) != 0) with
  |true =>
   have:(y.length==0)=ύ:=by
    cases r:(y.length==0) with
    |false=>rfl
    |true=>rw[show y.length=0 by simpa using r] at Y;simp at Y
   rw[this] at W;exact#[_,N,M,O,W]
  |false =>
   have:(y.length==0)=ό:=by
    have q:=by simpa using Y
    rw[q];rfl
   rw[this] at W;exact hb U u σ N Q M W
def yo (h:∃t,X.mg x=ϊ (.str y t)) (hg:Gl X x) (hd:(x==("__debug__"))=ύ:=by decide):PE X (.Name x pos) (tE X.K Ξ (eC (.str y))):=by
 let(t,e):=h;exact rE (v:=.str y) (Ej hg e #[t,rfl] hd) λ_=>rfl
def gr (d:D) (s:ag):Res D:=match d with
 | .str x=>if ώ (x.length<=Õ)=ό then ok (.str x) s else ϋ
 | .int i=>if ώ (i.natAbs.log2<1920)=ό then ok (.str (toString i)) s else ϋ
 |_=>ϋ
def rN (ha:PE X a (tE X.K Ξ f)):PE X (.FormattedValue a (-1) ϋ pos) (tE X.K Ξ (e1 gr f)):=by
 intro P s σ H Q I O;let(w,env,N,S,M,h):=O;subst N;refine wpAny_FormattedValue_plain (aQ (ha P s σ _ (λv Y=>(∃x,v=.str x/\x.length<=Õ/\Q (.str x) Y)\/∃i,v=.int i/\i.natAbs.log2<1920/\Q (.str (toString i)) Y) I #[w,env,rfl,S,M,(Out.ai h).mono λG d F U Z v T=>?_]) λv E ⟨x,Y,W,R,L⟩=>?_)
 .delta gr at Z
  split at Z
  .rename_i x
   split at Z
   .rename_i V
    exact .inl #[x,T,á V,aI U Z _ rfl]
   .exact Z.elim
  .rename_i i
   split at Z
   .rename_i V
    exact .inr #[i,T,á V,aI U Z _ rfl]
   .exact Z.elim
  .exact Z.elim
 .rcases L with ⟨y,rfl,J,q⟩ | ⟨i,rfl,hi,q⟩
  .let(t,rfl):=R
   exact wpAny_formatField_str #[.str y,Y,W,#[_,rfl],q] #[.str y,Y,W.tok _,#[_,rfl],q] J
  .let(t,rfl):=R
   exact wpAny_formatField_int hi #[.str _,Y,W.tok _,#[_,rfl],q]
def kI:List (ahv D)->Str->ahv D
 | [],Z,env,s=>if ώ (Z.length<=Õ)=ό then ok (.str Z) s else ϋ
 |f::fs,Z,env,s=>ai (f env s) λd s=>match d with
  | .str y=>if ώ ((Z++y).length<=Õ)=ό then kI fs (Z++y) env s else ϋ
  |_=>ϋ
inductive hX (X) (Ξ):List ŕ->List (ahv D)->Prop
 |nil:hX X Ξ [] []
 |cons {e es f fs} (h:PE X e (tE X.K Ξ f)) (r:hX X Ξ es fs):hX X Ξ (e::es) (f::fs)
def YJ {σ:St} {Q} {env}:∀{es} {fs},hX X Ξ es fs->∀{acc} {w} {s},Inv X π σ w.H s->aW X.K w->cg X.K w env σ ->
  Out X.K Ξ w (kI fs acc env w.aN) (λw' d=>∀v,DV X.K w' d v->Q v w'.H)->Joins (ê X.prog X.w) X.A X.xe (evalEach es X.env) acc (λout bU=>out.length<=Õ/\EP X π σ Q (.str out bU.toks) { bU with toks:=bU.toks+1 }) s:=by
 intro es fs P
 induction P with
 |nil =>
  intro acc w s I S W h;delta kI at h;split at h
  .rename_i V
   exact#[á V,.str acc,_,I.tok _,#[_,rfl],aI S h _ rfl]
  .exact h.elim
 |cons R r ih =>
  rename_i e es f fs;intro acc w s I S W h;refine aQ (R π s σ _ (λv T=>∃y Z,v=.str y/\Z.H=T/\aW X.K Z/\cg X.K Z env σ/\(acc++y).length<=Õ/\Out X.K Ξ Z (kI fs (acc++y) env Z.aN) (λw' d=>∀v,DV X.K w' d v->Q v w'.H)) I #[w,env,rfl,S,W,(Out.ai h).mono λZ d O U Y v N=>?_]) λv E ⟨x,T,M,L,J⟩=>?_
  .cases d with
   |str y =>
    have Y:Out _ Ξ Z (if ώ _=ό then kI fs _ env _ else ϋ) _:=Y
    split at Y
    .rename_i V
     exact#[y,Z,N,rfl,U,W.le O,á V,Y]
    .exact Y.elim
   |_=>exact Y.elim
  .let(y,Z,rfl,rfl,U,G,F,Y):=J
   let(t,rfl):=L;exact#[y,t,rfl,F,ih M U G Y]
def PJ {fs} (h:hX X Ξ (e::e'::es) fs):PE X (.JoinedStr (e::e'::es) pos) (tE X.K Ξ (kI fs agq)):=by
 intro U s σ H Q I Z;let(w,env,Y,S,W,V):=Z;subst Y;exact wpAny_JoinedStr (YJ h I S W V)
end
end DI
namespace L2
open PySem PySem.Spec PyProof.Rows
end L2
namespace DI
open PySem L2
open PySem.W
def gJ (n:Nat) (x:Str) (caps:List Nat) (fb:ahv D) (g:D->(ag->Res D)->List D->ag->Res D):ahv D:=λenv s=>match (oI env caps) with
 |some Z=>match (s[n]?) with
  |some (.tb y)=>if ώ (y=x)=ό then ne (g .ax (fb (Z.map ϊ)) [.ax] s) else ϋ
  |_=>ϋ
 |none=>ϋ
section
variable {X:Cx} {Ξ:Wd->bw->Prop} {pos:Pos}
def pU (j0) {x g} {p jK} {params} {body} {sc} {c P} {S0} {S7} {k n kb} {gf} {fb} (N) {caps}
  (Be:X.env.code=.ref c) (QU:X.env.qual=x++".<locals>.") (ht:tabIn X.K x=ϊ (c,P)) (hC:codeHdIn X.K c P=ό) (hb:X.base.BuiltinsAt X.mg P)
  (G:GG X.K X.mg g S0 S7) (F:Cg X.prog X.w X.K X.mg g S0 S7 k (kb+1) gf) (afQ:∀cl th s,gf cl th [cl] s=gf .ax th [.ax] s) (hr:bK n X.A)
  (ma:∀base q f cd cl A outer s H E,bK kb (A.deeper (envX q sc s.heap.objs.size f cd cl))->Lv (vZ X.prog X.w X.K X.mg base N q sc f cd cl A outer s H E) E->PE (vZ X.prog X.w X.K X.mg base N q sc f cd cl A outer s H E) body (tE X.K (gB X.mg E) fb))
  (hk:k<=n:=by decide) (Hg:PB X.N N caps X.env.scope sc=ό:=by kernel_rfl) (yy:∀x,X.fn x=ό:=by intro _;rfl) (F2:∀cl pm c' ju,bindArgs (kla_fn "<lambda>" (x++".<locals>."++"<lambda>") params body sc cl pm (.ref c') ju) #[[],[]]=pure []:=by intros;rfl)
  (He:defaultsOf params X.env=([],[]):=by rfl) (hg:Gl X g:=by rfl) (dq:(g==("__debug__"))=ύ:=by decide)
  (he:É [.Lambda params body sc jK] X.env=(ύ,Ħ (.Lambda params body sc jK) X.env)::É [] X.env:=by rfl) (bM:(Ġ pos (É [] X.env)).any (·.1)=ύ:=by rfl) :
  PE X (.Call (.Name g p) [.Lambda params body sc jK] [] pos) (tE X.K Ξ (gJ j0 x caps fb gf)):=by
 intro π s σ H Q I aD;have C:=codeHd_of_K I.ok.mod.lu hC;let(w,env,eH,S,eo,h):=aD;subst eH;delta gJ at h
 cases nM:oI env caps with
 |none=>rw[nM] at h;exact h.elim
 |some W =>
 rw[nM] at h
 cases V:w.aN[j0]? with
 |none=>erw[V] at h;exact h.elim
 |some c0 =>
 erw[V] at h
 cases c0 with
 |dead=>exact h.elim
 |lst _=>exact h.elim
 |dK _=>exact h.elim
 |dT _=>exact h.elim
 |ins _ _=>exact h.elim
 |tb y =>
 dsimp only at h;by_cases hy:y=x
 case neg=>rw[é (by simpa using hy)] at h;exact h.elim
 rw[Ù (by simpa using hy)] at h;subst hy;let(vs,ao,hvs):=Ng eo nM;obtain⟨a,ha⟩:∃a,w.ρ[j0]?=ϊ a:=by
  have h0:=(Ç.mp V).1;rw[<- S.len] at h0;exact#[_,Ñ h0]
 have afR:=S.cell j0 a _ ha V;let(c2,ps,t1,t2,t3,t4):=afR;rw[ht] at t1;cases t1;delta PB at Hg;erw[Â,θ,Ċ,Å,Þ] at Hg;obtain⟨⟨⟨⟨⟨⟨k1,k2⟩,k3⟩,k4⟩,k5⟩,k6⟩,k7⟩:=Hg;let(cl,dX,R):=Yz λz hz=>by
  rcases k7 _ hz with q|q
  .exact absurd rfl q
  .exact I.ok.has z (.inl q)
 let(gA,fdg,G):=G;refine Ŝ (qZ I hg G.mg ?_ dq);refine ags I.ok.mod.lu G.fn.kp ?_ he bM;refine agr (YA I dX Be C hb t2 t3 He (λcv q=>?_) λf c' ju O fs tq H1 D Y hf RR Ja jO pq hV hH=>?_)
 .rw[QU]
  let(c',O,fs,t,r1,r2,r3,r4):=t4 jK cv q;exact#[c',O,fs,t,r1,r2.2,r3,r4]
 rw[QU] at Ja hV;refine Calls.spliced_nil #[Y.gb,?_];have W1:∃U,U.H=H1/\aW X.K U/\Le X.K w U/\U.aN=w.aN:=by
  rcases hH with rfl | ⟨hn,IG,rfl,sE⟩
  .exact#[w,rfl,S,Le.refl w,rfl]
  .have S2:=S.grow (o:=.bx O (.own c')) hn
   have M:=(Fw.grow (K:=X.K) (o:=.bx O (.own c')) hn).le;have l2:=(Fw.put (o:=.cK (ps++#v[ł jK.line,ł jK.col,.ref c'])) (c:=.tb y) S2 ha V (by intro z;cases z)).le;refine#[(w.grow c' _).put j0 P _ (.tb y),rfl,S2.vd ha V (by intro z;cases z) #[c,_,ht,cY,sE,λpos cv e=>?_],M.trans l2,?_]
   .rw[Array.toList_append] at e
    rcases WY _ t3 e with e|e
    .let(c3,o3,v3,t3',r1,r2,r3):=t4 pos cv e
     exact#[c3,o3,v3,t3',r1,(M.trans l2).bx c3 o3 _ r2.1 r2.2,r3]
    .refine#[c',O,fs,tq,e,?_,pq,hV]
     exact l2.bx c' O _ (λz=>ow S hn z) cY
   .exact ŧ λi=>by
     show (w.aN.set j0 _)[i]?=w.aN[i]?;by_cases hi:i=j0
     .subst hi;rw[â (Ç.mp V).1,V]
     .rw[ç (Ĥ hi)]
 let(U,rfl,S1,M,es):=W1;have cells:∀z Z,cl.lookup z=ϊ Z->∀v,D.heap.IsCell Z v->(pX X _ D).IsCell Z v:=λz Z e v ⟨o,ho,hd⟩=>by
  have e2:=R.xI z Z e;refine#[o,zS ho (Y.jD z Z e2) λq=>?_,hd]
  rcases Ô.mp (Y.m8 _ q) with q|q
  .exact Y.lA z Z e2 q
  .let(_,o2,i4,_):=Y.ok.jj.mem q
   exact absurd (Í i4) (Nat.not_lt.mpr (Y.ok.vz z Z (yy z) e2))
 have RS:f∉dU _:=λq=>by
  let(_,o2,i4,_):=I.stack.mem q;exact absurd (Í i4) (Nat.not_lt.mpr hf)
 have nl:N.length=vs.length:=by
  have e1:=ao.length;have e2:∀cs W,oI env cs=ϊ W->W.length=cs.length:=λcs=>by
   induction cs with
   |nil=>intro W h;cases h;rfl
   |cons i r ih =>
    intro W h;delta oI at h;split at h
    .cases h;rename_i e;simp[ih _ e]
    .cases h
  rw[k5,<- e2 caps W nM,e1]
 have T:zc X.prog X.w X.K X.mg (pX X U.H D) (kb+1) (λH=>H c'=ϊ (.bx O (.own c'))) f vs W (fb (W.map ϊ)):=by
  refine#[λH H' st q=>st _ _ _ q,_,#[_,zS Ja RR RS,rfl],Binds.all λus hl=>?_,(ace #[k2,k3,k1,k4] (zS Ja RR RS) nl (λz1 z2 Z J B=>Y.ok.inj z1 z2 Z (R.xI _ _ J) (R.xI _ _ B)) (λz hz=>R.all z (Ķ hz)) (λz Z e=>?_) (λi z v J B=>?_) pq hV
   (λA outer s H E hr L=>ma _ _ f _ cl A outer s H E hr L)).imp λus H Q E h=>?_]
  .have:=List.eq_nil_of_length_eq_zero (by simpa using hl)
   subst this;exact F2 ..
  .let(v,q):=Y.cell z Z (R.xI z Z e)
   exact#[v,cells z Z e v q]
  .have hi:=by
    have:=(Ç.mp J).1;rw[k5] at this;exact this
   obtain⟨j,hj⟩:∃j,caps[i]?=ϊ j:=#[_,Ñ hi];have hm:(z,j)∈N.zip caps:=by
    refine abI (i:=i) ?_;rw[List.getElem?_zip_eq_some];exact#[J,hj]
   obtain⟨⟨q1,q2⟩,q3⟩:=k6 _ hm;let(m,hn,hl):=Y.loc;let(u,r,lk):=hl j z v q1 (hvs i j v hj B) (.inr (.inl q2));refine#[q3,?_]
   rcases lk with ⟨lk,_⟩ | ⟨_,Z,e1,e2⟩
   .rw[show X.env.kindOf z=X.env.scope.names.lookup z from rfl,q2] at lk;cases lk
   .let(c3,e3):=R.all z (Ķ q3)
    have e4:=R.xI z c3 e3;rw[e1] at e4;cases e4;exact#[Z,u,e3,cells z Z e3 _ e2,r]
  .let(J,B,w',rfl,S',nR,hh):=h
   refine#[J,B,w',_,rfl,S',#[?_,λi d e=>?_],hh]
   .rw[Æ,Æ];exact nR.length
   .rw[à] at e
    cases q:W[i]? with
    |none=>rw[q] at e;cases e
    |some d' =>
     rw[q] at e;cases e;let(v,e1,e2):=nR.get' i d q;exact#[v,by rw[à,e1];rfl,e2]
 have hq:=(h.from M).ne;rw[<- es,<- afQ _] at hq;refine agi (ń ((F T G).run _ _ D _ _ _ [.ref f] Q (λ_ _ _=>False) (hr.mono hk) Y.aee (G.b D _ Y.gb ?_) (.cons rfl .nil) #[jO,U,rfl,S1,#[_,_,rfl,#[rfl,M.all ao],rfl],hq]) λr s' l=>?_)
 .have:=(F T G).len _ _ Q (λ_ _ _=>False) #[jO,U,rfl,S1,#[_,_,rfl,#[rfl,M.all ao],rfl],hq]
  simpa using this
 .cases r with
  |error e=>exact l.elim
  |ok fl =>
   cases fl with
   |ret u=>exact Y.after l
   |next=>exact ĉ l
   |brk=>exact ĉ l
   |cont=>exact ĉ l
end
end DI
namespace L2
open PySem PySem.Spec PyProof.Rows PySem.W
def WZ {K} {mg mb} {CX} {k} {fa a c P c' P'} {fd} {x} {sp} {bU} {vs} {ns}
  (KX:K.In bU.heap) (qx:bU.heap.Ns Ð mg) (hb:bU.heap.Ns builtinsNs mb) (hbb:∀x:Str,x≠"__name__"->mb x=ü x) (afS:bU.heap.NoLimit) (hg:bU.gens=#v[])
  (ha:bU.heap.get? a=ϊ { cls:=.type "list",data:=.seq vs.toArray }) (hi:ag5 vs ns) (hl:ns.length<=Õ) (hr:bK k callerA)
  (CT:CodeHd bU.heap c P) (hP:bU.heap.get? P=ϊ (tabObj #v[])) (Jb:K.lookup P=ϋ) (Cj:bU.heap.BuiltinsAt mg P)
  (Jc:CodeHd bU.heap c' P') (nV:bU.heap.get? P'=ϊ (tabObj #v[])) (Hh:K.lookup P'=ϋ) (afT:bU.heap.BuiltinsAt mg P')
  (F:∀base,K.In base->base.Ns Ð mg->base.BuiltinsAt mg P->base.BuiltinsAt mg P'->dg Pr w K mg base CX k fa fd [x] sp) (F2:∀s u,BindsTo s fd #[[u],[]] [(x,u)])
  (kB:∀H,H P=ϊ (.cK #v[])->H P'=ϊ (.cK #v[])->bV K H a (ns.map V.int)->sp [.ref a] H (λv _=>v=.bl ό) λ_ _ _=>False)
  (Jd:∀H e s',CX [] H bU (λ_ _ _=>False) e s'->False) :
  Ÿ (ê Pr w) callerA (.call (.ref fa) #[[.ref a],[]]) (λr s'=>r=.ok (.ret (.bool ό))/\OldK bU.heap s'.heap/\s'.os=bU.os/\ahq s'.gens) bU:=by
 have E:=Mb hi;have L:=hi.length;have i:a≠P:=λz=>by rw[z,hP] at ha;cases ha
 have g:a≠P':=λz=>by rw[z,nV] at ha;cases ha
 have core:∀H,H P=ϊ (.cK #v[])->H P'=ϊ (.cK #v[])->(∀b,H b=ϋ\/(b=P\/b=P')\/(b=a/\∃o U,H b=ϊ (.bx o (.lst U))))->bV K H a (ns.map V.int)->dG Pr w H bU.heap->(H a≠ϋ->K.lookup a=ϋ) ->
   Ÿ (ê Pr w) callerA (.call (.ref fa) #[[.ref a],[]]) (λr s'=>r=.ok (.ret (.bool ό))/\OldK bU.heap s'.heap/\s'.os=bU.os/\ahq s'.gens) bU:=by
  intro H D C J f B hK;have tabs:∀b,b=P\/b=P'->bU.heap.get? b=ϊ _/\K.lookup b=ϋ/\H b=ϊ _:=λb hb=>by
   rcases hb with rfl|rfl
   .exact#[hP,Jb,D]
   .exact#[nV,Hh,C]
  have free:∀{b} {o},bU.heap.get? b=ϊ o->o≠tabObj _->o≠{ cls:=.type _,data:=.seq _ }->H b=ϋ:=λ{b o} e n1 n2=>by
   rcases J b with z|z | ⟨z,_⟩
   .exact z
   .rw[(tabs b z).1] at e;exact absurd (ahA e).symm n1
   .rw[z,ha] at e;exact absurd (ahA e).symm n2
  have N:∀{b} {m},bU.heap.Ns b m->(uZ _ H).Ns b m:=λ⟨o,es,ep,e,d,r⟩=>#[o,es,ep,DD e (free e (λz=>by rw[z] at d;cases d) λz=>by rw[z] at d;cases d),d,r];have A:=λb o e=>DD (KX b o e) (by
   rcases J b with z|z | ⟨z,y,U,M⟩
   .exact z
   .rw[(tabs b z).2.1] at e;cases e
   .subst z;rw[hK (by rw[M];intro z;cases z)] at e;cases e)
  have hM:Mod K mg _:=#[A,N qx,#[mb,N hb,hbb],let ⟨mc,Z,Y⟩:=afS;#[mc,N Z,Y]]
  have t:∀{T},bU.heap.BuiltinsAt mg T->(uZ _ H).BuiltinsAt mg T:=λh=>let ⟨bm,o,b1,b2,b3,b4,p,I,r⟩:=h;#[bm,o,b1,b2,b3,b4,DD p (free p (λz=>by rw[z] at I;cases I) λz=>by rw[z] at r;cases r.2),I,r]
  have e0:oO Pr w K mg _ callerA _ _ H:=#[rfl,hM,λb o e=>Zt e,ahi (Wn ..),trivial,λb hb=>absurd (show b∈([]) from hb) ∅,B,.of_eq hg];refine ń ((F _ A (N qx) (t Cj) (t afT)).run callerA _ _ H _ [.ref a] [.ref a] _ _ hr e0 (F2 _ _) (.cons rfl .nil) (kB H D C f)) λr s' h=>?_
  cases r with
  |error e=>exact(Jd H e s' h).elim
  |ok fl =>
   cases fl with
   |next=>exact ĉ h
   |brk=>exact ĉ h
   |cont=>exact ĉ h
   |ret u =>
    let(v,H',os,bare,un,l,r',q):=h;have q':=q;subst q';obtain rfl:u=agh ό:=r';have keep:∀b o,bU.heap.get? b=ϊ o->¬ (b=P\/b=P')->s'.heap.get? b=ϊ o:=λb o e n=>by
     rcases J b with z|z | ⟨z,y,U,M⟩
     .exact un.keep b o e z (by intro z;exact absurd (show b∈([]) from z) ∅) ∅
     .exact absurd z n
     .let(e1,_):=B b _ M
      let(e2,_):=l b _ (un.fQ b y _ M);rw[e] at e1;cases e1;exact e2
    have j:∀b,b=P\/b=P'->∃more,s'.heap.get? b=ϊ _:=λb hb=>by
     let(more,X):=un.gM b _ (tabs b hb).2.2;exact#[more,l b _ X]
    refine#[rfl,#[λb o e=>?_,λb o e=>?_],os,bare]
    .by_cases hb:b=P\/b=P'
     .let(more,X):=j b hb
      have hq:=(tabs b hb).1;rw[hq] at e;cases e
      rcases hb with z|z
      .subst z;exact .inr (.inl #[(CT.tab hP).isCodeTable,rfl,_,more,rfl,X])
      .subst z;exact .inr (.inl #[(Jc.tab nV).isCodeTable,rfl,_,more,rfl,X])
     .exact .inl (keep b o e hb)
    .by_cases hb:b=P\/b=P'
     .let(more,X):=j b hb
      exact#[_,X]
     .exact#[o,keep b o e hb]
 have mk:∀u,(u=ϋ\/∃o U,u=ϊ (.bx o (.lst U)))->∃H:Hp,H P=ϊ _/\H P'=ϊ _/\(∀b,b≠P->b≠P'->b≠a->H b=ϋ)/\H a=u:=λu _=>by
  refine#[λb=>if b=P\/b=P' then ϊ (.cK #v[]) else if b=a then u else ϋ,Ù (.inl rfl),Ù (.inr rfl),λb Z Y S=>?_,?_]
  .show (if _ then _ else _)=_
   rw[é (by rintro (z|z)<;>contradiction),é S]
  .show (if _ then _ else _)=_
   rw[é (by rintro (z|z)<;>contradiction),Ù rfl]
 cases G:K.lookup a with
 |some o =>
  have e:=KX a o G;rw[ha] at e;cases e;let(H,Z,Y,S,W):=mk ϋ (.inl rfl);have all:∀b,H b=ϋ\/(b=P\/b=P'):=λb=>by
   by_cases R:b=P
   .exact .inr (.inl R)
   .by_cases Q:b=P'
    .exact .inr (.inr Q)
    .by_cases O:b=a
     .subst O;exact .inl W
     .exact .inl (S b R Q O)
  refine core H Z Y (λb=>(all b).elim .inl λz=>.inr (.inl z)) (.inr #[_,_,_,G,rfl,rfl,rfl,by rw[Ü,L];exact hl,by simpa using E]) (λb u z=>?_) (λz=>absurd W z)
  rcases all b with q|q
  .rw[q] at z;cases z
  .rcases q with rfl|rfl
   .rw[Z] at z;cases z;exact hP
   .rw[Y] at z;cases z;exact nV
 |none =>
  let(H,Z,Y,S,W):=mk _ (.inr #[_,_,rfl]);have all:∀b,H b=ϋ\/(b=P\/b=P')\/b=a:=λb=>by
   by_cases R:b=P
   .exact .inr (.inl (.inl R))
   .by_cases Q:b=P'
    .exact .inr (.inl (.inr Q))
    .by_cases O:b=a
     .exact .inr (.inr O)
     .exact .inl (S b R Q O)
  refine core H Z Y (λb=>?_) (.inl (.inr #[_,W])) (λb u z=>?_) (λ_=>G)
  .rcases all b with q|q|q
   .exact .inl q
   .exact .inr (.inl q)
   .subst q;exact .inr (.inr #[rfl,_,_,W])
  .rcases all b with q | (rfl|rfl)|rfl
   .rw[q] at z;cases z
   .rw[Z] at z;cases z;exact hP
   .rw[Y] at z;cases z;exact nV
   .rw[W] at z;cases z
    exact#[ha,by rw[Æ];exact hl,vs,_,E,ha]
def acu {l:OpenLaw} {n k} {q} {loose} {XP} {YP} {d dy dz} {K:Params->Ň} {CX:Ĭ->qt} {sp:Ĭ->þ->þ->Sp} {x} (y z)
  (hn:l.most=ϊ n) (BU:n<=Õ) (yJ:d.params.defaults=[]) (hr:bK k callerA)
  (hY:∀w h,YP w h->(K w.params).In h) (hd:(recsOf q).find? (λe=>e.name==y)=ϊ dy) (fy:(recsOf q).find? (λe=>e.name==z)=ϊ dz)
  (F:∀w mg fa h,(K w.params).In h->h.Ns Ð mg->mg d.name=ϊ (.ref fa) ->
   ∃(c P c' P':þ) (fd:FuncData),(tabIn (K w.params) y=ϊ (c,P)/\(K w.params).lookup P=ϋ)/\(tabIn (K w.params) z=ϊ (c',P')/\(K w.params).lookup P'=ϋ)/\(∀s u,BindsTo s fd #[[u],[]] [(x,u)]) /\
    ∀base,(K w.params).In base->base.Ns Ð mg->base.BuiltinsAt mg P->base.BuiltinsAt mg P'->dg l.prog w (K w.params) mg base (CX w) k fa fd [x] (sp w P P'))
  (kB:∀w P P' H a (ns:List Int),ns.length<=n->H P=ϊ (.cK #v[])->H P'=ϊ (.cK #v[])->bV (K w.params) H a (ns.map V.int)->sp w P P' [.ref a] H (λv _=>v=.bl ό) λ_ _ _=>False)
  (Jd:∀w H s e s',CX w [] H s (λ_ _ _=>False) e s'->False) :
  WalkO q loose XP YP l.row.toRowW d [] (λf vs=>PySem.call f vs):=by
 refine So.UU hn yJ λw ef R mg mb fa o pm cd doc a vs ns G Y ho lJ fe L J hints Z I=>?_;have W:=hY w _ Y;obtain⟨c,P,c',P',fd,⟨E,D⟩,⟨C,B⟩,A,t⟩:=F w mg fa _ W G.T.g L;have r:=by simpa using List.find?_some hd
 have p:=by simpa using List.find?_some fy
 let(m,Q):=tab_of G.T W hd E;let(j,O):=tab_of G.T W fy C;have N:∀{T},R.heap.get? T=ϊ (tabObj #v[])->R.heap.BuiltinsAt mg T:=λi=>by
  let(bm,ob,b1,b2,X,M,b5,U):=G.T.bmain;refine#[bm,ob,b1,b2,λz=>?_,λz=>?_,X,M,b5,U]
  .let(o,es,ep,e,hd,_):=G.T.g
   rw[z,e] at X;cases X;rw[hd] at U;cases U
  .rw[z,i] at X;cases X;cases M
 exact WZ W G.T.g G.T.b G.T.builtins G.T.nolimit I J hints (Ø Z BU) hr m Q D (N Q) j O B (N O) t A (λH hO S hS=>kB w P P' H a ns Z hO S hS) λH e s'=>Jd w H _ e s'
end L2
namespace DI
open PySem L2 PySem.W
def sR (cl:D) (g:List D->ag->Res D) (i:Nat):ahv D:=λenv s=>open Classical in if env[i]?=ϊ (ϊ cl) then ne (g [cl] s) else ϋ
def ED {g} {r:Env} {s}:sR cl g 0 (ϊ cl::r) s=ne (g [cl] s):=Ù rfl
section
variable {X:Cx} {Ξ:Wd->bw->Prop} {pos:Pos}
def afV {k n kt i} {x y} {p p'} {st} {ps} {pre} {f} {vs} {ds} {th} {g} (T:zc X.prog X.w X.K X.mg X.base kt pre f vs ds th) (h0:pre X.my) (G:GG X.K X.mg x st ps) (F:Cg X.prog X.w X.K X.mg x st ps k kt g) (hr:bK n X.A) (hk:k<=n:=by decide)
  (hN:X.N[i]?=ϊ y:=by rfl) (hv:qp X.env.scope y:=by first|exact ſ rfl|exact Or.inr (ſ rfl)|exact Or.inr (Or.inr rfl)) (hd:(y==("__debug__"))=ύ:=by decide) (fe:(y==("__classdict__"))=ύ:=by decide)
  (hg:Gl X x:=by rfl) (dq:(x==("__debug__"))=ύ:=by decide) (hs:É [.Name y p'] X.env=(ύ,Ħ (.Name y p') X.env)::É [] X.env:=by rfl) (bM:(Ġ pos (É [] X.env)).any (·.1)=ύ:=by rfl) :
  PE X (.Call (.Name x p) [.Name y p'] [] pos) (tE X.K Ξ (sR (.dA f vs ds) (g (.dA f vs ds) th) i)):=by
 intro Y s σ H Q I W;let(w,env,V,S,U,h):=W;subst V;delta sR at h;split at h
 .rename_i Z
  let(v,e1,e2):=U.val i _ Z;let(R,fd,G):=G;exact Al (F T G) (hr.mono hk) hg G.mg G.fn.kp G.b .nil Qn (jY (E4 hN hv hd fe) kP hs) dq hs bM Y s σ _ Q I #[v,e1,T.1 _ _ (λb o u e=>I.base.fQ b o u e) h0,w,rfl,S,#[v,_,rfl,e2,rfl],h.ne]
 .exact h.elim
end
noncomputable def zg:D->Option (Bool×List D)
 | .tup Z=>ϊ (ό,Z)
 | .lst Z=>ϊ (ύ,Z)
 |_=>ϋ
def PK (h:zg d=ϊ (k,xs)):d=mQ k xs:=by
 cases d with
 |tup Z=>cases h;rfl
 |lst Z=>cases h;rfl
 |_=>cases h
def BE (ds:List D) (s:ag):Res (List D):=match ds with
 | [x,y]=>match zg x,zg y with
  |some (_,Z),ϊ (_,Y)=>ok (iL Z Y) s
  |_,_=>ϋ
 |_=>ϋ
def Bh (fa:ahv (List D)):ahv (List D):=λenv s=>ai (fa env s) BE
section
variable {X:Cx} {Ξ:Wd->bw->Prop} {a b:ŕ} {fa:ahv (List D)} {pos:Pos}
def PL:∀{k},DV K w (mQ k ds) v->∃a,v=.ref a
 |true,h=>by let(p,_,rfl,_):=h;exact#[p,rfl]
 |false,h=>by let(p,_,rfl,_):=h;exact#[p,rfl]
def acv {p} {elts} {kk} {rW} (hg:Gl X "zip") (hm:X.mg "zip"=ϋ) (ha:PA X [a,b] (tA X.K Ξ fa)) (hs:É [a,b] X.env=[(ύ,Ħ a X.env),(ύ,Ħ b X.env)]:=by rfl) (cS:É [b] X.env=[(ύ,Ħ b X.env)]:=by rfl) :
  PI X (.Tuple elts kk rW) (.Call (.Name "zip" p) [a,b] [] pos) (fU X.K Ξ (Bh fa)):=by
 intro D s σ H R I O;let(w,env,C,S,B,h):=O;subst C;obtain⟨k,l,A⟩:∃k l,Out _ Ξ w (fa env w.aN) λZ Y=>∃W V,Y=[mQ k W,mQ l V]/\∀J,mP _ Z J (iL W V)->R J _:=by
  have T:=Out.ai h
  cases F:fa env _ with
  |none=>rw[F] at T;exact T.elim
  |some r =>
   let(r,m):=r;rw[F] at T
   cases r with
   |error x=>exact#[ό,ό,T]
   |ok Y =>
    have:∃k l W V,Y=[mQ k W,mQ l V]\/(∀s,BE Y s=ϋ):=by
     delta BE;split
     .rename_i x y
      cases e1:zg x with
      |none=>exact#[ό,ό,[],[],.inr λ_=>rfl]
      |some u=>cases e2:zg y with
       |none=>exact#[ό,ό,[],[],.inr λ_=>rfl]
       |some v=>exact#[_,_,_,_,.inl (by rw[PK e1,PK e2])]
     .exact#[ό,ό,[],[],.inr λ_=>rfl]
    obtain⟨k,l,W,V,e|e⟩:=this
    .subst e
     refine#[k,l,λZ P Q N=>?_];have U:Out _ Ξ Z _ λM Y=>∀J,mP _ M J Y->R J _:=T Z P Q N;refine#[W,V,rfl,λJ z=>?_]
     have e:BE [mQ k W,mQ l V] Z.aN=ok (iL W V) Z.aN:=by cases k<;>cases l<;>rfl
     rw[e] at U;exact aI Q U J z
    .refine#[ό,ό,λZ P Q N=>?_]
     have U:Out _ Ξ Z _ λM Y=>∀J,mP _ M J Y->R J _:=T Z P Q N;rw[e] at U;exact U.elim
 refine N1 (k:=k) (l:=l) hg hm ha hs cS D s σ _ R I #[w,env,rfl,S,B,A.mono λZ Y P Q U E t=>?_];let(W,V,rfl,U):=U;let(v,u,rfl,L,G):=AI t;let(p,rfl):=PL L;let(q,rfl):=PL G;let(o,O,_):=Bc L;let(E,n,_):=Bc G;exact#[p,q,o,E,rfl,O,n,U _ (MZ L G)]
end
end DI
namespace DI.cx
open PySem L2 DI
noncomputable section
noncomputable def b9:List Str:=["NoMould","NoDay","NoSheet","NoPage","NoBook","NoRow","Clash","NoDeed"]
def zZ:List D->ag->Res D:=aJ 2 3 (ar (aT (aC wq (af (aa 0) (af (aa 1) ah))) (gN 2)) (ar (aV (aH (e2 yf (aa 2) (e2 xG (eC (.int 10)) (eC (.int 18))))) (aG (eNew (af (e2 uK (aa 2) (e2 xG (eC (.int 10)) (eC (.int 18)))) (af (eC (.bl ό)) ah)))) bE) (aG (eNew (af (e2 oH (aa 2) (eC (.int 2147483647))) (af (eC (.bl ύ)) ah))))))
def fO:List D->ag->Res D:=aJ 2 4 (ar (aV (cD (e2 au (aa 0) (eC (.int 1)))) (ar (aT (e2 oH (e2 au (aa 0) (eC (.int 0))) (aa 1)) (gN 2)) (ar (qe (e2 xF (e2 au (aa 0) (eC (.int 0))) (aa 1)) (aa 0) (eC (.int 0))) (aG (aa 2)))) bE) (ar (qe (e2 oH (e2 cm (e2 gI (e2 au (aa 0) (eC (.int 0))) (eC (.int 48271))) (eC (.int 29))) (eC (.int 2147483647))) (aa 0) (eC (.int 0))) (ar (aT (e2 oH (e2 cm (e2 cm (e2 gI (e2 au (aa 0) (eC (.int 0))) (e2 au (aa 0) (eC (.int 0)))) (e2 gI (eC (.int 39373)) (e2 au (aa 0) (eC (.int 0))))) (eC (.int 7))) (eC (.int 2147483629))) (gN 3)) (ar (aT (e2 oH (e2 cm (e2 gI (aa 3) (aa 3)) (e2 gI (eC (.int 16807)) (aa 3))) (eC (.int 2147483587))) (gN 3)) (aG (e2 oH (e2 xF (aa 3) (eC (.int 8))) (aa 1)))))))
def C0:List D->ag->Res D:=aJ 2 3 (ar (aT (eB Fm (af (aa 1) ah)) (gN 2)) (aG (ck 1 [2,0] (dI (af (eB fk (af (aa 1) ah)) ah)) (gN 0) cL (Hd (aa 1) (aC fO (af (aa 2) (af (eB fk (af (aa 1) ah)) ah)))))))
def zz:List D->ag->Res D:=aJ 1 1 (aG (jS (aH (e2 cp (aa 0) (cC ah))) (hW kg (eC (.str "")) (ck 1 [] (cB (aa 0)) (gN 0) cL (eB lh (af (aa 0) ah)))) (eC (.str "-"))))
def wb:List D->ag->Res D:=aJ 1 1 (aG (e2 cm (e2 cm (aC zz (af (e2 au (aa 0) (eC (.int 0))) ah)) (eC (.str "/"))) (aC zz (af (e2 au (aa 0) (eC (.int 1))) ah))))
def EE:List D->ag->Res D:=aJ 1 2 (ar (aT (jS (aH (e2 aX (e2 au (aa 0) (eC (.int 0))) (eC (.str "made")))) (aC wb (af (e2 au (aa 0) (eC (.int 3))) ah)) (eB lh (af (e2 au (aa 0) (eC (.int 3))) ah))) (gN 1)) (aG (e2 cm (e2 cm (e2 cm (e2 cm (e2 cm (e2 cm (e2 au (aa 0) (eC (.int 0))) (eC (.str " "))) (eB lh (af (e2 au (aa 0) (eC (.int 1))) ah))) (eC (.str " "))) (eB lh (af (e2 au (aa 0) (eC (.int 2))) ah))) (eC (.str " "))) (aa 1))))
def LI:List D->ag->Res D:=aJ 1 2 (ar (aT (dh (af (e1 (fx b9 (isNm "NoMarks")) (aa 0)) (af (e1 (fx b9 (isNm "NoSheet")) (aa 0)) (af (e1 (fx b9 (isNm "NoPage")) (aa 0)) (af (e1 (fx b9 (isNm "NoBook")) (aa 0)) ah))))) (gN 1)) (ar (aT (e2 cm (aa 1) (dh (af (e1 (fx b9 (isNm "NoMould")) (aa 0)) (af (e1 (fx b9 (isNm "NoDay")) (aa 0)) (af (e1 (fx b9 (isNm "NoSort")) (aa 0)) (af (e1 (fx b9 (isNm "NoNumber")) (aa 0)) ah)))))) (gN 1)) (ar (aT (e2 cm (aa 1) (dh (af (e1 (fx b9 (isNm "NoSheets")) (aa 0)) (af (e1 (fx b9 (isNm "NoRun")) (aa 0)) (af (e1 (fx b9 (isNm "NoLaying")) (aa 0)) (af (e1 (fx b9 (isNm "NoHeap")) (aa 0)) ah)))))) (gN 1)) (ar (aT (e2 cm (aa 1) (dh (af (e1 (fx b9 (isNm "NoCount")) (aa 0)) (af (e1 (fx b9 (isNm "Clash")) (aa 0)) (af (e1 (fx b9 (isNm "NoDeed")) (aa 0)) (af (e1 (fx b9 (isNm "NoText")) (aa 0)) ah)))))) (gN 1)) (aG (e2 cm (aa 1) (dh (af (e1 (fx b9 (isNm "NoRow")) (aa 0)) (af (e1 (fx b9 (isNm "TooMany")) (aa 0)) (af (e1 (fx b9 (isNm "Lacking")) (aa 0)) ah))))))))))
def qP:List D->ag->Res D:=aJ 1 1 (aV (eQ (cD (aC wy (af (aa 0) ah)))) (ng "NoPage" (af (eC (.str "a page is a tuple of made or mended, a mould, a day, and a sheet or a mark")) ah)) bE)
def zD:List D->ag->Res D:=aJ 2 2 (ar (aV (eQ (cD (aC tL (af (aa 1) ah)))) (ng "Clash" (af (eC (.str "no book comes of this deed")) ah)) bE) (cj (f9 (e1 (iO "Diary" "books") (aa 0)) (aa 1))))
def ia:List D->ag->Res D:=aJ 1 1 (aG (e2 au (e1 (iO "Diary" "books") (aa 0)) (e1 mv (eC (.int 1)))))
def lR:List D->ag->Res D:=aJ 2 2 (ar (cj (eG qP (af (aa 1) ah))) (cj (cQ "Diary" "keep" zD (aa 0) (af (eB ib (af (eB TK.wQ (af (e2 cm (cQ "Diary" "book_now" ia (aa 0) ah) (cC (af (aa 1) ah))) ah)) ah)) ah))))
def zA:List D->ag->Res D:=aJ 1 1 (aG (dj (vO rZ rZ (eC (.int 1)) (eB fk (af (aa 0) ah)) (eC (.int (30)))) (eB nC (af (ck 1 [] (xP (aa 0)) (gN 0) cL (e2 F0 (aa 0) (eC (.str "0123456789")))) ah))))
def zv:List D->ag->Res D:=aJ 1 2 (ar (aT (hW nj (aa 0) (eC (.str "/"))) (gN 1)) (aG (dj (e2 aX (eB fk (af (aa 1) ah)) (eC (.int 2))) (eB nC (af (ck 1 [] (cB (aa 1)) (gN 0) cL (i6 (e2 aX (aa 0) (eC (.str "-"))) (aC zA (af (aa 0) ah)))) ah)))))
def tj:List D->ag->Res D:=aJ 1 1 (aG (dj (aC zA (af (aa 0) ah)) (i6 (e2 cp (e2 au (aa 0) (eC (.int 0))) (eC (.str "0"))) (e2 aX (aa 0) (eC (.str "0"))))))
def zt:List D->ag->Res D:=aJ 1 5 (ar (aV (aH (e2 cp (eB fk (af (aa 0) ah)) (eC (.int 4)))) (aG (eC (.bl ύ))) bE) (ar (aT (aa 0) (gL [(gN 1),(gN 2),(gN 3),(gN 4)])) (ar (aV (ff (eQ (cD (aC tj (af (aa 2) ah)))) (eQ (cD (aC tj (af (aa 3) ah))))) (aG (eC (.bl ύ))) bE) (ar (aV (aH (e2 aX (aa 1) (eC (.str "made")))) (aG (aC zv (af (aa 4) ah))) bE) (aG (dj (e2 aX (aa 1) (eC (.str "mended"))) (aC tj (af (aa 4) ah))))))))
def z3:List D->ag->Res D:=aJ 1 3 (ar (oR 1 2 (af (e2 au (aa 0) (eC (.int 0))) (af (qD (aa 0) (qd (eC (.int 1))) qB) ah))) (ar (aV (aH (e2 aX (aa 1) (eC (.str "out")))) (aG (aC zt (af (aa 2) ah))) bE) (ar (aV (aH (e2 aX (aa 1) (eC (.str "surely")))) (aG (dj (e2 aX (eB fk (af (aa 2) ah)) (eC (.int 2))) (eB nC (af (ck 1 [] (cB (aa 2)) (gN 0) cL (aC tj (af (aa 0) ah))) ah)))) bE) (ar (aV (aH (e2 aX (aa 1) (eC (.str "where")))) (aG (dj (e2 aX (eB fk (af (aa 2) ah)) (eC (.int 1))) (aC zv (af (e2 au (aa 2) (eC (.int 0))) ah)))) bE) (ar (aV (ff (aH (e2 aX (aa 1) (eC (.str "undo")))) (aH (e2 aX (aa 1) (eC (.str "book"))))) (aG (e2 aX (aa 2) (dh ah))) bE) (aG (aC zt (af (aa 0) ah))))))))
def og:List D->ag->Res D:=aJ 1 1 (ar (aV (ff (eQ (cD (eB nF (af (aa 0) (af (eC (.ty "str")) ah))))) (eQ (cD (aC z3 (af (hW nj (aa 0) (eC (.str " "))) ah))))) (ng "NoRow" (af (eC (.str "a row tells a page, out and a page, undo, book, surely or where")) ah)) bE) (aG (hW nj (aa 0) (eC (.str " ")))))
def zO:List D->ag->Res D:=aJ 1 1 (ar (aV (aH (e2 aX (aa 0) (eC (.str "-")))) (aG (cC ah)) bE) (aG (eB ib (af (ck 1 [] (xP (aa 0)) (gN 0) cL (eB kh (af (aa 0) ah))) ah))))
def wu:List D->ag->Res D:=aJ 1 3 (ar (aT (hW nj (aa 0) (eC (.str "/"))) (gL [(gN 1),(gN 2)])) (aG (cC (af (aC zO (af (aa 1) ah)) (af (aC zO (af (aa 2) ah)) ah)))))
def tM:List D->ag->Res D:=aJ 1 6 (ar (aT (aa 0) (gL [(gN 1),(gN 2),(gN 3),(gN 4)])) (ar (aT (jS (aH (e2 aX (aa 1) (eC (.str "made")))) (aC wu (af (aa 4) ah)) (eB kh (af (aa 4) ah))) (gN 5)) (aG (cC (af (aa 1) (af (eB kh (af (aa 2) ah)) (af (eB kh (af (aa 3) ah)) (af (aa 5) ah))))))))
def zE:List D->ag->Res D:=aJ 1 1 (aG (qk (hW kg (eC (.str "")) (ck 1 [] (cB (aa 0)) (gN 0) cL (eB lh (af (aa 0) ah)))) (eC (.str "-"))))
def we:List D->ag->Res D:=aJ 1 3 (ar (aT (aa 0) (gT [(gN 1),(gN 2)])) (aG (e2 cm (e2 cm (aC zE (af (aa 1) ah)) (eC (.str "/"))) (aC zE (af (aa 2) ah)))))
def CD:List D->ag->Res D:=aJ 1 1 (aG (qk (hW kg (eC (.str " ")) (ck 3 [] (cB (aa 0)) (gT [gN 0,gN 1,gN 2]) cL (kI [(e1 gr (aa 0)),(eC (.str ",")),(e1 gr (aa 1)),(eC (.str ",")),(e1 gr (aa 2))] agq))) (eC (.str "none"))))
def tB:List D->ag->Res D:=aJ 1 1 (aV (eQ (cD (aC tL (af (aa 0) ah)))) (ng "NoBook" (af (eC (.str "a book is laid pages without faults")) ah)) bE)
def C3:List D->ag->Res D:=aJ 1 6 (ar (aT (aa 0) (gT [(gN 1),(gN 2),(gN 3),(gN 4)])) (ar (aT (jS (aH (e2 aX (aa 1) (eC (.str "made")))) (aC we (af (aa 4) ah)) (eB lh (af (aa 4) ah))) (gN 5)) (aG (kI [(e1 gr (aa 1)),(eC (.str " ")),(e1 gr (aa 2)),(eC (.str " ")),(e1 gr (aa 3)),(eC (.str " ")),(e1 gr (aa 5))] agq))))
def tD:List D->ag->Res D:=aJ 1 1 (ar (cj (eG tB (af (aa 0) ah))) (aG (hW kg (eC (.str "")) (ck 1 [] (cB (aa 0)) (gN 0) cL (e2 cm (aC C3 (af (aa 0) ah)) (eC (.str "\n")))))))
def CL:List D->ag->Res D:=aJ 1 1 (aV (eQ (cD (aC tH (af (aa 0) ah)))) (ng "NoMould" (af (eC (.str "a mould is a whole number from 0 to 3")) ah)) bE)
def C8:List D->ag->Res D:=aJ 1 1 (aV (eQ (cD (aC tW (af (aa 0) ah)))) (ng "NoDay" (af (eC (.str "a day is a whole number from 0 to 30")) ah)) bE)
def tX:List D->ag->Res D:=aJ 3 3 (ar (cj (eG tB (af (aa 0) ah))) (ar (cj (eG CL (af (aa 1) ah))) (ar (cj (eG C8 (af (aa 2) ah))) (aG (e2 au (aC tu (af (aa 0) (af (aa 1) ah))) (aa 2))))))
def wg:List D->ag->Res D:=aJ 1 1 (aV (eQ (cD (aC qR (af (aa 0) ah)))) (ng "NoSheet" (af (eC (.str "a sheet is a tuple of two marks, no mark in both")) ah)) bE)
def wo:List D->ag->Res D:=aJ 1 3 (ar (aT (eNew ah) (gN 1)) (ar (fI (dI (af (eB fk (af (aa 0) ah)) ah)) (gN 2) (aV (fj (cD (e2 au (aa 0) (aa 2))) (fj (aH (e2 ye (aa 2) (eC (.int 0)))) (cD (e2 au (aa 0) (e2 uK (aa 2) (eC (.int 1))))))) (qe (cC (af (e2 au (e2 au (aa 1) (e1 mv (eC (.int 1)))) (eC (.int 0))) (af (aa 2) ah))) (aa 1) (e1 mv (eC (.int 1)))) (aV (cD (e2 au (aa 0) (aa 2))) (cj (f9 (aa 1) (cC (af (aa 2) (af (aa 2) ah))))) bE))) (aG (oQ (aa 1)))))
def wR:List D->ag->Res D:=aJ 2 2 (aG (dj (aC tw (af (e2 au (aa 0) (eC (.int (0)))) (af (e2 au (aa 1) (eC (.int (1)))) ah))) (aC tw (af (e2 au (aa 0) (eC (.int (1)))) (af (e2 au (aa 1) (eC (.int (0)))) ah)))))
def pI:List D->ag->Res D:=aJ 2 2 (ar (cj (eG tB (af (aa 0) ah))) (ar (cj (eG wg (af (aa 1) ah))) (aG (Fe 3 [1,0] (dI (af (eC (.int (4))) ah)) (gN 0) cL (cB (aC wo (af (ck 1 [3] (cB (aC tu (af (aa 4) (af (aa 0) ah)))) (gN 0) cL (aC wR (af (aa 1) (af (aa 0) ah)))) ah))) (gT [gN 1,gN 2]) cL (cC (af (aa 0) (af (aa 1) (af (aa 2) ah))))))))
def qV:List D->ag->Res D:=aJ 2 2 (ar (aV (aH (e2 aX (e2 au (aa 1) (eC (.int 0))) (eC (.str "surely")))) (aG (aC we (af (eG tX (af (aa 0) (af (eB kh (af (e2 au (aa 1) (eC (.int 1))) ah)) (af (eB kh (af (e2 au (aa 1) (eC (.int 2))) ah)) ah)))) ah))) bE) (ar (aV (aH (e2 aX (e2 au (aa 1) (eC (.int 0))) (eC (.str "where")))) (aG (aC CD (af (eG pI (af (aa 0) (af (aC wu (af (e2 au (aa 1) (eC (.int 1))) ah)) ah))) ah))) bE) (aG (qk (eG tD (af (aa 0) ah)) (eC (.str "-"))))))
def lS:List D->ag->Res D:=aJ 1 1 (ar (aV (aH (e2 aX (eB fk (af (e1 (iO "Diary" "books") (aa 0)) ah)) (eC (.int 1)))) (ng "NoDeed" (af (eC (.str "no deed stands")) ah)) bE) (cj (e1 yn (e1 (iO "Diary" "books") (aa 0)))))
def n6:List D->ag->Res D:=aJ 2 3 (ar (cj (eG qP (af (aa 1) ah))) (ar (aT (cQ "Diary" "book_now" ia (aa 0) ah) (gN 2)) (ar (aV (aH (e2 fN (aa 1) (aa 2))) (ng "Clash" (af (eC (.str "the page isn't there")) ah)) bE) (cj (cQ "Diary" "keep" zD (aa 0) (af (eB ib (af (ck 1 [1] (cB (aa 2)) (gN 0) (aH (e2 cp (aa 0) (aa 1))) (aa 0)) ah)) ah))))))
def ifs:ahv Fl:=(aV (aH (e2 aX (e2 au (aa 2) (eC (.int 0))) (eC (.str "undo")))) (cj (cQ "Diary" "undo" lS (e1 (iO "Desk" "diary") (aa 0)) ah)) (aV (aH (e2 aX (e2 au (aa 2) (eC (.int 0))) (eC (.str "out")))) (cj (cQ "Diary" "strike" n6 (e1 (iO "Desk" "diary") (aa 0)) (af (aC tM (af (qD (aa 2) (qd (eC (.int 1))) qB) ah)) ah))) (aV (ff (aH (e2 aX (e2 au (aa 2) (eC (.int 0))) (eC (.str "made")))) (aH (e2 aX (e2 au (aa 2) (eC (.int 0))) (eC (.str "mended"))))) (cj (cQ "Diary" "tell" lR (e1 (iO "Desk" "diary") (aa 0)) (af (aC tM (af (aa 2) ah)) ah))) (aG (eG qV (af (cQ "Diary" "book_now" ia (e1 (iO "Desk" "diary") (aa 0)) ah) (af (aa 2) ah)))))))
def jc:List D->ag->Res D:=aJ 2 3 (ar (aT (eG og (af (aa 1) ah)) (gN 2)) (ar ifs (aG (eC (.str "ok")))))
def iV (cl:D) (th:ag->Res D):List D->ag->Res D:=aJ 1 3 (pZ b9 "told" (v5 cl th 0) 1 (ar (aT (aC LI (af (aa 1) ah)) (gN 2)) (ar (aV (ff (eQ (cD (e1 (fx b9 anyS) (aa 1)))) (aH (e2 FW (e1 Hf (aa 2)) (eC (.int 1))))) (aG (cC (af (eC (.str "other")) (af (eC .ax) ah)))) bE) (ar (aV (cD (e2 au (aa 2) (eC (.int 17)))) (aG (cC (af (eC (.str "many")) (af IV ah)))) bE) (ar (aV (cD (e2 au (aa 2) (eC (.int 18)))) (aG (cC (af (eC (.str "lacking")) (af IV ah)))) bE) (aG (cC (af (eC (.str "refused")) (af (e1 IT (aa 2)) ah)))))))))
def iU (cl:D) (th:ag->Res D):List D->ag->Res D:=aJ 1 1 (aG (e2 cy (sR cl (iV cl th) 0) (dh (af (cC (af (eC (.str "told")) (af (eC .ax) ah))) (af (cC (af (eC (.str "told")) (af (eC (.str "ok")) ah))) ah)))))
def LJ:ahv Fl:=(ar (aT (cC (af (aC EE (af (aa 6) ah)) (af (aC fO (af (aa 0) (af (eC (.int 4)) ah))) ah))) (gT [(gN 7),(gN 8)])) (ar (aT (eNew (af (gJ 0  ahB [6,2] (cQ "Diary" "tell" lR (aa 1) (af (aa 0) ah)) iU) ah)) (gN 9)) (ar (cj (f9 (aa 9) (gJ 0  ahB [7,3] (cQ "Desk" "say" jc (aa 1) (af (aa 0) ah)) iU))) (ar (aT (e2 cm (aa 4) (eC (.int 1))) (gN 4)) (ar (aV (aH (e2 aX (aa 8) (eC (.int 0)))) (ar (cj (f9 (aa 9) (gJ 0  ahB [6,2] (cQ "Diary" "strike" n6 (aa 1) (af (aa 0) ah)) iU))) (ar (cj (f9 (aa 9) (gJ 0  ahB [6,2] (cQ "Diary" "tell" lR (aa 1) (af (aa 0) ah)) iU))) (ar (cj (f9 (aa 9) (gJ 0  ahB [3,7] (cQ "Desk" "say" jc (aa 0) (af (e2 cm (eC (.str "out ")) (aa 1)) ah)) iU))) (ar (cj (f9 (aa 9) (gJ 0  ahB [7,3] (cQ "Desk" "say" jc (aa 1) (af (aa 0) ah)) iU))) (aT (e2 cm (aa 4) (eC (.int 2))) (gN 4)))))) bE) (aV (aH (e2 cy (eC (.bl ύ)) (aa 9))) (aG (e1 mv (eC (.int 1)))) bE))))))
def Dw:List D->ag->Res D:=aJ 4 10 (ar (oR 4 5 (af (eC (.int 0)) (af (aC C0 (af (aa 0) (af (aa 1) ah))) ah))) (ar (fI (cB (aa 5)) (gN 6) LJ) (aG (aa 4))))
def wG:List D->ag->Res D:=aJ 1 4 (ar (aT (e2 au (dh (af (eC (.int 2)) (af (eC (.int 4)) (af (eC (.int 8)) ah)))) (aC fO (af (aa 0) (af (eC (.int 3)) ah)))) (gN 1)) (ar (aT (ck 1 [0] (dI (af (aa 1) ah)) (gN 0) cL (aC fO (af (aa 1) (af (eC (.int 3)) ah)))) (gN 2)) (ar (aT (eB ib (af (ck 1 [2] (dI (af (aa 1) ah)) (gN 0) (aH (e2 aX (e2 au (aa 1) (aa 0)) (eC (.int 1)))) (aa 0)) ah)) (gN 3)) (aG (cC (af (aa 3) (af (eB ib (af (ck 1 [2] (dI (af (aa 1) ah)) (gN 0) (aH (e2 aX (e2 au (aa 1) (aa 0)) (eC (.int 2)))) (aa 0)) ah)) ah)))))))
def YK:ahv Fl:=(ar (aV (fj (aH (e2 aX (e2 au (aa 6) (eC (.int 0))) (eC (.str "mended")))) (fj (aH (e2 aX (e2 au (aa 6) (eC (.int 1))) (aa 1))) (aH (e2 aX (e2 au (aa 6) (eC (.int 3))) (aa 2))))) (cj (f9 (aa 5) (e2 au (aa 6) (eC (.int 2))))) bE) (aV (fj (aH (e2 aX (e2 au (aa 6) (eC (.int 0))) (eC (.str "made")))) (aH (e2 aX (e2 au (aa 6) (eC (.int 1))) (aa 1)))) (ar (aT (e2 cm (aa 3) (e2 gI (dh (af (e2 au (aa 6) (eC (.int 2))) ah)) (eB qj (af (e2 cy (aa 2) (e2 au (e2 au (aa 6) (eC (.int 3))) (eC (.int 0)))) ah)))) (gN 3)) (aT (e2 cm (aa 4) (e2 gI (dh (af (e2 au (aa 6) (eC (.int 2))) ah)) (eB qj (af (e2 cy (aa 2) (e2 au (e2 au (aa 6) (eC (.int 3))) (eC (.int 1)))) ah)))) (gN 4))) bE))
def Nl:ahv Fl:=(ar (aT (i6 (e2 cy (aa 11) (aa 3)) (dj (aa 9) (e2 fN (aa 11) (aa 5)))) (gN 9)) (aT (e2 cm (aa 7) (e2 gI (dh (af (aa 11) ah)) (eB qj (af (aa 9) ah)))) (gN 7)))
def Nm:ahv Fl:=(ar (aT (i6 (aa 10) (e2 cy (aa 11) (aa 4))) (gN 10)) (ar (aT (e2 cm (e2 gI (dh (af (aa 11) ah)) (eB qj (af (i6 (aa 10) (e2 cy (aa 11) (aa 5))) ah))) (aa 8)) (gN 8)) (aT (dj (aa 10) (e2 fN (aa 11) (aa 5))) (gN 10))))
def Aw:List D->ag->Res D:=aJ 3 12 (ar (vm 3 4 5 (af (dh ah) (af (dh ah) (af (eNew ah) ah)))) (ar (fI (cB (aa 0)) (gN 6) YK) (ar (aT (cC (af (dh ah) (af (dh ah) (af (eC (.bl ύ)) (af (eC (.bl ύ)) ah))))) (gT [(gN 7),(gN 8),(gN 9),(gN 10)])) (ar (fI (dI (af (eC (.int 31)) ah)) (gN 11) Nl) (ar (fI (IC (af (eC (.int 30)) (af (e1 mv (eC (.int 1))) (af (e1 mv (eC (.int 1))) ah)))) (gN 11) Nm) (aG (cC (af (aa 7) (af (aa 8) ah)))))))))
def zT:List D->ag->Res D:=aJ 3 5 (ar (aT (ck 1 [0,1] (dI (af (eC (.int 8)) ah)) (gN 0) cL (aC Aw (af (aa 1) (af (aa 2) (af (aa 0) ah))))) (gN 3)) (ar (aT (eB ib (af (ck 1 [2,3] (dI (af (eC (.int 8)) ah)) (gN 0) (aH (e2 cy (aa 1) (e2 au (e2 au (aa 2) (aa 0)) (eC (.int 0))))) (aa 0)) ah)) (gN 4)) (aG (cC (af (aa 4) (af (eB ib (af (ck 1 [2,3] (dI (af (eC (.int 8)) ah)) (gN 0) (aH (e2 cy (aa 1) (e2 au (e2 au (aa 2) (aa 0)) (eC (.int 1))))) (aa 0)) ah)) ah))))))
def Mr:ahv Fl:=(ar (aT (aC Aw (af (aa 0) (af (aa 3) (af (aa 5) ah)))) (gT [(gN 6),(gN 7)])) (aT (e2 cm (e2 cm (aa 4) (jS (aH (e2 cy (aa 5) (e2 au (aa 1) (eC (.int 0))))) (aa 7) (dh ah))) (jS (aH (e2 cy (aa 5) (e2 au (aa 1) (eC (.int 1))))) (aa 6) (dh ah))) (gN 4)))
def Ms:ahv Fl:=(aV (fj (aH (e2 FL (aa 8) (eC .ax))) (fj (aH (e2 jo (aa 9) (eC (.int 31)))) (aH (e2 fN (aa 9) (aa 4))))) (aT (aa 9) (gN 8)) (aV (fj (aH (e2 Fb (aa 8) (eC .ax))) (ff (aH (e2 aX (aa 9) (eC (.int 31)))) (aH (e2 cy (aa 9) (aa 4))))) (ar (cj (f9 (aa 2) (cC (af (aa 3) (af (aa 8) (af (e2 uK (aa 9) (eC (.int 1))) ah)))))) (aT (eC .ax) (gN 8))) bE))
def Mt:ahv Fl:=(ar (aT (dh ah) (gN 4)) (ar (fI (dI (af (eC (.int 8)) ah)) (gN 5) Mr) (ar (aT (eC .ax) (gN 8)) (fI (dI (af (eC (.int 32)) ah)) (gN 9) Ms))))
def z9:List D->ag->Res D:=aJ 2 10 (ar (aT (eNew ah) (gN 2)) (ar (fI (dI (af (eC (.int 4)) ah)) (gN 3) Mt) (aG (oQ (aa 2)))))
def EF:List D->ag->Res D:=aJ 2 4 (ar (oR 2 3 (af (e2 au (dh (af (eC (.int 0)) (af (aC fO (af (aa 0) (af (eC (.int 4)) ah))) ah))) (aC fO (af (aa 0) (af (eC (.int 2)) ah)))) (af (aC fO (af (aa 0) (af (aa 1) ah))) ah))) (ar (aV (aH (e2 aX (aC fO (af (aa 0) (af (eC (.int 3)) ah))) (eC (.int 0)))) (aG (cC (af (eC (.str "mended")) (af (aa 2) (af (aa 3) (af (aC fO (af (aa 0) (af (e2 au (dh (af (eC (.int 2)) (af (eC (.int 4)) (af (eC (.int 8)) ah)))) (aC fO (af (aa 0) (af (eC (.int 3)) ah)))) ah))) ah)))))) bE) (aG (cC (af (eC (.str "made")) (af (aa 2) (af (aa 3) (af (aC wG (af (aa 0) ah)) ah))))))))
def Cy:ahv Fl:=(ar (aV (fj (aH (e2 aX (e2 au (aa 6) (eC (.int 0))) (eC (.str "mended")))) (fj (aH (e2 aX (e2 au (aa 6) (eC (.int 1))) (aa 1))) (aH (e2 aX (e2 au (aa 6) (eC (.int 3))) (aa 2))))) (cj (f9 (aa 5) (e2 au (aa 6) (eC (.int 2))))) bE) (aV (fj (aH (e2 aX (e2 au (aa 6) (eC (.int 0))) (eC (.str "made")))) (aH (e2 aX (e2 au (aa 6) (eC (.int 1))) (aa 1)))) (ar (aT (e2 cm (aa 3) (e2 gI (dh (af (e2 au (aa 6) (eC (.int 2))) ah)) (eB qj (af (e2 cy (aa 2) (e2 au (e2 au (aa 6) (eC (.int 3))) (eC (.int 0)))) ah)))) (gN 3)) (aT (e2 cm (aa 4) (e2 gI (dh (af (e2 au (aa 6) (eC (.int 2))) ah)) (eB qj (af (e2 cy (aa 2) (e2 au (e2 au (aa 6) (eC (.int 3))) (eC (.int 1)))) ah)))) (gN 4))) bE))
def Ks:ahv Fl:=(ar (aV (fj (aH (e2 cy (aa 8) (aa 5))) (aH (e2 cy (aa 8) (aa 3)))) (aG (eC (.bl ύ))) bE) (ar (aT (i6 (e2 cy (aa 8) (aa 3)) (dj (aa 7) (e2 fN (aa 8) (aa 5)))) (gN 7)) (aV (fj (cD (aa 7)) (aH (e2 cy (aa 8) (aa 4)))) (aG (eC (.bl ύ))) bE)))
def Cz:List D->ag->Res D:=aJ 3 9 (ar (vm 3 4 5 (af (dh ah) (af (dh ah) (af (eNew ah) ah)))) (ar (fI (cB (aa 0)) (gN 6) Cy) (ar (aT (eC (.bl ύ)) (gN 7)) (ar (fI (dI (af (eC (.int 31)) ah)) (gN 8) Ks) (aG (eC (.bl ό)))))))
def Lk:ahv Fl:=(aV (eQ (cD (aC Cz (af (aa 0) (af (aa 1) (af (aa 2) ah)))))) (aG (eC (.bl ύ))) bE)
def Ll:ahv Fl:=(fI (dI (af (eC (.int 8)) ah)) (gN 2) Lk)
def wx:List D->ag->Res D:=aJ 1 3 (ar (aV (aH (e2 ye (eB fk (af (aa 0) ah)) (eC (.int 24)))) (aG (eC (.bl ύ))) bE) (ar (fI (dI (af (eC (.int 4)) ah)) (gN 1) Ll) (aG (eC (.bl ό)))))
def YL:ahv Fl:=(ar (aT (aC EF (af (aa 0) (af (aa 3) ah))) (gN 5)) (aV (fj (aH (e2 fN (aa 5) (aa 2))) (cD (aC wx (af (e2 cm (aa 2) (dh (af (aa 5) ah))) ah)))) (cj (f9 (aa 2) (aa 5))) bE))
def wU:List D->ag->Res D:=aJ 2 6 (ar (oR 2 3 (af (eNew ah) (af (e2 au (dh (af (eC (.int 31)) (af (eC (.int 6)) (af (eC (.int 12)) ah)))) (aC fO (af (aa 0) (af (eC (.int 3)) ah)))) ah))) (ar (fI (dI (af (aa 1) ah)) (gN 4) YL) (aG (eB ib (af (eB TK.xm (af (aa 2) ah)) ah)))))
def pH:List D->ag->Res D:=aJ 1 1 (rM "Diary" "books" (eNew (af (cC ah) ah)) (aa 0))
def qQ:List D->ag->Res D:=aJ 1 1 (rM "Desk" "diary" (kW "Diary" pH) (aa 0))
def Fp:ahv Fl:=(ar (aT (aC Dw (af (aa 1) (af (aa 2) (af (aa 6) (af (aa 7) ah))))) (gN 5)) (aV (ff (aH (e2 jo (aa 5) (eC (.int 0)))) (ff (aH (e2 cp (iy "Diary" "book_now" ia (aa 6) ah) (aa 2))) (aH (e2 cp (iy "Desk" "say" jc (aa 7) (af (eC (.str "book")) ah)) (jS (aH (e2 cp (aa 2) (cC ah))) (aC tD (af (aa 2) ah)) (eC (.str "-"))))))) (aG (eC (.bl ύ))) bE))
def AV:ahv Fl:=(aV (aH (e2 cp (gJ 1 "law" [3] (cQ "Diary" "undo" lS (e2 au (aa 0) (eC (.int 1))) ah) iV) (cC (af (eC (.str "told")) (af (eC .ax) ah))))) (aG (eC (.bl ύ))) bE)
def F5:List D->ag->Res D:=aJ 1 12 (ar (aT (aC zZ (af (aa 0) (af (eC (.int 0)) ah))) (gN 1)) (ar (aT (eB ib (af (ck 1 [] (cB (aC wU (af (aa 1) (af (aC fO (af (aa 1) (af (eC (.int 24)) ah))) ah)))) (gN 0) (aH (e2 aX (e2 au (aa 0) (eC (.int 0))) (eC (.str "made")))) (aa 0)) ah)) (gN 2)) (ar (aT (eB ib (af (ck 1 [2] (cB (aa 2)) (gN 0) (cD (aC wx (af (aa 1) ah))) (aa 0)) ah)) (gN 2)) (ar (aT (cC (af (dh (af (kW "Diary" pH) (af (kW "Diary" pH) ah))) (af (dh (af (kW "Desk" qQ) (af (kW "Desk" qQ) ah))) (af (eC (.int 0)) ah)))) (gT [(gN 3),(gN 4),(gN 5)])) (ar (fI (Bh (af (aa 3) (af (aa 4) ah))) (gT [(gN 6),(gN 7)]) Fp) (ar (vm 8 9 10 (af (aC fO (af (aa 1) (af (eC (.int 4)) ah))) (af (aC fO (af (aa 1) (af (eC (.int 31)) ah))) (af (aC wG (af (aa 1) ah)) ah)))) (ar (aV (aH (e2 cp (aC tX (af (iy "Diary" "book_now" ia (e2 au (aa 3) (eC (.int 0))) ah) (af (aa 8) (af (aa 9) ah)))) (aC zT (af (aa 2) (af (aa 8) (af (aa 9) ah)))))) (aG (eC (.bl ύ))) bE) (ar (aV (aH (e2 cp (aC pI (af (iy "Diary" "book_now" ia (e2 au (aa 3) (eC (.int 1))) ah) (af (aa 10) ah))) (aC z9 (af (aa 2) (af (aa 10) ah))))) (aG (eC (.bl ύ))) bE) (ar (fI (dI (af (aa 5) ah)) (gN 11) AV) (ar (aV (ff (aH (e2 cp (iy "Diary" "book_now" ia (e2 au (aa 3) (eC (.int 1))) ah) (cC ah))) (aH (e2 cp (iy "Diary" "book_now" ia (e2 au (aa 3) (eC (.int 0))) ah) (aa 2)))) (aG (eC (.bl ύ))) bE) (aG (e2 aX (gJ 1 "law" [3] (cQ "Diary" "undo" lS (e2 au (aa 0) (eC (.int 1))) ah) iV) (cC (af (eC (.str "refused")) (af (eC (.int 14)) ah)))))))))))))))
end
end DI.cx
namespace DI
open PySem L2
def Wp (r:Res α) (Q:α->ag->Prop):Prop:=∃a s,r=ϊ (.ok a,s)/\Q a s
section
variable {α β:Type} {r:Res α} {k:α->ag->Res β} {Q Q':α->ag->Prop} {R:β->ag->Prop} {env:Env} {s:ag}
theorem Wp.ok (h:Q a s):Wp (DI.ok a s) Q:=#[a,s,rfl,h]
def Wp.mono (h:Wp r Q) (i:∀a s,Q a s->Q' a s):Wp r Q':=by
 let(a,s,e,q):=h;exact#[a,s,e,i a s q]
theorem Wp.ai (h:Wp r λa s=>Wp (k a s) R):Wp (DI.ai r k) R:=by
 let(a,s,e,b,Z,Y,q):=h;exact#[b,Z,by rw[e];exact Y,q]
theorem Wp.ne (h:Wp r Q):Wp (DI.ne r) Q:=by
 let(a,s,e,q):=h;exact#[a,s,by rw[e];rfl,q]
def ahw (e:r=ϊ (.ok a,s)) (h:Q a s):Wp r Q:=#[a,s,e,h]
def Wp.seq {Q} (h:Wp (f env s) λfl s=>match fl with
  | .nx env=>Wp (g env s) Q
  |fl=>Q fl s):Wp (ar f g env s) Q:=by
 let(fl,Z,e,h):=h;delta ar;rw[e]
 cases fl with
 |nx env=>exact h
 |rt d=>exact#[_,_,rfl,h]
 |bk e=>exact#[_,_,rfl,h]
 |ct e=>exact#[_,_,rfl,h]
def Wp.iZ {Q} (I:Nat->Env->ag->Prop) (all) (h0:I 0 env s)
 (step:∀i d env s,all[i]?=ϊ d->I i env s->∃aP,g d env=ϊ aP/\Wp (b aP s) λfl s=>match fl with
   | .nx e=>I (i+1) e s
   | .ct e=>I (i+1) e s
   | .bk e=>Q (.nx e) s
   | .rt d=>Q (.rt d) s) (fin:∀env s,I all.length env s->Q (.nx env) s):Wp (oF g b all env s) Q:=by
 have key:∀Z i env s,all.drop i=Z->i<=all.length->I i env s->Wp (oF g b Z env s) Q:=by
  intro Z
  induction Z with
  |nil =>
   intro i env s Y hi h;have e:i=all.length:=by
    have:=ħ List.length Y;simp at this;omega
   subst e;exact Wp.ok (fin _ _ h)
  |cons d Z ih =>
   intro i env s Y hi h;have X:=by
    have:=ħ (λl=>l[0]?) Y;simpa using this
   have W:=by
    have:=ħ (List.drop 1) Y;simpa  using this
   let(aP,U,T):=step i d env s X h;have V:=(Ç.mp X).1;delta oF;rw[U];refine Wp.ai (T.mono λfl s q=>?_)
   cases fl with
   |nx e=>exact ih _ e s W V q
   |ct e=>exact ih _ e s W V q
   |bk e=>exact Wp.ok q
   |rt d=>exact Wp.ok q
 exact key all 0 env s rfl (ć _) h0
def Ax {nt} {t} {Q} (I:Nat->List D->ag->Prop) (all) (h0:I 0 [] s)
 (step:∀i d acc s,all[i]?=ϊ d->I i acc s->∃env,g d (Ó nt ϋ++caps)=ϊ env/\Wp (t env s) λb s=>if b=ό then Wp (f env s) λx s=>I (i+1) (acc++[x]) s else I (i+1) acc s)
 (fin:∀acc s,I all.length acc s->Q acc s):Wp (gH nt caps g t f all s) Q:=by
 have key:∀Z i acc s,all.drop i=Z->i<=all.length->I i acc s->Wp (gH nt caps g t f Z s) λX s=>Q (acc++X) s:=by
  intro Z
  induction Z with
  |nil =>
   intro i acc s Y hi h;have e:i=all.length:=by
    have:=ħ List.length Y;simp at this;omega
   subst e;exact Wp.ok (by rw[ð];exact fin _ _ h)
  |cons d Z ih =>
   intro i acc s Y hi h;have W:=by
    have:=ħ (λl=>l[0]?) Y;simpa using this
   have V:=by
    have:=ħ (List.drop 1) Y;simpa  using this
   let(R,T,S):=step i d acc s W h;have U:=(Ç.mp W).1;delta gH;rw[T];refine Wp.ai (Wp.ne (S.mono λb s q=>?_))
   cases b with
   |true =>
    refine Wp.ai (Wp.ne (q.mono λx s q=>?_));refine Wp.ai ((ih _ _ s V U q).mono λX s q=>Wp.ok ?_);rw[Đ] at q;exact q
   |false =>
    exact ih _ acc s V U q
 have:=key all 0 _ s rfl (ć _) h0;simpa using this
end
section
variable {α β:Type} {Q:D->ag->Prop} {QL:List D->ag->Prop} {QB:Bool->ag->Prop} {QF:Fl->ag->Prop} {QO:Option Int->ag->Prop} {env:Env} {s:ag} {f g h:ahv D} {fa:ahv (List D)} {c c':ahv Bool} {st cw:ahv Fl} {o o':D->D->ag->Res D} {u:D->ag->Res D} {bf:List D->ag->Res D}
def bz {a:α} {Q}:Wp (ok a s) Q=Q a s:=propext #[λ⟨b,Z,e,q⟩=>by cases e;exact q,λq=>#[a,s,rfl,q]]
def acw {Q:α->ag->Prop}:Wp (ϊ (Except.ok a,s)) Q=Q a s:=bz
def bO {r:Res α} {k} {R:β->ag->Prop}:Wp (ai r k) R=Wp r λa s=>Wp (k a s) R:=propext #[λ⟨b,Z,e,q⟩=>by
 let(a,s,e1,e2):=tU e;exact#[a,s,e1,b,Z,e2,q],λh=>Wp.ai h]
def Bi {Q}:Wp (ne r) Q=Wp r Q:=propext #[λ⟨b,Z,e,q⟩=>#[b,Z,Ey e,q],λh=>h.ne]
def aM {r:Env}:Wp (aa 0 (ϊ a::r) s) Q=Q a s:=by rw[show aa 0 _ s=ok a s from rfl,bz]
def aZ {a} {r:Env}:Wp (aa (i+1) (a::r) s) Q=Wp (aa i r s) Q:=by rw[show aa (i+1) _ s=aa i r s from rfl]
def cf:Wp (eC d env s) Q=Q d s:=by rw[show eC d env s=ok d s from rfl,bz]
def rP:Wp (e1 u f env s) Q=Wp (f env s) λx s=>Wp (u x s) Q:=by delta e1;rw[bO]
def bJ:Wp (e2 o f g env s) Q=Wp (f env s) λx s=>Wp (g env s) λy s=>Wp (o x y s) Q:=by delta e2;erw[bO]
def aU:Wp (ah env s) QL=QL [] s:=by delta ah;rw[bz]
def aL:Wp (af f fa env s) QL=Wp (f env s) λx s=>Wp (fa env s) λxs s=>QL (x::xs) s:=by delta af;erw[bO,bz]
def ee:Wp (eB bf fa env s) Q=Wp (fa env s) λds s=>Wp (bf ds s) Q:=by delta eB;rw[bO]
def wp_call:Wp (aC fn fa env s) Q=Wp (fa env s) λds s=>Wp (fn ds s) Q:=by delta aC;erw[bO,Bi]
def wH {Q:α->ag->Prop}:Wp (mh ds r) Q=(ds.length<=Õ/\Wp r Q):=propext #[λ⟨b,Z,e,q⟩=>by
 delta mh at e;split at e
 ·exact#[by assumption,b,Z,e,q]
 ·(cases e),λ⟨Y,b,Z,e,q⟩=>#[b,Z,by delta mh;rw[Ù Y];exact e,q]]
def iW:Wp (cC fa env s) Q=Wp (fa env s) λds s=>ds.length<=Õ/\Q (.tup ds) s:=by delta cC;erw[bO,wH,bz]
def oy:Wp (dh fa env s) Q=Wp (fa env s) λds s=>ds.length<=Õ/\Q (.lst ds) s:=by delta dh;erw[bO,wH,bz]
def xp:Wp (eNew fa env s) Q=Wp (fa env s) λds s=>ds.length<=Õ/\Q (.aj s.length) (s++[.lst ds]):=by delta eNew;erw[bO,wH,bz]
def Fq:Wp (oQ f env s) Q=Wp (f env s) λd s=>Wp (bx d s) Q:=by delta oQ;rw[bO]
def eX:Wp (aH f env s) QB=Wp (f env s) λd s=>Wp (jk d s) QB:=by delta aH;rw[bO]
def cG:Wp (jk (.bl b) s) QB=QB b s:=by rw[show jk _ s=ok b s from rfl,bz]
def pV:Wp (cD f env s) QB=Wp (f env s) λd s=>Wp (truth d s) QB:=by delta cD;rw[bO]
def lW:Wp (truth (.bl b) s) QB=QB b s:=by rw[show truth _ s=ok b s from rfl,bz]
def uj:Wp (fj c c' env s) QB=Wp (c env s) λb s=>if b=ό then Wp (c' env s) QB else QB ύ s:=by
 delta fj;rw[bO];congr 1;funext b s
 cases b<;>simp[bz]
def nq:Wp (ff c c' env s) QB=Wp (c env s) λb s=>if b=ό then QB ό s else Wp (c' env s) QB:=by
 delta ff;rw[bO];congr 1;funext b s
 cases b<;>simp[bz]
def EG:Wp (eQ c env s) QB=Wp (c env s) λb s=>QB (!b) s:=by delta eQ;erw[bO,bz]
def ot:Wp (dj f g env s) Q=Wp (f env s) λx s=>Wp (jk x s) λb s=>if b=ό then Wp (g env s) Q else Q (.bl ύ) s:=by
 delta dj;rw[bO];congr 1;funext x s;rw[bO];congr 1;funext b s
 cases b<;>simp[bz]
def xq:Wp (i6 f g env s) Q=Wp (f env s) λx s=>Wp (jk x s) λb s=>if b=ό then Q (.bl ό) s else Wp (g env s) Q:=by
 delta i6;rw[bO];congr 1;funext x s;rw[bO];congr 1;funext b s
 cases b<;>simp[bz]
def aak:Wp (x8 f env s) Q=Wp (f env s) λx s=>Wp (jk x s) λb s=>Q (.bl (!b)) s:=by delta x8;erw[bO,bz]
def oz:Wp (jS c f g env s) Q=Wp (c env s) λb s=>if b=ό then Wp (f env s) Q else Wp (g env s) Q:=by
 delta jS;rw[bO];congr 1;funext b s
 cases b<;>simp
def PM:Wp (vO o o' f g h env s) Q=Wp (f env s) λx s=>Wp (g env s) λy s=>Wp (o x y s) λz s=>Wp (jk z s) λb s=>if b=ό then Wp (h env s) λu s=>Wp (o' y u s) Q else Q (.bl ύ) s:=by
 delta vO;erw[bO];congr 1;funext x s;congr 1;funext y s;congr 1;funext z s;congr 1;funext b s
 cases b<;>simp[bz,bO]
def fq:Wp (bE env s) QF=QF (.nx env) s:=by delta bE;rw[bz]
def cA:Wp (aG f env s) QF=Wp (f env s) λd s=>QF (.rt d) s:=by delta aG;erw[bO,bz]
def oj:Wp (cj f env s) QF=Wp (f env s) λ_ s=>QF (.nx env) s:=by delta cj;erw[bO,bz]
def YM:Wp (Qt env s) QF=QF (.ct env) s:=by delta Qt;rw[bz]
def ik (st:ahv Fl) (Q:Fl->ag->Prop):Fl->ag->Prop:=λfl s=>match fl with
 | .nx env=>Wp (st env s) Q
 |fl=>Q fl s
def pM:Wp (ar st cw env s) QF=Wp (st env s) (ik cw QF):=propext #[λh=>by
 delta ar at h;rw[bO] at h;refine h.mono λZ s q=>?_
 cases Z with
 |nx e=>exact q
 |rt d=>rw[bz] at q;exact q
 |bk d=>rw[bz] at q;exact q
 |ct d=>rw[bz] at q;exact q,λh=>Wp.seq (h.mono λZ s q=>by cases Z<;>exact q)]
def ahy (h:∀R,R=cw->Wp (st env s) (ik R QF)):Wp (ar st cw env s) QF:=by rw[pM];exact h _ rfl
def cP:ik st QF (.nx env) s=Wp (st env s) QF:=rfl
def nr:ik st QF (.rt d) s=QF (.rt d) s:=rfl
def acx:ik st QF (.ct env) s=QF (.ct env) s:=rfl
def jz:Wp (aV c st cw env s) QF=Wp (c env s) λb s=>if b=ό then Wp (st env s) QF else Wp (cw env s) QF:=by
 delta aV;rw[bO];congr 1;funext b s
 cases b<;>simp
def cZ:Wp (aT f gd env s) QF=Wp (f env s) λd s=>∃e,gd d env=ϊ e/\QF (.nx e) s:=by
 delta aT;rw[bO];congr 1;funext d s
 cases h:gd d env with
 |none=>exact propext #[λ⟨_,_,e,_⟩=>(by cases e),λ⟨_,e,_⟩=>(by cases e)]
 |some e=>rw[bz];exact propext #[λq=>#[e,rfl,q],λ⟨Z,z,q⟩=>by cases z;exact q]
def eJ {i} {P:Env->Prop}:(∃e,gN i d env=ϊ e/\P e)=P (env.set i (ϊ d)):=propext #[λ⟨e,z,q⟩=>by cases z;exact q,λq=>#[_,rfl,q]]
def aeq {P:Env->Prop}:(∃e,gT gs (.tup ds) env=ϊ e/\P e)=∃e,iK gs ds env=ϊ e/\P e:=rfl
def aal {P:Env->Prop}:(∃e,iK [] [] env=ϊ e/\P e)=P env:=propext #[λ⟨e,z,q⟩=>by cases z;exact q,λq=>#[_,rfl,q]]
def YN {i} {P:Env->Prop}:(∃e,iK (gN i::gs) (d::ds) env=ϊ e/\P e)=∃e,iK gs ds (env.set i (ϊ d))=ϊ e/\P e:=rfl
def wV:Wp (oR i j fa env s) QF=Wp (fa env s) λds s=>∃x y,ds=[x,y]/\QF (.nx ((env.set i (ϊ x)).set j (ϊ y))) s:=by
 delta oR;rw[bO];congr 1;funext ds s
 match ds with
 | [x,y] =>
  rw[bz];exact propext #[λq=>#[x,y,rfl,q],λ⟨Z,Y,e,q⟩=>by cases e;exact q]
 | []=>exact propext #[λ⟨_,_,e,_⟩=>(by cases e),λ⟨_,_,e,_⟩=>(by cases e)]
 | [_]=>exact propext #[λ⟨_,_,e,_⟩=>(by cases e),λ⟨_,_,e,_⟩=>(by cases e)]
 |_::_::_::_=>exact propext #[λ⟨_,_,e,_⟩=>(by cases e),λ⟨_,_,e,_⟩=>(by cases e)]
def acy {P:D->D->Prop}:(∃x' y',[x,y]=[x',y']/\P x' y')=P x y:=propext #[λ⟨_,_,e,q⟩=>by cases e;exact q,λq=>#[x,y,rfl,q]]
def jg:Wp (fI it gd st env s) QF=Wp (it env s) λds s=>Wp (oF gd st ds env s) QF:=by delta fI;rw[bO]
def Ot:Wp (qe f fo fi env s) QF=Wp (f env s) λx s=>Wp (fo env s) λd s=>Wp (fi env s) λn s=>∃s',nD d n x s=ϊ s'/\QF (.nx env) s':=by
 delta qe;erw[bO];congr 1;funext x s;congr 1;funext d s;congr 1;funext n s
 cases h:nD d n x s with
 |none=>exact propext #[λ⟨_,_,e,_⟩=>(by cases e),λ⟨_,e,_⟩=>(by cases e)]
 |some e=>erw[bz];exact propext #[λq=>#[e,rfl,q],λ⟨Z,z,q⟩=>by cases z;exact q]
def xr:Wp (f9 f g env s) Q=Wp (f env s) λd s=>jJ d s=ό/\Wp (g env s) λx s=>Wp (mB d x s) Q:=by
 delta f9;rw[bO];congr 1;funext d s
 cases h:jJ d s with
 |true=>rw[Ù rfl,bO];simp
 |false=>rw[é Ú];exact propext #[λ⟨_,_,e,_⟩=>(by cases e),λ⟨e,_⟩=>(by cases e)]
def sj (Q:D->ag->Prop):Fl->ag->Prop:=λZ s=>match Z with
 | .rt d=>Q d s
 | .nx _=>Q .ax s
 |_=>False
def c8:Wp (aJ np ns st ds s) Q=(ds.length=np/\Wp (st (ds.map ϊ++Ó (ns-np) ϋ) s) (sj Q)):=by
 delta aJ;by_cases h:ds.length=np
 .rw[Ù h,bO]
  refine propext #[λq=>#[h,q.mono λZ s q=>?_],λ⟨_,q⟩=>q.mono λZ s q=>?_]
  .cases Z with
   |rt d=>exact(q) |> λz=>by rw[bz] at z;exact z
   |nx e=>exact(q) |> λz=>by rw[bz] at z;exact z
   |bk e=>let(_,_,e,_):=q;cases e
   |ct e=>let(_,_,e,_):=q;cases e
  .cases Z with
   |rt d=>exact Wp.ok q
   |nx e=>exact Wp.ok q
   |bk e=>exact q.elim
   |ct e=>exact q.elim
 .rw[é h]
  exact propext #[λ⟨_,_,e,_⟩=>(by cases e),λ⟨e,_⟩=>absurd e h]
def kS:sj Q (.rt d) s=Q d s:=rfl
def acz:sj Q (.nx env) s=Q .ax s:=rfl
def iu:Wp (ck nt cap it gd c f env s) Q=Wp (it env s) λds s=>ds.length<=Õ/\Wp (gH nt (mj cap env) gd c f ds s) λxs s=>Q (.lst xs) s:=by
 delta ck;erw[bO,wH,bz]
def F6:Wp (qD f l' h' env s) Q=Wp (f env s) λd s=>Wp (l' env s) λlo s=>Wp (h' env s) λhi s=>Wp (xi d lo hi s) Q:=by delta qD;erw[bO]
def Fs:Wp (qB env s) QO=QO ϋ s:=by delta qB;rw[bz]
def Ou (hi:f env s=ok (.int i) s):Wp (qd f env s) QO=QO (ϊ i) s:=by delta qd;rw[hi,de,bz]
end
open DI.cx
def aam {th} {r:Env} {s}:v5 cl th 0 (ϊ cl::r) s=th s:=Ù rfl
def QV (b:ahv Fl) (cl:D) (r:Res D) (s:ag):Res D:=ai (pZ b9 "told" (λ_ _=>r) 1 b [ϊ cl,ϋ,ϋ] s) λZ s=>match Z with
 | .rt d=>ok d s
 | .nx _=>ok .ax s
 |_=>ϋ
def uk {cl:D} {th:ag->Res D} {s:ag} {b:ahv Fl}:aJ 1 3 (pZ b9 "told" (v5 cl th 0) 1 b) [cl] s=QV b cl (th s) s:=by
 show ai (pZ b9 "told" (v5 cl th 0) 1 b [ϊ cl,ϋ,ϋ] s) _=_;delta pZ;rw[aam];rfl
def AW {cl d} {th:ag->Res D} {s s'} (h:th s=ϊ (.ok d,s')):iV cl th [cl] s=ok (.tup [.str "told",d]) s':=by
 delta iV;rw[uk,h];rfl
def iw {cl:D} {th:ag->Res D} {s s':ag} {m:Option Int} {c:Str} {n:Int} (hc:c="NoMould"/\n=4\/c="NoDay"/\n=5\/c="NoSheet"/\n=1\/c="NoPage"/\n=2\/c="NoBook"/\n=3\/c="NoRow"/\n=16\/c="Clash"/\n=13\/c="NoDeed"/\n=14) (h:th s=ϊ (.error #[c,m],s')):iV cl th [cl] s=ok (.tup [.str "refused",.int n]) s':=by
 rcases hc with ⟨rfl,rfl⟩ | ⟨rfl,rfl⟩ | ⟨rfl,rfl⟩ | ⟨rfl,rfl⟩ | ⟨rfl,rfl⟩ | ⟨rfl,rfl⟩ | ⟨rfl,rfl⟩ | ⟨rfl,rfl⟩
 all_goals (delta iV;rw[uk,h];kernel_rfl)
def DW (cl:D) (th:ag->Res D) (s:ag):iV cl th [cl] s=iV .ax th [.ax] s:=by
 cases h:th s with
 |none=>delta iV;rw[uk,uk,h];rfl
 |some q =>
  let(q,Y):=q
  cases q with
  |ok d=>rw[AW h,AW h]
  |error x =>
   let(c,m):=x;by_cases Z:ώ (c∈b9)=ό
   .rw[Å] at Z
    have e1:c="NoMould"\/c="NoDay"\/c="NoSheet"\/c="NoPage"\/c="NoBook"\/c="NoRow"\/c="Clash"\/c="NoDeed":=by simpa [b9] using Z
    rcases e1 with rfl|rfl|rfl|rfl|rfl|rfl|rfl|rfl
    .rw[iw (n:=4) ∅ h,iw (n:=4) ∅ h]
    .rw[iw (n:=5) ∅ h,iw (n:=5) ∅ h]
    .rw[iw (n:=1) ∅ h,iw (n:=1) ∅ h]
    .rw[iw (n:=2) ∅ h,iw (n:=2) ∅ h]
    .rw[iw (n:=3) ∅ h,iw (n:=3) ∅ h]
    .rw[iw (n:=16) ∅ h,iw (n:=16) ∅ h]
    .rw[iw (n:=13) ∅ h,iw (n:=13) ∅ h]
    .rw[iw (n:=14) ∅ h,iw (n:=14) ∅ h]
   .delta iV
    rw[uk,uk,h];delta QV pZ;dsimp only;rw[é Z,é Z]
def tN (cl:D) (th:ag->Res D) (s:ag):iU cl th [cl] s=iU .ax th [.ax] s:=by
 delta iU;show ai (ai (ai (sR cl (iV cl th) 0 [ϊ cl] s) _) _) _=ai (ai (ai (sR .ax (iV .ax th) 0 [ϊ .ax] s) _) _) _;rw[ED,ED,DW];rfl
end DI
namespace DI.cx
open PySem L2 DI
noncomputable def top (i:Nat):Stmt:=PySem.Challenge.pw_twinmoulds_k48_whole_pages_in_any_order.main.body.getD i (.Pass #[0,0,0,0])
noncomputable def fL (c:Stmt) (j:Nat):Stmt:=match c with
 | .ClassDef _ _ _ b _ _ _ _ _ _ _=>b.getD j (.Pass #[0,0,0,0])
 |_=>.Pass #[0,0,0,0]
noncomputable abbrev yp:List Str:=[ahG,"_law_k"]
noncomputable abbrev BF:List Str:=[ahC,ahL]
noncomputable abbrev RW:List Str:=[ahC,ahD]
noncomputable abbrev Hi:List Str:=["_law_marks"]
noncomputable abbrev Hj:List Str:=[ahM]
noncomputable abbrev RX:List Str:=[ahH]
noncomputable abbrev RY:List Str:=["_law_e"]
noncomputable abbrev Hk:List Str:=["things"]
noncomputable abbrev cF:List Str:=["thing"]
noncomputable abbrev Hl:List Str:=["thing","many"]
noncomputable abbrev F7:List Str:=["marks","others"]
noncomputable abbrev F8:List Str:=["pages","mould","mark","half"]
noncomputable abbrev xQ:List Str:=["pages","mould","mark"]
noncomputable abbrev F9:List Str:=["days","day","later"]
noncomputable abbrev Ga:List Str:=["pages"]
noncomputable abbrev Gb:List Str:=["self","pages"]
noncomputable abbrev kX:List Str:=["self"]
noncomputable abbrev xR:List Str:=["self","page"]
noncomputable abbrev ki:List Str:=["word"]
noncomputable abbrev uU:List Str:=["words"]
noncomputable abbrev Ge:List Str:=["row"]
noncomputable abbrev Gf:List Str:=["marks"]
noncomputable abbrev QW:List Str:=["sheet"]
noncomputable abbrev Gg:List Str:=["places"]
noncomputable abbrev QX:List Str:=["page"]
noncomputable abbrev Gh:List Str:=["book"]
noncomputable abbrev Bj:List Str:=["book","mould","mark"]
noncomputable abbrev Gi:List Str:=["days_by_mark","day"]
noncomputable abbrev QY:List Str:=["book","mould"]
noncomputable abbrev Gj:List Str:=["book","mould","day"]
noncomputable abbrev QZ:List Str:=["holds"]
noncomputable abbrev Gk:List Str:=["sheet","sure"]
noncomputable abbrev Gn:List Str:=["book","sheet"]
noncomputable abbrev Gp:List Str:=["book","words"]
noncomputable abbrev Q0:List Str:=["self","row"]
noncomputable abbrev xS:List Str:=["_law_call"]
noncomputable abbrev Q2:List Str:=[ahC,ahN,ahJ,ahK]
noncomputable abbrev Q3:List Str:=[ahC]
noncomputable abbrev Bl:List Str:=[ahD,ahF,ahE]
noncomputable abbrev Q4:List Str:=[ahD,ahF,ahI]
noncomputable abbrev Q5:List Str:=[ahD,ahM]
noncomputable abbrev Q6:List Str:=[ahC,ahO]
noncomputable abbrev Q7:List Str:=[ahD]
noncomputable abbrev Q8:List Str:=[ahG]
structure bp (K:Ň) (mg:Str->Option ã):Prop where
 Ul:mg "ValueError"=ϋ
 uB:mg "all"=ϋ
 PN:mg "any"=ϋ
 aan:mg "bool"=ϋ
 j7:mg "int"=ϋ
 eU:mg "isinstance"=ϋ
 jA:mg "len"=ϋ
 aao:mg "list"=ϋ
 eD:mg "range"=ϋ
 U5:mg "reversed"=ϋ
 acA:mg "set"=ϋ
 Dx:mg "sorted"=ϋ
 rk:mg "str"=ϋ
 jd:mg "tuple"=ϋ
 PQ:mg "zip"=ϋ
 VS:gC K mg b9 "NoMarks"
 VT:gC K mg b9 "NoSheet"
 W0:gC K mg b9 "NoPage"
 W2:gC K mg b9 "NoBook"
 VU:gC K mg b9 "NoMould"
 YO:gC K mg b9 "NoDay"
 W3:gC K mg b9 "NoSort"
 U6:gC K mg b9 "NoNumber"
 U7:gC K mg b9 "NoSheets"
 YQ:gC K mg b9 "NoRun"
 U8:gC K mg b9 "NoLaying"
 W4:gC K mg b9 "NoHeap"
 VV:gC K mg b9 "NoCount"
 YR:gC K mg b9 "Clash"
 W5:gC K mg b9 "NoDeed"
 W6:gC K mg b9 "NoText"
 YS:gC K mg b9 "NoRow"
 VW:gC K mg b9 "TooMany"
 VX:gC K mg b9 "Lacking"
 Um:ui K b9 (.type "ValueError") anyS
 lx:IY K mg  ahB
 VY:nH K mg "NoMould"
 YT:nH K mg "NoDay"
 VZ:nH K mg "NoSheet"
 W7:nH K mg "NoPage"
 W8:nH K mg "NoBook"
 YU:nH K mg "NoRow"
 Nn:nH K mg "Clash"
 W9:nH K mg "NoDeed"
 Uo:SV K mg b9 "MouldError"
 qW:∃t,mg "MARKS"=ϊ (.int (8) t)
 wA:∃t,mg "MOULDS"=ϊ (.int (4) t)
 ra:∃t,mg "DAYS"=ϊ (.int (31) t)
 DY:∃t,mg "PAGES"=ϊ (.int (24) t)
 uC:∃t,mg "HAS"=ϊ (.int (0) t)
 tY:∃t,mg "LACKS"=ϊ (.int (1) t)
 C9:∃t,mg "LONGEST"=ϊ (.int (30) t)
 tI:∃t,mg "NOTHING"=ϊ (.str "-" t)
 Dc:∃t,mg "FIGURES"=ϊ (.str "0123456789" t)
 wa:ym K "Diary" "books"
 wc:ym K "Desk" "diary"
 KI:GM K "Diary" "keep" "Diary.keep" (fL (top 52) 5) Gb
 pF:GM K "Diary" "book_now" "Diary.book_now" (fL (top 52) 4) kX
 CF:GM K "Diary" "tell" "Diary.tell" (fL (top 52) 1) xR
 CG:GM K "Diary" "undo" "Diary.undo" (fL (top 52) 3) kX
 Kt:GM K "Diary" "strike" "Diary.strike" (fL (top 52) 2) xR
 zJ:GM K "Desk" "say" "Desk.say" (fL (top 78) 1) Q0
 DZ:GK K mg "Diary" "Diary.__init__" (fL (top 52) 0) kX
 Ov:GK K mg "Desk" "Desk.__init__" (fL (top 78) 0) kX
 U9:GG K mg "_law_cell_at" (top 84) yp
 Xa:GG K mg "_law_state" (top 85) yp
 jw:GG K mg "_law_take" (top 86) BF
 UI:GG K mg "_law_mixed_up" (top 100) RW
 Kv:GG K mg  ahQ (top 97) Hi
 TX:GG K mg  ahR (top 98) Hj
 YV:GG K mg "_law_line" (top 99) RX
 Va:GG K mg "_law_classes" (top 95) RY
 K1:GG K mg "is_rising" (top 30) Hk
 UJ:GG K mg "is_number" (top 25) cF
 C4:GG K mg "is_below" (top 26) Hl
 LK:GG K mg "is_mark" (top 27) cF
 K2:GG K mg "are_marks" (top 37) cF
 CN:GG K mg "are_apart" (top 39) F7
 Lm:GG K mg "is_sheet" (top 38) cF
 Ln:GG K mg "is_mould" (top 28) cF
 Mu:GG K mg "is_day" (top 29) cF
 LL:GG K mg "is_page" (top 40) cF
 K3:GG K mg "need_page" (top 49) cF
 Vb:GG K mg "are_laid" (top 41) cF
 zF:GG K mg "days_seen" (top 46) F8
 CB:GG K mg "days_mended" (top 47) xQ
 TB:GG K mg "is_any_behind" (top 45) F9
 V0:GG K mg "clashes" (top 44) xQ
 UK:GG K mg "faults_of" (top 43) Ga
 LM:GG K mg "is_book" (top 42) cF
 Kw:GG K mg "are_figures" (top 73) ki
 Kq:GG K mg "is_sheet_word" (top 72) ki
 zq:GG K mg "is_number_word" (top 71) ki
 Kl:GG K mg "are_page_words" (top 70) uU
 Xb:GG K mg "is_row" (top 80) uU
 Vc:GG K mg "words_of" (top 79) Ge
 Lo:GG K mg "marks_of" (top 76) ki
 Lp:GG K mg "sheet_of" (top 75) ki
 LN:GG K mg "page_of" (top 74) uU
 KJ:GG K mg "marks_text" (top 67) Gf
 KL:GG K mg "sheet_text" (top 68) QW
 TY:GG K mg "places_text" (top 82) Gg
 CO:GG K mg "need_book" (top 50) cF
 UL:GG K mg "page_text" (top 69) QX
 K4:GG K mg "book_text" (top 66) Gh
 Uq:GG K mg "need_mould" (top 31) cF
 Vd:GG K mg "need_day" (top 32) cF
 TH:GG K mg "days_present" (top 58) Bj
 TZ:GG K mg "days_absent" (top 59) Bj
 Lq:GG K mg "marks_on" (top 57) Gi
 Kx:GG K mg "sure_sheets" (top 56) QY
 Mv:GG K mg "surely" (top 54) Gj
 Ur:GG K mg "need_sheet" (top 48) cF
 UM:GG K mg "stretches" (top 61) QZ
 YW:GG K mg "agree" (top 60) Gk
 K5:GG K mg "places_of" (top 55) Gn
 Xc:GG K mg "answer" (top 81) Gp
 EH:GG K mg "_law_met" (top 96) xS
 tZ:GG K mg "_law_done" (top 101) xS
 V1:GG K mg  ahB (top 102) Q2
 Mw:GG K mg "_law_sheet" (top 87) Q3
 Np:GG K mg "_law_days" (top 92) Bl
 V2:GG K mg "_law_surely" (top 93) Q4
 Xd:GG K mg "_law_where" (top 94) Q5
 YX:GG K mg "_law_page" (top 88) Q6
 TJ:GG K mg  ahS (top 89) Bl
 Lr:GG K mg "_law_is_book" (top 90) Q7
 YY:GG K mg "_law_book" (top 91) BF
section
variable {P:ø} {w:Ĭ} {K:Ň} {mg:Str->Option ã} {base:ū}
def Ve (F:bp K mg):bQ P w K mg base "_law_cell_at" (top 84) yp 1 wq:=λ{_ _} G =>
 bT G yp (by kernel_rfl) λY _ _ _ _ _ _ Z=>(aF (bN (aY (vj Z) (ae 1) (dM jF rfl F.jA jG (aq (ae 0))) (ba _)) (az (aR (aS (ae 0) (ae 1)))) bS) (az (aR aw)))
def Xe (F:bp K mg):bQ P w K mg base "_law_state" (top 85) yp 2 zZ:=λ{_ _} G =>
 bT G [ahG,"_law_k","_law_cell"] (by kernel_rfl) λZ _ _ _ _ _ _ Y=>(aF (bF 2 Z (aO F.U9 (Ve F) Y (bt (ae 0) (ae 1)))) (aF (bN (aY RK (ae 2) (bL Qv aw aw) (ba _)) (az (aR (mi (bt (bL FK (ae 2) (bL Qv aw aw)) fH)))) bS) (az (aR (mi (bt (bL uL (ae 2) aw) fH))))))
def jx (F:bp K mg):bQ P w K mg base "_law_take" (top 86) BF 1 fO:=λ{_ _} G =>
 bT G [ahC,ahL,"_law_found","_law_mixed"] (by kernel_rfl) λZ _ _ _ _ _ _ Y=>(aF (bN (eI (aS (ae 0) aw)) (aF (bF 2 Z (bL uL (aS (ae 0) aw) (ae 1))) (aF (FO (bL Qu (aS (ae 0) aw) (ae 1)) (ae 0) aw) (az (aR (ae 2))))) bS) (aF (FO (bL uL (bL dD (bL mw (aS (ae 0) aw) aw) aw) aw) (ae 0) aw) (aF (bF 3 Z (bL uL (bL dD (bL dD (bL mw (aS (ae 0) aw) (aS (ae 0) aw)) (bL mw aw (aS (ae 0) aw))) aw) aw)) (aF (bF 3 Z (bL uL (bL dD (bL mw (ae 3) (ae 3)) (bL mw aw (ae 3))) aw)) (az (aR (bL uL (bL Qu (ae 3) aw) (ae 1))))))))
def UN (F:bp K mg):bQ P w K mg base "_law_mixed_up" (top 100) RW 2 C0:=λ{_ _} G =>
 bT G [ahC,ahD,"_law_left"] (by kernel_rfl) λZ _ _ _ _ _ _ Y=>(aF (bF 2 Z (dQ aag rfl F.aao ab3 (aq (ae 1)))) (az (aR (eR ["_law_turn","_law_left",ahC] (fu rfl F.eD (aq (dM jF rfl F.jA jG (aq (ae 1))))) (λ_ _ _ _ _ _=>#[fg,(ad4 (ae 1) (aO F.jw (jx F) Y (bt (ae 2) (dM jF rfl F.jA jG (aq (ae 1))))))])))))
def Ky (F:bp K mg):bQ P w K mg base  ahQ (top 97) Hi 1 zz:=λ{_ _} G =>
 bT G Hi (by kernel_rfl) λY _ _ _ _ _ _ Z=>(az (aR (rY (aY (jI Z) (ae 0) (dO cH) (ba _)) (AU bq (eR [ahE] (f6 (ae 0)) (λ_ _ _ _ _ _=>#[fg,(dQ uT rfl F.rk rK (aq (ae 0)))]))) bq)))
def T9 (F:bp K mg):bQ P w K mg base  ahR (top 98) Hj 2 wb:=λ{_ _} G =>
 bT G Hj (by kernel_rfl) λY _ _ _ _ _ _ Z=>(az (aR (bL dD (bL dD (aO F.Kv (Ky F) Z (aq (aS (ae 0) aw))) bq) (aO F.Kv (Ky F) Z (aq (aS (ae 0) aw))))))
def YZ (F:bp K mg):bQ P w K mg base "_law_line" (top 99) RX 3 EE:=λ{_ _} G =>
 bT G [ahH,"_law_last"] (by kernel_rfl) λY _ _ _ _ _ _ Z=>(aF (bF 1 Y (rY (aY (bW Z) (aS (ae 0) aw) bq (ba _)) (aO F.TX (T9 F) Z (aq (aS (ae 0) aw))) (dQ uT rfl F.rk rK (aq (aS (ae 0) aw))))) (az (aR (bL dD (bL dD (bL dD (bL dD (bL dD (bL dD (aS (ae 0) aw) bq) (dQ uT rfl F.rk rK (aq (aS (ae 0) aw)))) bq) (dQ uT rfl F.rk rK (aq (aS (ae 0) aw)))) bq) (ae 1)))))
def Vf (F:bp K mg):SW P w K mg base "_law_classes" (top 95) RY 1 LI:=λ{_ _} G =>
 aeh G ["_law_e","_law_found"] (by kernel_rfl) λZ _ _ _ _ _ _ Y=>(aF (bF 1 Z (dZ (bC (gW F.VS (ae 0) F.eU) (bC (gW F.VT (ae 0) F.eU) (bC (gW F.W0 (ae 0) F.eU) (bC (gW F.W2 (ae 0) F.eU) cH)))))) (aF (bF 1 Z (bL dD (ae 1) (dZ (bC (gW F.VU (ae 0) F.eU) (bC (gW F.YO (ae 0) F.eU) (bC (gW F.W3 (ae 0) F.eU) (bC (gW F.U6 (ae 0) F.eU) cH))))))) (aF (bF 1 Z (bL dD (ae 1) (dZ (bC (gW F.U7 (ae 0) F.eU) (bC (gW F.YQ (ae 0) F.eU) (bC (gW F.U8 (ae 0) F.eU) (bC (gW F.W4 (ae 0) F.eU) cH))))))) (aF (bF 1 Z (bL dD (ae 1) (dZ (bC (gW F.VV (ae 0) F.eU) (bC (gW F.YR (ae 0) F.eU) (bC (gW F.W5 (ae 0) F.eU) (bC (gW F.W6 (ae 0) F.eU) cH))))))) (az (aR (bL dD (ae 1) (dZ (fF (gW F.YS (ae 0) F.eU) (gW F.VW (ae 0) F.eU) (gW F.VX (ae 0) F.eU))))))))))
def K6 (F:bp K mg):bQ P w K mg base "is_rising" (top 30) Hk 1 qO:=λ{_ _} G=>by
 have Z:(["ahead","behind"]:List Str).Nodup:=nofun
 exact bT G Hk (by kernel_rfl) λX _ _ _ _ _ _ Y=>(az (aR (dM (uN rfl) rfl F.uB uO (aq (EA (N:=["ahead","behind"]) (nt:=2) (cap:=[]) rfl (FR (by kernel_rfl)) (AH (oi 0 (oi 1 Aq))) (adV rfl F.PQ (bt (ae 0) (G7 (ae 0) (FN aw) G6))) (λcl C s H ex W=>#[(wY rfl (mZ (iT (i:=0) Z rfl (ſ rfl)) (mZ (iT (i:=1) Z rfl (ſ rfl)) wL))),fg,(dC (vj Y) (ae 0) (ae 1) (ba _))]))))))
def UO (F:bp K mg):bQ P w K mg base "is_number" (top 25) cF 1 CZ:=λ{_ _} G =>
 bT G cF (by kernel_rfl) λZ _ _ _ _ _ _ Y=>(az (aR (fG (dM rH rfl F.eU n9 (bt (ae 0) (se ke rfl F.j7))) (fG (Qs (dM rH rfl F.eU n9 (bt (ae 0) (se ab2 rfl F.aan)))) (dR (dC RK (ae 0) aw (ba _)))))))
def C5 (F:bp K mg):bQ P w K mg base "is_below" (top 26) Hl 2 tG:=λ{_ _} G =>
 bT G Hl (by kernel_rfl) λY _ _ _ _ _ _ Z=>(az (aR (fG (aO F.UJ (UO F) Z (aq (ae 0))) (dR (dC (vj Z) (ae 0) (ae 1) (ba _))))))
def LO (F:bp K mg):bQ P w K mg base "is_mark" (top 27) cF 3 tK:=λ{_ _} G =>
 bT G cF (by kernel_rfl) λY _ _ _ _ _ _ Z=>(az (aR (aO F.C4 (C5 F) Z (bt (ae 0) (fR F.qW rfl)))))
def K7 (F:bp K mg):bQ P w K mg base "are_marks" (top 37) cF 4 wj:=λ{_ _} G =>
 bT G cF (by kernel_rfl) λY _ _ _ _ _ _ Z=>(az (aR (fG (dM rH rfl F.eU n9 (bt (ae 0) (se jf rfl F.jd))) (fG (dM (uN rfl) rfl F.uB uO (aq (eR ["mark"] (f6 (ae 0)) (λ_ _ _ _ _ _=>#[fg,(aO F.LK (LO F) Z (aq (ae 0)))])))) (dR (aO F.K1 (K6 F) Z (aq (ae 0))))))))
def CP (F:bp K mg):bQ P w K mg base "are_apart" (top 39) F7 1 tw:=λ{_ _} G =>
 bT G F7 (by kernel_rfl) λY _ _ _ _ _ _ Z=>(az (aR (Qs (dM (Qw rfl) rfl F.PN QC (aq (eR ["mark","others"] (f6 (ae 0)) (λ_ _ _ _ _ _=>#[fg,(dC (fc Z) (ae 0) (ae 1) rfl)])))))))
def Ls (F:bp K mg):bQ P w K mg base "is_sheet" (top 38) cF 5 qR:=λ{_ _} G =>
 bT G ["thing","has","lacks"] (by kernel_rfl) λY _ _ _ _ _ _ Z=>(aF (bN (PW.pt (w_or (iE (eI (dM rH rfl F.eU n9 (bt (ae 0) (se jf rfl F.jd))))) (j8 (aY (jI Z) (dM jF rfl F.jA jG (aq (ae 0))) aw (ba _))))) (az (aR fH)) bS) (aF (mq (ae 0) (oG rfl (cV (bR 1 Y) (cV (bR 2 Y) kQ)))) (az (aR (fG (aO F.K2 (K7 F) Z (aq (ae 1))) (fG (aO F.K2 (K7 F) Z (aq (ae 2))) (dR (aO F.CN (CP F) Z (bt (ae 1) (ae 2))))))))))
def Lu (F:bp K mg):bQ P w K mg base "is_mould" (top 28) cF 3 tH:=λ{_ _} G =>
 bT G cF (by kernel_rfl) λY _ _ _ _ _ _ Z=>(az (aR (aO F.C4 (C5 F) Z (bt (ae 0) (fR F.wA rfl)))))
def Mx (F:bp K mg):bQ P w K mg base "is_day" (top 29) cF 3 tW:=λ{_ _} G =>
 bT G cF (by kernel_rfl) λY _ _ _ _ _ _ Z=>(az (aR (aO F.C4 (C5 F) Z (bt (ae 0) (fR F.ra rfl)))))
def LP (F:bp K mg):bQ P w K mg base "is_page" (top 40) cF 6 wy:=λ{_ _} G =>
 bT G ["thing","word","mould","day","what"] (by kernel_rfl) λY _ _ _ _ _ _ Z=>(aF (bN (PW.pt (w_or (iE (eI (dM rH rfl F.eU n9 (bt (ae 0) (se jf rfl F.jd))))) (j8 (aY (jI Z) (dM jF rfl F.jA jG (aq (ae 0))) aw (ba _))))) (az (aR fH)) bS) (aF (mq (ae 0) (oG rfl (cV (bR 1 Y) (cV (bR 2 Y) (cV (bR 3 Y) (cV (bR 4 Y) kQ)))))) (aF (bN (PW.pt (w_or (iE (eI (aO F.Ln (Lu F) Z (aq (ae 2))))) (j8 (iE (eI (aO F.Mu (Mx F) Z (aq (ae 3)))))))) (az (aR fH)) bS) (aF (bN (aY (bW Z) (ae 1) bq (ba _)) (az (aR (aO F.Lm (Ls F) Z (aq (ae 4))))) bS) (az (aR (fG (dC (bW Z) (ae 1) bq (ba _)) (dR (aO F.LK (LO F) Z (aq (ae 4)))))))))))
def K8 (F:bp K mg):lK P w K mg base "need_page" (top 49) cF 7 qP:=λ{_ _} G =>
 nh G cF (by kernel_rfl) λY _ _ _ _ _ _ Z L=>(az (bN (iE (eI (aO F.LL (LP F) Z (aq (ae 0))))) (az (oq L F.W7 (aq bq))) bS))
def Vg (F:bp K mg):bQ P w K mg base "are_laid" (top 41) cF 7 zN:=λ{_ _} G =>
 bT G cF (by kernel_rfl) λY _ _ _ _ _ _ Z=>(az (aR (fG (dM rH rfl F.eU n9 (bt (ae 0) (se jf rfl F.jd))) (fG (dC Bz (dM jF rfl F.jA jG (aq (ae 0))) (fR F.DY rfl) (ba _)) (fG (dM (uN rfl) rfl F.uB uO (aq (eR ["page"] (f6 (ae 0)) (λ_ _ _ _ _ _=>#[fg,(aO F.LL (LP F) Z (aq (ae 0)))])))) (dR (aO F.K1 (K6 F) Z (aq (ae 0)))))))))
def zG (F:bp K mg):bQ P w K mg base "days_seen" (top 46) F8 1 mW:=λ{_ _} G =>
 bT G F8 (by kernel_rfl) λY _ _ _ _ _ _ Z=>(az (aR (eR ["page","mould","mark","half"] (f6 (ae 0)) (λ_ _ _ _ _ _=>#[(mr (PW.pt (w_and (aY (bW Z) (aS (ae 0) aw) bq (ba _)) (w_and (aY (bW Z) (aS (ae 0) aw) (ae 1) (ba _)) (jy (aY (fc Z) (ae 2) (aS (aS (ae 0) aw) (ae 3)) rfl)))))),(aS (ae 0) aw)]))))
def CC (F:bp K mg):bQ P w K mg base "days_mended" (top 47) xQ 1 tm:=λ{_ _} G =>
 bT G xQ (by kernel_rfl) λY _ _ _ _ _ _ Z=>(az (aR (eR ["page","mould","mark"] (f6 (ae 0)) (λ_ _ _ _ _ _=>#[(mr (PW.pt (w_and (aY (bW Z) (aS (ae 0) aw) bq (ba _)) (w_and (aY (bW Z) (aS (ae 0) aw) (ae 1) (ba _)) (jy (aY (bW Z) (aS (ae 0) aw) (ae 2) (ba _))))))),(aS (ae 0) aw)]))))
def TC (F:bp K mg):bQ P w K mg base "is_any_behind" (top 45) F9 1 zu:=λ{_ _} G =>
 bT G F9 (by kernel_rfl) λY _ _ _ _ _ _ Z=>(az (aR (dM (Qw rfl) rfl F.PN QC (aq (eR ["other","day","later"] (f6 (ae 0)) (λ_ _ _ _ _ _=>#[fg,(N6 (vj Z) Bz (ae 1) (ae 0) (ae 2))]))))))
def V3 (F:bp K mg):bQ P w K mg base "clashes" (top 44) xQ 2 wz:=λ{_ _} G=>by
 have Y:(["day","later","lacked","mended"]:List Str).Nodup:=nofun
 exact bT G ["pages","mould","mark","lacked","mended"] (by kernel_rfl) λX _ _ _ _ _ _ Z=>(aF (bF 3 X (aO F.zF (zG F) Z (bC (ae 0) (bC (ae 1) (bC (ae 2) (bC (fR F.tY rfl) cH)))))) (aF (bF 4 X (aO F.CB (CC F) Z (fF (ae 0) (ae 1) (ae 2)))) (az (aR (Od (N:=["day","later","lacked","mended"]) (nt:=2) (cap:=[3,4]) rfl (FH (by kernel_rfl)) (ug 0) (wN 0) (ug 1) (wN 1) (f6 (VM (aO F.zF (zG F) Z (bC (ae 0) (bC (ae 1) (bC (ae 2) (bC (fR F.uC rfl) cH))))) rfl rfl F.Dx DN rfl F.acA adZ)) (λcl C s H ex W=>#[(iT (i:=0) Y rfl (ſ rfl)),fg,(abU rfl F.eD (bt (ae 0) (fR F.ra rfl))),(iT (i:=1) Y rfl (ſ rfl)),(mr (PW.pt (w_and (PW.pt (w_or (aY (fc Z) (ae 1) (ae 2) rfl) (j8 (PW.pt (w_and (aY (bW Z) (ae 1) (ae 0) (ba _)) (jy (aY (fc Z) (ae 0) (ae 3) rfl))))))) (jy (iE (eI (aO F.TB (TC F) Z (fF (ae 3) (ae 0) (ae 1))))))))),(dO (bt (ae 0) (ae 1)))]))))))
def UP (F:bp K mg):bQ P w K mg base "faults_of" (top 43) Ga 3 zI:=λ{_ _} G=>by
 have Z:(["mould","mark","day","later","pages"]:List Str).Nodup:=nofun
 exact bT G Ga (by kernel_rfl) λX _ _ _ _ _ _ Y=>(az (aR (Z8 (N:=["mould","mark","day","later","pages"]) (nt:=4) (cap:=[0]) rfl (FH (by kernel_rfl)) (ug 0) (wN 0) (ug 1) (wN 1) (AH (oi 2 (oi 3 Aq))) (AD [2,3]) (fu rfl F.eD (aq (fR F.wA rfl))) (λcl C s H ex W=>#[(iT (i:=0) Z rfl (ſ rfl)),fg,(fu rfl F.eD (aq (fR F.qW rfl))),(iT (i:=1) Z rfl (ſ rfl)),fg,(f6 (aO F.V0 (V3 F) Y (fF (ae 4) (ae 0) (ae 1)))),(wY rfl (mZ (iT (i:=2) Z rfl (ſ rfl)) (mZ (iT (i:=3) Z rfl (ſ rfl)) wL))),fg,(dO (bC (ae 0) (bC (ae 1) (bC (ae 2) (bC (ae 3) cH)))))]))))
def LQ (F:bp K mg):bQ P w K mg base "is_book" (top 42) cF 8 tL:=λ{_ _} G =>
 bT G cF (by kernel_rfl) λY _ _ _ _ _ _ Z=>(az (aR (fG (aO F.Vb (Vg F) Z (aq (ae 0))) (dR (TK.aca (aO F.UK (UP F) Z (aq (ae 0))))))))
def KN (F:bp K mg):kH P w K mg base "Diary" "keep" "Diary.keep" (fL (top 52) 5) Gb 9 zD:=λ{_ _} G =>
 pS G Gb (by kernel_rfl) λY _ _ _ _ _ _ Z L=>(aF (bN (iE (eI (aO F.LM (LQ F) Z (aq (ae 1))))) (az (oq L F.Nn (aq bq))) bS) (az (eV (j9 (p6 F.wa (ae 0)) (ae 1)))))
def pG (F:bp K mg):kH P w K mg base "Diary" "book_now" "Diary.book_now" (fL (top 52) 4) kX 1 ia:=λ{_ _} G =>
 pS G kX (by kernel_rfl) λZ _ _ _ _ _ _ Y L=>(az (aR (aS (p6 F.wa (ae 0)) (ve uM aw))))
def CH (F:bp K mg):kH P w K mg base "Diary" "tell" "Diary.tell" (fL (top 52) 1) xR 10 lR:=λ{_ _} G =>
 pS G xR (by kernel_rfl) λY _ _ _ _ _ _ Z L=>(aF (eV (kf F.K3 (K8 F) (dY L) Z (aq (ae 1)))) (az (eV (nv F.KI (KN F) (dY L) Z (ae 0) (aq (dQ lU rfl F.jd jf (aq (dM (TK.YH Z) rfl F.Dx DN (aq (bL dD (uz F.pF (pG F) (dY L) Z (ae 0)) (dO (aq (ae 1)))))))))))))
def Kz (F:bp K mg):bQ P w K mg base "are_figures" (top 73) ki 1 zA:=λ{_ _} G =>
 bT G ki (by kernel_rfl) λZ _ _ _ _ _ _ Y=>(az (aR (fG (N6 Bz Bz aw (dM jF rfl F.jA jG (aq (ae 0))) (fR F.C9 rfl)) (dR (dM (uN rfl) rfl F.uB uO (aq (eR ["sign"] (QT (ae 0)) (λ_ _ _ _ _ _=>#[fg,(dC aep (ae 0) (yo F.Dc rfl) rfl)]))))))))
def Kr (F:bp K mg):bQ P w K mg base "is_sheet_word" (top 72) ki 2 zv:=λ{_ _} G =>
 bT G ["word","halves"] (by kernel_rfl) λY _ _ _ _ _ _ Z=>(aF (bF 1 Y (Av (ae 0) bq)) (az (aR (fG (dC (bW Z) (dM jF rfl F.jA jG (aq (ae 1))) aw (ba _)) (dR (dM (uN rfl) rfl F.uB uO (aq (eR ["half"] (f6 (ae 1)) (λ_ _ _ _ _ _=>#[fg,(qb (dC (bW Z) (ae 0) (yo F.tI rfl) (ba _)) (dR (aO F.Kw (Kz F) Z (aq (ae 0)))))])))))))))
def zr (F:bp K mg):bQ P w K mg base "is_number_word" (top 71) ki 2 tj:=λ{_ _} G =>
 bT G ki (by kernel_rfl) λY _ _ _ _ _ _ Z=>(az (aR (fG (aO F.Kw (Kz F) Z (aq (ae 0))) (dR (qb (dC (jI Z) (aS (ae 0) aw) bq (ba _)) (dR (dC (bW Z) (ae 0) bq (ba _))))))))
def Km (F:bp K mg):bQ P w K mg base "are_page_words" (top 70) uU 3 zt:=λ{_ _} G =>
 bT G ["words","word","mould","day","what"] (by kernel_rfl) λY _ _ _ _ _ _ Z=>(aF (bN (aY (jI Z) (dM jF rfl F.jA jG (aq (ae 0))) aw (ba _)) (az (aR fH)) bS) (aF (mq (ae 0) (FZ rfl (cV (bR 1 Y) (cV (bR 2 Y) (cV (bR 3 Y) (cV (bR 4 Y) kQ)))))) (aF (bN (PW.pt (w_or (iE (eI (aO F.zq (zr F) Z (aq (ae 2))))) (j8 (iE (eI (aO F.zq (zr F) Z (aq (ae 3)))))))) (az (aR fH)) bS) (aF (bN (aY (bW Z) (ae 1) bq (ba _)) (az (aR (aO F.Kq (Kr F) Z (aq (ae 4))))) bS) (az (aR (fG (dC (bW Z) (ae 1) bq (ba _)) (dR (aO F.zq (zr F) Z (aq (ae 4)))))))))))
def Xf (F:bp K mg):bQ P w K mg base "is_row" (top 80) uU 4 z3:=λ{_ _} G =>
 bT G ["words","head","rest"] (by kernel_rfl) λY _ _ _ _ _ _ Z=>(aF (AJ 1 2 rfl Y (bt (aS (ae 0) aw) (G7 (ae 0) (FN aw) G6))) (aF (bN (aY (bW Z) (ae 1) bq (ba _)) (az (aR (aO F.Kl (Km F) Z (aq (ae 2))))) bS) (aF (bN (aY (bW Z) (ae 1) bq (ba _)) (az (aR (fG (dC (bW Z) (dM jF rfl F.jA jG (aq (ae 2))) aw (ba _)) (dR (dM (uN rfl) rfl F.uB uO (aq (eR ["word"] (f6 (ae 2)) (λ_ _ _ _ _ _=>#[fg,(aO F.zq (zr F) Z (aq (ae 0)))])))))))) bS) (aF (bN (aY (bW Z) (ae 1) bq (ba _)) (az (aR (fG (dC (bW Z) (dM jF rfl F.jA jG (aq (ae 2))) aw (ba _)) (dR (aO F.Kq (Kr F) Z (aq (aS (ae 2) aw))))))) bS) (aF (bN (PW.pt (w_or (aY (bW Z) (ae 1) bq (ba _)) (j8 (aY (bW Z) (ae 1) bq (ba _))))) (az (aR (dC (bW Z) (ae 2) (dZ cH) (ba _)))) bS) (az (aR (aO F.Kl (Km F) Z (aq (ae 0))))))))))
def Vh (F:bp K mg):lK P w K mg base "words_of" (top 79) Ge 5 og:=λ{_ _} G =>
 nh G Ge (by kernel_rfl) λY _ _ _ _ _ _ Z L=>(aF (bN (PW.pt (w_or (iE (eI (dM rH rfl F.eU n9 (bt (ae 0) (se rK rfl F.rk))))) (j8 (iE (eI (aO F.Xb (Xf F) Z (aq (Av (ae 0) bq)))))))) (az (oq L F.YU (aq bq))) bS) (az (aR (Av (ae 0) bq))))
def Lw (F:bp K mg):bQ P w K mg base "marks_of" (top 76) ki 1 zO:=λ{_ _} G =>
 bT G ki (by kernel_rfl) λY _ _ _ _ _ _ Z=>(aF (bN (aY (bW Z) (ae 0) (yo F.tI rfl) (ba _)) (az (aR (dO cH))) bS) (az (aR (dQ lU rfl F.jd jf (aq (eR ["figure"] (QT (ae 0)) (λ_ _ _ _ _ _=>#[fg,(dQ uA rfl F.j7 ke (aq (ae 0)))])))))))
def Lx (F:bp K mg):bQ P w K mg base "sheet_of" (top 75) ki 2 wu:=λ{_ _} G =>
 bT G ["word","has","lacks"] (by kernel_rfl) λZ _ _ _ _ _ _ Y=>(aF (mq (Av (ae 0) bq) (FZ rfl (cV (bR 1 Z) (cV (bR 2 Z) kQ)))) (az (aR (dO (bt (aO F.Lo (Lw F) Y (aq (ae 1))) (aO F.Lo (Lw F) Y (aq (ae 2))))))))
def LR (F:bp K mg):bQ P w K mg base "page_of" (top 74) uU 3 tM:=λ{_ _} G =>
 bT G ["words","word","mould","day","what","last"] (by kernel_rfl) λZ _ _ _ _ _ _ Y=>(aF (mq (ae 0) (FZ rfl (cV (bR 1 Z) (cV (bR 2 Z) (cV (bR 3 Z) (cV (bR 4 Z) kQ)))))) (aF (bF 5 Z (rY (aY (bW Y) (ae 1) bq (ba _)) (aO F.Lp (Lx F) Y (aq (ae 4))) (dQ uA rfl F.j7 ke (aq (ae 4))))) (az (aR (dO (bC (ae 1) (bC (dQ uA rfl F.j7 ke (aq (ae 2))) (bC (dQ uA rfl F.j7 ke (aq (ae 3))) (bC (ae 5) cH)))))))))
def KO (F:bp K mg):bQ P w K mg base "marks_text" (top 67) Gf 1 zE:=λ{_ _} G =>
 bT G Gf (by kernel_rfl) λZ _ _ _ _ _ _ Y=>(az (aR (F1 (AU bq (eR ["mark"] (f6 (ae 0)) (λ_ _ _ _ _ _=>#[fg,(dQ uT rfl F.rk rK (aq (ae 0)))]))) (dR (yo F.tI rfl)))))
def KP (F:bp K mg):bQ P w K mg base "sheet_text" (top 68) QW 2 we:=λ{_ _} G =>
 bT G ["sheet","has","lacks"] (by kernel_rfl) λZ _ _ _ _ _ _ Y=>(aF (mq (ae 0) (oG rfl (cV (bR 1 Z) (cV (bR 2 Z) kQ)))) (az (aR (bL dD (bL dD (aO F.KJ (KO F) Y (aq (ae 1))) bq) (aO F.KJ (KO F) Y (aq (ae 2)))))))
def Ua (F:bp K mg):bQ P w K mg base "places_text" (top 82) Gg 1 CD:=λ{_ _} G=>by
 have Z:(["mould","first","last"]:List Str).Nodup:=nofun
 exact bT G Gg (by kernel_rfl) λY _ _ _ _ _ _ X=>(az (aR (F1 (AU bq (EA (N:=["mould","first","last"]) (nt:=3) (cap:=[]) rfl (FR (by kernel_rfl)) (AH (oi 0 (oi 1 (oi 2 Aq)))) (f6 (ae 0)) (λcl C s H ex W=>#[(wY rfl (mZ (iT (i:=0) Z rfl (ſ rfl)) (mZ (iT (i:=1) Z rfl (ſ rfl)) (mZ (iT (i:=2) Z rfl (ſ rfl)) wL)))),fg,(PJ (hX.cons (rN (ae 0)) (hX.cons bq (hX.cons (rN (ae 1)) (hX.cons bq (hX.cons (rN (ae 2)) hX.nil))))))]))) (dR bq))))
def CQ (F:bp K mg):lK P w K mg base "need_book" (top 50) cF 9 tB:=λ{_ _} G =>
 nh G cF (by kernel_rfl) λY _ _ _ _ _ _ Z L=>(az (bN (iE (eI (aO F.LM (LQ F) Z (aq (ae 0))))) (az (oq L F.W8 (aq bq))) bS))
def UQ (F:bp K mg):bQ P w K mg base "page_text" (top 69) QX 3 C3:=λ{_ _} G =>
 bT G ["page","word","mould","day","what","last"] (by kernel_rfl) λZ _ _ _ _ _ _ Y=>(aF (mq (ae 0) (oG rfl (cV (bR 1 Z) (cV (bR 2 Z) (cV (bR 3 Z) (cV (bR 4 Z) kQ)))))) (aF (bF 5 Z (rY (aY (bW Y) (ae 1) bq (ba _)) (aO F.KL (KP F) Y (aq (ae 4))) (dQ uT rfl F.rk rK (aq (ae 4))))) (az (aR (PJ (hX.cons (rN (ae 1)) (hX.cons bq (hX.cons (rN (ae 2)) (hX.cons bq (hX.cons (rN (ae 3)) (hX.cons bq (hX.cons (rN (ae 5)) hX.nil))))))))))))
def K9 (F:bp K mg):lK P w K mg base "book_text" (top 66) Gh 10 tD:=λ{_ _} G =>
 nh G Gh (by kernel_rfl) λY _ _ _ _ _ _ Z L=>(aF (eV (kf F.CO (CQ F) (dY L) Z (aq (ae 0)))) (az (aR (AU bq (eR ["page"] (f6 (ae 0)) (λ_ _ _ _ _ _=>#[fg,(bL dD (aO F.UL (UQ F) Z (aq (ae 0))) bq)]))))))
def Us (F:bp K mg):lK P w K mg base "need_mould" (top 31) cF 4 CL:=λ{_ _} G =>
 nh G cF (by kernel_rfl) λY _ _ _ _ _ _ Z L=>(az (bN (iE (eI (aO F.Ln (Lu F) Z (aq (ae 0))))) (az (oq L F.VY (aq bq))) bS))
def Vi (F:bp K mg):lK P w K mg base "need_day" (top 32) cF 4 C8:=λ{_ _} G =>
 nh G cF (by kernel_rfl) λY _ _ _ _ _ _ Z L=>(az (bN (iE (eI (aO F.Mu (Mx F) Z (aq (ae 0))))) (az (oq L F.YT (aq bq))) bS))
def TL (F:bp K mg):bQ P w K mg base "days_present" (top 58) Bj 2 zw:=λ{_ _} G =>
 bT G ["book","mould","mark","shown","mended","present","stays","day"] (by kernel_rfl) λZ _ _ _ _ _ _ Y=>(aF (bF 3 Z (aO F.zF (zG F) Y (bC (ae 0) (bC (ae 1) (bC (ae 2) (bC (fR F.uC rfl) cH)))))) (aF (bF 4 Z (aO F.CB (CC F) Y (fF (ae 0) (ae 1) (ae 2)))) (aF (bF 5 Z (mi cH)) (aF (bF 6 Z fH) (aF (iF ą rfl (fu rfl F.eD (aq (fR F.ra rfl))) (bR 7 Z) (aF (bF 6 Z (qb (dC (fc Y) (ae 7) (ae 3) rfl) (dR (fG (ae 6) (dR (dC (pL Y) (ae 7) (ae 4) rfl)))))) (az (bN (eI (ae 6)) (az (eV (j9 (ae 5) (ae 7)))) bS)))) (az (aR (Bb (ae 5)))))))))
def Ub (F:bp K mg):bQ P w K mg base "days_absent" (top 59) Bj 2 zy:=λ{_ _} G =>
 bT G ["book","mould","mark","lacked","mended","absent","barred","day"] (by kernel_rfl) λZ _ _ _ _ _ _ Y=>(aF (bF 3 Z (aO F.zF (zG F) Y (bC (ae 0) (bC (ae 1) (bC (ae 2) (bC (fR F.tY rfl) cH)))))) (aF (bF 4 Z (aO F.CB (CC F) Y (fF (ae 0) (ae 1) (ae 2)))) (aF (bF 5 Z (mi cH)) (aF (bF 6 Z fH) (aF (iF ą rfl (ad1 rfl F.U5 rfl F.eD (aq (fR F.ra rfl))) (bR 7 Z) (aF (bN (PW.pt (w_or (eI (ae 6)) (w_or (aY (fc Y) (ae 7) (ae 3) rfl) (j8 (aY (fc Y) (ae 7) (ae 4) rfl))))) (az (eV (j9 (ae 5) (ae 7)))) bS) (az (bF 6 Z (fG (qb (ae 6) (dR (dC (fc Y) (ae 7) (ae 3) rfl))) (dR (dC (pL Y) (ae 7) (ae 4) rfl))))))) (az (aR (Bb (ae 5)))))))))
def Ly (F:bp K mg):bQ P w K mg base "marks_on" (top 57) Gi 1 wt:=λ{_ _} G =>
 bT G Gi (by kernel_rfl) λY _ _ _ _ _ _ Z=>(az (aR (dQ lU rfl F.jd jf (aq (eR ["mark","day","days_by_mark"] (fu rfl F.eD (aq (fR F.qW rfl))) (λ_ _ _ _ _ _=>#[(mr (aY (fc Z) (ae 1) (aS (ae 2) (ae 0)) rfl)),(ae 0)]))))))
def KC (F:bp K mg):bQ P w K mg base "sure_sheets" (top 56) QY 3 tu:=λ{_ _} G =>
 bT G ["book","mould","present","absent"] (by kernel_rfl) λY _ _ _ _ _ _ Z=>(aF (bF 2 Y (eR ["mark","book","mould"] (fu rfl F.eD (aq (fR F.qW rfl))) (λ_ _ _ _ _ _=>#[fg,(aO F.TH (TL F) Z (fF (ae 1) (ae 2) (ae 0)))]))) (aF (bF 3 Y (eR ["mark","book","mould"] (fu rfl F.eD (aq (fR F.qW rfl))) (λ_ _ _ _ _ _=>#[fg,(aO F.TZ (Ub F) Z (fF (ae 1) (ae 2) (ae 0)))]))) (az (aR (eR ["day","present","absent"] (fu rfl F.eD (aq (fR F.ra rfl))) (λ_ _ _ _ _ _=>#[fg,(dO (bt (aO F.Lq (Ly F) Z (bt (ae 1) (ae 0))) (aO F.Lq (Ly F) Z (bt (ae 2) (ae 0)))))]))))))
def My (F:bp K mg):lK P w K mg base "surely" (top 54) Gj 10 tX:=λ{_ _} G =>
 nh G Gj (by kernel_rfl) λY _ _ _ _ _ _ Z L=>(aF (eV (kf F.CO (CQ F) (dY L) Z (aq (ae 0)))) (aF (eV (kf F.Uq (Us F) (dY L) Z (aq (ae 1)))) (aF (eV (kf F.Vd (Vi F) (dY L) Z (aq (ae 2)))) (az (aR (aS (aO F.Kx (KC F) Z (bt (ae 0) (ae 1))) (ae 2)))))))
def Ut (F:bp K mg):lK P w K mg base "need_sheet" (top 48) cF 6 wg:=λ{_ _} G =>
 nh G cF (by kernel_rfl) λY _ _ _ _ _ _ Z L=>(az (bN (iE (eI (aO F.Lm (Ls F) Z (aq (ae 0))))) (az (oq L F.VZ (aq bq))) bS))
def UR (F:bp K mg):bQ P w K mg base "stretches" (top 61) QZ 1 wo:=λ{_ _} G =>
 bT G ["holds","told","at"] (by kernel_rfl) λZ _ _ _ _ _ _ Y=>(aF (bF 1 Z (mi cH)) (aF (iF ą rfl (fu rfl F.eD (aq (dM jF rfl F.jA jG (aq (ae 0))))) (bR 2 Z) (az (bN (PW.pt (w_and (eI (aS (ae 0) (ae 2))) (w_and (aY RJ (ae 2) aw (ba _)) (jy (eI (aS (ae 0) (bL FK (ae 2) aw))))))) (az (FO (dO (bt (aS (aS (ae 1) (ve uM aw)) aw) (ae 2))) (ae 1) (ve uM aw))) (az (bN (eI (aS (ae 0) (ae 2))) (az (eV (j9 (ae 1) (dO (bt (ae 2) (ae 2)))))) bS))))) (az (aR (Bb (ae 1))))))
def Y0 (F:bp K mg):bQ P w K mg base "agree" (top 60) Gk 2 wR:=λ{_ _} G =>
 bT G Gk (by kernel_rfl) λY _ _ _ _ _ _ Z=>(az (aR (fG (aO F.CN (CP F) Z (bt (aS (ae 0) (fR F.uC rfl)) (aS (ae 1) (fR F.tY rfl)))) (dR (aO F.CN (CP F) Z (bt (aS (ae 0) (fR F.tY rfl)) (aS (ae 1) (fR F.uC rfl))))))))
def La (F:bp K mg):lK P w K mg base "places_of" (top 55) Gn 10 pI:=λ{_ _} G=>by
 have Y:(["mould","first","last","sheet","book"]:List Str).Nodup:=nofun
 exact nh G Gn (by kernel_rfl) λX _ _ _ _ _ _ Z L=>(aF (eV (kf F.CO (CQ F) (dY L) Z (aq (ae 0)))) (aF (eV (kf F.Ur (Ut F) (dY L) Z (aq (ae 1)))) (az (aR (Od (N:=["mould","first","last","sheet","book"]) (nt:=3) (cap:=[1,0]) rfl (FH (by kernel_rfl)) (ug 0) (wN 0) (AH (oi 1 (oi 2 Aq))) (AD [1,2]) (fu rfl F.eD (aq (fR F.wA rfl))) (λcl C s H ex W=>#[(iT (i:=0) Y rfl (ſ rfl)),fg,(f6 (aO F.UM (UR F) Z (aq (eR ["sure","sheet"] (f6 (aO F.Kx (KC F) Z (bt (ae 4) (ae 0)))) (λ_ _ _ _ _ _=>#[fg,(aO F.YW (Y0 F) Z (bt (ae 1) (ae 0)))]))))),(wY rfl (mZ (iT (i:=1) Y rfl (ſ rfl)) (mZ (iT (i:=2) Y rfl (ſ rfl)) wL))),fg,(dO (fF (ae 0) (ae 1) (ae 2)))]))))))
def Xg (F:bp K mg):lK P w K mg base "answer" (top 81) Gp 11 qV:=λ{_ _} G =>
 nh G Gp (by kernel_rfl) λY _ _ _ _ _ _ Z L=>(aF (bN (aY (bW Z) (aS (ae 1) aw) bq (ba _)) (az (aR (aO F.KL (KP F) Z (aq (kf F.Mv (My F) (dY L) Z (fF (ae 0) (dQ uA rfl F.j7 ke (aq (aS (ae 1) aw))) (dQ uA rfl F.j7 ke (aq (aS (ae 1) aw))))))))) bS) (aF (bN (aY (bW Z) (aS (ae 1) aw) bq (ba _)) (az (aR (aO F.TY (Ua F) Z (aq (kf F.K5 (La F) (dY L) Z (bt (ae 0) (aO F.Lp (Lx F) Z (aq (aS (ae 1) aw))))))))) bS) (az (aR (F1 (kf F.K4 (K9 F) (dY L) Z (aq (ae 0))) (dR (yo F.tI rfl)))))))
def CI (F:bp K mg):kH P w K mg base "Diary" "undo" "Diary.undo" (fL (top 52) 3) kX 1 lS:=λ{_ _} G =>
 pS G kX (by kernel_rfl) λY _ _ _ _ _ _ Z L=>(aF (bN (aY (bW Z) (dM jF rfl F.jA jG (aq (p6 F.wa (ae 0)))) aw (ba _)) (az (oq L F.W9 (aq bq))) bS) (az (eV (acp (p6 F.wa (ae 0))))))
def Ku (F:bp K mg):kH P w K mg base "Diary" "strike" "Diary.strike" (fL (top 52) 2) xR 10 n6:=λ{_ _} G =>
 pS G ["self","page","book"] (by kernel_rfl) λY _ _ _ _ _ _ Z L=>(aF (eV (kf F.K3 (K8 F) (dY L) Z (aq (ae 1)))) (aF (bF 2 Y (uz F.pF (pG F) (dY L) Z (ae 0))) (aF (bN (aY (pL Z) (ae 1) (ae 2) rfl) (az (oq L F.Nn (aq bq))) bS) (az (eV (nv F.KI (KN F) (dY L) Z (ae 0) (aq (dQ lU rfl F.jd jf (aq (eR ["other","page"] (f6 (ae 2)) (λ_ _ _ _ _ _=>#[(mr (aY (jI Z) (ae 0) (ae 1) (ba _))),(ae 0)])))))))))))
def zK (F:bp K mg):kH P w K mg base "Desk" "say" "Desk.say" (fL (top 78) 1) Q0 12 jc:=λ{_ _} G =>
 pS G ["self","row","words"] (by kernel_rfl) λY _ _ _ _ _ _ Z L=>(aF (bF 2 Y (kf F.Vc (Vh F) (dY L) Z (aq (ae 1)))) (aF (bN (aY (bW Z) (aS (ae 2) aw) bq (ba _)) (az (eV (uz F.CG (CI F) (dY L) Z (p6 F.wc (ae 0))))) (az (bN (aY (bW Z) (aS (ae 2) aw) bq (ba _)) (az (eV (nv F.Kt (Ku F) (dY L) Z (p6 F.wc (ae 0)) (aq (aO F.LN (LR F) Z (aq (G7 (ae 2) (FN aw) G6))))))) (az (bN (PW.pt (w_or (aY (bW Z) (aS (ae 2) aw) bq (ba _)) (j8 (aY (bW Z) (aS (ae 2) aw) bq (ba _))))) (az (eV (nv F.CF (CH F) (dY L) Z (p6 F.wc (ae 0)) (aq (aO F.LN (LR F) Z (aq (ae 2))))))) (az (aR (kf F.Xc (Xg F) (dY L) Z (bt (uz F.pF (pG F) (dY L) Z (p6 F.wc (ae 0))) (ae 2)))))))))) (az (aR bq))))
def EI (F:bp K mg):Cg P w K mg "_law_met" (top 96) xS 14 13 iV:=λ{_ _ _ _ _ _} T {_ _} G =>
 QM G ["_law_call","_law_e","_law_some"] (by kernel_rfl) λZ _ _ _ _ _ _ X Y=>(az (aco T X (Y.mono (by decide)) F.Uo (λ_=>(aF (bF 2 Z (aei F.Va (Vf F) (Y.h.held _) (aq (ae 1)))) (aF (bN (PW.pt (w_or (iE (eI (acm F.Um (ae 1) F.eU F.Ul))) (j8 (aY aej (ack (ae 2)) aw (ba _))))) (az (aR (dO (bt bq rF)))) bS) (aF (bN (eI (aS (ae 2) aw)) (az (aR (dO (bt bq RQ)))) bS) (aF (bN (eI (aS (ae 2) aw)) (az (aR (dO (bt bq RQ)))) bS) (az (aR (dO (bt bq (aef (ae 2))))))))))) Z))
def t5 (F:bp K mg):Cg P w K mg "_law_done" (top 101) xS 15 13 iU:=λ{_ _ _ _ _ _} T {_ _} G =>
 QM G xS (by kernel_rfl) λX _ _ _ _ _ _ Y Z=>(az (aR (dC (fc Z) (afV T Y F.EH (EI F) Z) (dZ (bt (dO (bt bq rF)) (dO (bt bq bq)))) rfl)))
def V4 (F:bp K mg) {c T:þ} (ht:Ű K  ahB=ϊ (c,T)) (hC:PySem.W.codeHdIn K c T=ό) (hB:base.BuiltinsAt mg T):bQ P w K mg base  ahB (top 102) Q2 16 Dw:=λ{_ _} G=>by
 exact QR G (ael F.lx G) ht [ahC,ahN,ahJ,ahK,"_law_done_here",ahD,ahH,ahP,"_law_lap","_law_told"] (by kernel_rfl) λY _ _ _ _ _ Z=>(aF (AJ 4 5 rfl Y (bt aw (aO F.UI (UN F) Z (bt (ae 0) (ae 1))))) (aF (iF ą rfl (f6 (ae 5)) (bR 6 Y) (aF (mq (dO (bt (aO F.YV (YZ F) Z (aq (ae 6))) (aO F.jw (jx F) Z (bt (ae 0) aw)))) (oG rfl (cV (bR 7 Y) (cV (bR 8 Y) kQ)))) (aF (bF 9 Y (mi (aq (pU 0 [ahH,ahJ] rfl rfl ht hC hB F.tZ (t5 F) tN Z (λ_ _ _ _ _ _ _ _ _ _ Z L=>(nv F.CF (CH F) (dY L) Z (ae 1) (aq (ae 0)))))))) (aF (eV (j9 (ae 9) (pU 0 [ahP,ahK] rfl rfl ht hC hB F.tZ (t5 F) tN Z (λ_ _ _ _ _ _ _ _ _ _ Z L=>(nv F.zJ (zK F) (dY L) Z (ae 1) (aq (ae 0))))))) (aF (bF 4 Y (bL dD (ae 4) aw)) (aF (bN (aY (bW Z) (ae 8) aw (ba _)) (aF (eV (j9 (ae 9) (pU 0 [ahH,ahJ] rfl rfl ht hC hB F.tZ (t5 F) tN Z (λ_ _ _ _ _ _ _ _ _ _ Z L=>(nv F.Kt (Ku F) (dY L) Z (ae 1) (aq (ae 0))))))) (aF (eV (j9 (ae 9) (pU 0 [ahH,ahJ] rfl rfl ht hC hB F.tZ (t5 F) tN Z (λ_ _ _ _ _ _ _ _ _ _ Z L=>(nv F.CF (CH F) (dY L) Z (ae 1) (aq (ae 0))))))) (aF (eV (j9 (ae 9) (pU 0 [ahK,ahP] rfl rfl ht hC hB F.tZ (t5 F) tN Z (λ_ _ _ _ _ _ _ _ _ _ Z L=>(nv F.zJ (zK F) (dY L) Z (ae 0) (aq (bL dD bq (ae 1)))))))) (aF (eV (j9 (ae 9) (pU 0 [ahP,ahK] rfl rfl ht hC hB F.tZ (t5 F) tN Z (λ_ _ _ _ _ _ _ _ _ _ Z L=>(nv F.zJ (zK F) (dY L) Z (ae 1) (aq (ae 0))))))) (az (bF 4 Y (bL dD (ae 4) aw))))))) bS) (az (bN (aY (fc Z) fH (ae 9) rfl) (az (aR (ve uM aw))) bS)))))))) (az (aR (ae 4)))))
def Mz (F:bp K mg):bQ P w K mg base "_law_sheet" (top 87) Q3 2 wG:=λ{_ _} G =>
 bT G [ahC,ahL,"_law_parts","_law_has"] (by kernel_rfl) λY _ _ _ _ _ _ Z=>(aF (bF 1 Y (aS (dZ (fF aw aw aw)) (aO F.jw (jx F) Z (bt (ae 0) aw)))) (aF (bF 2 Y (eR [ahE,ahC] (fu rfl F.eD (aq (ae 1))) (λ_ _ _ _ _ _=>#[fg,(aO F.jw (jx F) Z (bt (ae 1) aw))]))) (aF (bF 3 Y (dQ lU rfl F.jd jf (aq (eR [ahE,"_law_parts"] (fu rfl F.eD (aq (ae 1))) (λ_ _ _ _ _ _=>#[(mr (aY (bW Z) (aS (ae 1) (ae 0)) aw (ba _))),(ae 0)]))))) (az (aR (dO (bt (ae 3) (dQ lU rfl F.jd jf (aq (eR [ahE,"_law_parts"] (fu rfl F.eD (aq (ae 1))) (λ_ _ _ _ _ _=>#[(mr (aY (bW Z) (aS (ae 1) (ae 0)) aw (ba _))),(ae 0)])))))))))))
def Nq (F:bp K mg):bQ P w K mg base "_law_days" (top 92) Bl 1 Aw:=λ{_ _} G =>
 bT G [ahD,ahF,ahE,"_law_shown","_law_lacked","_law_mended",ahH,"_law_there","_law_away","_law_sure","_law_gone",ahI] (by kernel_rfl) λZ _ _ _ _ _ _ Y=>(aF (Fj 3 4 5 rfl Z (fF (dZ cH) (dZ cH) (mi cH))) (aF (iF ą rfl (f6 (ae 0)) (bR 6 Z) (aF (bN (PW.pt (w_and (aY (bW Y) (aS (ae 6) aw) bq (ba _)) (w_and (aY (bW Y) (aS (ae 6) aw) (ae 1) (ba _)) (jy (aY (bW Y) (aS (ae 6) aw) (ae 2) (ba _)))))) (az (eV (j9 (ae 5) (aS (ae 6) aw)))) bS) (az (bN (PW.pt (w_and (aY (bW Y) (aS (ae 6) aw) bq (ba _)) (jy (aY (bW Y) (aS (ae 6) aw) (ae 1) (ba _))))) (aF (bF 3 Z (bL dD (ae 3) (bL mw (dZ (aq (aS (ae 6) aw))) (dQ uR rfl F.j7 ke (aq (dC (fc Y) (ae 2) (aS (aS (ae 6) aw) aw) rfl)))))) (az (bF 4 Z (bL dD (ae 4) (bL mw (dZ (aq (aS (ae 6) aw))) (dQ uR rfl F.j7 ke (aq (dC (fc Y) (ae 2) (aS (aS (ae 6) aw) aw) rfl)))))))) bS)))) (aF (mq (dO (bC (dZ cH) (bC (dZ cH) (bC fH (bC fH cH))))) (oG rfl (cV (bR 7 Z) (cV (bR 8 Z) (cV (bR 9 Z) (cV (bR 10 Z) kQ)))))) (aF (iF ą rfl (fu rfl F.eD (aq aw)) (bR 11 Z) (aF (bF 9 Z (qb (dC (fc Y) (ae 11) (ae 3) rfl) (dR (fG (ae 9) (dR (dC (pL Y) (ae 11) (ae 5) rfl)))))) (az (bF 7 Z (bL dD (ae 7) (bL mw (dZ (aq (ae 11))) (dQ uR rfl F.j7 ke (aq (ae 9))))))))) (aF (iF ą rfl (ab7 rfl F.eD (fF aw (ve uM aw) (ve uM aw))) (bR 11 Z) (aF (bF 10 Z (qb (ae 10) (dR (dC (fc Y) (ae 11) (ae 4) rfl)))) (aF (bF 8 Z (bL dD (bL mw (dZ (aq (ae 11))) (dQ uR rfl F.j7 ke (aq (qb (ae 10) (dR (dC (fc Y) (ae 11) (ae 5) rfl)))))) (ae 8))) (az (bF 10 Z (fG (ae 10) (dR (dC (pL Y) (ae 11) (ae 5) rfl)))))))) (az (aR (dO (bt (ae 7) (ae 8))))))))))
def V5 (F:bp K mg):bQ P w K mg base "_law_surely" (top 93) Q4 2 zT:=λ{_ _} G =>
 bT G [ahD,ahF,ahI,"_law_here","_law_has"] (by kernel_rfl) λY _ _ _ _ _ _ Z=>(aF (bF 3 Y (eR [ahE,ahD,ahF] (fu rfl F.eD (aq aw)) (λ_ _ _ _ _ _=>#[fg,(aO F.Np (Nq F) Z (fF (ae 1) (ae 2) (ae 0)))]))) (aF (bF 4 Y (dQ lU rfl F.jd jf (aq (eR [ahE,ahI,"_law_here"] (fu rfl F.eD (aq aw)) (λ_ _ _ _ _ _=>#[(mr (aY (fc Z) (ae 1) (aS (aS (ae 2) (ae 0)) aw) rfl)),(ae 0)]))))) (az (aR (dO (bt (ae 4) (dQ lU rfl F.jd jf (aq (eR [ahE,ahI,"_law_here"] (fu rfl F.eD (aq aw)) (λ_ _ _ _ _ _=>#[(mr (aY (fc Z) (ae 1) (aS (aS (ae 2) (ae 0)) aw) rfl)),(ae 0)]))))))))))
def Xh (F:bp K mg):bQ P w K mg base "_law_where" (top 94) Q5 2 z9:=λ{_ _} G =>
 bT G [ahD,ahM,"_law_found",ahF,"_law_barred",ahE,"_law_there","_law_away","_law_first",ahI] (by kernel_rfl) λZ _ _ _ _ _ _ Y=>(aF (bF 2 Z (mi cH)) (aF (iF ą rfl (fu rfl F.eD (aq aw)) (bR 3 Z) (aF (bF 4 Z (dZ cH)) (aF (iF ą rfl (fu rfl F.eD (aq aw)) (bR 5 Z) (aF (mq (aO F.Np (Nq F) Y (fF (ae 0) (ae 3) (ae 5))) (oG rfl (cV (bR 6 Z) (cV (bR 7 Z) kQ)))) (az (bF 4 Z (bL dD (bL dD (ae 4) (rY (aY (fc Y) (ae 5) (aS (ae 1) aw) rfl) (ae 7) (dZ cH))) (rY (aY (fc Y) (ae 5) (aS (ae 1) aw) rfl) (ae 6) (dZ cH))))))) (aF (bF 8 Z rF) (az (iF ą rfl (fu rfl F.eD (aq aw)) (bR 9 Z) (az (bN (PW.pt (w_and (aY adX (ae 8) rF (ba _)) (w_and (aY (vj Y) (ae 9) aw (ba _)) (jy (aY (pL Y) (ae 9) (ae 4) rfl))))) (az (bF 8 Z (ae 9))) (az (bN (PW.pt (w_and (aY abY (ae 8) rF (ba _)) (jy (PW.pt (w_or (aY (bW Y) (ae 9) aw (ba _)) (j8 (aY (fc Y) (ae 9) (ae 4) rfl))))))) (aF (eV (j9 (ae 2) (dO (fF (ae 3) (ae 8) (bL FK (ae 9) aw))))) (az (bF 8 Z rF))) bS)))))))))) (az (aR (Bb (ae 2))))))
def Y1 (F:bp K mg):bQ P w K mg base "_law_page" (top 88) Q6 3 EF:=λ{_ _} G =>
 bT G [ahC,ahO,ahF,ahI] (by kernel_rfl) λY _ _ _ _ _ _ Z=>(aF (AJ 2 3 rfl Y (bt (aS (dZ (bt aw (aO F.jw (jx F) Z (bt (ae 0) aw)))) (aO F.jw (jx F) Z (bt (ae 0) aw))) (aO F.jw (jx F) Z (bt (ae 0) (ae 1))))) (aF (bN (aY (bW Z) (aO F.jw (jx F) Z (bt (ae 0) aw)) aw (ba _)) (az (aR (dO (bC bq (bC (ae 2) (bC (ae 3) (bC (aO F.jw (jx F) Z (bt (ae 0) (aS (dZ (fF aw aw aw)) (aO F.jw (jx F) Z (bt (ae 0) aw))))) cH))))))) bS) (az (aR (dO (bC bq (bC (ae 2) (bC (ae 3) (bC (aO F.Mw (Mz F) Z (aq (ae 0))) cH)))))))))
def TM (F:bp K mg):bQ P w K mg base  ahS (top 89) Bl 1 Cz:=λ{_ _} G =>
 bT G [ahD,ahF,ahE,"_law_shown","_law_lacked","_law_mended",ahH,"_law_sure",ahI] (by kernel_rfl) λY _ _ _ _ _ _ Z=>(aF (Fj 3 4 5 rfl Y (fF (dZ cH) (dZ cH) (mi cH))) (aF (iF ą rfl (f6 (ae 0)) (bR 6 Y) (aF (bN (PW.pt (w_and (aY (bW Z) (aS (ae 6) aw) bq (ba _)) (w_and (aY (bW Z) (aS (ae 6) aw) (ae 1) (ba _)) (jy (aY (bW Z) (aS (ae 6) aw) (ae 2) (ba _)))))) (az (eV (j9 (ae 5) (aS (ae 6) aw)))) bS) (az (bN (PW.pt (w_and (aY (bW Z) (aS (ae 6) aw) bq (ba _)) (jy (aY (bW Z) (aS (ae 6) aw) (ae 1) (ba _))))) (aF (bF 3 Y (bL dD (ae 3) (bL mw (dZ (aq (aS (ae 6) aw))) (dQ uR rfl F.j7 ke (aq (dC (fc Z) (ae 2) (aS (aS (ae 6) aw) aw) rfl)))))) (az (bF 4 Y (bL dD (ae 4) (bL mw (dZ (aq (aS (ae 6) aw))) (dQ uR rfl F.j7 ke (aq (dC (fc Z) (ae 2) (aS (aS (ae 6) aw) aw) rfl)))))))) bS)))) (aF (bF 7 Y fH) (aF (iF ą rfl (fu rfl F.eD (aq aw)) (bR 8 Y) (aF (bN (PW.pt (w_and (aY (fc Z) (ae 8) (ae 5) rfl) (jy (aY (fc Z) (ae 8) (ae 3) rfl)))) (az (aR fH)) bS) (aF (bF 7 Y (qb (dC (fc Z) (ae 8) (ae 3) rfl) (dR (fG (ae 7) (dR (dC (pL Z) (ae 8) (ae 5) rfl)))))) (az (bN (PW.pt (w_and (eI (ae 7)) (jy (aY (fc Z) (ae 8) (ae 4) rfl)))) (az (aR fH)) bS))))) (az (aR fH))))))
def Lz (F:bp K mg):bQ P w K mg base "_law_is_book" (top 90) Q7 2 wx:=λ{_ _} G =>
 bT G [ahD,ahF,ahE] (by kernel_rfl) λZ _ _ _ _ _ _ Y=>(aF (bN (aY RJ (dM jF rfl F.jA jG (aq (ae 0))) aw (ba _)) (az (aR fH)) bS) (aF (iF ą rfl (fu rfl F.eD (aq aw)) (bR 1 Z) (az (iF ą rfl (fu rfl F.eD (aq aw)) (bR 2 Z) (az (bN (iE (eI (aO F.TJ (TM F) Y (fF (ae 0) (ae 1) (ae 2))))) (az (aR fH)) bS))))) (az (aR fH))))
def Y2 (F:bp K mg):bQ P w K mg base "_law_book" (top 91) BF 4 wU:=λ{_ _} G =>
 bT G [ahC,ahL,ahD,ahO,"_law_turn",ahH] (by kernel_rfl) λY _ _ _ _ _ _ Z=>(aF (AJ 2 3 rfl Y (bt (mi cH) (aS (dZ (fF aw aw aw)) (aO F.jw (jx F) Z (bt (ae 0) aw))))) (aF (iF ą rfl (fu rfl F.eD (aq (ae 1))) (bR 4 Y) (aF (bF 5 Y (aO F.YX (Y1 F) Z (bt (ae 0) (ae 3)))) (az (bN (PW.pt (w_and (aY (pL Z) (ae 5) (ae 2) rfl) (jy (eI (aO F.Lr (Lz F) Z (aq (bL dD (ae 2) (dZ (aq (ae 5)))))))))) (az (eV (j9 (ae 2) (ae 5)))) bS)))) (az (aR (dQ lU rfl F.jd jf (aq (dM (TK.aae Z) rfl F.Dx DN (aq (ae 2)))))))))
def CJ (F:bp K mg):kH P w K mg base "Diary" "__init__" "Diary.__init__" (fL (top 52) 0) kX 1 pH:=λ{_ _} G =>
 pS G kX (by kernel_rfl) λZ _ _ _ _ _ _ Y L=>(az (QS F.wa (ae 0) (mi (aq (dO cH)))))
def Lb (F:bp K mg):kH P w K mg base "Desk" "__init__" "Desk.__init__" (fL (top 78) 0) kX 3 qQ:=λ{_ _} G =>
 pS G kX (by kernel_rfl) λY _ _ _ _ _ _ Z L=>(az (QS F.wc (ae 0) (xN F.DZ (CJ F) Z)))
def acB (F:bp K mg) {c T:þ} (ht:Ű K "law"=ϊ (c,T)) (hC:PySem.W.codeHdIn K c T=ό) (hB:base.BuiltinsAt mg T) {c1 T1:þ} (zh:Ű K  ahB=ϊ (c1,T1)) (Je:PySem.W.codeHdIn K c1 T1=ό) (Jf:base.BuiltinsAt mg T1) {f:þ} {fd:FuncData} (G:Gd K mg "law" (top 103) Q8 f fd) (hx:í K Ð "law"=ϊ (ϊ (.ref f))):dg P w K mg base fB 17 f fd Q8 (mO K F5):=by
 exact QR G hx ht [ahG,ahC,ahN,"_law_diaries","_law_desks","_law_done_here",ahJ,ahK,ahF,ahI,ahM,"_law_turn"] (by kernel_rfl) λY _ _ _ _ _ Z=>(aF (bF 1 Y (aO F.Xa (Xe F) Z (bt (ae 0) aw))) (aF (bF 2 Y (dQ lU rfl F.jd jf (aq (eR [ahH] (f6 (aO F.YY (Y2 F) Z (bt (ae 1) (aO F.jw (jx F) Z (bt (ae 1) aw))))) (λ_ _ _ _ _ _=>#[(mr (aY (bW Z) (aS (ae 0) aw) bq (ba _))),(ae 0)]))))) (aF (bF 2 Y (dQ lU rfl F.jd jf (aq (eR [ahH,ahN] (f6 (ae 2)) (λ_ _ _ _ _ _=>#[(mr (eI (aO F.Lr (Lz F) Z (aq (ae 1))))),(ae 0)]))))) (aF (mq (dO (fF (dZ (bt (xN F.DZ (CJ F) Z) (xN F.DZ (CJ F) Z))) (dZ (bt (xN F.Ov (Lb F) Z) (xN F.Ov (Lb F) Z))) aw)) (oG rfl (cV (bR 3 Y) (cV (bR 4 Y) (cV (bR 5 Y) kQ))))) (aF (iF ą rfl (acv rfl F.PQ (bt (ae 3) (ae 4))) (oG rfl (cV (bR 6 Y) (cV (bR 7 Y) kQ))) (aF (bF 5 Y (aO F.V1 (V4 F zh Je Jf) Z (bC (ae 1) (bC (ae 2) (bC (ae 6) (bC (ae 7) cH)))))) (az (bN (PW.pt (w_or (aY (vj Z) (ae 5) aw (ba _)) (w_or (aY (jI Z) (xo F.pF (pG F) Z (ae 6)) (ae 2) (ba _)) (j8 (aY (jI Z) (aek F.zJ (zK F) Z (ae 7) (aq bq)) (rY (aY (jI Z) (ae 2) (dO cH) (ba _)) (FV F.K4 (K9 F) Z (aq (ae 2))) bq) (ba _)))))) (az (aR fH)) bS)))) (aF (Fj 8 9 10 rfl Y (fF (aO F.jw (jx F) Z (bt (ae 1) aw)) (aO F.jw (jx F) Z (bt (ae 1) aw)) (aO F.Mw (Mz F) Z (aq (ae 1))))) (aF (bN (aY (jI Z) (FV F.Mv (My F) Z (fF (xo F.pF (pG F) Z (aS (ae 3) aw)) (ae 8) (ae 9))) (aO F.V2 (V5 F) Z (fF (ae 2) (ae 8) (ae 9))) (ba _)) (az (aR fH)) bS) (aF (bN (aY (jI Z) (FV F.K5 (La F) Z (bt (xo F.pF (pG F) Z (aS (ae 3) aw)) (ae 10))) (aO F.Xd (Xh F) Z (bt (ae 2) (ae 10))) (ba _)) (az (aR fH)) bS) (aF (iF ą rfl (fu rfl F.eD (aq (ae 5))) (bR 11 Y) (az (bN (aY (jI Z) (pU 1 ["_law_diaries"] rfl rfl ht hC hB F.EH (EI F) DW Z (λ_ _ _ _ _ _ _ _ _ _ Z L=>(uz F.CG (CI F) (dY L) Z (aS (ae 0) aw)))) (dO (bt bq rF)) (ba _)) (az (aR fH)) bS))) (aF (bN (PW.pt (w_or (aY (jI Z) (xo F.pF (pG F) Z (aS (ae 3) aw)) (dO cH) (ba _)) (j8 (aY (jI Z) (xo F.pF (pG F) Z (aS (ae 3) aw)) (ae 2) (ba _))))) (az (aR fH)) bS) (az (aR (dC (bW Z) (pU 1 ["_law_diaries"] rfl rfl ht hC hB F.EH (EI F) DW Z (λ_ _ _ _ _ _ _ _ _ _ Z L=>(uz F.CG (CI F) (dY L) Z (aS (ae 0) aw)))) (dO (bt bq aw)) (ba _))))))))))))))
end
end DI.cx
namespace DI
open PySem L2
structure Ex (k) (s s':ag):Prop where
 len:s.length<=s'.length
 val:∀j,j<s.length->j≠k->s'[j]?=s[j]?
def Ex.refl (k) (s):Ex k s s:=#[ahz _,λ_ _ _=>rfl]
theorem Ex.trans (h:Ex k a b) (g:Ex k b c):Ex k a c:=#[Ø h.len g.len,λj Z Y=>(g.val j (È Z h.len) Y).trans (h.val j Z Y)]
theorem Ex.set (k) (s) (c):Ex k s (s.set k c):=#[by simp,λj _ Z=>ç (Ĥ Z)]
def Ex.app (k) (s) (c:List Cell):Ex k s (s++c):=#[by simp,λj Z _=>æ Z]
def Jg (x y) (k) (s) (h:s[k]?=ϊ (.lst [x,y])):au (.aj k) (.int 0) s=ok x s:=by
 simp[au,jU,res,h,dw,fz,bY]
def Tb (x y) (k) (s) (h:s[k]?=ϊ (.lst [x,y])):au (.aj k) (.int 1) s=ok y s:=by
 simp[au,jU,res,h,dw,fz,bY]
def RZ (x y z) (k) (s) (h:s[k]?=ϊ (.lst [x,y])):nD (.aj k) (.int 0) z s=ϊ (s.set k (.lst [z,y])):=by
 simp[nD,h,fz]
@[simp] theorem AX {r:Env} {s}:aa 0 (ϊ a::r) s=ok a s:=rfl
@[simp] theorem AY {a} {r:Env} {s}:aa (i+1) (a::r) s=aa i r s:=rfl
def ltI (i j) (s):jo (.int i) (.int j) s=ok (.bl (ώ (i<j))) s:=rfl
def gtI (i j) (s):ye (.int i) (.int j) s=ok (.bl (ώ (j<i))) s:=rfl
def geI (i j) (s):yf (.int i) (.int j) s=ok (.bl (ώ (j<=i))) s:=rfl
def leI (i j) (s):rZ (.int i) (.int j) s=ok (.bl (ώ (i<=j))) s:=rfl
def R0 (i j) (s):cm (.int i) (.int j) s=ok (.int (i+j)) s:=rfl
def afW (i j) (s):uK (.int i) (.int j) s=ok (.int (i-j)) s:=rfl
def eqI (i j) (s):aX (.int i) (.int j) s=ok (.bl (i==j)) s:=rfl
def neI (i j) (s):cp (.int i) (.int j) s=ok (.bl (!(i==j))) s:=rfl
def vp {i j} (s) (h:0<j):oH (.int i) (.int j) s=ok (.int (i % j)) s:=by
 simp[oH,G3,h,bY]
def R1 (s) (h:0<j) (h2:j<1073741824):xF (.int i) (.int j) s=ok (.int (i / j)) s:=by
 simp[xF,G4,h,h2,bY]
def yq (s) (h:xE i j=ό):gI (.int i) (.int j) s=ok (.int (i*j)) s:=by
 simp[gI,G0,h,bY]
def mulOk_of (h1:-(2 ^ 64)<i) (h2:i<2 ^ 64):xE i j=ό:=by
 delta xE;rw[Ã h1,Ã h2];rfl
def le_size (h:n<=1000000):n<=Õ:=Ø h (by decide)
def D3 (h1:-1000000<=j) (h2:j<=1000000):kU j=ό:=by
 delta kU;rw[Ã ⋯,Ã ⋯];rfl
def oA {xs:List α} {i:Int} (h0:0<=i) (h1:i<xs.length):∃x,dw xs i=ϊ x/\xs[i.toNat]?=ϊ x:=by
 have Z:i.toNat<xs.length:=by omega
 refine#[_,?_,Ñ Z];delta dw fz;rw[Ù h0,Ù h1];exact Ñ Z
def aap {i} {s} (h0:0<=i):∃c,wq [.cT ns,.int i] s=ok (.int c) s:=by
 by_cases h:i<(ns.length)
 .let(x,Z,_):=oA h0 h
  refine#[x,?_];have Y:au (.cT ns) (.int i) s=ok (.int x) s:=by simp[au,jU,res,Z,bY]
  erw[wq,aJ,ar,aV,aH,e2,eB,af,ah,fk,sd,res,bY,AX,AY,eC,de,Û,ĳ,Č,ġ,å,Ą,ú,ltI,jk,Ã h,aG,Y,Ó]
 .refine#[0,?_]
  erw[wq,aJ,ar,aV,aH,e2,eB,af,ah,fk,sd,res,bY,AX,AY,eC,de,Û,ĳ,Č,ġ,å,Ą,ú,ltI,jk,Î h,Ê,ô,bE,aG,Ó]
structure fm (m:Nat) (ns:List Int):Prop where
 lo:∀x∈ns,0<=x/\x<m
 up:ns.Pairwise (· < ·)
noncomputable abbrev mD (ns:List Int):D:=.tup (ns.map D.int)
def fm.len (h:fm m ns):ns.length<=m:=by
 have key:∀l (b:Int),l.Pairwise (· < ·)->(∀x∈l,b<=x/\x<m)->(l.length)<=m-b\/l=[]:=by
  intro l
  induction l with
  |nil=>intro b _ _;exact .inr rfl
  |cons x l ih =>
   intro b X Z;let(W,V):=ö.mp X;have U:=Z x Ö
   rcases ih (x+1) V (λy Y=>#[by have:=W y Y;omega,(Z y (Ë _ Y)).2]) with h|h
   .rw[å];omega
   .subst h
    simp;omega
 rcases key ns 0 h.up h.lo with h'|h'
 .omega
 .subst h';simp
def fP (h:fa env s=ok [.int n] s1) (hn:n<=1000000):dI fa env s=ok (eT 0 n) s1:=by
 delta dI;rw[h,de]
 show (if kU _=ό then ok _ s1 else ϋ)=_
 rw[Ù (D3 ⋯ ⋯),İ]
def aaq {n:Nat} {i:Int} (h:fa env s=ok [.int i] s1) (hi:i=n) (hn:n<=1000000):dI fa env s=ok (eT 0 n) s1:=by
 subst hi;exact fP h hn
def acC (h:fa env s=ok [.int i,.int j] s1) (h1:-1000000<=i) (h2:i<=1000000) (h3:-1000000<=j) (h4:j<=1000000):B4 fa env s=ok (eT i (j-i).toNat) s1:=by
 delta B4;rw[h]
 show (if (kU i&&kU j)=ό then ok _ s1 else ϋ)=_
 rw[Ù (by rw[D3 h1 h2,D3 h3 h4];rfl)]
def PR:Wp (jo (.int i) (.int j) s) Q=Q (.bl (ώ (i<j))) s:=by rw[ltI,bz]
def PU:Wp (ye (.int i) (.int j) s) Q=Q (.bl (ώ (j<i))) s:=by rw[gtI,bz]
def acD:Wp (yf (.int i) (.int j) s) Q=Q (.bl (ώ (j<=i))) s:=by rw[geI,bz]
def AZ:Wp (rZ (.int i) (.int j) s) Q=Q (.bl (ώ (i<=j))) s:=by rw[leI,bz]
def aar:Wp (cm (.int i) (.int j) s) Q=Q (.int (i+j)) s:=by rw[R0,bz]
def EJ:Wp (uK (.int i) (.int j) s) Q=Q (.int (i-j)) s:=by rw[afW,bz]
def uD:Wp (aX (.int i) (.int j) s) Q=Q (.bl (i==j)) s:=by rw[eqI,bz]
def PV:Wp (cp (.int i) (.int j) s) Q=Q (.bl (!(i==j))) s:=by rw[neI,bz]
end DI
noncomputable def DI.VCr:=ì @DI.bz <| ì @DI.acw <| ì @DI.Bi <| ì @DI.aM <| ì @DI.aZ <| ì @DI.cf <| ì @DI.rP <| ì @DI.bJ <| ì @DI.aU <| ì @DI.aL <| ì @DI.ee <| ì @DI.wp_call <| ì @DI.iW <| ì @DI.oy <| ì @DI.xp <| ì @DI.Fq <| ì @DI.eX <| ì @DI.cG <| ì @DI.pV <| ì @DI.lW <| ì @DI.uj <| ì @DI.nq <| ì @DI.EG <| ì @DI.ot <| ì @DI.xq <| ì @DI.aak <| ì @DI.oz <| ì @DI.PM <| ì @DI.fq <| ì @DI.cA <| ì @DI.oj <| ì @DI.YM <| ì @DI.pM <| ì @DI.jz <| ì @DI.cZ <| ì @DI.eJ <| ì @DI.aal <| ì @DI.wV <| ì @DI.acy <| ì @DI.jg <| ì @DI.Ot <| ì @DI.xr <| ì @DI.c8 <| ì @DI.iu <| ì @DI.F6 <| ì @DI.Fs <| ì @DI.PR <| ì @DI.PU <| ì @DI.acD <| ì @DI.AZ <| ì @DI.aar <| ì @DI.EJ <| ì @DI.uD <| @DI.PV
local macro_rules | `(tactic| simp only[VC])=>`(tactic| simp only[VC,true_and])
local macro_rules | `(tactic| simp only[VC,$xs,*])=>`(tactic| simp only[DI.VCr,DI.cP,DI.nr,DI.acx,DI.aeq,DI.YN,DI.kS,DI.acz,List.map_cons,List.map_nil,List.cons_append,List.nil_append,List.length_cons,List.length_nil,List.set_cons_succ,List.set_cons_zero,List.replicate,true_and,Nat.reduceSub,Nat.reduceAdd,$xs,*])
namespace DI
open PySem L2
def ahx {r} {d:α} {s} (h:Wp r λa s'=>a=d/\s'=s):r=DI.ok d s:=by
 let(a,s',e,rfl,rfl):=h;exact e
def kN {s s1} {ds} (h:f env s=ok (.tup ds) s1):cB f env s=ok ds s1:=by
 delta cB;rw[h];rfl
def om (h:f env s=ok (.lst ds) s1):cB f env s=ok ds s1:=by
 delta cB;rw[h];rfl
theorem pJ:∀(ns:List Int),cR (ns.map D.int)=ό
 | []=>rfl
 |n::ns=>by erw[Û,cR,lay,pJ ns,Ğ]
def EK (x) (ns:List Int):((ns.map D.int).any λy=>beq y (.int x))=ώ (x∈ns):=by
 induction ns with
 |nil=>simp
 |cons n ns ih =>
  erw[Û,List.any_cons,ih,beq];by_cases h:n=x
  .subst h;simp
  .have Z:¬ x=n:=λe=>h e.symm
   simp[h,Z]
def pN {ns} {s}:cy (.int x) (mD ns) s=ok (.bl (ώ (x∈ns))) s:=by
 have Z:mx 100 (.int x) (ns.map D.int)=ό:=by erw[mx,lay,pJ,dep,Ğ,ć,ĥ]
 have e:inD (.int x) (ns.map D.int)=ϊ (ώ (x∈ns)):=by delta inD;rw[Ù Z,EK]
 delta cy;rw[show nu _ s=ϊ _ from rfl];erw[e];rfl
def V6:fN (.int x) (mD ns) s=ok (.bl (!ώ (x∈ns))) s:=by
 have Z:mx 100 (.int x) (ns.map D.int)=ό:=by erw[mx,lay,pJ,dep,Ğ,ć,ĥ]
 have e:inD (.int x) (ns.map D.int)=ϊ (ώ (x∈ns)):=by delta inD;rw[Ù Z,EK]
 delta fN;rw[show nu _ s=ϊ _ from rfl];erw[e];rfl
noncomputable def sub (a b:List Int):Bool:=a.all λx=>ώ (x∈b)
def rb {α:Type} (p) (xs:List α) (s):nC [.lst (xs.map λx=>D.bl (p x))] s=ok (.bl (xs.all p)) s:=by
 have e:i7 (xs.map λx=>D.bl (p x))=ϊ (xs.map p):=by
  have:=Z7 (bs:=xs.map p);rw[Ĝ] at this;exact this
 show bY _ s=_;rw[e];show ok (D.bl _) s=_;rw[List.all_map];rfl
def filter_tt {α:Type} (xs:List α):xs.filter (λ_=>ό)=xs:=by simp
def tO {caps} {g} {t} {f} {s} (p) (h) (ns:List Int) (hh:∀n∈ns,∃env,g (.int n) (Ó nt ϋ++caps)=ϊ env/\t env s=ok (p n) s/\(p n=ό->f env s=ok (h n) s)) :
  gH nt caps g t f (ns.map D.int) s=ok ((ns.filter p).map h) s:=by
 induction ns with
 |nil=>rfl
 |cons n ns ih =>
  let(env,Y,X,W):=hh n Ö;have ih:=ih λV U=>hh V (Ë _ U);rw[Û];delta gH;rw[Y];erw[X,rG,de]
  cases Z:p n with
  |true=>erw[ú,W Z,rG,de,ih,ř,Z,Û]
  |false=>erw[Ê,ô,ih,ř,Z]
def comp_map {α:Type} (d) (p) (h) (xs:List α) (hh:∀x∈xs,∃env,g (d x) (Ó nt ϋ++caps)=ϊ env/\t env s=ok (p x) s/\(p x=ό->f env s=ok (h x) s)) :
  gH nt caps g t f (xs.map d) s=ok ((xs.filter p).map h) s:=by
 induction xs with
 |nil=>rfl
 |cons n T ih =>
  let(env,Y,X,W):=hh n Ö;have ih:=ih λV U=>hh V (Ë _ U);rw[Û];delta gH;rw[Y];erw[X,rG,de]
  cases Z:p n with
  |true=>erw[ú,W Z,rG,de,ih,ř,Z,Û]
  |false=>erw[Ê,ô,ih,ř,Z]
def Xi:CZ [.int i] s=ok (.bl (ώ (0<=i))) s:=by
 rfl
def tR:tG [.int i,.int m] s=ok (.bl (ώ (0<=i)&&ώ (i<m))) s:=by
 refine ahx ?_;delta tG;simp only[VC,Xi];by_cases h:0<=i
 .simp[h]
 .simp[h]
def Ow:tK [.int i] s=ok (.bl (ώ (0<=i)&&ώ (i<8))) s:=by
 refine ahx ?_;delta tK;simp only[VC,tR,true_and]
def Nr (xs):cutD xs (ϊ 1) ϋ=xs.drop 1:=by
 delta cutD HT.bX
 cases xs with
 |nil=>simp
 |cons x xs =>
  simp
noncomputable def rise:List Int->Bool
 | []=>ό
 | [_]=>ό
 |a::b::r=>ώ (a<b)&&rise (b::r)
def aas (h:ns.Pairwise (· < ·)):rise ns=ό:=by
 induction ns with
 |nil=>rfl
 |cons a ns ih =>
  cases ns with
  |nil=>rfl
  |cons b r =>
   let(Z,Y):=ö.mp h;erw[rise,ih Y,Bool.and_true];exact Ã (Z b Ö)
theorem Nt:∀ns,((ns.zip (ns.drop 1)).all λp=>ώ (p.1<p.2))=rise ns
 | []=>rfl
 | [_]=>rfl
 |a::b::r=>by
  have ih:=Nt (b::r);erw[List.drop_succ_cons,List.drop_zero,ş,List.all_cons,rise] at ih |-;rw[ih]
def Xj (xs ys:List Int):iL (xs.map D.int) (ys.map D.int)=(xs.zip ys).map λp=>D.tup [.int p.1,.int p.2]:=by
 delta iL;rw[List.zip_map,Ĝ];rfl
def Nu (h:fa env s=ok [.tup xs,.tup ys] s1):vf fa env s=ok (iL xs ys) s1:=by
 delta vf;rw[h];rfl
def Xk (hl:ns.length<=1000000):qO [mD ns] s=ok (.bl (rise ns)) s:=by
 refine ahx ?_;delta qO;simp only[VC];have Z:vf (af (aa 0) (af (qD (aa 0) (qd (eC (.int 1))) qB) ah)) [ϊ (mD ns)] s=ok (iL (ns.map D.int) ((ns.drop 1).map D.int)) s:=by
  refine Nu (ahx ?_);simp only[VC];rw[Ou rfl];refine ahw (rfl) #[?_,rfl];rw[Nr,List.map_drop]
 refine ahw Z #[le_size (by rw[DJ];erw[Æ];omega),?_];rw[Xj];refine ahw (comp_map (λp=>D.tup _) (λ_=>ό) (λp=>.bl _) _ λp _=>#[_,rfl,rfl,λ_=>rfl]) ?_;rw[filter_tt];exact ahw (rb ..) #[by rw[Nt],rfl]
def getD_some {α:Type} {xs:List α} {i} {d} (h:i<xs.length):xs[i]?=ϊ (xs.getD i d):=by
 rw[List.getD_eq_getElem?_getD,Ñ h];rfl
def Ox (lo) (n):eT lo n=(ä n).map λi:Nat=>D.int (lo+i):=rfl
def acE (rs:List (List Int)) (laid:List Int) (m:Int):Bool:=((ä laid.length).filter λi=>laid.getD i 0==m).all λi=>sub (rs.getD i []) (rs.getD laid.length [])
def uE {α:Type} (d) (p) (h) (xs:List α) (hh:∀x∈xs,∃env,g (d x) lg=ϊ env/\t env s=ok (p x) s/\(p x=ό->act env s=ok (h x) s)) :
  jm g t act lg (xs.map d) s=ok ((xs.filter p).flatMap h) s:=by
 induction xs with
 |nil=>rfl
 |cons n T ih =>
  let(env,Y,X,W):=hh n Ö;have ih:=ih λV U=>hh V (Ë _ U);rw[Û];delta jm;rw[Y];erw[X,rG,de]
  cases Z:p n with
  |true=>erw[ú,W Z,rG,de,ih,ř,Z,List.flatMap_cons]
  |false=>erw[Ê,ô,ih,ř,Z]
def D4 :
  Wp (xj nt cap it gd c act env s) Q=Wp (it env s) λds s=>Wp (jm gd c act (Ó nt ϋ++mj cap env) ds s) λxs s=>xs.length<=Õ/\Q (.lst xs) s:=by
 delta xj;erw[bO,Bi,wH,bz]
def step (rs:List (List Int)) (told:List (List Int)):List (List Int):=told.flatMap λlaid=>([0,1].filter λm=>acE rs laid m).map λm=>laid++[m]
open TK
noncomputable def markB (i:Int):Bool:=ώ (0<=i)&&ώ (i<8)
noncomputable def iz (i:Int):Bool:=ώ (0<=i)&&ώ (i<4)
noncomputable def gZ (i:Int):Bool:=ώ (0<=i)&&ώ (i<31)
def fZ (ns:List Int):Bool:=ns.all markB&&rise ns
noncomputable def jB (a b:List Int):Bool:=!(a.any λx=>ώ (x∈b))
def cN:Pg->Bool
 | .made m d h l=>iz m&&gZ d&&(fZ h&&(fZ l&&jB h l))
 | .cu m d k=>iz m&&gZ d&&markB k
def lq:Pg->Prop
 | .made _ _ h l=>h.length<=1000/\l.length<=1000
 | .cu ..=>True
def Y3:i7 (bs.map D.bl)=ϊ bs:=by
 induction bs with
 |nil=>rfl
 |cons b bs ih=>erw[Û,i7,ih];rfl
def Nv {α:Type} (p) (xs:List α) (s):vi [.lst (xs.map λx=>D.bl (p x))] s=ok (.bl (xs.any p)) s:=by
 have e:i7 (xs.map λx=>D.bl (p x))=ϊ (xs.map p):=by
  have:=Y3 (bs:=xs.map p);rw[Ĝ] at this;exact this
 erw[vi,res,e,bY,η,List.any_map,ũ,id]
def Nw (hl:ns.length<=1000):wj [mD ns] s=ok (.bl (fZ ns)) s:=by
 refine ahx ?_;delta wj;simp only[VC];refine ahw (rfl) ?_;simp only[VC,ú];refine ahw (kN rfl) #[le_size (by rw[Æ];omega),?_];refine ahw (tO (λ_=>ό) (λx=>.bl (markB x)) ns λn _=>#[_,rfl,rfl,λ_=>?_]) ?_
 .refine ahx ?_
  simp only[VC,Ow,markB,true_and]
 .rw[filter_tt]
  refine ahw (rb ..) ?_;simp only[VC];delta fZ
  cases e:ns.all markB with
  |true =>
   exact ahw (Xk ⋯) #[rfl,rfl]
  |false=>simp
def D5 (ha:a.length<=1000):tw [mD a,mD b] s=ok (.bl (jB a b)) s:=by
 refine ahx ?_;delta tw;simp only[VC];refine ahw (kN rfl) #[le_size (by rw[Æ];omega),?_];refine ahw (tO (λ_=>ό) (λx=>.bl (ώ (x∈b))) a λn _=>#[[ϊ _,ϊ _],rfl,rfl,λ_=>?_]) ?_
 .refine ahx ?_
  simp only[VC,pN,true_and]
 .rw[filter_tt]
  refine ahw (Nv ..) ?_;simp only[VC];exact#[rfl,trivial]
def D6 (h1:h.length<=1000) (h2:l.length<=1000):qR [.tup [mD h,mD l]] s=ok (.bl (fZ h&&(fZ l&&jB h l))) s:=by
 refine ahx ?_;delta qR;simp only[VC];refine ahw (rfl) ?_;simp only[VC,Œ,Ê,ô];refine ahw (rfl) ?_;simp only[VC];refine ahw (Nw h1) ?_;simp only[VC]
 cases fZ h with
 |false=>simp
 |true =>
  refine ahw (Nw h2) ?_;simp only[VC]
  cases fZ l with
  |false=>simp
  |true =>
   exact ahw (D5 h1) #[rfl,rfl]
def Nx:tH [.int i] s=ok (.bl (iz i)) s:=by
 refine ahx ?_;delta tH;simp only[VC,tR,iz,ğ]
def PX:tW [.int i] s=ok (.bl (gZ i)) s:=by
 refine ahx ?_;delta tW;simp only[VC,tR,gZ,ğ]
def nW:aX (.str x) (.str y) s=ok (.bl (ώ (x=y))) s:=by
 show ok (D.bl (x==y)) s=_
 by_cases e:x=y<;>simp[e]
def aat:¬ (ģ "made"=ģ "mended"):=nofun
def EL:¬ (ģ "mended"=ģ "made"):=nofun
def Cm:ahv Fl:=ar (aV (aH (e2 aX (aa 1) (eC (.str "made")))) (aG (aC qR (af (aa 4) ah))) bE) (aG (dj (e2 aX (aa 1) (eC (.str "mended"))) (aC tK (af (aa 4) ah))))
def Oy {m d} {w} {s} {b} (h:Wp (Cm [ϊ (.tup [.str x,.int m,.int d,w]),ϊ (.str x),ϊ (.int m),ϊ (.int d),ϊ w] s) (sj λd s'=>d=.bl b/\s'=s)):wy [.tup [.str x,.int m,.int d,w]] s=ok (.bl (iz m&&gZ d&&b)) s:=by
 refine ahx ?_;show Wp (aJ 1 5 (ar _ (ar _ (ar _ Cm))) _ s) _;simp only[VC];refine ahw (rfl) ?_;simp only[VC,Œ,Ê,ô];refine ahw (rfl) ?_;simp only[VC,Ĵ,Œ,Ê,ô];refine ahw Nx ?_;simp only[VC]
 cases iz m with
 |false=>simp[nr,kS,cA,cf]
 |true =>
  refine ahw PX ?_;simp only[VC]
  cases gZ d with
  |false=>simp[nr,kS,cA,cf]
  |true =>
   exact h
def Oz (hf:lq p):wy [p.d] s=ok (.bl (cN p)) s:=by
 cases p with
 |made m d h l =>
  refine Oy ?_;delta Cm;simp only[VC];refine ahw nW ?_;simp only[VC,ĥ,ú];exact ahw (D6 hf.1 hf.2) #[rfl,rfl]
 |cu m d k =>
  refine Oy ?_;delta Cm;simp only[VC];refine ahw nW ?_;simp only[VC,Î EL,Ê,ô];refine ahw nW ?_;simp only[VC,ĥ,ú];exact ahw Ow #[rfl,rfl]
abbrev bD (ps:List Pg):D:=.tup (ps.map Pg.d)
def acF:jo p.d q.d s=ok (.bl (cz.lt p q)) s:=by
 delta jo;rw[Ù (by rw[rj _ (Bd p),rj _ (Bd q)];erw[Ğ,ĵ,Å];have:=uy p;omega),QK];rfl
noncomputable def Bm (ps:List Pg):Bool:=(ps.zip (ps.drop 1)).all λp=>cz.lt p.1 p.2
def Y4 (xs ys:List Pg):iL (xs.map Pg.d) (ys.map Pg.d)=(xs.zip ys).map λp=>D.tup [p.1.d,p.2.d]:=by
 delta iL;rw[List.zip_map,Ĝ];rfl
def V7 (hl:ps.length<=1000):qO [bD ps] s=ok (.bl (Bm ps)) s:=by
 refine ahx ?_;delta qO;simp only[VC];have Z:vf (af (aa 0) (af (qD (aa 0) (qd (eC (.int 1))) qB) ah)) [ϊ (bD ps)] s=ok (iL (ps.map Pg.d) ((ps.drop 1).map Pg.d)) s:=by
  refine Nu (ahx ?_);simp only[VC];rw[Ou rfl];refine ahw (rfl) #[?_,rfl];rw[Nr,List.map_drop]
 refine ahw Z #[le_size (by rw[DJ];erw[Æ];omega),?_];rw[Y4];refine ahw (comp_map (λp=>D.tup _) (λ_=>ό) (λp=>.bl (cz.lt p.1 p.2)) _ λp _=>#[_,rfl,rfl,λ_=>?_]) ?_
 .refine ahx ?_
  simp only[VC,acF,ğ]
 rw[filter_tt];exact ahw (rb ..) #[rfl,rfl]
def kj (ps:List Pg):Bool:=ώ (ps.length<=24)&&(ps.all cN&&Bm ps)
def aau (hl:ps.length<=1000) (hf:∀p∈ps,lq p):zN [bD ps] s=ok (.bl (kj ps)) s:=by
 refine ahx ?_;delta zN kj;simp only[VC];refine ahw (rfl) ?_;simp only[VC,ú];refine ahw (by show ok _ s=_;rw[Æ]) ?_;simp only[VC];by_cases h:ps.length<=24
 .have Z:(ps.length:Int)<=24:=by omega
  erw[h,Z,ĥ,ú,ĵ];refine ahw (kN rfl) #[le_size (by rw[Æ];omega),?_];refine ahw (comp_map _ (λ_=>ό) (λp=>.bl (cN p)) ps λp Y=>#[_,rfl,rfl,λ_=>?_]) ?_
  .refine ahx ?_
   simp only[VC,Oz (hf p Y),ğ]
  .rw[filter_tt]
   refine ahw (rb ..) ?_;simp only[VC]
   cases ps.all cN with
   |false=>simp
   |true =>
    exact ahw (V7 hl) #[rfl,rfl]
 .have Z:¬ (ps.length:Int)<=24:=by omega
  simp[h,Z]
noncomputable def _root_.TK.Pg.day:Pg->Int
 | .made _ d ..=>d
 | .cu _ d _=>d
noncomputable def qH (m k:Int):Pg->Bool
 | .made Z _ h _=>ώ (Z=m)&&ώ (k∈h)
 |_=>ύ
noncomputable def qI (m k:Int):Pg->Bool
 | .made Z _ _ l=>ώ (Z=m)&&ώ (k∈l)
 |_=>ύ
noncomputable def pw (m k:Int):Pg->Bool
 | .cu Z _ Y=>ώ (Z=m)&&ώ (Y=k)
 |_=>ύ
def shown (ps:List Pg) (m k:Int):List Int:=(ps.filter (qH m k)).map Pg.day
def eY (ps:List Pg) (m k:Int):List Int:=(ps.filter (qI m k)).map Pg.day
def cM (ps:List Pg) (m k:Int):List Int:=(ps.filter (pw m k)).map Pg.day
noncomputable abbrev lI (ns:List Int):D:=.lst (ns.map D.int)
def lL (a b c d) (s):au (.tup [a,b,c,d]) (.int 0) s=ok a s/\au (.tup [a,b,c,d]) (.int 1) s=ok b s/\au (.tup [a,b,c,d]) (.int 2) s=ok c s/\au (.tup [a,b,c,d]) (.int 3) s=ok d s:=#[rfl,rfl,rfl,rfl]
def v7 (a b) (s):au (.tup [a,b]) (.int 0) s=ok a s/\au (.tup [a,b]) (.int 1) s=ok b s:=#[rfl,rfl]
def Jh (p:Pg) (s):au p.d (.int 1) s=ok (.int (match p with | .made m ..=>m | .cu m ..=>m)) s/\au p.d (.int 2) s=ok (.int p.day) s:=by cases p<;>exact#[rfl,rfl]
def Ay (hl:ps.length<=1000):mW [bD ps,.int m,.int k,.int 0] s=ok (lI (shown ps m k)) s/\mW [bD ps,.int m,.int k,.int 1] s=ok (lI (eY ps m k)) s:=by
 constructor
 .refine ahx ?_
  delta mW;simp only[VC];refine ahw (kN rfl) #[le_size (by rw[Æ];omega),?_];refine ahw (comp_map _ (qH m k) (λp=>.int p.day) ps λp Y=>#[[ϊ _,ϊ _,ϊ _,ϊ _],rfl,?_,λ_=>?_]) ?_
  .refine ahx ?_
   cases p with
   |made Z d h l =>
    simp only[VC,Pg.d];rw[(lL _ _ _ _ s).1];simp only[VC,nW,ĥ,ú];rw[(lL _ _ _ _ s).2.1];simp only[VC,qH];by_cases e:Z=m
    .erw[e,Ĵ,ú,ĥ,ĵ]
     rw[(lL _ _ _ _ s).2.2.2];simp only[VC];rw[(v7 _ _ s).1];simp only[VC];refine ahw (pN) ?_;simp only[VC,ğ]
    .simp[e]
   |cu Z d X =>
    simp only[VC,Pg.d];rw[(lL _ _ _ _ s).1];simp only[VC,nW,Î EL,Ê,ô,qH,ğ]
  .refine ahx ?_
   simp only[VC,(Jh p s).2,ğ]
  .erw[shown,lI,Ĝ,ũ,ğ]
 .refine ahx ?_
  delta mW;simp only[VC];refine ahw (kN rfl) #[le_size (by rw[Æ];omega),?_];refine ahw (comp_map _ (qI m k) (λp=>.int p.day) ps λp Y=>#[[ϊ _,ϊ _,ϊ _,ϊ _],rfl,?_,λ_=>?_]) ?_
  .refine ahx ?_
   cases p with
   |made Z d h l =>
    simp only[VC,Pg.d];rw[(lL _ _ _ _ s).1];simp only[VC,nW,ĥ,ú];rw[(lL _ _ _ _ s).2.1];simp only[VC,qI];by_cases e:Z=m
    .erw[e,Ĵ,ú,ĥ,ĵ]
     rw[(lL _ _ _ _ s).2.2.2];simp only[VC];rw[(v7 _ _ s).2];simp only[VC];refine ahw (pN) ?_;simp only[VC,ğ]
    .simp[e]
   |cu Z d X =>
    simp only[VC,Pg.d];rw[(lL _ _ _ _ s).1];simp only[VC,nW,Î EL,Ê,ô,qI,ğ]
  .refine ahx ?_
   simp only[VC,(Jh p s).2,ğ]
  .erw[eY,lI,Ĝ,ũ,ğ]
def EM (hl:ps.length<=1000):tm [bD ps,.int m,.int k] s=ok (lI (cM ps m k)) s:=by
 refine ahx ?_;delta tm;simp only[VC];refine ahw (kN rfl) #[le_size (by rw[Æ];omega),?_];refine ahw (comp_map _ (pw m k) (λp=>.int p.day) ps λp X=>#[[ϊ _,ϊ _,ϊ _],rfl,?_,λ_=>?_]) ?_
 .refine ahx ?_
  cases p with
  |cu Z d Y =>
   simp only[VC,Pg.d];rw[(lL _ _ _ _ s).1];simp only[VC,nW,ĥ,ú];rw[(lL _ _ _ _ s).2.1];simp only[VC,pw];by_cases e:Z=m
   .rw[(lL _ _ _ _ s).2.2.2]
    simp only[VC]
    by_cases e:Y=k<;>simp[e]
   .simp[e]
  |made Z d h l =>
   simp only[VC,Pg.d];rw[(lL _ _ _ _ s).1];simp only[VC,nW,Î aat,Ê,ô,pw,ğ]
 .refine ahx ?_
  simp only[VC,(Jh p s).2,ğ]
 .erw[cM,lI,Ĝ,ũ,ğ]
def PY (h:n<=1000):n<=Õ:=le_size ⋯
def uV:cy (.int x) (lI ns) s=ok (.bl (ώ (x∈ns))) s:=by
 exact pN
def Aa:fN (.int x) (lI ns) s=ok (.bl (!ώ (x∈ns))) s:=by
 exact V6
noncomputable def Hm (ds:List Int) (a b:Int):Bool:=ds.any λx=>ώ (a<x)&&ώ (x<=b)
def Xl (hl:ds.length<=1000):zu [lI ds,.int a,.int b] s=ok (.bl (Hm ds a b)) s:=by
 refine ahx ?_;delta zu;simp only[VC];refine ahw (om rfl) #[PY (by rw[Æ];omega),?_];refine ahw (tO (λ_=>ό) (λx=>.bl (ώ (a<x)&&ώ (x<=b))) ds λn _=>#[[ϊ _,ϊ _,ϊ _],rfl,rfl,λ_=>?_]) ?_
 .refine ahx ?_
  simp only[VC]
  by_cases e:a<n<;>simp[e,bz,AZ,aZ,aM]
 .rw[filter_tt]
  exact ahw (Nv ..) #[rfl,rfl]
def sS (ps:List Pg) (m k d l:Int):Bool:=(ώ (l∈eY ps m k)||(ώ (l=d)&&ώ (d∈cM ps m k)))&&!Hm (cM ps m k) d l
noncomputable def uF (d:Int):List Int:=(ä (31-d).toNat).map λi:Nat=>d+(i)
def oB (ps:List Pg) (m k:Int):List (Int×Int):=(jh (shown ps m k)).flatMap λd=>((uF d).filter (sS ps m k d)).map λl=>(d,l)
def D7 {ps:List Pg} {f}:((ps.filter f).map Pg.day).length<=ps.length:=by rw[Æ];exact Ľ ..
theorem t6 {α β:Type} {f:α->List β} {b}:∀{l:List α},(∀x∈l,(f x).length<=b)->(l.flatMap f).length<=l.length*b
 | [],_=>by simp
 |x::l,h=>by
  rw[List.flatMap_cons,Ï,å,Nat.succ_mul];have Y:=h x Ö;have X:=t6 λy Z=>h y (Ë _ Z);omega
def LS (d) (h:0<=d):(uF d).length<=31:=by delta uF;rw[Æ,List.length_range];omega
structure sk (ps:List Pg):Prop where
 len:ps.length<=24
 lo:∀p∈ps,0<=p.day/\p.day<31
def sk.of (h:sk ps) (hx:x∈(ps.filter f).map Pg.day):0<=x/\x<31:=by
 let(p,Z,rfl):=ï.mp hx;exact h.lo p (ÿ.mp Z).1
def V8 (h:sk ps):wz [bD ps,.int m,.int k] s=ok (.lst ((oB ps m k).map λp=>D.tup [.int p.1,.int p.2])) s:=by
 have Y:=h.len;have R:(shown ps m k).length<=24:=Ø D7 Y;have Q:(cM ps m k).length<=24:=Ø D7 Y;refine ahx ?_;delta wz;simp only[VC];refine ahw (Ay ⋯).2 ?_;refine ahw (EM ⋯) ?_;rw[D4];have T:cB (e1 wD (aC mW (af (aa 0) (af (aa 1) (af (aa 2) (af (eC (.int (0))) ah)))))) [ϊ (bD ps),ϊ (.int m),ϊ (.int k),ϊ (lI (eY ps m k)),ϊ (lI (cM ps m k))] s=ok ((jh (shown ps m k)).map D.int) s:=by
  refine om (ahx ?_);simp only[VC];refine ahw (Ay ⋯).1 ?_;refine ahw (?_) #[rfl,rfl];delta wD;erw[WO];rw[Ù (by have:=Dp (shown ps m k);rw[Å];omega)]
 refine ahw T ?_;have day:∀d∈jh (shown ps m k),0<=d/\d<31:=λd Z=>h.of (qT.mp Z);refine ahw (uE _ (λ_=>ό) (λd=>((uF d).filter (sS ps m k d)).map λl=>D.tup [.int d,.int l]) _ λd Z=>#[[ϊ _,ϋ,ϊ _,ϊ _],rfl,rfl,λ_=>?_]) ?_
 .have Z:=day d Z
  delta more;rw[acC rfl ⋯ ⋯ ⋯ ⋯,de];have S:eT d (31-d).toNat=(uF d).map D.int:=by delta uF;rw[Ĝ];rfl
  rw[S];rw[uE _ _ (λl=>[D.tup _]) _ λl Y=>#[_,rfl,?_,λ_=>?_]]
  .rw[<- ahe]
  .refine ahx ?_
   simp only[VC,uV];delta sS;have X:=Xl (ds:=cM ps m k) (a:=d) (b:=l) (s:=s) ⋯;by_cases W:l∈eY ps m k
   .simp only[VC,W,ĥ,ú,Bool.true_or,ĵ]
    exact ahw X (by simp only[VC,ğ])
   .erw[W,decide_false,Ê,ô,Bool.false_or]
    by_cases V:l=d
    .subst V
     simp only[VC,Ĵ,ú,ĥ,ĵ];by_cases U:l∈cM ps m k
     .erw[U,ĥ,ú,ĵ]
      exact ahw X (by simp only[VC,ğ])
     .simp[U]
    .simp[V]
  .refine ahx ?_
   delta emit;rw[bO];simp only[VC];exact#[by decide,trivial]
 .rw[filter_tt]
  refine#[?_,?_,rfl]
  .refine PY (Ø (t6 (b:=31) λd Z=>?_) ?_)
   .rw[Æ]
    exact Ø (Ľ ..) (LS d (day d Z).1)
   .have:=Dp (shown ps m k)
    omega
  .delta oB
   erw[List.map_flatMap,Ĝ,ũ]
noncomputable def m4:List Int:=(ä 4).map λi:Nat=>(i)
noncomputable def k8:List Int:=(ä 8).map λi:Nat=>(i)
def rl (ps:List Pg):List (Int×Int×Int×Int):=m4.flatMap λm=>k8.flatMap λk=>(oB ps m k).map λp=>(m,k,p.1,p.2)
noncomputable def fD (p:Int×Int×Int×Int):D:=.tup [.int p.1,.int p.2.1,.int p.2.2.1,.int p.2.2.2]
def Xm (h:sk ps) (m k):(oB ps m k).length<=744:=by
 have Y:(shown ps m k).length<=24:=Ø D7 h.len;have:=Dp (shown ps m k);refine Ø (t6 (b:=31) λd Z=>?_) ⋯;rw[Æ];exact Ø (Ľ ..) (LS d (h.of (qT.mp Z)).1)
def Xn (h:sk ps):zI [bD ps] s=ok (.lst ((rl ps).map fD)) s:=by
 refine ahx ?_;delta zI;erw[c8,cA,kS,Û,ĳ,Č,ġ,å,Ą,Ó,true_and,Nat.reduceSub,Nat.reduceAdd];rw[D4];refine ahw (fP rfl (by decide)) ?_;have W:eT 0 4=m4.map _:=rfl;have Z:eT 0 8=k8.map _:=rfl;refine ahw (uE _ (λ_=>ό) (λm=>k8.flatMap λk=>(oB ps m k).map λp=>fD (m,k,p.1,p.2)) m4 λm Y=>#[_,rfl,rfl,λ_=>?_]) ?_
 .delta more
  rw[fP rfl (by decide),de,Z];rw[uE _ (λ_=>ό) (λk=>(oB ps m k).map λp=>fD _) k8 λk X=>#[[ϊ _,ϊ _,ϋ,ϋ,ϊ _],rfl,rfl,λ_=>?_]]
  .rw[filter_tt]
  .have hi:cB (aC wz (af (aa 4) (af (aa 0) (af (aa 1) ah)))) [ϊ (.int m),ϊ (.int k),ϋ,ϋ,ϊ (bD ps)] s=ok ((oB ps m k).map λp=>D.tup [.int p.1,.int p.2]) s:=by
    refine om (ahx ?_);simp only[VC];exact ahw (V8 h) #[rfl,rfl]
   rw[hi,de];rw[uE (λp=>D.tup _) (λ_=>ό) (λp=>[fD _]) _ λp V=>#[_,rfl,rfl,λ_=>?_]]
   .rw[filter_tt,<- ahe]
   .refine ahx ?_
    delta emit;rw[bO];simp only[VC];exact#[by decide,rfl,trivial]
 .rw[filter_tt]
  refine#[?_,?_,rfl]
  .refine le_size (Ø (t6 (b:=8*744) λm Y=>?_) (by decide))
   refine Ø (t6 (b:=744) λk X=>?_) (by decide);rw[Æ];exact Xm h m k
  .delta rl
   erw[List.map_flatMap,Ĝ,ũ]
def cX (ps:List Pg):Bool:=kj ps&&(rl ps).isEmpty
def MA (h:kj ps=ό):sk ps:=by
 delta kj at h;erw[Â,Å,Þ] at h;refine#[h.1,λp Z=>?_];have:=h.2.1 p Z
 cases p<;>erw[cN,gZ,Â,Å] at this<;>exact this.1.2
def OA (hl:ps.length<=1000) (hf:∀p∈ps,lq p):tL [bD ps] s=ok (.bl (cX ps)) s:=by
 refine ahx ?_;delta tL;simp only[VC];refine ahw (aau hl hf) ?_;simp only[VC];delta cX
 cases h:kj ps with
 |false=>simp
 |true =>
  delta FU;simp only[VC,bO];refine ahw (Xn (MA h)) ?_;refine ahw (rfl) ?_;erw[bz];refine#[?_,trivial]
  cases rl ps<;>rfl
def A0:m∈m4↔0<=m/\m<4:=by
 delta m4;rw[ï];constructor
 .rintro ⟨i,hi,rfl⟩
  have:=î.mp hi;omega
 .rintro ⟨Z,Y⟩
  exact#[m.toNat,î.mpr ⋯,by omega]
def rm:m∈k8↔0<=m/\m<8:=by
 delta k8;rw[ï];constructor
 .rintro ⟨i,hi,rfl⟩
  have:=î.mp hi;omega
 .rintro ⟨Z,Y⟩
  exact#[m.toNat,î.mpr ⋯,by omega]
def Y5 (h:cX ps=ό) (hm:0<=m/\m<4) (hk:0<=k/\k<8) (hd:d∈shown ps m k) (h1:d<=l) (h2:l<31):sS ps m k d l=ύ:=by
 delta cX at h;rw[Â,List.isEmpty_iff] at h
 cases Z:sS ps m k d l with
 |false=>rfl
 |true =>
  have Y:(d,l)∈oB ps m k:=by
   refine agb.mpr #[d,qT.mpr hd,ï.mpr #[l,ÿ.mpr #[?_,Z],rfl]];exact ï.mpr #[(l-d).toNat,î.mpr ⋯,by omega]
  have:(m,k,d,l)∈rl ps:=agb.mpr #[m,A0.mpr hm,agb.mpr #[k,rm.mpr hk,ï.mpr #[_,Y,rfl]]];rw[h.2] at this;cases this
section
variable (s l m:Nat->Bool)
noncomputable def pr:Nat->Bool
 |0=>s 0
 |d+1=>s (d+1)||(pr d&&!m (d+1))
noncomputable def hZ:Nat->Bool
 |0=>ύ
 |n+1=>(hZ n||l (30-n))&&!m (30-n)
def br (d:Nat):Bool:=hZ l m (31-d)
def ab (d:Nat):Bool:=br l m (d+1)||(l d||m d)
noncomputable def f0 (d:Nat):Bool:=!s d
noncomputable def t0 (d:Nat):Bool:=!m d&&!l d
def Az:Prop:=∀d e,s d=ό->d<=e->e<=30->(l e=ό\/(e=d/\m d=ό))->∃x,d<x/\x<=e/\m x=ό
variable {s l m}
theorem Ft:∀{d},pr s m d=ό↔∃e,e<=d/\s e=ό/\∀x,e<x->x<=d->m x=ύ
 |0=>by
  erw[pr];constructor
  .intro h;exact#[0,ahz _,h,λx Y Z=>by omega]
  .intro qz;let(e,Y,Z,_):=qz
   have:e=0:=by omega
   rw[<- this];exact Z
 |d+1=>by
  erw[pr,θ,Â,Ċ];rw[Ft];constructor
  .rintro (h | ⟨⟨e,Y,Z,X⟩,V⟩)
   .exact#[_,ahz _,h,λx Y Z=>by omega]
   .refine#[e,by omega,Z,λx W U=>?_]
    by_cases T:x=d+1
    .rw[T];exact V
    .exact X x W ⋯
  .intro qz;let(e,Y,Z,X):=qz
   by_cases S:e=d+1
   .left;rw[<- S];exact Z
   .right
    exact#[#[e,by omega,Z,λx W U=>X x W ⋯],X _ ⋯ (ahz _)]
section
variable (N:Az s l m)
include N
end
end
theorem OB:∀{ns},rise ns=ό->ns.Pairwise (· < ·)
 | [],_=>.nil
 | [a],_=>by simp
 |a::b::r,h=>by
  erw[rise,Â,Å] at h;have ih:=OB h.2;refine ö.mpr #[λx hx=>?_,ih]
  rcases Ô.mp hx with rfl|hx
  .exact h.1
  .have:=(ö.mp ih).1 x hx
   omega
def tJ (h:fZ ns=ό):fm 8 ns:=by
 delta fZ at h;rw[Â,Þ] at h;refine#[λx Z=>?_,OB h.2];have:=h.1 x Z;delta markB at this;erw[Â,Å] at this;exact this
def zP (h:fm n ns) (hn:n<=8):fZ ns=ό:=by
 delta fZ;rw[Â,Þ];refine#[λx Z=>?_,aas h.up];have:=h.lo x Z;delta markB;erw[Â,Å];omega
theorem fm.filter (h:fm n ns) (p):fm n (ns.filter p):=#[λx Z=>h.lo x (ÿ.mp Z).1,h.up.filter p]
def Xo (hm:0<=m/\m<4) (hd:0<=d/\d<31) (hk:0<=k/\k<8):cN (.cu m d k)=ό:=by
 erw[cN,iz,gZ,markB,Â,Å];omega
def Xp (hm:0<=m/\m<4) (hd:0<=d/\d<31) (h1:fm n h) (h2:fm n l) (hn:n<=8) (ha:∀x∈h,x∉l):cN (.made m d h l)=ό:=by
 erw[cN,iz,gZ,Â,Å,jB,Ċ,ť];exact#[#[hm,hd],zP h1 hn,zP h2 hn,ha]
def Dy (h:cN p=ό):lq p:=by
 cases p with
 |made m d Z l =>
  erw[cN,Â] at h;exact#[by have:=(tJ h.2.1).len;omega,by have:=(tJ h.2.2.1).len;omega]
 |cu m d k=>trivial
theorem OC:∀{ps},ps.Pairwise (λa b=>cz.lt a b=ό)->Bm ps=ό
 | [],_=>rfl
 | [a],_=>rfl
 |a::b::r,h=>by
  let(Z,Y):=ö.mp h;have ih:=OC Y;delta Bm at ih |-;erw[List.drop_succ_cons,List.drop_zero,ş,List.all_cons,Â] at ih |-;exact#[Z b Ö,ih]
def Y6 (h:ps.Nodup):(ST.dF cz ps).Pairwise λa b=>cz.lt a b=ό:=by
 have Y:=ST.wF (O:=cz) ps;have X:(ST.dF cz ps).Nodup:=(ST.kM ps).nodup_iff.mpr h;refine(Y.and X).imp λ{a b} Z=>?_
 cases W:cz.lt a b with
 |true=>rfl
 |false=>exact(Z.2 (cz.zb a b W Z.1)).elim
def Wp.aer (h:Wp (fa env s) λds s=>∃x y z,ds=[x,y,z]/\QF (.nx (((env.set i (ϊ x)).set j (ϊ y)).set k (ϊ z))) s):Wp (vm i j k fa env s) QF:=by
 refine Wp.ai (h.mono λds s ⟨x,y,z,e,q⟩=>?_);subst e;exact Wp.ok q
structure Laid (ps:List Pg):Prop where
 pg:∀p∈ps,cN p=ό
 up:ps.Pairwise λa b=>cz.lt a b=ό
theorem Laid.kj (h:Laid ps) (hl:ps.length<=24):kj ps=ό:=by
 delta DI.kj;rw[Ã hl,Þ.mpr h.pg,OC h.up];rfl
def Laid.sub (h:Laid ps) (hs:qs.Sublist ps):Laid qs:=#[λp Z=>h.pg p (hs.subset Z),h.up.sublist hs]
section
variable (ps:List Pg) (m k:Int)
def sN (d:Nat):Bool:=ώ ((d:Int)∈shown ps m k)
def lN (d:Nat):Bool:=ώ ((d:Int)∈eY ps m k)
def mN (d:Nat):Bool:=ώ ((d:Int)∈cM ps m k)
def iq:List Int:=((ä 31).filter λd=>pr (sN ps m k) (mN ps m k) d).map λd:Nat=>(d)
def gQ:List Int:=((ä 31).filter λn=>ab (lN ps m k) (mN ps m k) (30-n)).map λn=>((30-n:Nat))
end
def aav (h:cX ps=ό) (hm:0<=m/\m<4) (hk:0<=k/\k<8):Az (sN ps m k) (lN ps m k) (mN ps m k):=by
 intro d e Y T S Z;erw[sN,lN,mN,Å] at Y Z;have c:=Y5 h hm hk Y (l:=(e)) ⋯ ⋯;delta sS at c;have X:(ώ ((e:Int)∈eY ps m k)||(ώ ((e)=(d:Int))&&ώ ((d:Int)∈cM ps m k)))=ό:=by
  rcases Z with Z | ⟨R,W⟩
  .rw[Ã Z];rfl
  .rw[Ã (show (e:Int)=d by omega),Ã W];simp
 rw[X,ĵ,Bool.not_eq_false'] at c;let(x,V,U):=aga.mp c;erw[Â,Å] at U;refine#[x.toNat,by omega,by omega,?_];erw[mN,Å];rw[show ((x.toNat))=x by omega];exact V
def OD {d:Nat} (h:d<=30):ώ ((d:Int)∈iq ps m k)=pr (sN ps m k) (mN ps m k) d:=by
 have:(d:Int)∈iq ps m k↔pr (sN ps m k) (mN ps m k) d=ό:=by
  delta iq;rw[ï];constructor
  .rintro ⟨e,Y,X⟩
   have:e=d:=by omega
   rw[<- this];exact(ÿ.mp Y).2
  .intro Z
   exact#[d,ÿ.mpr #[î.mpr ⋯,Z],rfl]
 cases Z:pr _ _ d with
 |true=>exact Ã (this.mpr Z)
 |false=>exact Î λz=>by rw[this.mp z] at Z;cases Z
def OE {d:Nat} (h:d<=30):ώ ((d:Int)∈gQ ps m k)=ab (lN ps m k) (mN ps m k) d:=by
 have:(d:Int)∈gQ ps m k↔ab (lN ps m k) (mN ps m k) d=ό:=by
  delta gQ;rw[ï];constructor
  .rintro ⟨e,Y,W⟩
   let(V,X):=ÿ.mp Y;have:30-e=d:=by omega
   rw[<- this];exact X
  .intro Z
   exact#[30-d,ÿ.mpr #[î.mpr ⋯,by rw[show 30-(30-d)=d by omega];exact Z],by omega]
 cases Z:ab _ _ d with
 |true=>exact Ã (this.mpr Z)
 |false=>exact Î λz=>by rw[this.mp z] at Z;cases Z
def OF {s:ag} {ns:List Int} {x} (hn:ns.length<1000):jJ (.aj s.length) (s++[.lst (ns.map D.int)])=ό/\mB (.aj s.length) (.int x) (s++[.lst (ns.map D.int)])=ok .ax (s++[.lst ((ns++[x]).map D.int)]):=by
 have e:(s++[Cell.lst (ns.map D.int)])[s.length]?=ϊ (.lst (ns.map D.int)):=by simp
 refine#[by erw[jJ,e],?_];delta mB;erw[e];rw[Ù (by rw[Å,Æ];exact È hn (le_size (by decide)))];simp[agU]
def OG {s:ag} {ns}:bx (.aj s.length) (s++[.lst (ns.map D.int)])=ok (lI ns) (s++[.dead]):=by
 have e:(s++[Cell.lst (ns.map D.int)])[s.length]?=ϊ (.lst (ns.map D.int)):=by simp
 erw[bx,e];simp[agU]
def zQ {f:Nat->Int} {i}:((ä (i+1)).filter p).map f=((ä i).filter p).map f++(if p i=ό then [f i] else []):=by
 rw[ξ,List.filter_append]
 cases h:p i<;>simp[h]
def tQ {f:Nat->Int} {i}:(((ä i).filter p).map f).length<=i:=by
 rw[Æ];exact Ø (Ľ ..) (by rw[List.length_range];exact ahz _)
def pv (s m:Nat->Bool):Nat->Bool
 |0=>ύ
 |i+1=>pr s m i
def V9 (hl:ps.length<=1000):zw [bD ps,.int m,.int k] s=ok (lI (iq ps m k)) (s++[.dead]):=by
 refine ahx ?_;delta zw;simp only[VC];refine ahw (Ay hl).1 ?_;refine ahw (EM hl) ?_
 try simp only[VC]
 refine#[by decide,?_];refine ahw (fP (n:=31) rfl (by decide)) ?_;refine Wp.iZ (λi env Y=>i<=31->∃Z,env=[ϊ (bD ps),ϊ (.int m),ϊ (.int k),ϊ (lI (shown ps m k)),ϊ (lI (cM ps m k)),ϊ (.aj s.length),ϊ (.bl (pv (sN ps m k) (mN ps m k) i)),Z]/\Y=s++[.lst ((((ä i).filter λd=>pr (sN ps m k) (mN ps m k) d).map λd:Nat=>(d:Int)).map D.int)]) _ (λ_=>#[_,rfl,rfl]) (λi d env Y W V=>?_) (λenv Y V=>?_)
 .rw[je] at W
  split at W
  .rename_i hi
   cases W;let(Z,rfl,rfl):=V ⋯;refine#[_,rfl,?_];have U:(0:Int)+(i:Int)=i:=by omega
   have key:(ώ ((i:Int)∈shown ps m k)||(pv (sN ps m k) (mN ps m k) i&&!ώ ((i:Int)∈cM ps m k)))=pr (sN ps m k) (mN ps m k) i:=by
    cases i with
    |zero=>simp[pv,pr,sN]
    |succ i=>rfl
   have fin:∀c:Bool,c=pr (sN ps m k) (mN ps m k) i->if c=ό then jJ (.aj s.length) (s++[.lst ((((ä i).filter λd=>pr (sN ps m k) (mN ps m k) d).map λd:Nat=>(d:Int)).map D.int)])=ό/\Wp (mB (.aj s.length) (.int (0+(i:Int))) (s++[.lst ((((ä i).filter λd=>pr (sN ps m k) (mN ps m k) d).map λd:Nat=>(d:Int)).map D.int)])) λx Y=>i+1<=31->∃Z,([ϊ (bD ps),ϊ (.int m),ϊ (.int k),ϊ (lI (shown ps m k)),ϊ (lI (cM ps m k)),ϊ (.aj s.length),ϊ (.bl c),ϊ (.int (0+(i:Int)))]:Env)=[ϊ (bD ps),ϊ (.int m),ϊ (.int k),ϊ (lI (shown ps m k)),ϊ (lI (cM ps m k)),ϊ (.aj s.length),ϊ (.bl (pv (sN ps m k) (mN ps m k) (i+1))),Z]/\Y=s++[.lst ((((ä (i+1)).filter λd=>pr (sN ps m k) (mN ps m k) d).map λd:Nat=>(d:Int)).map D.int)]
     else i+1<=31->∃Z,([ϊ (bD ps),ϊ (.int m),ϊ (.int k),ϊ (lI (shown ps m k)),ϊ (lI (cM ps m k)),ϊ (.aj s.length),ϊ (.bl c),ϊ (.int (0+(i:Int)))]:Env)=[ϊ (bD ps),ϊ (.int m),ϊ (.int k),ϊ (lI (shown ps m k)),ϊ (lI (cM ps m k)),ϊ (.aj s.length),ϊ (.bl (pv (sN ps m k) (mN ps m k) (i+1))),Z]/\s++[.lst ((((ä i).filter λd=>pr (sN ps m k) (mN ps m k) d).map λd:Nat=>(d:Int)).map D.int)]=s++[.lst ((((ä (i+1)).filter λd=>pr (sN ps m k) (mN ps m k) d).map λd:Nat=>(d:Int)).map D.int)]:=λc T=>by
    rw[zQ];have R:pv (sN ps m k) (mN ps m k) (i+1)=c:=T.symm;rw[R,<- T]
    cases c with
    |true =>
     rw[Ù rfl];let(Q,P):=OF (s:=s) (ns:=((ä i).filter λd=>pr (sN ps m k) (mN ps m k) d).map λd:Nat=>(d:Int)) (x:=0+(i:Int)) (Ş tQ ⋯);exact#[Q,ahw P λ_=>#[_,rfl,by rw[U];rfl]]
    |false =>
     rw[é Ú];exact λ_=>#[_,rfl,by simp]
   simp only[VC,uV,U];rw[U] at fin;by_cases X:(i:Int)∈shown ps m k
   .erw[X,ĥ,ú]
    exact fin ό (by rw[<- key,Ã X];rfl)
   .erw[X,decide_false,Ê,ô]
    cases S:pv (sN ps m k) (mN ps m k) i with
    |false =>
     simp only[VC,Ê,ô];exact fin ύ (by rw[<- key,Î X,S];rfl)
    |true =>
     simp only[VC,ú,Aa];exact fin _ (by rw[<- key,Î X,S];rfl)
  .cases W
 .rw[jZ] at V
  let(Z,rfl,rfl):=V (ahz _);simp only[VC];exact ahw OG #[rfl,rfl]
noncomputable def downs:List D:=(ä 31).map λn=>D.int ((30-n:Nat))
def acG:IA (af (eC (.int 31)) ah) env s=ok downs s:=by
 have:(eT 0 31).reverse=downs:=by rfl
 rfl
def MB:downs[i]?=if i<31 then ϊ (.int ((30-i:Nat))) else ϋ:=by
 delta downs;rw[à];by_cases h:i<31
 .rw[Ù h,ķ h];rfl
 .rw[é h,ě (by simpa using h)];rfl
abbrev iS (ps:List Pg) (m k:Int) (i:Nat):List Int:=((ä i).filter λn=>ab (lN ps m k) (mN ps m k) (30-n)).map λn=>((30-n:Nat))
def Xq (hl:ps.length<=1000):zy [bD ps,.int m,.int k] s=ok (lI (gQ ps m k)) (s++[.dead]):=by
 refine ahx ?_;delta zy;simp only[VC];refine ahw (Ay hl).2 ?_;refine ahw (EM hl) ?_
 try simp only[VC]
 refine#[by decide,?_];refine ahw acG ?_;refine Wp.iZ (λi env Z=>i<=31->∃W,env=[ϊ (bD ps),ϊ (.int m),ϊ (.int k),ϊ (lI (eY ps m k)),ϊ (lI (cM ps m k)),ϊ (.aj s.length),ϊ (.bl (hZ (lN ps m k) (mN ps m k) i)),W]/\Z=s++[.lst ((iS ps m k i).map D.int)]) _ (λ_=>#[_,rfl,rfl]) (λi d env Z X U=>?_) (λenv Z U=>?_)
 .rw[MB] at X
  split at X
  .rename_i hi
   cases X;let(W,rfl,rfl):=U ⋯;refine#[_,rfl,?_];generalize X:((30-i:Nat):Int)=d;have L:ab (lN ps m k) (mN ps m k) (30-i)=(hZ (lN ps m k) (mN ps m k) i||(ώ (d∈eY ps m k)||ώ (d∈cM ps m k))):=by
    delta ab br lN mN;rw[show 31-(30-i+1)=i by omega,X]
   have K:hZ (lN ps m k) (mN ps m k) (i+1)=((hZ (lN ps m k) (mN ps m k) i||ώ (d∈eY ps m k))&&!ώ (d∈cM ps m k)):=by
    show ((hZ _ _ i||lN ps m k (30-i))&&!mN ps m k (30-i))=_;delta lN mN;rw[X]
   have sec:∀Y,Y=s++[.lst ((iS ps m k (i+1)).map D.int)]->Wp (aT (dj (i6 (aa 6) (e2 cy (aa 7) (aa 3))) (e2 fN (aa 7) (aa 4))) (gN 6) [ϊ (bD ps),ϊ (.int m),ϊ (.int k),ϊ (lI (eY ps m k)),ϊ (lI (cM ps m k)),ϊ (.aj s.length),ϊ (.bl (hZ (lN ps m k) (mN ps m k) i)),ϊ (.int d)] Y) λT Z=>match T with
     | .nx env=>i+1<=31->∃W,env=[ϊ (bD ps),ϊ (.int m),ϊ (.int k),ϊ (lI (eY ps m k)),ϊ (lI (cM ps m k)),ϊ (.aj s.length),ϊ (.bl (hZ (lN ps m k) (mN ps m k) (i+1))),W]/\Z=s++[.lst ((iS ps m k (i+1)).map D.int)]
     | .ct env=>i+1<=31->∃W,env=[ϊ (bD ps),ϊ (.int m),ϊ (.int k),ϊ (lI (eY ps m k)),ϊ (lI (cM ps m k)),ϊ (.aj s.length),ϊ (.bl (hZ (lN ps m k) (mN ps m k) (i+1))),W]/\Z=s++[.lst ((iS ps m k (i+1)).map D.int)]
     | .bk env=>ik (aG (oQ (aa 5))) (sj λa Z=>a=lI (gQ ps m k)/\Z=s++[.dead]) (.nx env) Z
     | .rt d=>ik (aG (oQ (aa 5))) (sj λa Z=>a=lI (gQ ps m k)/\Z=s++[.dead]) (.rt d) Z:=λY S=>by
    simp only[VC,uV,Aa];rw[K]
    cases hZ (lN ps m k) (mN ps m k) i with
    |true =>
     simp only[VC,ú,Aa];exact λ_=>#[ϊ (.int d),by simp,S]
    |false =>
     erw[Ê,ô,Bool.false_or];by_cases c:d∈eY ps m k
     .simp only[VC,c,ĥ,ú,Aa]
      exact λ_=>#[ϊ (.int d),by simp,S]
     .erw[c,decide_false,Ê,ô]
      exact λ_=>#[ϊ (.int d),by simp,S]
   have P:=OF (s:=s) (ns:=iS ps m k i) (x:=d) (Ş tQ ⋯)
   have O:iS ps m k (i+1)=iS ps m k i++(if ab (lN ps m k) (mN ps m k) (30-i)=ό then [d] else []):=by
    rw[<- X];exact zQ
   have yes:ab (lN ps m k) (mN ps m k) (30-i)=ό->Wp (cj (f9 (aa 5) (aa 7)) [ϊ (bD ps),ϊ (.int m),ϊ (.int k),ϊ (lI (eY ps m k)),ϊ (lI (cM ps m k)),ϊ (.aj s.length),ϊ (.bl (hZ (lN ps m k) (mN ps m k) i)),ϊ (.int d)] (s++[.lst ((iS ps m k i).map D.int)])) λT Z=>T=.nx [ϊ (bD ps),ϊ (.int m),ϊ (.int k),ϊ (lI (eY ps m k)),ϊ (lI (cM ps m k)),ϊ (.aj s.length),ϊ (.bl (hZ (lN ps m k) (mN ps m k) i)),ϊ (.int d)]/\Z=s++[.lst ((iS ps m k (i+1)).map D.int)]:=λR=>by
    simp only[VC];refine#[P.1,ahw P.2 ?_];rw[O,R];simp
   have no:ab (lN ps m k) (mN ps m k) (30-i)=ύ->s++[Cell.lst ((iS ps m k i).map D.int)]=s++[Cell.lst ((iS ps m k (i+1)).map D.int)]:=λR=>by
    rw[O,R];simp
   have go:∀{c:Bool},c=ab (lN ps m k) (mN ps m k) (30-i)->∀{Q:Fl->ag->Prop},(∀Y,Y=s++[.lst ((iS ps m k (i+1)).map D.int)]->Q (.nx [ϊ (bD ps),ϊ (.int m),ϊ (.int k),ϊ (lI (eY ps m k)),ϊ (lI (cM ps m k)),ϊ (.aj s.length),ϊ (.bl (hZ (lN ps m k) (mN ps m k) i)),ϊ (.int d)]) Y)->if c=ό then Wp (cj (f9 (aa 5) (aa 7)) [ϊ (bD ps),ϊ (.int m),ϊ (.int k),ϊ (lI (eY ps m k)),ϊ (lI (cM ps m k)),ϊ (.aj s.length),ϊ (.bl (hZ (lN ps m k) (mN ps m k) i)),ϊ (.int d)] (s++[.lst ((iS ps m k i).map D.int)])) Q else Wp (bE [ϊ (bD ps),ϊ (.int m),ϊ (.int k),ϊ (lI (eY ps m k)),ϊ (lI (cM ps m k)),ϊ (.aj s.length),ϊ (.bl (hZ (lN ps m k) (mN ps m k) i)),ϊ (.int d)] (s++[.lst ((iS ps m k i).map D.int)])) Q:=λ{c} N {Q} q=>by
    cases c with
    |true =>
     rw[Ù rfl];exact(yes N.symm).mono λT Y ⟨e1,e2⟩=>by subst e1;exact q Y e2
    |false =>
     rw[é Ú,fq];exact q _ (no N.symm)
   rw[pM,jz];erw[nq,pV,aM,aZ,lW,eX,bJ,uV,bz,cG,ē,Ĕ];rw[L] at go
   cases M:hZ (lN ps m k) (mN ps m k) i with
   |true =>
    erw[ú];rw[M] at go sec;exact go (c:=ό) rfl λY V=>sec Y V
   |false =>
    erw[Ê,ô];rw[M] at go sec;by_cases c:d∈eY ps m k
    .erw[c,ĥ,ú]
     exact go (c:=ό) (by simp[c]) λY V=>sec Y V
    .erw[c,decide_false,Ê,ô]
     exact go (by simp[c]) λY V=>sec Y V
  .cases X
 .rw[show downs.length=31 from rfl] at U
  let(W,rfl,rfl):=U (ahz _);simp only[VC];exact ahw OG #[rfl,rfl]
def sU (F:Int->List Int):D:=.lst (k8.map λk=>lI (F k))
def acH (h:0<=k/\k<8):au (sU F) (.int k) s=ok (lI (F k)) s:=by
 let(x,e1,e2):=oA (xs:=k8.map λk=>lI (F k)) h.1 (by exact h.2);have:=by
  rw[à] at e2;have e3:k8[k.toNat]?=ϊ k:=by
   delta k8;rw[à,ķ ⋯];simp;omega
  rw[e3] at e2;exact(ahA e2).symm
 subst this;erw[au,jU,res,sU,e1,bY]
def ai0:eT 0 8=k8.map D.int:=rfl
def Q9:wt [sU F,.int d] s=ok (mD (k8.filter λk=>ώ (d∈F k))) s:=by
 refine ahx ?_;delta wt;simp only[VC];refine ahw (fP rfl (by decide)) #[by exact le_size (by decide),?_];refine ahw (tO (λk=>ώ (d∈F k)) (λk=>.int k) k8 λk Z=>#[[ϊ _,ϊ _,ϊ (sU F)],rfl,?_,λ_=>rfl]) ?_
 .refine ahx ?_
  simp only[VC];refine ahw (acH (rm.mp Z)) ?_;simp only[VC,uV,ğ]
 .exact ahw (rfl) #[rfl,rfl]
noncomputable def kJ:List Int:=(ä 31).map λi:Nat=>(i)
def aiT:eT 0 31=kJ.map D.int:=by delta kJ;rw[Ox,Ĝ];congr 1;funext i;simp
def kY (P A:Int->List Int) (d:Int):D:=.tup [mD (k8.filter λk=>ώ (d∈P k)),mD (k8.filter λk=>ώ (d∈A k))]
def OH (hf:∀k s,fn [b,.int mu,.int k] s=ok (lI (F k)) (s++[.dead])) (e0:env[0]?=ϊ (ϊ b)) (e1:env[1]?=ϊ (ϊ (.int mu))) (q:∀c,Q (sU F) (s++c)) :
  Wp (ck 1 [0,1] (dI (af (eC (.int (8))) ah)) (gN 0) cL (aC fn (af (aa 1) (af (aa 2) (af (aa 0) ah)))) env s) Q:=by
 rw[iu];refine ahw (fP rfl (by decide)) #[by exact le_size (by decide),?_];have V:mj [0,1] env=[ϊ b,ϊ (.int mu)]:=by simp[mj,e0,e1]
 rw[V];refine Ax (λi Z X=>i<=8->Z=((ä i).map λi:Nat=>(i:Int)).map (λk=>lI (F k))/\∃c,X=s++c) (eT 0 8) (λ_=>#[rfl,[],by simp]) (λi d Z X Y W=>?_) λZ X W=>?_
 .rw[je] at Y
  split at Y
  .cases Y
   let(rfl,c,rfl):=W ⋯;refine#[_,rfl,?_];refine ahw (rfl) ?_;simp only[VC];refine ahw (hf _ _) λ_=>#[?_,c++[.dead],by simp];rw[ξ,Ď];simp
  .cases Y
 .let(rfl,c,rfl):=W (ahz _)
  exact q c
def OI (hl:ps.length<=1000):Wp (tu [bD ps,.int m] s) λd s'=>d=.lst (kJ.map (kY (iq ps m) (gQ ps m)))/\∃c,s'=s++c:=by
 delta tu;rw[c8];refine#[rfl,?_];rw[pM,cZ];refine OH (λk s=>V9 hl) rfl rfl λc=>?_;erw[eJ,Û,ĳ,Č,ġ,Ó,Nat.reduceSub,ē,Ĕ,cP];rw[pM,cZ];refine OH (λk s=>Xq hl) rfl rfl λZ=>?_;erw[eJ,ē,Ĕ,cP,cA,iu,kS];refine ahw (fP rfl (by decide)) #[by exact le_size (by decide),?_];refine ahw (tO (λ_=>ό) (kY (iq ps m) (gQ ps m)) kJ λd Y=>#[[ϊ _,ϊ (sU _),ϊ (sU _)],rfl,rfl,λ_=>?_]) ?_
 .refine ahx ?_
  simp only[VC];refine ahw Q9 ?_;refine ahw Q9 ?_;exact#[by decide,rfl,rfl]
 .exact#[rfl,c++Z,by simp]
noncomputable abbrev jD (F:Nat->Bool):Cell:=.lst ((ä 32).map λd=>D.bl (F d))
def aaw {n:Nat} {f:Nat->α} {d:Int} (h0:0<=d) (h1:d<n):dw ((ä n).map f) d=ϊ (f d.toNat):=by
 let(x,e1,e2):=oA (xs:=(ä n).map f) h0 (by simpa using h1);rw[à,ķ ⋯] at e2;rw[e1];exact e2.symm
section
variable (b:Nat->Bool)
noncomputable def fW (n:Nat):Bool:=ώ (0<n)&&b (n-1)
def bH:Nat->List (Nat×Nat)
 |0=>[]
 |n+1=>if (b n&&fW b n)=ό then (bH n).dropLast++[(((bH n).getLast?.getD (0,0)).1,n)] else if b n=ό then bH n++[(n,n)] else bH n
noncomputable def yr:Nat->Nat->Nat
 |0,e=>e
 |f+1,e=>if b (e+1)=ό then yr f (e+1) else e
def kK (n:Nat):Bool:=b n&&!fW b n
def Hn (f n:Nat):List (Nat×Nat):=((ä n).filter (kK b)).map λd=>(d,yr b f d)
variable {b}
theorem OJ:∀{f d e},d<=e->(∀x,d<x->x<=e->b x=ό)->b (e+1)=ύ->e-d<f->yr b f d=e
 |0,_,_,_,_,_,h=>by omega
 |f+1,d,e,W,Z,Y,V=>by
  delta yr;by_cases h:d=e
  .subst h
   rw[Y];simp
  .rw[Ù (Z _ ⋯ ⋯)]
   exact OJ ⋯ (λx U X=>Z x ⋯ X) Y ⋯
def Told (b:Nat->Bool) (f n:Nat):Prop :=
 (fW b n=ύ/\bH b n=Hn b f n)\/(fW b n=ό/\∃S d,(ä n).filter (kK b)=S++[d]/\d<n/\(∀x,d<=x->x<n->b x=ό)/\bH b n=(S.map λd=>(d,yr b f d))++[(d,n-1)])
theorem Ra (f):∀n,n<=f->Told b f n
 |0,_=>.inl #[rfl,rfl]
 |n+1,N=>by
  have Y:(ä (n+1)).filter (kK b)=(ä n).filter (kK b)++if kK b n=ό then [n] else []:=by
   rw[ξ]
   by_cases h:kK b n=ό<;>simp[ř,h]
  have W:fW b (n+1)=b n:=by simp[fW]
  rcases Ra f n ⋯ with ⟨X,h⟩ | ⟨X,S,d,U,M,T,R⟩
  .cases Z:b n with
   |false =>
    refine .inl #[by rw[W,Z],?_];erw[bH,Z,agQ,Ê,ô,h];delta Hn;rw[Y,show kK b n=ύ by simp[kK,Z]];simp
   |true =>
    refine .inr #[by rw[W,Z],(ä n).filter (kK b),n,?_,by omega,λx V Q=>?_,?_]
    .rw[Y,show kK b n=ό by simp[kK,Z,X]]
     simp
    .rw[show x=n by omega];exact Z
    .erw[bH,Z,X,Bool.and_false,Ê,ô,ú,h]
     rfl
  .have P:kK b n=ύ:=by simp[kK,X]
   rw[P] at Y;erw[Ê,ô,ð] at Y
   cases Z:b n with
   |false =>
    refine .inl #[by rw[W,Z],?_];erw[bH,Z,agQ,Ê,ô,R];delta Hn;rw[Y,U,Ď];erw[Û,ĳ];rw[OJ (e:=n-1) ⋯ (λx V Q=>T x ⋯ ⋯) (by rw[show n-1+1=n by omega];exact Z) ⋯]
   |true =>
    refine .inr #[by rw[W,Z],S,d,by rw[Y,U],by omega,λx V Q=>?_,?_]
    .by_cases O:x=n
     .rw[O];exact Z
     .exact T x V ⋯
    .erw[bH,Z,X,Ğ,ú,R]
     simp
end
noncomputable abbrev sg (x:Str):List Nat:=x.cps.toList
def EN (h:sg x=sg y):x=y:=Str.ext' (Array.toList_inj.mp h)
def rn (x y):sg (x++y)=sg x++sg y:=by show (x.cps++y.cps).toList=_;simp
def rp (x):x.length=(sg x).length:=by show x.cps.size=_;simp
noncomputable def jl (c:Nat):List (List Nat)->List Nat
 | []=>[]
 | [x]=>x
 |x::y::r=>x++c::jl c (y::r)
theorem wW (c):∀zs,sg (Ĳ #[#v[c]] zs)=jl c (zs.map sg)
 | []=>rfl
 | [x]=>rfl
 |x::y::r=>by
  show sg (x++#[_]++Ĳ _ _)=_;rw[rn,rn,wW c _,Đ];rfl
theorem PZ:∀{ps qs},ps≠[]->qs≠[]->(∀p∈ps,c∉p)->(∀q∈qs,c∉q)->jl c ps=jl c qs->ps=qs
 | [],_,h,_,_,_,_=>absurd rfl h
 |_::_,[],_,h,_,_,_=>absurd rfl h
 | [p],[q],_,_,_,_,e=>by rw[show p=q from e]
 | [p],q::S::r,_,_,Z,_,e=>by
  exfalso;have:c∈p:=by rw[show p=q++c::jl c _ from e];simp
  exact Z p ∅ this
 |p::R::r,[q],_,_,_,Y,e=>by
  exfalso;have:c∈q:=by rw[<- show p++c::jl c _=q from e];simp
  exact Y q ∅ this
 |p::R::r,q::S::Q,_,_,Z,Y,e=>by
  have key:∀{a b u v},c∉a->c∉b->a++c::u=b++c::v->a=b/\u=v:=by
   intro a
   induction a with
   |nil =>
    intro b u v _ X h
    cases b with
    |nil=>exact#[rfl,by simpa using h]
    |cons y b=>simp at h;exact absurd (by simp[<- h.1]) X
   |cons x a ih =>
    intro b u v T X h
    cases b with
    |nil=>simp at h;exact absurd (by simp[h.1]) T
    |cons y b =>
     erw[Č,Ō] at h;let(W,V):=ih (λz=>T (Ë _ z)) (λz=>X (Ë _ z)) h.2;exact#[by rw[h.1,W],V]
  let(W,V):=key (Z p ∅) (Y q ∅) e;rw[W,PZ ∅ ∅ (λx U=>Z x (Ë _ U)) (λx U=>Y x (Ë _ U)) V]
def Wa {a b:List Str} (h:a.map sg=b.map sg):a=b:=(List.map_inj_right λx y e=>EN e).mp h
def wI {zs} (hn:zs≠[]) (hz:∀z∈zs,c∉sg z):ļ (Ĳ #[#v[c]] zs) #[#v[c]]=zs:=by
 refine Wa (PZ (c:=c) ?_ (by simpa using hn) (λp Z=>?_) (λp Z=>?_) ?_)
 .intro e
  have:=PyProof.Rows.split_pos (Ĳ #[#v[c]] zs) #[#v[c]];rw[ahf] at e;rw[e] at this;simp at this
 .let(z,Y,rfl):=ï.mp Z
  exact StrLaws.split_free _ _ z Y
 .let(z,Y,rfl):=ï.mp Z
  exact hz z Y
 .rw[<- wW,<- wW,ahk]
theorem D8:∀zs,sg (Ĳ "" zs)=(zs.map sg).flatten
 | []=>rfl
 | [x]=>by show sg x=_;simp
 |x::y::r=>by
  show sg (x++""++Ĳ _ _)=_;rw[rn,rn,D8 _];simp[show sg ""=[] from rfl]
def Xr {zs} (hy:y.length<=10) (hn:zs.length<=1000) (hz:∀z∈zs,z.length<=1000):JoinOk y zs=ό:=by
 delta JoinOk Builtin.Str.tooLong;rw[StrLaws.joinTotal];have Z:∀{zs:List Str},(∀z∈zs,z.length<=1000)->(zs.map (·.length)).sum<=zs.length*1000:=by
  intro zs
  induction zs with
  |nil=>simp
  |cons z r ih =>
   intro h;have a:=h z ∅;have b:=ih λx Y=>h x (Ë _ Y);erw[Û,List.sum_cons,å];omega
 have Z:=Z hz;have X:=Nat.mul_le_mul hn hy;have W:=ε;erw[Ċ,decide_eq_false_iff_not];omega
def acI:(!(ŏ "0123456789" #[#v[c]] 0 (Str.length "0123456789") 1).isEmpty)=ώ (48<=c/\c<=57):=by
 rw[StrLaws.found_one];rw[Ī];erw[Å];have e:sg "0123456789"=[48,49,50,51,52,53,54,55,56,57]:=nofun
 show c∈sg _↔_;rw[e];erw[Ô,õ,or_false];omega
noncomputable def brk (l:List Int):List Int:=((ä (l.length-1)).filter λi=>l.getD (i+1) 0==l.getD i 0).map λi:Nat=>1+(i)
def acJ (h):au (.lst xs) (.int (-1)) s=ok (xs.getLast h) s:=by
 have e:dw xs (-1)=ϊ (xs.getLast h):=by
  conv=>lhs;rw[<- List.dropLast_concat_getLast h]
  exact XU ..
 delta au jU;rw[show res _ s=.lst xs from rfl];erw[e];rfl
def aax {c:ag} {ds}:bx (.aj c.length) (c++[.lst ds])=ok (.lst ds) (c++[.dead]):=by
 delta bx;have e:(c++[Cell.lst ds])[c.length]?=ϊ (.lst ds):=by simp
 erw[e];simp
def afX (h:xs.length+ys.length<=1000000):cm (.lst xs) (.lst ys) s=ok (.lst (xs++ys)) s:=by
 have e:By (.lst xs) (.lst ys)=ϊ (.lst (xs++ys)):=by
  show (if qc xs ys=ό then ϊ _ else ϋ)=_
  have Z:qc xs ys=ό:=Ã (le_size h);rw[Ù Z]
 show bY (By (.lst xs) (.lst ys)) s=_;rw[e];rfl
def Ex.get (h:Ex k s s') (e:s[j]?=ϊ c) (hj:j≠k):s'[j]?=ϊ c:=by
 rw[h.val j (Ç.mp e).1 hj];exact e
theorem Ex.hi (h:Ex k s s') (hj:s.length<=j) (c):Ex k s (s'.set j c):=#[by rw[ù];exact h.len,λi hi Z=>by rw[ç ⋯];exact h.val i hi Z]
def fm.Te (h:fm n l) (hn:n<=8):fm 8 l:=#[λx Z=>by have:=h.lo x Z;omega,h.up]
def ne_str:cp (.str x) (.str x) s=ok (.bl ύ) s:=by
 show (match iG (.str x) (.str x) with|some b=>ok (D.bl _) s|none=>ϋ)=_
 have e:iG (.str x) (.str x)=ϊ ό:=by
  delta iG;rw[Ù (show (nS _&&nS _)=ό from rfl)];simp[beq]
 rw[e];rfl
open DI.cx
section
variable {s:ag} {l:List Int} {i:Int} {env:Env}
noncomputable abbrev num (i:Int):Str:=ģ (toString i)
def MC (h0:0<=i) (h1:i<1000):i.natAbs.log2<1920:=Ş (Nat.log2_le_self _) ⋯
def xt (h0:0<=i) (h1:i<1000):lh [.int i] s=ok (.str (num i)) s:=by
 show (if ώ _=ό then ok _ s else ϋ)=_
 rw[Ù (Ã (MC h0 h1))]
def aes:∀n:Fin 10,num (n.val)=#[#v[48+n.val]]:=nofun
def Ny (h0:0<=i) (h1:i<10):num i=#[#v[48+i.toNat]]:=by
 let(n,rfl):=Ų h0;exact aes #[n,by omega]
noncomputable def pA (l:List Int):Str:=#[(l.map λi=>48+i.toNat).toArray]
def cO (l:List Int):Str:=if l=[] then "-" else pA l
def xu:sg (pA l)=l.map λi=>48+i.toNat:=by delta pA;simp
def Y7 (h:∀i∈l,0<=i/\i<10):Ĳ "" (l.map num)=pA l:=by
 refine EN ?_;rw[D8]
 induction l with
 |nil=>rfl
 |cons i r ih =>
  have hi:=h i ∅;rw[Û,Û,agJ,ih λj Z=>h j (Ë _ Z),Ny hi.1 hi.2];rfl
theorem strs_map:∀zs,strs? (zs.map D.str)=ϊ zs
 | []=>rfl
 |z::zs=>by show (strs? _).map _=_;rw[strs_map zs];rfl
def Gq (hy:y.length<=10) (hn:zs.length<=1000) (hz:∀z∈zs,z.length<=1000):kg y (.lst (zs.map D.str)) s=ok (.str (Ĳ y zs)) s:=by
 delta kg;rw[show res _ s=.lst _ from rfl];dsimp only;rw[strs_map];dsimp only;rw[Ù (Xr hy hn hz)]
def A1 (e:f env s=ok (.str y) s):Wp (hW m f g env s) Q=Wp (g env s) λx s=>Wp (m y x s) Q:=by
 delta hW;rw[e,de,bO]
def OK (he:cB (aa 0) ea s=ok (l.map D.int) s) (hl:l.length<=100) (h:∀i∈l,0<=i/\i<10):hW kg (eC (.str "")) (ck 1 [] (cB (aa 0)) (gN 0) cL (eB lh (af (aa 0) ah))) ea s=ok (.str (pA l)) s:=by
 refine ahx ?_;rw[A1 rfl,iu];refine ahw he #[le_size (by rw[Æ];omega),?_];refine ahw (comp_map _ (λ_=>ό) (λi=>D.str (num i)) l λi hi=>#[_,rfl,rfl,λ_=>ahx ?_]) ?_
 .have:=h i hi
  exact ahw (xt this.1 ⋯) #[rfl,rfl]
 rw[Ĺ.mpr (λ_ _=>rfl),show (l.map λi=>D.str _)=(l.map num).map _ by rw[Ĝ];rfl];refine ahw (Gq (by decide) (by rw[Æ];omega) λz Z=>?_) ?_
 .let(i,hi,rfl):=ï.mp Z
  have:=h i hi;rw[Ny this.1 this.2];show 1<=1000;decide
 rw[Y7 h];exact#[rfl,rfl]
def EO:(pA l).length=l.length:=by rw[rp,xu,Æ]
def Nz (hl:l.length<=100) (h:∀i∈l,0<=i/\i<10):zE [mD l] s=ok (.str (cO l)) s:=by
 refine ahx ?_;refine c8.symm ▸ #[rfl,?_];rw[cA];have e:qk (hW kg (eC (.str "")) (ck 1 [] (cB (aa 0)) (gN 0) cL (eB lh (af (aa 0) ah)))) (eC (.str "-")) [ϊ (mD l)] s=ok (.str (cO l)) s:=by
  delta qk;rw[OK (kN rfl) hl h,de];dsimp only;rw[Ù (Ã (by rw[EO];exact le_size ⋯))]
  cases l with
  |nil=>rfl
  |cons i r=>rfl
 exact ahw e #[rfl,rfl]
def MD (hl:l.length<=100) (h:∀i∈l,0<=i/\i<10):zz [mD l] s=ok (.str (cO l)) s:=by
 refine ahx ?_;refine c8.symm ▸ #[rfl,?_];show Wp (aG _ [ϊ _] s) _;rw[cA,oz];erw[eX,bJ,iW,aU,aM];refine#[le_size (by decide),?_];refine ahw (show cp _ _ s=ok (.bl (!l.isEmpty)) s from ?_) ?_
 .delta cp iG
  rw[show res _ s=mD l from rfl,show res _ s=.tup _ from rfl,é (by exact Ú),Ù (by
   rw[show lay (mD l)=ό from pJ l];have:min (dep (mD l)) (dep (.tup []))<=100:=by have:dep (.tup [])=1:=rfl;omega
   rw[Ã this];rfl)]
  cases l<;>rfl
 erw[cG]
 cases l with
 |nil=>exact#[_,_,rfl,rfl,rfl]
 |cons i r =>
  refine ahw (OK (kN rfl) hl h) ?_;exact#[rfl,rfl]
end
section
variable {s:ag} {l h:List Int} {i:Int} {env:Env} {p:Pg} {x y:Str}
def lr (hl:x.length+y.length<=1000000):cm (.str x) (.str y) s=ok (.str (x++y)) s:=by
 show bY (if ώ _=ό then ϊ _ else ϋ) s=_
 rw[Ù (Ã (le_size hl))];rfl
def cW (x y:Str):(x++y).length=x.length+y.length:=Str.length_append x y
def pO:(cO l).length<=l.length+1:=by
 delta cO;split
 .exact Nat.le_add_left 1 _
 .rw[EO];omega
def oJ:Pg->Str
 | .made _ _ h l=>cO h++"/"++cO l
 | .cu _ _ k=>num k
def ji:Pg->Str
 | .made ..=>"made"
 | .cu ..=>"mended"
noncomputable def vq:Pg->Int
 | .made m ..=>m
 | .cu m ..=>m
def eO (p:Pg):Str:=ji p++" "++num (vq p)++" "++num p.day++" "++oJ p
def gR:Pg->Prop
 | .made m d h l=>(0<=m/\m<4)/\(0<=d/\d<31)/\fm 8 h/\fm 8 l
 | .cu m d k=>(0<=m/\m<4)/\(0<=d/\d<31)/\0<=k/\k<8
def rq (h:cN p=ό):gR p:=by
 cases p with
 |made m d a b =>
  erw[cN,iz,gZ,Â,Å] at h;exact#[h.1.1,h.1.2,tJ h.2.1,tJ h.2.2.1]
 |cu m d k =>
  erw[cN,iz,gZ,markB,Â,Å] at h;exact#[h.1.1,h.1.2,h.2]
def rz (h:fm 8 ns):∀i∈ns,0<=i/\i<10:=λi hi=>by have:=h.lo i hi;omega
def aet:∀n:Fin 31,(num (n.val)).length<=2:=nofun
def j4 (h0:0<=i) (h1:i<31):(num i).length<=2:=by
 let(n,rfl):=Ų h0;exact aet #[n,by omega]
def D9 (h:gR p):(oJ p).length<=20:=by
 cases p with
 |made m d a b =>
  have Z:=h.2.2.1.len;have Y:=h.2.2.2.len;have X:=pO (l:=a);have W:=pO (l:=b);show (cO a++"/"++cO b).length<=20;rw[cW,cW];show (cO a).length+1+(cO b).length<=20;omega
 |cu m d k=>exact Ø (j4 h.2.2.1 (by have:=h.2.2.2;omega)) (by decide)
def KQ (ha:fm 8 a) (hb:fm 8 b):we [.tup [mD a,mD b]] s=ok (.str (cO a++"/"++cO b)) s:=by
 have Z:=ha.len;have Y:=hb.len;have X:=pO (l:=a);have W:=pO (l:=b);refine ahx ?_;delta we;simp only[VC];refine ahw (Nz ⋯ (rz ha)) ?_;refine ahw (lr (show (cO a).length+1<=1000000 by omega)) ?_;refine ahw (Nz ⋯ (rz hb)) ?_;refine ahw (lr (by rw[cW];show (cO a).length+1 + _<=1000000;omega)) #[rfl,rfl]
def Mg (l:List Int):Prop:=l.length<=8/\∀i∈l,0<=i/\i<10
def uG (h:fm 8 l):Mg l:=#[h.len,rz h]
def Uc (ha:Mg a) (hb:Mg b):wb [.tup [mD a,mD b]] s=ok (.str (cO a++"/"++cO b)) s:=by
 have Z:=ha.1;have Y:=hb.1;have X:=pO (l:=a);have W:=pO (l:=b);refine ahx ?_;delta wb;simp only[VC];refine ahw (rfl) ?_;refine ahw (MD ⋯ (ha.2)) ?_;refine ahw (lr (show (cO a).length+1<=1000000 by omega)) ?_;refine ahw (rfl) ?_;refine ahw (MD ⋯ (hb.2)) ?_;refine ahw (lr (by rw[cW];show (cO a).length+1 + _<=1000000;omega)) #[rfl,rfl]
def kO (e:f env s=ok (.str y) s) (hl:acc.length+y.length<=1000000):kI (f::fs) acc env s=kI fs (acc++y) env s:=by
 show ai _ _=_;rw[e,de];dsimp only;rw[Ù (Ã (by rw[cW];exact le_size hl))]
def yt (h0:0<=i) (h1:i<1000):gr (.int i) s=ok (.str (num i)) s:=by
 show (if ώ _=ό then ok _ s else ϋ)=_
 rw[Ù (Ã (MC h0 h1))]
def R3 (hl:x.length<=1000000):gr (.str x) s=ok (.str x) s:=Ù (Ã (le_size hl))
def Ea:(ji p).length<=6:=by
 cases p
 .show Str.length "made"<=6;decide +kernel
 .show Str.length "mended"<=6;decide +kernel
def lZ (h:gR p):0<=vq p/\vq p<4:=by cases p<;>exact h.1
def l0 (h:gR p):0<=p.day/\p.day<31:=by cases p<;>exact h.2.1
def wJ (h:gR p):(eO p).length<=50:=by
 have Z:=Ea (p:=p);have Y:=j4 (lZ h).1 (by have:=(lZ h).2;omega);have X:=j4 (l0 h).1 (l0 h).2;have W:=D9 h;delta eO;erw[cW];show (ji p).length+1 + _ + 1 + _ + 1 + _<=50;omega
def ME (h:gR p):kI [e1 gr (aa 1),eC (.str " "),e1 gr (aa 2),eC (.str " "),e1 gr (aa 3),eC (.str " "),e1 gr (aa 5)] agq [a0,ϊ (.str (ji p)),ϊ (.int (vq p)),ϊ (.int p.day),a1,ϊ (.str (oJ p))] s=ok (.str (eO p)) s:=by
 have Z:=Ea (p:=p);have Y:=j4 (lZ h).1 (by have:=(lZ h).2;omega);have X:=j4 (l0 h).1 (l0 h).2;have W:=D9 h;have m:=lZ h;have d:=l0 h;rw[kO (R3 ⋯) (by show 0 + _<=_;omega),Str.empty_append];rw[kO rfl (by show _ + 1<=_;omega)];rw[kO (yt m.1 ⋯) (by rw[cW];show _ + 1 + _<=_;omega)];rw[kO rfl (by erw[cW];show _ + 1 + _ + 1<=_;omega)];rw[kO (yt d.1 ⋯) (by erw[cW];show _ + 1 + _ + 1 + _<=_;omega)];rw[kO rfl (by erw[cW];show _ + 1 + _ + 1 + _ + 1<=_;omega)];rw[kO (R3 ⋯) (by erw[cW];show _ + 1 + _ + 1 + _ + 1 + _<=_;omega)];have V:=wJ h
 show (if ώ ((eO p).length<=Õ)=ό then ok (D.str (eO p)) s else ϋ)=_
 rw[Ù (Ã (le_size ⋯))]
def Y8 (h:gR p):C3 [p.d] s=ok (.str (eO p)) s:=by
 refine ahx ?_;refine c8.symm ▸ #[rfl,ahy λR Z=>?_]
 cases p with
 |made m d a b =>
  refine ahw (show aT _ _ _ s=ok (.nx [ϊ _,ϊ _,ϊ _,ϊ _,ϊ _,ϋ]) s from rfl) ?_;subst Z;refine ahy λR Z=>?_;erw[cZ,eJ,oz,eX,bJ,aM,aZ,cf];refine ahw (rfl) ?_;erw[cG,ú,wp_call,aL,aU,aM,aZ];refine ahw (KQ h.2.2.1 h.2.2.2) ?_;rw[cP];subst Z;rw[cA];exact ahw (ME h) #[rfl,rfl]
 |cu m d k =>
  refine ahw (show aT _ _ _ s=ok (.nx [ϊ _,ϊ _,ϊ _,ϊ _,ϊ _,ϋ]) s from rfl) ?_;subst Z;refine ahy λR Z=>?_;erw[cZ,eJ,oz,eX,bJ,aM,aZ,cf];refine ahw (rfl) ?_;erw[cG,Ê,ô,ee,aL,aU,aM,aZ];refine ahw (xt h.2.2.1 (by have:=h.2.2.2;omega)) ?_;rw[cP];subst Z;rw[cA];exact ahw (ME h) #[rfl,rfl]
def aay (h:gR p):EE [p.d] s=ok (.str (eO p)) s:=by
 have S:=Ea (p:=p);have Q:=j4 (lZ h).1 (by have:=(lZ h).2;omega);have P:=j4 (l0 h).1 (l0 h).2;have O:=D9 h;have Y:=lZ h;have X:=l0 h
 have Z:au p.d (.int 0) s=ok (.str (ji p)) s:=by cases p<;>rfl
 have W:au p.d (.int 1) s=ok (.int (vq p)) s:=by cases p<;>rfl
 have V:au p.d (.int 2) s=ok (.int p.day) s:=by cases p<;>rfl
 have U:jS (aH (e2 aX (e2 au (aa 0) (eC (.int 0))) (eC (.str "made")))) (aC wb (af (e2 au (aa 0) (eC (.int 3))) ah)) (eB lh (af (e2 au (aa 0) (eC (.int 3))) ah)) [ϊ p.d,ϋ] s=ok (.str (oJ p)) s:=by
  refine ahx ?_;erw[oz,eX,bJ,aM,cf];refine ahw Z ?_
  cases p with
  |made m d a b =>
   refine ahw (rfl) ?_;erw[cG,ú,wp_call,aL,aU,bJ,aM,cf];refine ahw (rfl) ?_;exact ahw (Uc (uG h.2.2.1) (uG h.2.2.2)) #[rfl,rfl]
  |cu m d k =>
   refine ahw (rfl) ?_;erw[cG,Ê,ô,ee,aL,aU,bJ,aM,cf];refine ahw (rfl) ?_;exact ahw (xt h.2.2.1 (by have:=h.2.2.2;omega)) #[rfl,rfl]
 refine ahx ?_;refine c8.symm ▸ #[rfl,ahy λR T=>?_];rw[cZ];refine ahw U ?_;rw[eJ];show ik R _ (.nx [ϊ _,ϊ _]) s;rw[cP];subst T;erw[cA,bJ,ee,aL,aU,aM,aZ,cf];refine ahw Z (ahw (lr (by show _ + 1<=_;omega)) ?_);refine ahw W (ahw (xt Y.1 ⋯) (ahw (lr (by erw[cW];show _ + 1 + _<=_;omega)) ?_));refine ahw (lr (by erw[cW];show _ + 1 + _ + 1<=_;omega)) ?_;refine ahw V (ahw (xt X.1 ⋯) (ahw (lr (by erw[cW];show _ + 1 + _ + 1 + _<=_;omega)) ?_));refine ahw (lr (by erw[cW];show _ + 1 + _ + 1 + _ + 1<=_;omega)) ?_;refine ahw (lr (by erw[cW];show _ + 1 + _ + 1 + _ + 1 + _<=_;omega)) ?_;exact#[rfl,rfl]
noncomputable def ja (c:Nat):Bool:=ώ (48<=c/\c<=57)
def ku (x:Str):Bool:=(ώ (1<=x.length)&&ώ (x.length<=30))&&(sg x).all ja
def afY (hl:x.length<=1000000):fk [.str x] s=ok (.int x.length) s:=by
 show bY _ s=_
 show bY (if ώ _=ό then ϊ _ else ϋ) s=_
 rw[Ù (Ã (le_size hl))];rfl
def OL (e:f env s=ok (.str x) s):xP f env s=ok ((sg x).map λc=>D.str #[#v[c]]) s:=by
 delta xP;rw[e];rfl
def OM (hl:x.length<=1000000):zA [.str x] s=ok (.bl (ku x)) s:=by
 refine ahx ?_;refine c8.symm ▸ #[rfl,?_];show Wp (aG _ [ϊ _] s) _;rw[cA,ot,PM,cf];erw[ee,aL,aU,aM];refine ahw (afY hl) ?_;erw[AZ,cG];delta ku;by_cases Z:1<=x.length
 .rw[Ã ⋯,Ã Z]
  erw[cf,AZ,cG];by_cases Y:x.length<=30
  .rw[Ã ⋯,Ã Y]
   rw[iu];refine ahw (OL rfl) #[le_size (by rw[Æ];exact hl),?_];refine ahw (comp_map (λc=>D.str _) (λ_=>ό) (λc=>D.bl (ja c)) _ λc _=>#[_,rfl,rfl,λ_=>?_]) ?_
   .show ok _ s=_
    rw[acI];rfl
   rw[Ĺ.mpr (λ_ _=>rfl)];exact ahw (rb ja _ s) #[by simp,rfl]
  .rw[Î ⋯,Î Y]
   exact#[rfl,rfl]
 .rw[Î ⋯,Î Z]
  exact#[rfl,rfl]
def dP (x:Str):Bool:=ku x&&(ώ ((sg x).head?≠ϊ 48)||ώ (x="0"))
def vt:aX (.str x) (.str y) s=ok (.bl (ώ (x=y))) s:=nW
def afZ:cp (.str x) (.str y) s=ok (.bl (!ώ (x=y))) s:=by
 have e:=vt (x:=x) (y:=y) (s:=s);delta aX at e;delta cp
 cases h:iG _ _ with
 |none=>rw[h] at e;cases e
 |some c =>
  rw[h] at e
  injection e with e
  injection e with e1 _
  injection e1 with e1
  injection e1 with e1
  rw[e1]
def Tf:((#[#v[c]]:Str)="0")↔c=48:=by
 have e:("0":Str)=#[#v[48]]:=nofun
 rw[e];constructor
 .intro h
  have:=ħ sg h;simpa [sg] using this
 .rintro rfl;rfl
def zL (hl:x.length<=1000000):tj [.str x] s=ok (.bl (dP x)) s:=by
 refine ahx ?_;refine c8.symm ▸ #[rfl,?_];show Wp (aG _ [ϊ _] s) _;rw[cA,ot];erw[wp_call,aL,aU,aM];refine ahw (OM hl) ?_;erw[cG];delta dP
 cases Y:ku x with
 |false=>exact#[rfl,rfl]
 |true =>
  rw[xq];erw[bJ,aM,cf];have X:=by delta ku at Y;erw[Â,Å] at Y;exact Y.1.1
  obtain⟨c,r,W⟩:∃c r,sg x=c::r:=by
   cases V:sg x with
   |nil=>rw[rp,V] at X;simp at X
   |cons c r=>exact#[c,r,rfl]
  refine ahw (show au _ _ s=ok (.str #[#v[c]]) s from ?_) ?_
  .show bY (if ώ _=ό then (dw (sg x) 0).map λc=>D.str _ else ϋ) s=_
   rw[Ù (Ã (le_size hl)),W];have:dw (c::r) (0)=ϊ c:=by
    let(y,e1,e2):=oA (xs:=c::r) (i:=0) (by decide) ∅;rw[e1];simpa using e2.symm
   rw[this];rfl
  refine ahw afZ ?_;erw[cG];rw[W];by_cases Z:c=48
  .rw[Ã (Tf.mpr Z)]
   refine ahw vt #[?_,rfl];rw[Z];simp
  .rw[Î (λz=>Z (Tf.mp z))]
   refine#[?_,rfl];simp[Z]
def dash:("-":Str)=#[#v[45]]:=nofun
def Gr:("/":Str)=#[#v[47]]:=nofun
def blank:(" ":Str)=#[#v[32]]:=nofun
def Eb (hz:z=#[#v[c]]) (e:f env s=ok (.str x) s) (hl:x.length<=1000000):hW nj f (eC (.str z)) env s=ok (.lst ((ļ x #[#v[c]]).map D.str)) s:=by
 subst hz;refine ahx ?_;rw[A1 e,cf]
 show Wp (if (!((#[_]:Str).length==0)&&ώ _)=ό then ok _ s else ϋ) _
 rw[Ù (by
  rw[Ã (by rw[ε];omega)];rfl),bz]
 exact#[rfl,rfl]
def af0:∀n:Fin 10,af8 #[#v[48+n.val]]=ϊ (n.val:Int):=nofun
def aaz (h:ja c=ό):kh [.str #[#v[c]]] s=ok (.int ((c)-48)) s:=by
 delta ja at h;rw[Å] at h;have e:=af0 #[c-48,by omega];rw[show 48+(c-48)=c by omega] at e
 show (if ώ ((#[#v[c]]:Str).length<=640)=ό then (match af8 _ with|some n=>ok _ s|none=>ϋ) else ϋ)=_
 rw[e];show ok _ s=_;rw[show ((c-48:Nat))=(c:Int)-48 by omega]
def Fu (hn:l≠[]) (h:∀i∈l,0<=i/\i<10):cO l=pA l/\pA l≠"-":=by
 refine#[é hn,λe=>?_]
 obtain⟨i,r,rfl⟩:∃i r,l=i::r:=by cases l with|nil=>exact absurd rfl hn|cons i r=>exact#[i,r,rfl]
 have:=ħ sg e;rw[xu,dash] at this;simp[sg] at this;omega
def t9 (hc:c<45\/c=46\/c=47) (h:∀i∈l,0<=i/\i<10):c∉sg (cO l):=by
 intro Z;by_cases Y:l=[]
 .subst Y
  rw[show cO _="-" from rfl,dash] at Z;simp[sg] at Z;omega
 .rw[(Fu Y h).1,xu,ï] at Z
  omega
def aeu:Ĳ z [x,y]=x++z++y:=rfl
def acK (ha:∀i∈a,0<=i/\i<10) (hb:∀i∈b,0<=i/\i<10):ļ (cO a++"/"++cO b) #[#v[47]]=[cO a,cO b]:=by
 rw[<- aeu];refine wI ∅ λz Z=>?_;erw[Ô,õ,or_false] at Z
 rcases Z with rfl|rfl
 .exact t9 (.inr (.inr rfl)) ha
 .exact t9 (.inr (.inr rfl)) hb
def P0 (h:∀i∈l,0<=i/\i<10) (hl:l.length<=8):(ώ (cO l="-")||ku (cO l))=ό:=by
 by_cases Z:l=[]
 .subst Z
  rfl
 .rw[(Fu Z h).1]
  have:ku (pA l)=ό:=by
   delta ku;rw[EO];have:=List.length_pos_iff.mpr Z;rw[Ã ⋯,Ã ⋯,xu,List.all_map,Þ.mpr λi hi=>?_]
   .rfl
   .have:=h i hi
    show ja (48+i.toNat)=ό;delta ja;rw[Å];omega
  rw[this,Bool.or_true]
end
section
variable {s:ag} {l h:List Int} {i:Int} {env:Env} {p:Pg} {x y:Str} {ps ds:List Pg}
def af1:∀n:Fin 31,dP (num (n.val))=ό/\(sg (num (n.val))).all ja=ό:=nofun
def Fv (h0:0<=i) (h1:i<31):dP (num i)=ό/\(sg (num i)).all ja=ό:=by
 let(n,rfl):=Ų h0;exact af1 #[n,by omega]
def ER (hx:(sg x).all ja=ό) (hc:ja c=ύ):c∉sg x:=λZ=>by
 rw[Þ.mp hx c Z] at hc;cases hc
def AA:c∈sg (x++y)↔c∈sg x\/c∈sg y:=by rw[rn,Ā]
def Xs (h:gR p) (hc:c<45):c∉sg (oJ p):=by
 cases p with
 |made m d a b =>
  intro hm;have hm:c∈sg (cO a++"/"++cO b):=hm;rw[AA,AA] at hm
  rcases hm with (hm|hm)|hm
  .exact t9 (.inl hc) (rz h.2.2.1) hm
  .rw[Gr] at hm
   simp[sg] at hm;omega
  .exact t9 (.inl hc) (rz h.2.2.2) hm
 |cu m d k=>exact ER (Fv h.2.2.1 (by have:=h.2.2.2;omega)).2 (by delta ja;simp;omega)
def Xt (hc:c<45):c∉sg (ji p):=by
 cases p
 .show c∉sg "made"
  rw[show sg _=[109,97,100,101] by decide +kernel];simp;omega
 .show c∉sg "mended"
  rw[show sg _=[109,101,110,100,101,100] by decide +kernel];simp;omega
def wordsOf (p:Pg):List Str:=[ji p,num (vq p),num p.day,oJ p]
def LU (h:gR p) (hc:c<45):∀z∈wordsOf p,c∉sg z:=λz Z=>by
 have m:=lZ h;have d:=l0 h;have Y:ja c=ύ:=by delta ja;simp;omega
 erw[wordsOf,Ô,õ,or_false] at Z
 rcases Z with rfl|rfl|rfl|rfl
 .exact Xt hc
 .exact ER (Fv m.1 ⋯).2 Y
 .exact ER (Fv d.1 d.2).2 Y
 .exact Xs h hc
def MF:eO p=Ĳ #[#v[32]] (wordsOf p):=by
 show ji p++" "++num _++" "++num _++" "++oJ p=ji p++#[_]++(num _++#[_]++(num _++#[_]++oJ p));rw[blank];erw[Str.append_assoc]
def Wb (h:gR p):ļ (eO p) #[#v[32]]=wordsOf p:=by
 rw[MF];exact wI (by delta wordsOf;simp) (LU h (by decide))
def textOf (ps:List Pg):Str:=Ĳ "" (ps.map λp=>eO p++"\n")
def MG (h:gR p):(eO p++"\n").length<=51:=by rw[cW];have:=wJ h;show _ + 1<=51;omega
def text_len (h:∀p∈ps,gR p):(textOf ps).length<=ps.length*51:=by
 rw[rp];delta textOf;rw[D8]
 induction ps with
 |nil=>exact ahz 0
 |cons p r ih =>
  have Z:=MG (h p ∅);rw[rp] at Z;have X:=ih λq Y=>h q (Ë _ Y);rw[Û,Û,agJ,Ï,å];omega
def Y9 (h:gR p) (hg:g [p.d] s=ok (.str (eO p)) s):e2 cm (aC g (af (aa 0) ah)) (eC (.str "\n")) [ϊ p.d] s=ok (.str (eO p++"\n")) s:=by
 refine ahx ?_;erw[bJ,wp_call,aL,aU,aM,cf];refine ahw hg (ahw (lr (by have:=wJ h;show _ + 1<=_;omega)) #[rfl,rfl])
def Wc (hi:it env s=ok (ps.map Pg.d) s) (hl:ps.length<=100) (h:∀p∈ps,gR p) (hg:∀p,gR p->g [p.d] s=ok (.str (eO p)) s):ck 1 [] it (gN 0) cL (e2 cm (aC g (af (aa 0) ah)) (eC (.str "\n"))) env s=ok (.lst ((ps.map λp=>eO p++"\n").map D.str)) s:=by
 refine ahx ?_;rw[iu];refine ahw hi #[le_size (by rw[Æ];omega),?_];refine ahw (comp_map _ (λ_=>ό) (λp=>D.str _) ps λp Z=>#[_,rfl,rfl,λ_=>Y9 (h p Z) (hg p (h p Z))]) ?_;rw[Ĺ.mpr (λ_ _=>rfl),Ĝ];exact#[rfl,rfl]
def acL (hl:ps.length<=100) (h:∀p∈ps,gR p):kg "" (.lst ((ps.map λp=>eO p++"\n").map D.str)) s=ok (.str (textOf ps)) s:=Gq (by decide) (by rw[Æ];omega) λz Z=>by
 let(p,Y,rfl):=ï.mp Z;have:=MG (h p Y);omega
def Ab (hl:ps.length<=1000) (hf:∀p∈ps,lq p) (hb:cX ps=ό):cx.tB [bD ps] s=ok .ax s:=by
 refine ahx ?_;delta cx.tB;simp only[VC];refine ahw (OA hl hf) ?_;rw[hb];simp only[VC,Œ,Ê,ô,ğ]
def Fx (hb:cX ps=ό):(∀p∈ps,cN p=ό)/\ps.length<=24:=by
 delta cX kj at hb;erw[Â,Å,Þ] at hb;exact#[hb.1.2.1,hb.1.1]
def NA (hb:cX ps=ό):tD [bD ps] s=ok (.str (textOf ps)) s:=by
 let(Z,X):=Fx hb;refine ahx ?_;refine c8.symm ▸ #[rfl,ahy λR Y=>?_];rw[oj];refine ahw (Ab ⋯ (λp h=>Dy (Z p h)) hb) ?_;rw[cP];subst Y;rw[cA,A1 rfl];refine ahw (Wc (kN rfl) ⋯ (λp h=>rq (Z p h)) λp h=>Y8 h) ?_;exact ahw (acL ⋯ λp h=>rq (Z p h)) #[rfl,rfl]
end
def Sf (s:ag) (k:Nat):Prop:=∃(a:Int) (b:Bool),s[k]?=ϊ (.lst [.int a,.bl b])/\0<=a/\(b=ύ->a<2147483647)
def Sf.lt (h:Sf s k):k<s.length:=by
 let(a,b,e,_):=h;exact(Ç.mp e).1
def jC (h:Sf s k) (h1:0<m) (h2:m<1073741824):Wp (cx.fO [.aj k,.int m] s) λd s'=>∃r,d=.int r/\0<=r/\r<m/\Sf s' k/\Ex k s s':=by
 let(a,b,e,W,Y):=h;have X:=(Ç.mp e).1
 cases b with
 |true =>
  have Z:(s.set k _)[k]?=ϊ (.lst [.int (a / m),.bl ό]):=â X;refine#[_,_,?_,a % m,rfl,ahg _ ⋯,agz _ h1,#[_,ό,Z,Int.ediv_nonneg W ⋯,λz=>by cases z],Ex.set ..];erw[cx.fO,aJ,ar,aV,cD,truth,e2,AX,AY,eC,de,Û,ĳ,Č,ġ,Jg _ _ k s e,Tb _ _ k s e,å,Ą,ú,aT,gN,vp s h1,qe,R1 s h1 h2,RZ _ _ _ k s e,aG,ē,Ĕ,Ó]
 |false =>
  have Y:=Y rfl;have ex:0<=(a*48271+29) % 2147483647/\(a*48271+29) % 2147483647<2147483647:=#[ahg _ (by decide),agz _ (by decide)];generalize V:(a*48271+29) % 2147483647=x at ex;have Z:(s.set k _)[k]?=ϊ (.lst [.int x,.bl ύ]):=â X;generalize U:(x*x+39373*x+7) % 2147483629=y;generalize T:(y*y+16807*y) % 2147483587=z;refine#[.int (z / 8 % m),_,?_,_,rfl,ahg _ ⋯,agz _ h1,#[x,ύ,Z,ex.1,λ_=>ex.2],Ex.set ..];have S:gI (.int a) (.int 48271) s=ok _ s:=yq s (mulOk_of ⋯ ⋯);have R:∀s',gI (.int x) (.int x) s'=ok _ s':=λs'=>yq s' (mulOk_of ⋯ ⋯);have Q:∀s',gI (.int 39373) (.int x) s'=ok _ s':=λs'=>yq s' (mulOk_of (by decide) (by decide));have m4:∀s',gI (.int y) (.int y) s'=ok _ s':=λs'=>yq s' (mulOk_of ⋯ ⋯);have P:∀s',gI (.int 16807) (.int y) s'=ok _ s':=λs'=>yq s' (mulOk_of (by decide) (by decide));have O:∀n:Int,au _ _ _=ok _ _:=λ_=>Jg _ _ k _ Z;erw[cx.fO,aJ,ar,aV,cD,truth,e2,AX,AY,eC,de,Û,ĳ,Č,ġ,Jg _ _ k s e,Tb _ _ k s e,å,Ą,Ê,ô,ú,bE,aT,gN,qe,RZ _ _ _ k s e,aG,ē,Ĕ,Ó,S,R,Q,m4,P,R0,vp _ (show (0)<2147483647 by decide),vp _ (show (0)<2147483629 by decide),vp _ (show (0)<2147483587 by decide),R1 _ (show (0)<8 by decide) (by decide),vp _ h1,V,U,T,O 0]
def aaA (h0:0<=i):Wp (cx.zZ [.cT ns,.int i] s) λd s'=>d=.aj s.length/\Sf s' s.length/\∃c,s'=s++[c]:=by
 let(c,Z):=aap (ns:=ns) (s:=s) h0;have Y:∀s,xG (.int 10) (.int 18) s=ok (.int (10 ^ 18)) s:=λs=>by
  have e:G5 (.int 10) (.int 18)=ϊ (.int (10 ^ 18)):=by
   show (if (ώ ((0)<=18)&&ώ ((18)<=1000000)&&ώ ((10:Int).natAbs<2 ^ 64))=ό then ϊ _ else ϋ)=_
   rfl
  erw[xG,e,bY]
 delta cx.zZ;simp only[VC,Z,Y];by_cases h:(10) ^ 18<=c
 .rw[Ã h]
  exact#[by decide,#[_,ό,by simp;rfl,by omega,λz=>by cases z],_,rfl]
 .rw[Î h]
  simp only[VC,Ê,ô,vp _ (show (0)<2147483647 by decide)];exact#[by decide,#[_,ύ,by simp;rfl,ahg _ (by decide),λ_=>agz _ (by decide)],_,rfl]
def Gs (h0:0<=r) (h1:r<ds.length):∃d∈ds,au (.lst ds) (.int r) s=ok d s:=by
 let(x,e,e2):=oA h0 h1;exact#[x,abI e2,by erw[au,jU,res,e,bY]]
def Ti (h0:0<=k) (h1:k<3):∃n:Nat,au (.lst [.int 2,.int 4,.int 8]) (.int k) s=ok (.int n) s/\2<=n/\n<=8:=by
 let(d,Z,e):=Gs (ds:=[.int 2,.int 4,.int 8]) h0 h1;erw[Ô,õ,or_false] at Z
 rcases Z with rfl|rfl|rfl
 .exact#[2,e,by decide,by decide]
 .exact#[4,e,by decide,by decide]
 .exact#[8,e,by decide,by decide]
def Za (h:Sf s k):Wp (gH 1 [ϊ (.aj k)] (gN 0) cL (aC cx.fO (af (aa 1) (af (eC (.int 3)) ah))) (eT 0 n) s) λxs s'=>∃ns:List Int,xs=ns.map D.int/\ns.length=n/\Sf s' k/\Ex k s s':=by
 refine Ax (λi Z s'=>∃ns,Z=ns.map D.int/\ns.length=i/\Sf s' k/\Ex k s s') _ #[[],rfl,rfl,h,Ex.refl ..] (λi d Z s' Y X=>?_) λZ s' X=>?_
 .let(ns,rfl,W,V,U):=X
  rw[je] at Y;split at Y
  .simp only[VC]
   refine ahw (rfl) ?_;refine(jC V (by decide) (by decide)).mono λd R Y=>?_;let(r,rfl,Q,P,T,S):=Y;exact#[ns++[r],by simp,by rw[Ï,W];rfl,T,U.trans S]
  .cases Y
 .rw[jZ] at X
  exact X
noncomputable def pick (ns:List Int) (c:Int) (n:Nat):List Int:=((ä n).filter λi=>ώ (ns.getD i 0=c)).map λi:Nat=>(i)
def NB (ns) (c) (n):fm n (pick ns c n):=by
 refine#[λx Z=>?_,?_]
 .let(i,hi,rfl):=ï.mp Z
  have:=î.mp (ÿ.mp hi).1;omega
 .delta pick
  rw[List.pairwise_map];exact(List.pairwise_lt_range.filter _).imp λh=>by omega
def ON:gH 1 [ϊ (.lst (ns.map D.int))] (gN 0) (aH (DI.e2 aX (DI.e2 au (aa 1) (aa 0)) (eC (.int c)))) (aa 0) (eT 0 ns.length) s=ok ((pick ns c ns.length).map D.int) s:=by
 rw[Ox];have:=comp_map (nt:=1) (caps:=[ϊ (.lst (ns.map D.int))]) (g:=gN 0) (t:=aH (DI.e2 aX (DI.e2 au (aa 1) (aa 0)) (eC (.int c)))) (f:=aa 0) (s:=s) (λi:Nat=>D.int (0+(i))) (λi=>ώ (ns.getD i 0=c)) (λi=>D.int i) (ä ns.length) λi hi=>#[_,rfl,?_,λ_=>?_]
 .rw[this]
  delta pick;rw[Ĝ];rfl
 .have hi:=î.mp hi
  rw[Ū];refine ahx ?_;simp only[VC];refine ahw (show au _ _ s=ok (.int (ns.getD i 0)) s from ?_) ?_
  .delta au jU res
   simp only[];rw[ZM (by rw[à,getD_some (d:=0) hi];rfl)];rfl
  .simp only[VC]
   exact#[by rw[Ī];simp,trivial]
 .rw[Ū];rfl
def aaB (h:x∈pick ns 1 n) (g:x∈pick ns 2 n):False:=by
 let(i,hi,rfl):=ï.mp h;let(j,Z,e):=ï.mp g;have:i=j:=by omega
 subst this;have Y:=(ÿ.mp hi).2;have X:=(ÿ.mp Z).2;erw[Å] at Y X;omega
def OO (h:Sf s k):Wp (cx.wG [.aj k] s) λd s'=>∃a b,d=.tup [mD a,mD b]/\fm 8 a/\fm 8 b/\(∀x∈a,x∉b)/\Sf s' k/\Ex k s s':=by
 refine c8.symm ▸ #[rfl,ahy λR Z=>?_];simp only[VC];refine#[by decide,?_];refine(jC h (by decide) (by decide)).mono λd M U=>?_;let(r,rfl,T,S,Y,Q):=U;let(n,e,L,W):=Ti T S;refine ahw e ?_;subst Z;refine ahy λR Z=>?_;simp only[VC];refine ahw (fP rfl ⋯) #[by rw[jZ];exact le_size ⋯,?_];refine(Za Y).mono λK J P=>?_;let(V,rfl,O,X,N):=P;subst Z;subst O;refine ahy λR Z=>?_;simp only[VC];refine ahw (fP rfl ⋯) #[by rw[jZ];exact le_size ⋯,?_];refine ahw ON ?_;refine ahw (rfl) ?_;subst Z;simp only[VC];refine ahw (fP rfl ⋯) #[by rw[jZ];exact le_size ⋯,?_];refine ahw ON ?_;refine ahw (rfl) ?_;exact#[by decide,_,_,rfl,(NB V 1 _).Te W,(NB V 2 _).Te W,λx Y X=>aaB Y X,X,Q.trans N]
def acM (h:Sf s k) (h0:0<n) (h1:n<=31):Wp (cx.EF [.aj k,.int n] s) λd s'=>∃p,d=p.d/\cN p=ό/\Sf s' k/\Ex k s s':=by
 refine c8.symm ▸ #[rfl,ahy λR W=>?_];erw[Û,ĳ,Ó,Nat.reduceSub,Č,ġ,wV,aL,aU,bJ,oy,cf,wp_call,aM,aZ];refine(jC h (by decide) (by decide)).mono λd B Z=>?_;let(m,rfl,m0,K,g1,T):=Z;refine#[le_size (n:=2) (by decide),?_];refine(jC g1 (by decide) (by decide)).mono λd A Z=>?_;let(r,rfl,J,I,g2,S):=Z;let(d,Z,e):=Gs (ds:=[.int 0,.int m]) J I;refine ahw e ?_;have Y:∃X,d=.int X/\0<=X/\X < 4:=by
  erw[Ô,õ,or_false] at Z
  rcases Z with rfl|rfl
  .exact#[0,rfl,by decide,by decide]
  .exact#[m,rfl,m0,K]
 let(X,rfl,Y):=Y;refine(jC g2 h0 ⋯).mono λd x Z=>?_;let(y,rfl,Q,y1,g3,P):=Z;refine#[_,_,rfl,?_];subst W;refine ahy λR W=>?_;simp only[VC];refine(jC g3 (by decide) (by decide)).mono λd w Z=>?_;let(z,rfl,O,N,M,L):=Z;simp only[VC];split
 .refine#[by decide,?_]
  refine(jC M (by decide) (by decide)).mono λd s5 Z=>?_;let(z,rfl,O,N,V,U):=Z;let(n,e,v,u):=Ti O N;refine ahw e ?_;refine(jC V ⋯ ⋯).mono λd t Z=>?_;let(c,rfl,H,q,G,F):=Z;refine#[by decide,?_];exact#[_,rfl,Xo Y #[Q,by omega] #[H,by omega],G,((((T.trans S).trans P).trans L).trans U).trans F]
 .subst W
  simp only[VC];refine(OO M).mono λd s5 Z=>?_;let(a,b,rfl,E,D,C,V,U):=Z;exact#[by decide,_,rfl,Xp Y #[Q,by omega] E D (by decide) C,V,(((T.trans S).trans P).trans L).trans U]
def Kp (s s':ag):Prop:=s.length<=s'.length/\∀j,j<s.length->s'[j]?=s[j]?
def Kp.refl (s):Kp s s:=#[ahz _,λ_ _=>rfl]
theorem Kp.trans (h:Kp a b) (g:Kp b c):Kp a c:=#[Ø h.1 g.1,λj Z=>(g.2 j (È Z h.1)).trans (h.2 j Z)]
def Kp.app (s c):Kp s (s++c):=#[by simp,λj Z=>æ Z]
def Kp.get (h:Kp s s') {k:Nat} (e:s[k]?=ϊ c):s'[k]?=ϊ c:=by rw[h.2 k (Ç.mp e).1];exact e
def Kp.sf (h:Kp s s') (g:Sf s k):Sf s' k:=by
 let(a,b,e,r):=g;exact#[a,b,h.get e,r]
theorem Kp.set (h:Kp s s') (hj:s.length<=j) (c):Kp s (s'.set j c):=#[by rw[ù];exact h.1,λi hi=>by rw[ç ⋯];exact h.2 i hi]
def oC {ns:List Int} (h:nu d s=ϊ (ns.map D.int)):cy (.int x) d s=ok (.bl (ώ (x∈ns))) s/\fN (.int x) d s=ok (.bl (!ώ (x∈ns))) s:=by
 have Z:mx 100 (.int x) (ns.map D.int)=ό:=by erw[mx,lay,pJ,dep,Ğ,ć,ĥ]
 have e:inD (.int x) (ns.map D.int)=ϊ (ώ (x∈ns)):=by delta inD;rw[Ù Z,EK]
 delta cy fN;rw[h];erw[e];exact#[rfl,rfl]
def uq (h:s[j]?=ϊ (.lst ds)):nu (.aj j) s=ϊ ds:=by delta nu res;erw[h]
def uu (h:s[j]?=ϊ (.lst ds)) (hl:ds.length<=1000):jJ (.aj j) s=ό/\mB (.aj j) x s=ok .ax (s.set j (.lst (ds++[x]))):=by
 refine#[by erw[jJ,h],?_];delta mB;erw[h,Ã (Ş hl (show 1000<Õ by decide)),ú]
section
variable {s:ag} {ps:List Pg} {p:Pg} {m k:Int} {Q:Fl->ag->Prop} {e0 e1 e2 e3 e4 e5 e6 e7 e8:Option D}
def Ad {b:Bool}:gI (.lst [.int x]) (.int (if b then 1 else 0)) s=ok (.lst ((if b=ό then [x] else []).map D.int)) s:=by
 cases b<;>rfl
def uH {a b:List Int} (h:a.length+b.length<=1000000):cm (.lst (a.map D.int)) (.lst (b.map D.int)) s=ok (.lst ((a++b).map D.int)) s:=by
 rw[afX (by simpa only [Æ] using h),Ď]
def one_le (x:Int) (b):(if b=ό then [x] else []).length<=1:=by cases b<;>simp
def qJ (m k:Int) (p:Pg):List Int:=if qH m k p=ό then [p.day] else []
def qK (m k:Int) (p:Pg):List Int:=if qI m k p=ό then [p.day] else []
def nX (m k:Int) (p:Pg):List Int:=if pw m k p=ό then [p.day] else []
def Xu:shown (ps++[p]) m k=shown ps m k++qJ m k p:=by
 delta shown qJ
 cases h:qH m k p<;>simp[List.filter,h]
def We:eY (ps++[p]) m k=eY ps m k++qK m k p:=by
 delta eY qK
 cases h:qI m k p<;>simp[List.filter,h]
def Wf:cM (ps++[p]) m k=cM ps m k++nX m k p:=by
 delta cM nX
 cases h:pw m k p<;>simp[List.filter,h]
def acN {r:Env} {a b c} {j} (hj:s[j]?=ϊ (.lst (c.map D.int))) (la:a.length<=900) (lb:b.length<=900) (lc:c.length<=900)
  (hQ:∀s',s'[j]?=ϊ (.lst ((c++nX m k p).map D.int))->(s'=s\/∃x,s'=s.set j x)->Q (.nx (e0::ϊ (.int m)::ϊ (.int k)::ϊ (.lst ((a++qJ m k p).map D.int))::ϊ (.lst ((b++qK m k p).map D.int))::ϊ (.aj j)::ϊ p.d::r)) s') :
  Wp (Cy (e0::ϊ (.int m)::ϊ (.int k)::ϊ (.lst (a.map D.int))::ϊ (.lst (b.map D.int))::ϊ (.aj j)::ϊ p.d::r) s) Q:=by
 cases p with
 |cu X Z S =>
  have P:qJ m k (.cu X Z S)=[]:=rfl;have O:qK m k (.cu X Z S)=[]:=rfl;rw[P,O,ð,ð] at hQ;refine ahy λR N=>?_;simp only[VC,Pg.d];refine ahw (rfl) ?_;refine ahw (rfl) ?_;simp only[VC,ú];refine ahw (rfl) ?_;have rest:∀s',s'[j]?=ϊ _->(s'=s\/∃x,s'=s.set j x)->ik R Q (.nx (e0::ϊ _::ϊ _::ϊ _::ϊ _::ϊ _::ϊ (.tup [.str "mended",.int X,.int Z,.int S])::r)) s':=λs' e x=>by
   subst N;simp only[VC];refine ahw (rfl) ?_;refine ahw (rfl) ?_;simp only[VC,Ê,ô];exact hQ s' e x
  simp only[VC];split
  .rename_i Y
   refine ahw (rfl) ?_;simp only[VC];split
   .rename_i W
    have V:nX m k (.cu X Z S)=[Z]:=by
     delta nX pw;rw[Ù (by simp at Y W;simp[Y,W])];rfl
    rw[V] at rest;let(Y,W):=uu hj (by rw[Æ];omega);refine#[Y,?_];refine ahw (rfl) ?_;refine ahw W (rest _ ?_ (.inr #[_,rfl]));rw[â (Ç.mp hj).1];simp
   .rename_i W
    have V:nX m k (.cu X Z S)=[]:=by
     delta nX pw;rw[é (by simp at Y W;simp[Y,W])]
    rw[V,ð] at rest;exact rest s hj (.inl rfl)
  .rename_i Y
   have V:nX m k (.cu X Z S)=[]:=by
    delta nX pw;rw[é (by simp at Y;simp[Y])]
   rw[V,ð] at rest;exact rest s hj (.inl rfl)
 |made X Z U T =>
  have V:nX m k (.made X Z U T)=[]:=rfl;rw[V,ð] at hQ;refine ahy λR N=>?_;simp only[VC,Pg.d];refine ahw (rfl) ?_;refine ahw (show aX _ _ s=ok (.bl ύ) s from rfl) ?_;simp only[VC,Ê,ô];subst N;simp only[VC];refine ahw (rfl) ?_;refine ahw (rfl) ?_;simp only[VC,ú];refine ahw (rfl) ?_;simp only[VC];split
  .rename_i Y
   have e1:=Y
   have P:qJ m k (.made X Z U T)=if ώ (k∈U)=ό then [Z] else []:=by
    delta qJ qH;erw[beq_iff_eq] at e1;erw[e1,ĥ,ĵ];rfl
   have O:qK m k (.made X Z U T)=if ώ (k∈T)=ό then [Z] else []:=by
    delta qK qI;erw[beq_iff_eq] at e1;erw[e1,ĥ,ĵ];rfl
   rw[P,O] at hQ;refine ahw (rfl) ?_;refine#[by decide,?_];refine ahw (rfl) ?_;refine ahw (rfl) ?_;refine ahw (pN) ?_;refine ahw (rfl) ?_;refine ahw Ad ?_;have M:=one_le Z (ώ (k∈U));have L:=one_le Z (ώ (k∈T));refine ahw (uH ⋯) ?_;refine ahw (rfl) ?_;refine#[by decide,?_];refine ahw (rfl) ?_;refine ahw (rfl) ?_;refine ahw (pN) ?_;refine ahw (rfl) ?_;refine ahw Ad ?_;refine ahw (uH ⋯) ?_;exact hQ s hj (.inl rfl)
  .rename_i Y
   have e1:=by simpa using Y
   have P:qJ m k (.made X Z U T)=[]:=by delta qJ qH;simp[e1]
   have O:qK m k (.made X Z U T)=[]:=by delta qK qI;simp[e1]
   rw[P,O,ð,ð] at hQ;exact hQ s hj (.inl rfl)
def qL (sh la me:Nat->Bool) (d:Nat):Bool:=!(me d&&sh d)&&!(pr sh me d&&la d)
def kT (ps:List Pg) (m k:Int):Bool:=(ä 31).all (qL (sN ps m k) (lN ps m k) (mN ps m k))
def acO {a b c:List Int} {j y:Nat} {t} (hj:s[j]?=ϊ (.lst (c.map D.int)))
  (hR:(ώ ((y:Int)∈c)&&ώ ((y:Int)∈a))=ό\/((ώ ((y:Int)∈a)||(t&&!ώ ((y:Int)∈c)))&&ώ ((y:Int)∈b))=ό->Q (.rt (.bl ύ)) s)
  (hQ:(ώ ((y:Int)∈c)&&ώ ((y:Int)∈a))=ύ->((ώ ((y:Int)∈a)||(t&&!ώ ((y:Int)∈c)))&&ώ ((y:Int)∈b))=ύ->Q (.nx [e0,e1,e2,ϊ (.lst (a.map D.int)),ϊ (.lst (b.map D.int)),ϊ (.aj j),e6,ϊ (.bl (ώ ((y:Int)∈a)||(t&&!ώ ((y:Int)∈c)))),ϊ (.int y)]) s) :
  Wp (Ks [e0,e1,e2,ϊ (.lst (a.map D.int)),ϊ (.lst (b.map D.int)),ϊ (.aj j),e6,ϊ (.bl t),ϊ (.int y)] s) Q:=by
 have W:=oC (x:=y) (uq hj);have V:=oC (x:=y) (d:=.lst _) (s:=s) (ns:=a) rfl;have S:=oC (x:=y) (d:=.lst _) (s:=s) (ns:=b) rfl;generalize P:ώ ((y:Int)∈a)=Z at *;generalize O:ώ ((y:Int)∈b)=N at *;generalize M:ώ ((y:Int)∈c)=Y at *;refine ahy λR X=>?_;erw[jz,uj,aM,aZ,eX,bJ,W.1,V.1,bz,cG]
 have next:(Y&&Z)=ύ->ik R Q _ s:=λU=>by
  rw[cP];subst X;have e:(i6 (DI.e2 cy (aa 8) (aa 3)) (dj (aa 7) (DI.e2 fN (aa 8) (aa 5)))) [e0,e1,e2,ϊ (.lst (a.map D.int)),ϊ (.lst (b.map D.int)),ϊ (.aj j),e6,ϊ (.bl t),ϊ (.int y)] s=ok (.bl (Z||(t&&!Y))) s:=by
   refine ahx ?_;erw[xq,ot,bJ,aM,aZ,V.1,W.2,bz,cG]
   cases Z<;>cases t<;>simp
  refine ahy λR X=>?_;rw[cZ];refine ahw e ?_;rw[eJ];erw[ē,Ĕ];rw[cP];subst X;erw[jz,uj,pV,aM,aZ,lW,eX,bJ,S.1,bz,cG]
  cases T:(Z||(t&&!Y)) with
  |false =>
   rw[T] at hQ;erw[Ê,ô,fq];exact hQ U rfl
  |true =>
   rw[T] at hQ hR
   cases N with
   |true=>erw[ú,cA,cf];exact hR (.inr rfl)
   |false=>erw[Ê,ô,fq];exact hQ U rfl
 cases Y with
 |true =>
  cases Z with
  |true=>erw[ú,cA,cf,nr];exact hR (.inl rfl)
  |false=>erw[Ê,ô,fq];exact next rfl
 |false =>
  erw[Ê,ô,fq]
  exact next rfl
def zi (sh me:Nat->Bool):Nat->Bool
 |0=>ύ
 |d+1=>pr sh me d
def NC (sh me) (d):(sh d||(zi sh me d&&!me d))=pr sh me d:=by
 cases d with
 |zero=>simp[zi,pr]
 |succ d=>rfl
def sD:Bool->List Pg->D
 |true,ps=>.tup (ps.map Pg.d)
 |false,ps=>.lst (ps.map Pg.d)
def Zb (h:f env s=ok (sD t ps) s'):cB f env s=ok (ps.map Pg.d) s':=by
 cases t with
 |true=>exact kN h
 |false=>exact om h
def Rb:fk [sD t ps] s=ok (.int ps.length) s:=by
 cases t<;>(show ok _ s=_;rw[Æ])
def R4 {r:Env} {t} (hl:ps.length<=100) (hQ:∀e6 s',s'[s.length]?=ϊ (.lst ((cM ps m k).map D.int))->Kp s s'->Q (.nx (ϊ (sD t ps)::ϊ (.int m)::ϊ (.int k)::ϊ (.lst ((shown ps m k).map D.int))::ϊ (.lst ((eY ps m k).map D.int))::ϊ (.aj s.length)::e6::r)) s'):Wp (fI (cB (aa 0)) (gN 6) Cy (ϊ (sD t ps)::ϊ (.int m)::ϊ (.int k)::ϊ (.lst [])::ϊ (.lst [])::ϊ (.aj s.length)::ϋ::r) (s++[.lst []])) Q:=by
 rw[jg];refine ahw (Zb rfl) ?_;have Y:=Kp.app s [.lst []];have T:(s++[Cell.lst []])[s.length]?=ϊ (.lst (([]).map D.int)):=by simp
 have len:∀{V:List Pg} {f},V.length<=100->((V.filter f).map Pg.day).length<=900:=λh=>by
  rw[Æ];exact Ø (Ľ ..) ⋯
 refine Wp.iZ (λi env s'=>∃e6,env=(ϊ _::ϊ _::ϊ _::ϊ (.lst ((shown (ps.take i) m k).map D.int))::ϊ (.lst ((eY (ps.take i) m k).map D.int))::ϊ _::e6::r)/\s'[s.length]?=ϊ (.lst ((cM (ps.take i) m k).map _))/\Kp s s') _ #[_,rfl,T,Y] (λi d env s' U X=>?_) (λenv s' X=>?_)
 .let(e6,rfl,Z,kp):=X
  rw[à] at U;let(p,S,rfl):=agE.mp U;have R:ps.take (i+1)=ps.take i++[p]:=by rw[List.take_add_one,S];rfl
  have W:(ps.take i).length<=100:=by rw[ų];omega
  refine#[_,rfl,?_];refine acN Z (len W) (len W) (len W) λN P O=>?_;rw[R,Xu,We,Wf];refine#[_,rfl,P,?_]
  rcases O with rfl | ⟨x,rfl⟩
  .exact kp
  .exact kp.set (ahz _) _
 let(e6,rfl,Z,kp):=X;rw[Æ,List.take_length] at Z |-;exact hQ e6 s' Z kp
def Xv (hl:ps.length<=100):Wp (Cz [sD t ps,.int m,.int k] s) λd s'=>d=.bl (kT ps m k)/\Kp s s':=by
 refine c8.symm ▸ #[rfl,ahy λR Z=>?_];refine ahw (rfl) ?_;subst Z;refine ahy λR Z=>?_;refine R4 hl λe6 s' Q kp=>?_;subst Z;refine ahy λR Z=>?_;erw[cZ,eJ,cf,ē,Ĕ,cP];subst Z;refine ahy λR Z=>?_;rw[jg];refine ahw (fP rfl (by decide)) ?_;refine Wp.iZ (λi env X=>X=s'/\(∀d<i,qL (sN ps m k) (lN ps m k) (mN ps m k) d=ό)/\∃e8,env=[ϊ _,ϊ _,ϊ _,ϊ _,ϊ _,ϊ _,e6,ϊ (.bl (zi (sN ps m k) (mN ps m k) i)),e8]) _ #[rfl,λd h=>absurd h (ahd _),_,rfl] (λi d env X Y W=>?_) (λenv X W=>?_)
 .let(rfl,V,e8,rfl):=W
  rw[je] at Y;split at Y
  .rename_i hi
   cases Y;rw[Ū];refine#[_,rfl,?_];have S:(ώ _||(zi _ _ i&&!ώ _))=pr _ _ i:=NC (sN ps m k) (mN ps m k) i;refine acO Q ?_ ?_
   .rw[S]
    intro P;refine#[?_,kp];congr 1;symm;delta kT;rw[ψ];refine#[i,î.mpr hi,?_]
    rcases P with h|h
    .have U:(mN ps m k i&&sN ps m k i)=ό:=h
     delta qL;rw[U];simp
    .have U:(pr _ _ i&&lN ps m k i)=ό:=h
     delta qL;rw[U];simp
   .rw[S]
    intro O N;refine#[rfl,λd Y=>?_,_,rfl];by_cases e:d=i
    .subst e
     have T:(mN ps m k d&&sN ps m k d)=ύ:=O;have M:(pr _ _ d&&lN ps m k d)=ύ:=N;delta qL;rw[T,M];rfl
    .exact V d ⋯
  .cases Y
 .let(rfl,V,e8,rfl):=W
  subst Z;simp only[VC];refine#[?_,kp];congr 1;symm;exact Þ.mpr λd Y=>V d (by exact î.mp Y)
def zU:kT ps m k=ό↔Az (sN ps m k) (lN ps m k) (mN ps m k):=by
 delta kT;rw[Þ];constructor
 .intro h d e Y P O Z
  have M:∀x,x<=30->qL _ _ _ x=ό:=λx T=>h x (î.mpr ⋯);have X:=M e O;delta qL at X;erw[Â,Ċ,agV] at X
  rcases Z with Z | ⟨rfl,Z⟩
  .apply Classical.byContradiction
   intro L;have:pr _ (mN ps m k) e=ό:=Ft.mpr #[d,P,Y,λx V U=>by
    cases T:mN ps m k x with
    |false=>rfl
    |true=>exact(L #[x,V,U,T]).elim]
   rcases X.2 with z|z
   .rw[this] at z;cases z
   .rw[Z] at z;cases z
  .rcases X.1 with z|z
   .rw[Z] at z;cases z
   .rw[Y] at z;cases z
 .intro N d W
  have W:d<=30:=by have:=î.mp W;omega
  delta qL;erw[Â,Ċ,agV];constructor
  .cases K:mN ps m k d with
   |false=>exact .inl rfl
   |true =>
    right
    cases Y:sN ps m k d with
    |false=>rfl
    |true =>
     let(x,S,R,_):=N d d Y (ahz _) W (.inr #[rfl,K]);omega
  .cases J:pr _ _ d with
   |false=>exact .inl rfl
   |true =>
    right
    cases I:lN ps m k d with
    |false=>rfl
    |true =>
     let(e,V,U,H):=Ft.mp J;let(x,S,R,Q):=N e d U V W (.inl I);rw[H x S R] at Q;cases Q
end
def Vj (hd:sk ps) (h:∀m∈m4,∀k∈k8,Az (sN ps m k) (lN ps m k) (mN ps m k)):rl ps=[]:=by
 delta rl;rw[agA];intro m V;rw[agA];intro k U;rw[ahf];delta oB;rw[agA];intro d T;rw[ahf,List.filter_eq_nil_iff];intro e S Z;have X:=qT.mp T;let(i,hi,rfl):=ï.mp S;rw[î] at hi;have Q:=hd.of X;delta sS at Z;erw[Â,θ,Å,Ċ] at Z;have e1:((d.toNat))=d:=by omega
 have e2:(((d+(i)).toNat))=d+(i):=by omega
 let(x,P,O,W):=h m V k U d.toNat (d+(i)).toNat (by erw[sN,e1,Å];exact X) ⋯ ⋯ (by
  rcases Z.1 with z | ⟨N,R⟩
  .exact .inl (by erw[lN,e2,Å];exact z)
  .exact .inr #[by omega,by erw[mN,e1,Å];exact R])
 have Y:=Z.2;delta Hm at Y;rw[ť] at Y;erw[mN,Å] at W;refine Y _ W ?_;erw[Â,Å];omega
section
variable {s s':ag} {ps qs:List Pg} {p q:Pg} {a b:Nat} {bs:List (List Pg)} {env aP:Env} {st cw:ahv Fl} {d x:D} {y:bw}
def gE (ps:List Pg):Bool:=ώ (ps.length<=24)&&m4.all λm=>k8.all λk=>kT ps m k
def P1 (hl:ps.length<=100):Wp (cx.wx [sD t ps] s) λd s'=>d=.bl (gE ps)/\Kp s s':=by
 refine c8.symm ▸ #[rfl,ahy λR V=>?_];simp only[VC];refine ahw (Rb) ?_;simp only[VC];by_cases S:(24:Int)<ps.length
 .rw[Ã S]
  refine#[?_,Kp.refl s];delta gE;rw[Î ⋯];rfl
 .rw[Î S]
  have N:gE ps=m4.all λm=>k8.all λk=>kT ps m k:=by delta gE;rw[Ã ⋯];rfl
  rw[N];subst V;refine ahy λR V=>?_;rw[jg];refine ahw (fP (n:=4) rfl (by decide)) ?_;refine Wp.iZ (λi env s'=>Kp s s'/\(∀m,m<i->∀k∈k8,kT ps m k=ό)/\∃e1 e2,env=[ϊ _,e1,e2]) _ #[Kp.refl s,λm h=>absurd h (ahd _),_,_,rfl] (λi d env s' Z Y=>?_) (λenv s' Y=>?_)
  .let(kp,U,e1,e2,rfl):=Y
   rw[je] at Z;split at Z
   .cases Z
    refine#[_,rfl,?_];rw[Ū];delta Ll;rw[jg];refine ahw (fP (n:=8) rfl (by decide)) ?_;refine Wp.iZ (λX env s'=>Kp s s'/\(∀k,k<X->kT ps i k=ό)/\∃e2,env=[ϊ _,ϊ _,e2]) _ #[kp,λk h=>absurd h (ahd _),_,rfl] (λX d env M Z Y=>?_) (λenv M Y=>?_)
    .let(kp,T,e2,rfl):=Y
     rw[je] at Z;split at Z
     .cases Z
      rw[Ū];delta Lk;simp only[VC];refine(Xv hl).mono λd L Z=>?_;let(rfl,Q):=Z;simp only[VC]
      cases P:kT ps i X with
      |false =>
       refine#[?_,kp.trans Q];congr 1;symm;rw[ψ];refine#[(i),A0.mpr ⋯,?_];rw[Ŵ,ψ];exact#[(X),rm.mpr ⋯,by rw[P];decide]
      |true =>
       refine#[kp.trans Q,λk W=>?_,_,rfl];by_cases e:k=X
       .subst e;exact P
       .exact T k ⋯
     .cases Z
    .let(kp,T,e2,rfl):=Y
     refine#[kp,λm O k W=>?_,_,_,rfl];by_cases e:m=i
     .subst e
      have K:=rm.mp W;have:=T k.toNat (by rw[jZ];omega);rw[show ((k.toNat))=k by omega] at this;exact this
     .exact U m ⋯ k W
   .cases Z
  .let(kp,U,e1,e2,rfl):=Y
   subst V;simp only[VC];refine#[?_,kp];congr 1;symm;refine Þ.mpr λm O=>Þ.mpr λk W=>?_;have J:=A0.mp O;have:=U m.toNat (by rw[jZ];omega) k W;rw[show ((m.toNat))=m by omega] at this;exact this
def ES (h:Laid ps):gE ps=cX ps:=by
 by_cases Z:ps.length<=24
 .have W:=h.kj Z
  rw[Ī];delta gE;rw[Ã Z];constructor
  .intro V
   have e:=Vj (MA W) λm Y k X=>zU.mp (Þ.mp (Þ.mp V m Y) k X);delta cX;rw[W,e];rfl
  .intro U
   exact Þ.mpr λm Y=>Þ.mpr λk X=>zU.mpr (aav U (A0.mp Y) (rm.mp X))
 .have T:gE ps=ύ:=by delta gE;rw[Î Z];rfl
  have S:cX ps=ύ:=by delta cX kj;rw[Î Z];rfl
  rw[T,S]
def eqB (p q:Pg):Bool:=beq p.d q.d
def Ae:eqB p p=ό:=by
 delta eqB
 cases p<;>simp[Pg.d,ti,beq,iM,zR]
def eqB_iff:eqB p q=ό↔p=q:=by
 have Z:(ģ "made"==ģ "mended")=ύ:=nofun
 have Y:(ģ "mended"==ģ "made")=ύ:=nofun
 constructor
 .delta eqB
  cases p<;>cases q<;>intro h
  .simp[Pg.d,ti,beq,iM,zR] at h
   let(rfl,rfl,rfl,rfl):=h;rfl
  .simp[Pg.d,ti,beq,iM,Z] at h
  .simp[Pg.d,ti,beq,iM,Y] at h
  .simp[Pg.d,ti,beq,iM] at h
   let(rfl,rfl,rfl):=h;rfl
 .intro h
  rw[h];exact Ae
def xw (p:Pg):lay p.d=ό:=by
 have Z:è "made"=ό:=nofun
 have Y:è "mended"=ό:=nofun
 cases p with
 |made m d a b=>erw[Pg.d,lay,DI.cR,ti,pJ,Z,Ğ]
 |cu m d k=>erw[Pg.d,lay,DI.cR,Y,Ğ]
def Af (ps:List Pg):DI.cR (ps.map Pg.d)=ό:=by
 induction ps with
 |nil=>rfl
 |cons p r ih=>erw[Û,DI.cR,xw,ih,Ğ]
def lO (p:Pg) (ps:List Pg):Bool:=ps.any λq=>eqB q p
def ET:lO p ps=ό↔p∈ps:=by
 delta lO;rw[aga];exact#[λ⟨q,Z,Y⟩=>eqB_iff.mp Y ▸ Z,λh=>#[p,h,Ae]]
def aaC:cy p.d (bD ps) s=ok (.bl (lO p ps)) s/\fN p.d (bD ps) s=ok (.bl (!lO p ps)) s:=by
 have e:inD p.d (ps.map Pg.d)=ϊ (lO p ps):=by
  delta inD;have Z:=uy p;rw[Ù (by delta mx;rw[Af,xw,Ã ⋯];rfl),List.any_map];rfl
 delta cy fN;rw[show nu _ s=ϊ _ from rfl];erw[e];exact#[rfl,rfl]
def P2:res p.d s=p.d:=by cases p<;>rfl
def acP:nS p.d=ύ:=by cases p<;>rfl
def aev:cp p.d q.d s=ok (.bl (!eqB p q)) s:=by
 delta cp iG;have Z:=uy p;rw[P2,P2,acP,agQ,é Ú,Ù (by rw[xw,xw,Ã ⋯];rfl)];rfl
theorem MH:∀ps:List Pg,iM (ps.map Pg.d) (ps.map Pg.d)=ό
 | []=>rfl
 |p::ps=>by
  have:=Ae (p:=p);delta eqB at this;erw[Û,iM,this,MH ps,Ğ]
theorem ND:∀ps:List Pg,eZ (ps.map Pg.d)<=10
 | []=>ć _
 |p::ps=>by
  have Z:=uy p;have Y:=ND ps;erw[Û,eZ];omega
def OP:cp (bD ps) (bD ps) s=ok (.bl ύ) s:=by
 delta cp iG;have Z:=ND ps;have Y:dep (bD ps)<=100:=by show eZ _ + 1<=100;omega
 rw[show res _ s=bD ps from rfl,é (by exact Ú),Ù (by
  rw[show lay (bD ps)=ό from Af ps,Ã ⋯];rfl)]
 rw[show beq (bD ps) (bD ps)=ό from MH ps];rfl
def ne_nil:cp (bD ps) (.tup []) s=ok (.bl (!ps.isEmpty)) s:=by
 delta cp iG;rw[show res _ s=bD ps from rfl,show res _ s=.tup _ from rfl,é (by exact Ú),Ù (by
  rw[show lay (bD ps)=ό from Af ps];have:min (dep (bD ps)) (dep (.tup []))<=100:=by have:dep (.tup [])=1:=rfl;omega
  rw[Ã this];rfl)]
 cases ps<;>rfl
def Zc (hl:ps.length<=1000):cm (bD ps) (.tup [p.d]) s=ok (bD (ps++[p])) s:=by
 have e:cm (.tup (ps.map Pg.d)) (.tup [p.d]) s=ok (.tup (ps.map Pg.d++[p.d])) s:=by
  show bY (if qc _ _=ό then ϊ _ else ϋ) s=_
  rw[Ù (show qc _ _=ό from Ã (le_size (by rw[Æ];show ps.length+1<=1000000;omega)))];rfl
 rw[show bD (ps++[p])=.tup (ps.map _++[p.d]) by show D.tup _=_;rw[Ď];rfl];exact e
structure Bk (ps):Prop where
 laid:Laid ps
 book:cX ps=ό
def Bk.len (h:Bk ps):ps.length<=24:=by
 have:=h.book;delta cX kj at this;erw[Â,Å] at this;exact this.1.1
theorem Bk.nil:Bk []:=#[#[λ_ h=>absurd h õ,.nil],by decide +kernel]
def Zd (h:Laid ps):ps.Nodup:=h.up.imp λZ e=>by
 subst e;rw[cz.za] at Z;cases Z
def Vk (h:Laid ps):Laid (ps.filter λq=>!eqB q p):=h.sub List.filter_sublist
def Ec (h:∀p∈ps,cN p=ό):∀p∈ps,lq p:=λp Z=>Dy (h p Z)
end
section
variable {s s':ag} {ps book:List Pg} {p q:Pg} {a b:Nat} {ay bs:List (List Pg)} {env aP:Env} {st cw:ahv Fl} {d x:D} {y:bw}
def iA (h:st env s=ok (.nx aP) s'):ar st cw env s=cw aP s':=by delta ar;rw[h];rfl
def l8 (h:st env s=ϊ (.error y,s')):ar st cw env s=ϊ (.error y,s'):=by delta ar;rw[h];rfl
structure Di (s:ag) (a b:Nat) (ay) (book):Prop where
 ha:s[a]?=ϊ (.ins "Diary" [("books",.aj b)])
 hb:s[b]?=ϊ (.lst ((ay++[book]).map bD))
 ln:ay.length<=500
 bk:∀ps∈ay++[book],Bk ps
def Di.last (h:Di s a b ay book):Bk book:=h.bk book ∅
def Di.ex (h:Di s a b ay book) (x:Ex k s s') (ka:a≠k) (kb:b≠k):Di s' a b ay book:=#[x.get h.ha ka,x.get h.hb kb,h.ln,h.bk]
def Di.kp (h:Di s a b ay book) (x:Kp s s'):Di s' a b ay book:=#[x.get h.ha,x.get h.hb,h.ln,h.bk]
def R5 (ha:s[a]?=ϊ (.ins "Diary" [("books",.aj b)])):jL "Diary" (.aj a) s=ϊ (a,([("books",.aj b)]:List (Str×D))):=by
 delta jL;dsimp only;rw[ha];dsimp only;rw[Ù (Ã rfl)]
def A2 (ha:s[a]?=ϊ (.ins "Diary" [("books",.aj b)])):iO "Diary" "books" (.aj a) s=ok (.aj b) s:=by
 delta iO;rw[R5 ha];rfl
def kZ (ha:s[a]?=ϊ (.ins "Diary" [("books",.aj b)])) (hm:(([("books",D.aj b)]:List (Str×D)).lookup f).isNone=ό) (he:fo env s=ok (.aj a) s) (hf:fa env s=ok ds s):cQ "Diary" f fn fo fa env s=fn (.aj a::ds) s:=by
 delta cQ;rw[he,de,R5 ha];dsimp only;rw[hm,Ù rfl,hf,de]
def OQ (h:s[b]?=ϊ (.lst ds)):res (.aj b) s=.lst ds:=by delta res;dsimp only;rw[h]
def aaD:au (.lst (xs++[x])) (.int (-1)) s=ok x s:=by
 rw[acJ ∅,List.getLast_append_of_ne_nil _ ∅];rfl
def aaE:au (.lst ((ay++[book]).map bD)) (.int (-1)) s=ok (bD book) s:=by
 rw[Ď];exact aaD
def aew (h:Di s a b ay book):au (.aj b) (.int (-1)) s=ok (bD book) s:=by
 have e:au (.aj b) (.int (-1)) s=au (.lst ((ay++[book]).map bD)) (.int (-1)) s:=by
  delta au jU;rw[OQ h.hb];rfl
 rw[e,aaE]
def af2:mv (.int 1) s=ok (.int (-1)) s:=rfl
def A3 (h:Di s a b ay book):ia [.aj a] s=ok (bD book) s:=by
 refine ahx ?_;refine c8.symm ▸ #[rfl,?_];show Wp (aG _ [ϊ _] s) _;rw[cA,bJ,rP,aM];refine ahw (A2 h.ha) ?_;refine ahw af2 (ahw (aew h) ?_);exact#[rfl,rfl]
def aaF (h:cN p=ό):qP [p.d] s=ok .ax s:=by
 refine ahx ?_;delta qP;simp only[VC,Oz (Dy h),h,Œ,Ê,ô,ğ]
def NF {r:Env} {z} (h:cN p=ό):cj (eG qP (af (aa 1) ah)) (z::ϊ p.d::r) s=ok (.nx (z::ϊ p.d::r)) s:=by
 show ai (qP [p.d] s) _=_;rw[aaF h];rfl
def OR (h:Di s a b ay book) (hl:ps.length<=100) (hp:∀p∈ps,cN p=ό):zD [.aj a,bD ps] s=if cX ps=ό then ok .ax (s.set b (.lst ((ay++[book]++[ps]).map bD))) else ϊ (.error #["Clash",ϋ],s):=by
 have e:eQ (cD (aC tL (af (aa 1) ah))) [ϊ (.aj a),ϊ (bD ps)] s=ok (!cX ps) s:=by
  refine ahx ?_;simp only[VC,OA ⋯ (Ec hp),ğ]
 show ai (ar _ _ [ϊ _,ϊ _] s) _=_
 cases hb:cX ps with
 |true =>
  rw[hb] at e;rw[iA (show aV _ _ _ _ s=ok (.nx [ϊ _,ϊ _]) s from ?_)]
  .refine ahx ?_
   let(Z,Y):=uu h.hb (by have:=h.ln;simp;omega);rw[bO,oj,xr,rP,aM];refine ahw (A2 h.ha) #[Z,?_];erw[aZ,aM];refine ahw Y ?_;rw[bz,Ď (l₂:=[ps])];exact#[rfl,rfl]
  .delta aV
   rw[e];rfl
 |false =>
  rw[hb] at e;rw[l8 (?_)]
  .rfl
  .delta aV
   rw[e];rfl
def OS (h:Di s a b ay book) (hp:cN p=ό):lR [.aj a,p.d] s=if cX (ST.dF cz (book++[p]))=ό then ok .ax (s.set b (.lst ((ay++[book]++[ST.dF cz (book++[p])]).map bD))) else ϊ (.error #["Clash",ϋ],s):=by
 have W:=h.last.len;show ai (ar _ _ [ϊ _,ϊ _] s) _=_;rw[iA (NF hp)];have Z:af (eB ib (af (eB TK.wQ (af (e2 cm (cQ "Diary" "book_now" ia (aa 0) ah) (cC (af (aa 1) ah))) ah)) ah)) ah [ϊ (.aj a),ϊ p.d] s=ok [bD (ST.dF cz (book++[p]))] s:=by
  refine ahx ?_;rw[aL,ee,aL,ee,aL,bJ];refine ahw ((kZ h.ha (by rfl) rfl rfl).trans (A3 h)) ?_;erw[iW,aL,aU,aZ,aM];refine#[le_size (n:=1) (by decide),?_];refine ahw (Zc ⋯) ?_;refine ahw (show wQ _ s=ok (.lst ((ST.dF cz (book++[p])).map Pg.d)) s from ?_) ?_
  .show (if ((book++[p]).map _).length<64 then bY _ s else ϋ)=_
   rw[Æ,Ù (by rw[Ï];show book.length+1<64;omega),zW];rfl
  exact#[_,_,rfl,rfl,rfl]
 have Y:∀q∈ST.dF cz _,cN q=ό:=λq X=>by
  rcases Ā.mp ((ST.kM _).mem_iff.mp X) with h'|h'
  .exact h.last.laid.pg q h'
  .rw[ę.mp h'];exact hp
 delta cj;rw[kZ h.ha (by rfl) rfl Z,OR h (by rw[(ST.kM _).length_eq,Ï];show book.length+1<=100;omega) Y];generalize cX _=c
 cases c<;>rfl
def acQ {caps:Env} (hc:caps=[ϊ p.d]) (hl:ps.length<=100):gH 1 caps (gN 0) (aH (e2 cp (aa 0) (aa 1))) (aa 0) (ps.map Pg.d) s=ok ((ps.filter λq=>!eqB q p).map Pg.d) s:=by
 subst hc;refine comp_map _ (λq=>!eqB q p) _ ps λq _=>#[[ϊ _,ϊ _],rfl,?_,λ_=>rfl];refine ahx ?_;erw[eX,bJ,aM,aZ,aev,bz,cG,ğ]
def MI (h:Di s a b ay book) (hp:cN p=ό):n6 [.aj a,p.d] s=if (lO p book&&cX (book.filter λq=>!eqB q p))=ό then ok .ax (s.set b (.lst ((ay++[book]++[book.filter λq=>!eqB q p]).map bD))) else ϊ (.error #["Clash",ϋ],s):=by
 have W:=h.last.len;show ai (ar _ _ [ϊ _,ϊ _,ϋ] s) _=_;rw[iA (NF hp)];rw[iA (show aT _ _ _ s=ok (.nx [ϊ (.aj a),ϊ p.d,ϊ (bD book)]) s from ?_)]
 rotate_left
 .refine ahx ?_
  rw[cZ];refine ahw ((kZ h.ha (by rfl) rfl rfl).trans (A3 h)) ?_;rw[eJ];exact#[rfl,rfl]
 have Z:aH (e2 fN (aa 1) (aa 2)) [ϊ (.aj a),ϊ p.d,ϊ (bD book)] s=ok (!lO p book) s:=by
  refine ahx ?_;erw[eX,bJ,aM,aZ,aaC.2,bz,cG,ğ]
 cases hi:lO p book with
 |false =>
  rw[hi] at Z;rw[l8 (?_)]
  .rfl
  .delta aV
   rw[Z];rfl
 |true =>
  rw[hi] at Z;rw[iA (show aV _ _ _ _ s=ok (.nx [ϊ (.aj a),ϊ p.d,ϊ (bD book)]) s from ?_)]
  rotate_left
  .delta aV
   rw[Z];rfl
  have Y:af (eB ib (af (ck 1 [1] (cB (aa 2)) (gN 0) (aH (e2 cp (aa 0) (aa 1))) (aa 0)) ah)) ah [ϊ (.aj a),ϊ p.d,ϊ (bD book)] s=ok [bD (book.filter λq=>!eqB q p)] s:=by
   refine ahx ?_;rw[aL,ee,aL,iu];refine ahw (kN rfl) #[le_size (by rw[Æ];omega),?_];refine ahw (acQ rfl ⋯) ?_;erw[aU];exact#[_,_,rfl,rfl,rfl]
  delta cj;have sub:(book.filter λq=>!eqB q p).length<=100:=Ø (Ľ ..) ⋯;rw[kZ h.ha (by rfl) rfl Y,OR h sub λq X=>h.last.laid.pg q (ÿ.mp X).1];generalize cX _=c
  cases c<;>rfl
def acR (h:Di s a b ay book):fk [.aj b] s=ok (.int (ay.length+1)) s:=by
 show bY _ s=_;have:sd (.aj b) s=ϊ (.int (ay.length+1)):=by
  delta sd;rw[OQ h.hb];dsimp only;rw[Æ,Ï];rfl
 rw[this];rfl
def OT (h:Di s a b ay book):lS [.aj a] s=if ay=[] then ϊ (.error #["NoDeed",ϋ],s) else ok .ax (s.set b (.lst (ay.map bD))):=by
 have Z:aH (e2 aX (eB fk (af (e1 (iO "Diary" "books") (aa 0)) ah)) (eC (.int 1))) [ϊ (.aj a)] s=ok ((ay.length+1:Int)==1) s:=by
  refine ahx ?_;erw[eX,bJ,ee,aL,aU,rP,aM];refine ahw (A2 h.ha) (ahw (acR h) ?_);simp only[VC,ğ]
 show ai (ar _ _ [ϊ _] s) _=_;by_cases Y:ay=[]
 .subst Y
  rw[l8 (?_)]
  .rfl
  .delta aV
   rw[Z];rfl
 .rw[é Y]
  have V:=List.length_pos_iff.mpr Y;have X:((ay.length+1:Int)==1)=ύ:=beq_eq_false_iff_ne.mpr ⋯;rw[X] at Z;rw[iA (show aV _ _ _ _ s=ok (.nx [ϊ (.aj a)]) s from ?_)]
  rotate_left
  .delta aV
   rw[Z];rfl
  have W:yn (.aj b) s=ok (bD book) (s.set b (.lst (ay.map bD))):=by
   delta yn;dsimp only;rw[h.hb];simp
  refine ahx ?_;rw[bO,oj,rP,rP,aM];refine ahw (A2 h.ha) (ahw W ?_);rw[bz];exact#[rfl,rfl]
def P4:kW "Diary" pH env s=ok (.aj s.length) (s++[.ins "Diary" [("books",.aj (s.length+1))],.lst [.tup []]]):=by
 have e:pH [.aj s.length] (s++[.ins "Diary" []])=ok .ax (s++[.ins "Diary" [("books",.aj (s.length+1))],.lst [.tup []]]):=by
  delta pH aJ;show ai (rM _ _ _ _ [ϊ (.aj s.length)] (s++[.ins "Diary" []])) _=_;delta rM;have e1:eNew (af (cC ah) ah) [ϊ (.aj s.length)] (s++[.ins "Diary" []])=ok (.aj (s.length+1)) (s++[.ins "Diary" [],.lst [.tup []]]):=by
   refine ahx ?_;erw[xp,iW,aL,aU];refine#[le_size (n:=0) (by decide),le_size (n:=1) (by decide),?_,?_]
   .simp
   .simp
  rw[e1,de];show ai (ai (ok (D.aj s.length) _) _) _=_;rw[de];have e2:jL "Diary" (.aj s.length) (s++[.ins "Diary" [],.lst [.tup []]])=ϊ (s.length,[]):=by
   delta jL;dsimp only;rw[ñ (ahz _),Nat.sub_self];rw[List.getElem?_cons_zero];dsimp only;rw[Ù (Ã rfl)]
  rw[e2];dsimp only;rw[Ù (by decide)];have Z:∀(x y z:Cell),List.set (s++[x,y]) s.length z=s++[z,y]:=λx y z=>by simp
  rw[Z];rfl
 delta kW;rw[e];rfl
def aaG (s:ag):Di (s++[.ins "Diary" [("books",.aj (s.length+1))],.lst [.tup []]]) s.length (s.length+1) [] []:=by
 refine#[by simp,?_,by decide,λps Z=>?_]
 .rw[ñ ⋯,show s.length+1-s.length=1 by omega]
  rfl
 .have:=by simpa using Z
  subst this;exact Bk.nil
end
inductive Dd where
 |tell|rA|ql
noncomputable def Dd.w:Dd->Str
 | .tell=>"tell"
 | .rA=>"strike"
 | .ql=>"undo"
noncomputable abbrev qm:D:=.tup [.str "told",.ax]
noncomputable abbrev ig (i:Int):D:=.tup [.str "refused",.int i]
def rQ (ay:List (List Pg)) (book:List Pg) (w:Dd) (p:Pg):List (List Pg)×D:=match w with
 | .ql=>if ay=[] then (ay++[book],ig 14) else (ay,qm)
 | .tell=>if cX (ST.dF cz (book++[p]))=ό then (ay++[book]++[ST.dF cz (book++[p])],qm) else (ay++[book],ig 13)
 | .rA=>if (lO p book&&cX (book.filter λq=>!eqB q p))=ό then (ay++[book]++[book.filter λq=>!eqB q p],qm) else (ay++[book],ig 13)
section
variable {s s':ag} {ps book:List Pg} {p q:Pg} {a b:Nat} {ay bs:List (List Pg)} {w:Dd} {d:D}
def Ze (h:s[b]?=ϊ c):List.set s b c=s:=ŧ λj=>by
 by_cases e:j=b
 .subst e
  rw[â (Ç.mp h).1,h]
 .rw[ç (Ĥ e)]
end
section
variable {s s':ag} {ps book:List Pg} {p q:Pg} {a b k:Nat} {ay bs:List (List Pg)} {w:Dd} {d x:D}
noncomputable def Dd.same:Dd->Dd->Bool
 | .tell,.tell=>ό
 | .rA,.rA=>ό
 | .ql,.ql=>ό
 |_,_=>ύ
end
section
variable {s:ag} {env:Env} {x y z:Str} {ws:List Str} {c:Nat}
theorem P5:∀{ps} {p},p∈ps->p.length<=(jl c ps).length
 | [q],p,h=>by rw[ę.mp h];exact ahz _
 |q::r::t,p,h=>by
  show p.length<=(q++c::jl c _).length;rw[Ï,å]
  rcases Ô.mp h with rfl|h
  .omega
  .have:=P5 h;omega
def Ag (h:z∈ļ x #[#v[c]]):z.length<=x.length:=by
 have e:=ahk x #[#v[c]];rw[rp x,<- e,wW];exact P5 (ï.mpr #[z,h,rfl])
noncomputable abbrev sl (x:Str):List Str:=ļ x #[#v[47]]
noncomputable abbrev bs (x:Str):List Str:=ļ x #[#v[32]]
def MJ (hl:x.length<=1000):(ļ x #[#v[c]]).length<=1002:=Ø (agT x _) ⋯
def ny:∀zs:List Str,(zs.map D.str).length=zs.length:=λzs=>Æ _
def lP (z:Str):Bool:=ώ (z="-")||ku z
def jW (x:Str):Bool:=ώ ((sl x).length=2)&&(sl x).all lP
def BG (hl:ds.length<=1000000):fk [.lst ds] s=ok (.int ds.length) s:=rfl
def BH {n m:Nat}:((n)==(m:Int))=ώ (n=m):=by
 by_cases h:n=m
 .rw[h];simp
 .rw[Î h]
  simpa using λe=>h ⋯
def acS {T:(ahv D)->ahv D} (hl:x.length<=1000) (hF:∀z∈sl x,F [.str z] s=ok (.bl (ku z)) s) (hT:∀C env,C env s=ok (.lst ((sl x).map λz=>D.bl (lP z))) s->T C env s=ok (.bl ((sl x).all lP)) s):aJ 1 2 (ar (aT (hW nj (aa 0) (eC (.str "/"))) (gN 1)) (aG (dj (e2 aX (eB fk (af (aa 1) ah)) (eC (.int 2))) (T (ck 1 [] (cB (aa 1)) (gN 0) cL (i6 (e2 aX (aa 0) (eC (.str "-"))) (aC F (af (aa 0) ah)))))))) [.str x] s=ok (.bl (jW x)) s:=by
 refine ahx ?_;refine c8.symm ▸ #[rfl,ahy λR Z=>?_];rw[cZ];refine ahw (Eb Gr rfl ⋯) ?_;rw[eJ];show ik R _ (.nx [ϊ _,ϊ (.lst ((sl x).map _))]) s;rw[cP];subst Z;have X:(sl x).length<=1002:=MJ hl;rw[cA,ot,bJ];erw[ee,aL,aU,aM,aZ,cf];refine ahw (BG (by rw[ny];omega)) ?_;rw[ny,uD,cG];delta jW;rw[show (((sl x).length:Int)==2)=ώ _ from BH]
 cases ώ ((sl x).length=2) with
 |false=>exact#[rfl,rfl]
 |true =>
  refine ahw (hT _ _ (ahx ?_)) #[rfl,rfl];rw[iu];refine ahw (om rfl) #[le_size (by rw[ny];omega),?_];refine ahw (comp_map _ (λ_=>ό) (λz=>D.bl (lP z)) _ λz Y=>#[[ϊ _],rfl,rfl,λ_=>ahx ?_]) ?_
  .erw[xq,bJ,aM,cf]
   refine ahw vt ?_;erw[cG];delta lP
   cases ώ (z="-") with
   |true=>exact#[rfl,trivial]
   |false =>
    erw[Ê,ô,wp_call,aL,aU,aM];exact ahw (hF z Y) #[rfl,rfl]
  rw[Ĺ.mpr (λ_ _=>rfl)];exact#[rfl,rfl]
def MK (hl:x.length<=1000):zv [.str x] s=ok (.bl (jW x)) s :=
 acS (T:=λC=>eB nC (af C ah)) hl (λz Z=>OM (by have:=Ag Z;omega)) λC env e=>ahx (by
  rw[ee,aL];refine ahw e ?_;rw[aU];exact ahw (rb lP _ s) #[rfl,rfl])
def jb:List Str->Bool
 | [w,a,b,v]=>dP a&&dP b&&(if w="made" then jW v else ώ (w="mended")&&dP v)
 |_=>ύ
def R6 (h:ws.length=4):∃w a b v,ws=[w,a,b,v]:=by
 match ws,h with
 | [w,a,b,v],_=>exact#[w,a,b,v,rfl]
def P6 (h:ws.length≠4):jb ws=ύ:=by
 match ws,h with
 | [],_ | [_],_ | [_,_],_ | [_,_,_],_=>rfl
 | [_,_,_,_],h=>exact absurd rfl h
 |_::_::_::_::_::_,_=>rfl
def LV (hn:ws.length<=2000) (hl:∀z∈ws,z.length<=1000):zt [.lst (ws.map D.str)] s=ok (.bl (jb ws)) s:=by
 refine ahx ?_;refine c8.symm ▸ #[rfl,ahy λR Z=>?_];show Wp (aV _ _ _ [ϊ _,ϋ,ϋ,ϋ,ϋ] s) _;erw[jz,eX,bJ,ee,aL,aU,aM,cf];refine ahw (BG (by rw[ny];omega)) ?_;rw[ny,PV,cG,show (((ws.length:Int)==4))=ώ _ from BH];by_cases W:ws.length=4
 .let(w,a,b,v,rfl):=R6 W
  erw[Œ,Ê,ô,fq,cP];subst Z;have U:=hl a ∅;have T:=hl b ∅;have lv:=hl v ∅;refine ahy λR Z=>?_;rw[cZ,aM];refine#[[ϊ _,ϊ _,ϊ _,ϊ _,ϊ _],rfl,?_];subst Z;refine ahy λR Z=>?_;erw[jz,nq,EG,pV,wp_call,aL,aU,aM,aZ];refine ahw (zL ⋯) ?_;rw[lW]
  cases Y:dP a with
  |false =>
   erw[ahm,ú,cA,cf,nr,kS];simp[jb,Y]
  |true =>
   refine ahw (zL ⋯) ?_;rw[lW]
   cases X:dP b with
   |false =>
    erw[ahm,ú,cA,cf,nr,kS];simp[jb,X]
   |true =>
    erw[Œ,Ê,ô,fq,cP];subst Z;refine ahy λR Z=>?_;erw[jz,eX,bJ,aM,aZ,cf];refine ahw vt ?_;rw[cG];by_cases hw:w="made"
    .rw[Ã hw]
     erw[ú,cA,wp_call,aL,aU,aM,aZ];refine ahw (MK lv) ?_;simp[nr,kS,jb,Y,X,hw]
    .rw[Î hw]
     erw[Ê,ô,fq,cP];subst Z;erw[cA,ot,bJ,aM,aZ,cf];refine ahw vt ?_;rw[cG];by_cases V:w="mended"
     .rw[Ã V]
      erw[ú,wp_call,aL,aU,aM,aZ];refine ahw (zL ⋯) ?_;have e:jb [w,a,b,v]=dP v:=by
       show (dP a&&dP b&&if w="made" then jW v else ώ _&&dP v)=dP v
       rw[Y,X,é hw,Ã V];simp
      rw[e];exact#[rfl,rfl]
     .simp[kS,jb,Y,X,hw,V]
 .rw[Î W]
  erw[ahm,ú,cA,cf,nr,kS];simp[P6 W]
def iB {t} {st cw} {Q} {b} (hc:t env s=ok b s') (h:if b=ό then Wp (st env s') Q else Wp (cw env s') Q):Wp (aV t st cw env s) Q:=by
 rw[jz];exact ahw hc h
def fM {w v} (h:f env s=ok (.str w) s):aH (e2 aX f (eC (.str v))) env s=ok (ώ (w=v)) s:=by
 refine ahx ?_;rw[eX,bJ];refine ahw h ?_;rw[cf];refine ahw vt ?_;rw[cG];exact#[rfl,rfl]
def Tp:List Str->Bool
 | [v]=>jW v
 |_=>ύ
def oV:List Str->Bool
 | []=>ύ
 |w::r=>if w="out" then jb r else if w="surely" then ώ (r.length=2)&&r.all dP else if w="where" then Tp r else if w="undo"\/w="book" then r.isEmpty else jb (w::r)
def EU {r}:au (.lst ((w::r).map D.str)) (.int 0) s=ok (.str w) s:=by
 have e:dw ((w::r).map D.str) (0)=ϊ (.str w):=by
  let(y,e1,e2):=oA (xs:=(w::r).map _) (i:=0) (by decide) ∅;rw[e1];simpa using e2.symm
 show bY (dw _ 0) s=_;rw[e];rfl
def OU {r}:xi (.lst ((w::r).map D.str)) (ϊ 1) ϋ s=ok (.lst (r.map D.str)) s:=by
 show ok _ s=_;have e:cutD ((w::r).map D.str) (ϊ 1) ϋ=r.map D.str:=by
  delta cutD;simp[HT.bX];exact Ž ∅
 rw[e]
theorem ML:∀{zs:List Str},(∀z∈zs,è z=ό)->DI.cR (zs.map D.str)=ό
 | [],_=>rfl
 |z::zs,h=>by
  rw[Û,DI.cR,ML λy Z=>h y (Ë _ Z)];simp[lay,h z Ö]
def aaH {zs:List Str} (h:∀z∈zs,è z=ό):aX (.lst (zs.map D.str)) (.lst []) s=ok (.bl zs.isEmpty) s:=by
 have e:iG (.lst (zs.map D.str)) (.lst [])=ϊ zs.isEmpty:=by
  delta iG;rw[é (by simp[nS]),Ù (by erw[lay,ML h,cR,dep,eZ,Ğ,ĵ,Å];exact Ã (Ø (Nat.min_le_right _ 1) (by decide)))]
  cases zs<;>rfl
 show (match iG (.lst _) (.lst _) with|some b=>ok _ s|none=>ϋ)=_
 rw[e]
theorem P7:∀{ps} {p} {n},p∈ps->n∈p->n∈jl c ps
 | [q],p,n,h,Z=>by rw[ę.mp h] at Z;exact Z
 |q::r::t,p,n,h,Z=>by
  rcases Ô.mp h with rfl|h
  .exact ó _ Z
  .exact Ò _ (Ë _ (P7 h Z))
def qU:è x=ό↔∀n∈sg x,n<1114112:=by
 delta è;rw[<- Array.all_toList,Þ];simp
def Zf (h:z∈ļ x #[#v[c]]) (hx:è x=ό):è z=ό:=by
 refine qU.mpr λn Z=>qU.mp hx n ?_;have e:=ahk x #[#v[c]];rw[<- e,wW];exact P7 (ï.mpr #[z,h,rfl]) Z
def aaI {r} (hn:r.length<=1500) (hl:∀z∈w::r,z.length<=1000) (hk:∀z∈r,è z=ό):z3 [.lst ((w::r).map D.str)] s=ok (.bl (oV (w::r))) s:=by
 have Y:=λz h=>hl z (Ë _ h);refine ahx ?_;refine c8.symm ▸ #[rfl,ahy λR Z=>?_];show Wp (oR 1 2 _ [ϊ _,ϋ,ϋ] s) _;rw[wV];erw[aL,aU,bJ,F6,aM,cf,Fs];refine ahw EU (ahw (rfl) (ahw OU #[_,_,rfl,?_]));show ik R _ (.nx [ϊ _,ϊ _,ϊ _]) s;subst Z;have X:∀{f:ahv D} {b} {Q:D->ag->Prop} {R},f [ϊ (.lst ((w::r).map D.str)),ϊ (.str w),ϊ (.lst (r.map D.str))] s=ok _ s->Q (.bl b) s->Wp _ (ik R (sj Q)):=λh q=>by
  rw[cA];exact ahw h q
 refine ahy λR Z=>iB (fM rfl) ?_;by_cases W:w="out"
 .rw[Ã W]
  exact X (ahx (by erw[wp_call,aL,aU,aM,aZ];exact ahw (LV ⋯ Y) #[rfl,rfl])) #[by rw[show oV (w::r)=jb r from Ù W],rfl]
 rw[Î W,fq];subst Z
 have e1:oV (w::r)=if w="surely" then ώ _&&r.all dP else if w="where" then Tp r else if w="undo"\/w="book" then r.isEmpty else jb _:=é W
 refine ahy λR Z=>iB (fM rfl) ?_;by_cases V:w="surely"
 .rw[Ã V]
  refine X (ahx ?_) #[by rw[e1,Ù V],rfl];erw[ot,bJ,ee,aL,aU,aM,aZ,cf];refine ahw (BG (by rw[ny];omega)) ?_;rw[ny,uD,cG,show ((r.length:Int)==2)=ώ _ from BH]
  cases ώ (r.length=2) with
  |false=>exact#[rfl,rfl]
  |true =>
   erw[iu];refine ahw (om rfl) #[le_size (by rw[ny];omega),?_];refine ahw (comp_map _ (λ_=>ό) (λz=>D.bl (dP z)) r λz S=>#[[ϊ _],rfl,rfl,λ_=>ahx ?_]) ?_
   .erw[wp_call,aL,aU,aM]
    exact ahw (zL (by have:=Y z S;omega)) #[rfl,rfl]
   rw[Ĺ.mpr (λ_ _=>rfl)];exact ahw (rb dP r s) #[rfl,rfl]
 rw[Î V,fq];subst Z;rw[é V] at e1;refine ahy λR Z=>iB (fM rfl) ?_;by_cases U:w="where"
 .rw[Ã U]
  refine X (ahx ?_) #[by rw[e1,Ù U],rfl];erw[ot,bJ,ee,aL,aU,aM,aZ,cf];refine ahw (BG (by rw[ny];omega)) ?_;rw[ny,uD,cG,show ((r.length:Int)==1)=ώ _ from BH]
  match r,Y with
  | [],_=>exact#[rfl,rfl]
  | [v],Y =>
   erw[wp_call,aL,aU,bJ,aM,aZ,cf];refine ahw EU (ahw (MK (Y v ∅)) #[rfl,rfl])
  |a::b::q,_ =>
   exact#[rfl,rfl]
 rw[Î U,fq];subst Z;rw[é U] at e1;have e2:ff (aH (e2 aX (aa 1) (eC (.str "undo")))) (aH (e2 aX (aa 1) (eC (.str "book")))) [ϊ (.lst ((w::r).map D.str)),ϊ (.str w),ϊ (.lst (r.map D.str))] s=ok (ώ (w="undo"\/w="book")) s:=by
  refine ahx ?_;rw[nq];refine ahw (fM rfl) ?_;by_cases h:w="undo"
  .rw[Ã h]
   exact#[(Ã (ſ h)).symm,rfl]
  .rw[Î h]
   refine ahw (fM rfl) #[?_,rfl]
   by_cases P:w="book"<;>simp[h,P]
 refine ahy λR Z=>iB e2 ?_;by_cases T:w="undo"\/w="book"
 .rw[Ã T]
  refine X (ahx ?_) #[by rw[e1,Ù T],rfl];erw[bJ,aM,aZ,oy,aU];refine#[le_size (by decide),?_];exact ahw (aaH hk) #[rfl,rfl]
 rw[Î T,é Ú,fq,cP];subst Z;rw[é T] at e1;rw[cA];erw[wp_call,aL,aU,aM];refine ahw (LV (by simp;omega) hl) #[by rw[e1],rfl]
def Ji {r:List Str} {n:Nat} {u} (h:r[n]?=ϊ u):au (.lst (r.map D.str)) (.int n) s=ok (.str u) s:=by
 have Z:=(Ç.mp h).1;have e:dw (r.map D.str) (n)=ϊ (.str u):=by
  let(y,e1,e2):=oA (xs:=r.map _) (i:=(n)) ⋯ (by simp;exact Z);rw[e1];simp[h] at e2;rw[e2]
 show bY (dw _ _) s=_;rw[e];rfl
def aex (x):∃w r,bs x=w::r:=by
 cases h:bs x with
 |nil =>
  have:=PyProof.Rows.split_pos x #[#v[32]];rw[show ļ x _=[] from h] at this;simp at this
 |cons w r=>exact#[w,r,rfl]
def vI (x:Str):Int:=(NumText.digitsVal (sg x))
def Dz (h:ku x=ό):1<=x.length/\x.length<=30/\∀c∈sg x,ja c=ό:=by
 delta ku at h;erw[Â,Å,Þ] at h;exact#[h.1.1,h.1.2,h.2]
def aaJ (h:ku x=ό):kh [.str x] s=ok (.int (vI x)) s:=by
 let(Z,W,Y):=Dz h;have e:af8 x=ϊ (vI x):=intText_digits (λc X=>á (Y c X)) (λz=>by rw[rp,show sg x=[] from z] at Z;simp at Z) ⋯
 show (if ώ _=ό then (match af8 x with|some n=>ok _ s|none=>ϋ) else ϋ)=_
 rw[Ù (Ã ⋯),e]
def rB (h:dP x=ό):kh [.str x] s=ok (.int (vI x)) s:=aaJ (by exact(Â .. ▸ h).1)
def sV (z:Str):List Int:=if z="-" then [] else (sg z).map λc:Nat=>(c)-48
def zM (h:lP z=ό):zO [.str z] s=ok (mD (sV z)) s/\(sV z).length<=30:=by
 by_cases Z:z="-"
 .have e:sV z=[]:=Ù Z
  rw[e];refine#[ahx ?_,by decide];refine c8.symm ▸ #[rfl,ahy λR Y=>iB (fM rfl) ?_];rw[Ã Z];erw[cA,iW,aU];exact#[le_size (by decide),rfl,rfl]
 .have e:sV z=(sg z).map λc:Nat=>(c:Int)-48:=é Z
  have X:=by delta lP at h;rw[Î Z] at h;exact h
  let(T,W,V):=Dz X;rw[e];refine#[ahx ?_,by rw[Æ];exact W];refine c8.symm ▸ #[rfl,ahy λR Y=>iB (fM rfl) ?_];rw[Î Z,é Ú,fq,cP];subst Y;rw[cA,ee,aL,iu];refine ahw (OL rfl) #[le_size (by rw[Æ,<- rp];omega),?_];refine ahw (comp_map (λc=>D.str _) (λ_=>ό) (λc:Nat=>D.int ((c)-48)) _ λc U=>#[_,rfl,rfl,λ_=>ahx ?_]) ?_
  .exact ahw (aaz (V c U)) #[rfl,rfl]
  rw[Ĺ.mpr (λ_ _=>rfl),aU];refine ahw (rfl) #[?_,rfl];show D.tup _=D.tup _;rw[Ĝ];rfl
def Zg (h:jW x=ό):∃a b,sl x=[a,b]/\lP a=ό/\lP b=ό:=by
 delta jW at h;erw[Â,Å] at h
 match Z:sl x,h with
 | [a,b],h =>
  erw[List.all_cons,List.all_nil,Bool.and_true,Â] at h;exact#[a,b,rfl,h.2.1,h.2.2]
 | [],h=>simp at h
 | [_],h=>simp at h
 |_::_::_::_,h=>simp at h
def kL (x:Str) (i:Nat):List Int:=sV ((sl x).getD i "")
def LA (hl:x.length<=1000) (h:jW x=ό):∃a b,a.length<=30/\b.length<=30/\(a=kL x 0/\b=kL x 1)/\∀s,wu [.str x] s=ok (.tup [mD a,mD b]) s:=by
 let(u,v,e,Z,Y):=Zg h;refine#[_,_,(zM (s:=[]) Z).2,(zM (s:=[]) Y).2,#[by delta kL;rw[e];rfl,by delta kL;rw[e];rfl],λs=>ahx ?_];refine c8.symm ▸ #[rfl,ahy λR X=>?_];rw[cZ];refine ahw (Eb Gr rfl ⋯) ?_;rw[show ļ x _=[u,v] from e];refine#[[ϊ _,ϊ _,ϊ _],rfl,?_];rw[cP];subst X;erw[cA,iW,wp_call,aL,aU,aM,aZ];refine ahw (zM Z).1 (ahw (zM Y).1 ?_);exact#[le_size (n:=2) (by decide),rfl,rfl]
def sm:List Str->Pg
 | [w,a,b,v]=>if w="made" then .made (vI a) (vI b) (kL v 0) (kL v 1) else .cu (vI a) (vI b) (vI v)
 |_=>.cu 0 0 0
def LW (hl:∀z∈ws,z.length<=1000) (h:jb ws=ό):∃p,lq p/\p=sm ws/\∀s,tM [.lst (ws.map D.str)] s=ok p.d s:=by
 have T:ws.length=4:=by
  by_cases e:ws.length=4
  .exact e
  .rw[P6 e] at h;cases h
 let(w,a,b,v,rfl):=R6 T
 have X:(dP a&&dP b&&if w="made" then jW v else ώ _&&dP v)=ό:=h
 erw[Â] at X;obtain⟨⟨W,V⟩,Y⟩:=X;by_cases hw:w="made"
 .rw[Ù hw] at Y
  let(i,j,li,Q,U,S):=LA (hl v ∅) Y;refine#[.made _ _ i j,#[by omega,by omega],by rw[show sm [w,a,b,v]=_ from Ù hw,U.1,U.2],λs=>ahx ?_];refine c8.symm ▸ #[rfl,ahy λR Z=>?_];refine ahw (show aT _ _ _ s=ok (.nx [ϊ _,ϊ _,ϊ _,ϊ _,ϊ _,ϋ]) s from rfl) ?_;subst Z;refine ahy λR Z=>?_;rw[cZ,oz];refine ahw (fM rfl) ?_;rw[Ã hw];erw[wp_call,aL,aU,aM,aZ];refine ahw (S s) ?_;erw[eJ,ē,Ĕ];rw[cP];subst Z;erw[cA,iW,ee,aL,aU,aM,aZ];refine ahw (rB W) (ahw (rB V) ?_);refine#[le_size (n:=4) (by decide),?_,rfl];rw[hw];rfl
 .rw[é hw] at Y
  erw[Â,Å] at Y;refine#[.cu _ _ _,trivial,(é hw).symm,λs=>ahx ?_];refine c8.symm ▸ #[rfl,ahy λR Z=>?_];refine ahw (show aT _ _ _ s=ok (.nx [ϊ _,ϊ _,ϊ _,ϊ _,ϊ _,ϋ]) s from rfl) ?_;subst Z;refine ahy λR Z=>?_;rw[cZ,oz];refine ahw (fM rfl) ?_;rw[Î hw];refine ahw (rB Y.2) ?_;erw[eJ,ē,Ĕ];rw[cP];subst Z;erw[cA,iW,ee,aL,aU,aM,aZ];refine ahw (rB W) (ahw (rB V) ?_);refine#[le_size (n:=4) (by decide),?_,rfl];rw[Y.1];rfl
def Zh (hl:x.length<=1000) (hk:è x=ό):og [.str x] s=if oV (bs x)=ό then ok (.lst ((bs x).map D.str)) s else ϊ (.error #["NoRow",ϋ],s):=by
 let(w,r,Y):=aex x;have U:(w::r).length<=1002:=Y ▸ MJ hl;have T:=λz Z=>Ø (Ag (show z∈bs x by rw[Y];exact Z)) hl;have S:=λz Z=>Zf (show z∈bs x by rw[Y];exact Z) hk;have W:hW nj (aa 0) _ [ϊ _] s=ok (.lst ((bs x).map _)) s:=Eb blank rfl ⋯;have X:ff (eQ (cD (eB nF (af (aa 0) (af (eC (.ty "str")) ah))))) (eQ (cD (aC z3 (af (hW nj (aa 0) (eC (.str " "))) ah)))) [ϊ (.str x)] s=ok (!oV (bs x)) s:=by
  refine ahx ?_;erw[nq,EG,pV,ee,aL,aU,aM,cf,wp_call];refine ahw (rfl) ?_;rw[lW];refine ahw W ?_;rw[Y];refine ahw (aaI (by rw[å] at U;omega) T λz Z=>S z (Ë _ Z)) ?_;rw[lW];exact#[rfl,rfl]
 show ai (ar _ _ [ϊ _] s) _=_
 cases V:oV _ with
 |true =>
  rw[V] at X;rw[iA (by delta aV;rw[X];rfl)];delta aG;rw[W];rfl
 |false =>
  rw[V] at X;rw[l8 (by delta aV;rw[X];rfl)];rfl
end
noncomputable abbrev nY (p:Nat×Nat):D:=.tup [.int p.1,.int p.2]
def Ho (h:0<=d/\d<31):au (.lst ((ä 31).map f)) (.int d) s=ok (f d.toNat) s:=by
 erw[au,jU,res,aaw h.1 h.2,bY]
def R7:fz (n+1) (-1)=ϊ n:=by
 delta fz;rw[é ⋯,Ù ⋯];congr 1;omega
def af3 {x:D}:dw (xs++[x]) (-1)=ϊ x:=by
 delta dw;rw[Ï,Ŋ,R7];simp
def acT (h:s[k]?=ϊ (.lst (ds++[x]))):au (.aj k) (.int (-1)) s=ok x s:=by
 delta au jU res;erw[h,af3];rfl
def aaK (h:s[k]?=ϊ (.lst (ds++[x]))):nD (.aj k) (.int (-1)) y s=ϊ (s.set k (.lst (ds++[y]))):=by
 delta nD;erw[h];have e:fz (ds++[x]).length (-1)=ϊ ds.length:=by rw[Ï,Ŋ,R7]
 rw[e];simp
theorem Ah (b):∀n,(bH b n).length<=n
 |0=>ahz _
 |n+1=>by
  have:=Ah b n;delta bH;split
  .erw[Ï,List.length_dropLast,å,Ą]
   omega
  .split
   .simp;omega
   .omega
def Xw (h:fW b n=ό):∃L d e,bH b n=L++[(d,e)]:=by
 rcases Ra n n (ahz _) with ⟨Z,_⟩ | ⟨_,S,d,_,_,_,e⟩
 .rw[h] at Z;cases Z
 .exact#[_,_,_,e]
def acU:wo [.lst ((ä 31).map λi=>.bl (b i))] s=ok (.lst ((bH b 31).map nY)) (s++[.dead]):=by
 refine ahx ?_;delta wo;erw[c8,å,Ą,Nat.reduceAdd,Nat.reduceSub,Ó,Û,ĳ,Č,ġ,true_and,pM,cZ,eJ,xp,aU,ē,Ĕ,cP,jg];refine#[by decide,?_];refine ahw (fP (n:=31) rfl (by decide)) ?_;refine Wp.iZ (λi env Z=>i<=31->∃a2,env=[ϊ _,ϊ _,a2]/\Z=s++[.lst ((bH b i).map nY)]) _ (λ_=>#[_,rfl,rfl]) (λi d env Z Y W=>?_) (λenv Z W=>?_)
 .rw[je] at Y
  split at Y
  .rename_i hi
   cases Y;let(a2,rfl,rfl):=W ⋯;refine#[_,rfl,?_];erw[ē,Ĕ,Ū];have cell:(s++[Cell.lst ((bH b i).map nY)])[s.length]?=ϊ (.lst ((bH b i).map nY)):=by simp
   have upd:∀c:Cell,(s++[Cell.lst ((bH b i).map nY)]).set s.length c=s++[c]:=λc=>by simp[agU]
   have ln:=Ah b i;have app:(b i&&fW b i)=ύ->Wp (aV (cD (e2 au (aa 0) (aa 2))) (cj (f9 (aa 1) (cC (af (aa 2) (af (aa 2) ah))))) bE [ϊ (.lst ((ä 31).map λi=>.bl (b i))),ϊ (.aj s.length),ϊ (.int i)] (s++[.lst ((bH b i).map nY)])) λX Z=>X=.nx [ϊ (.lst ((ä 31).map λi=>.bl (b i))),ϊ (.aj s.length),ϊ (.int i)]/\Z=s++[.lst ((bH b (i+1)).map nY)]:=λO=>by
    simp only[VC,Ho (show 0<=(i:Int)/\(i:Int)<31 by omega),İ]
    have V:bH b (i+1)=if (b i&&fW b i)=ό then (bH b i).dropLast++[(((bH b i).getLast?.getD (0,0)).1,i)] else if b i=ό then bH b i++[(i,i)] else bH b i:=rfl
    rw[V,O]
    cases U:b i with
    |false=>simp
    |true =>
     refine#[by erw[jJ,cell],by decide,ahw (show mB _ _ _=ok .ax (s++[.lst ((bH b i++[(i,i)]).map nY)]) from ?_) (by first|exact#[rfl,rfl]|rfl)]
     delta mB;erw[cell];rw[Ù (by rw[Å,Æ];exact È (show (bH b i).length<1000 by omega) (le_size (by decide))),upd,Ď];rfl
   rw[jz];erw[uj,pV,bJ,aM,aZ,Ho (show 0<=(i:Int)/\(i:Int)<31 by omega),İ,bz,lW]
   cases U:b i with
   |false =>
    exact(app (by rw[U];rfl)).mono λX R h=>by let(rfl,rfl):=h;exact λ_=>#[_,rfl,rfl]
   |true =>
    erw[ú,eX,bJ,cf,aM,aZ,PU,cG];by_cases Q:0<i
    .rw[Ã ⋯]
     simp only[ú,EJ,Ho (show 0<=(i:Int)-1/\(i:Int)-1<31 by omega),bz,lW];rw[show ((i:Int)-1).toNat=i-1 by omega];have T:fW b i=b (i-1):=by delta fW;rw[Ã Q];rfl
     cases S:b (i-1) with
     |false =>
      exact(app (by rw[T,S,Bool.and_false])).mono λX R h=>by let(rfl,rfl):=h;exact λ_=>#[_,rfl,rfl]
     |true =>
      let(L,d,e,P):=Xw (b:=b) (n:=i) (by rw[T];exact S);rw[P,Ď] at cell upd |-;rw[Ot];erw[iW,aL,aU,bJ,rP,aM,aZ,cf];refine ahw (rfl) ?_;refine ahw (acT cell) ?_;refine ahw (rfl) ?_;refine⟨le_size (by erw[å,Ą];decide),ahw (rfl) ⟨_,aaK cell,λ_=>#[_,rfl,?_]⟩⟩;rw[upd]
      have V:bH b (i+1)=if (b i&&fW b i)=ό then (bH b i).dropLast++[(((bH b i).getLast?.getD (0,0)).1,i)] else if b i=ό then bH b i++[(i,i)] else bH b i:=rfl
      have:bH b (i+1)=L++[(d,i)]:=by
       rw[V,U,T,S,P];simp
      rw[this,Ď];rfl
    .rw[Î (show ¬ (i:Int) > 0 by omega)]
     erw[Ê,ô];exact(app (by delta fW;rw[Î Q];simp)).mono λX R h=>by let(rfl,rfl):=h;exact λ_=>#[_,rfl,rfl]
  .cases Y
 .let(a2,rfl,rfl):=W (ahz _)
  erw[cA,cP,kS,Fq,aM,aZ];exact ahw aax #[rfl,rfl]
def uW:Wp (eG fn fa env s) Q=Wp (fa env s) λds s=>Wp (fn ds s) Q:=by delta eG;rw[bO]
theorem OV {α:Type} (d) (h):∀(xs:List α) s,(∀x∈xs,∃env,g (d x) lg=ϊ env/\(∀s,t env s=ok ό s)/\∀s,Wp (act env s) λys s'=>ys=h x/\∃c,s'=s++c) ->
  Wp (jm g t act lg (xs.map d) s) λys s'=>ys=xs.flatMap h/\∃c,s'=s++c
 | [],s,_=>by
  rw[ĳ];delta jm;rw[bz];exact#[rfl,[],by simp]
 |x::xs,s,Y=>by
  let(env,X,W,V):=Y x Ö;rw[Û];delta jm;rw[X];erw[W,rG,de,ú,bO,Bi];refine(V s).mono λys T Z=>?_;let(rfl,c,rfl):=Z;refine(OV d h xs _ λy Z=>Y y (Ë _ Z)).mono λzs S U=>?_;let(rfl,R,rfl):=U;rw[bz];exact#[rfl,_,by rw[Đ]]
abbrev nZ (h l:List Int):D:=.tup [mD h,mD l]
def jv (ps:List Pg) (m:Int) (h l:List Int) (d:Nat):Bool:=h.all (λk=>!ab (lN ps m k) (mN ps m k) d)&&l.all λk=>!pr (sN ps m k) (mN ps m k) d
structure Sh (h l):Prop where
 a:fm 8 h
 b:fm 8 l
 ap:∀x∈h,x∉l
def NG (hk:fm 8 h):jB h (k8.filter p)=h.all λk=>!p k:=by
 delta jB;rw[List.not_any_eq_all_not];rw[Ī,Þ,Þ];have e:∀x∈h,(!ώ (x∈k8.filter p))=!p x:=λx Z=>by
  congr 1;rw[Ī,Å,ÿ];exact#[λz=>z.2,λz=>#[rm.mpr (hk.lo x Z),z]]
 exact#[λz x Z=>by rw[<- e x Z];exact z x Z,λz x Z=>by rw[e x Z];exact z x Z]
def Zi {m} {h l} {d:Nat} (hs:Sh h l) (hd:d<=30):wR [nZ h l,kY (iq ps m) (gQ ps m) d] s=ok (.bl (jv ps m h l d)) s:=by
 refine ahx ?_;have Z:=hs.a.len;have Y:=hs.b.len;delta wR kY jv;simp only[VC];refine ahw (v7 ..).1 (ahw (v7 ..).2 ?_);refine ahw (D5 ⋯) ?_;rw[NG hs.a];simp only[VC,OE hd]
 cases h.all λk=>!ab _ _ d with
 |false=>simp
 |true =>
  erw[ú,ĵ];refine ahw (v7 ..).2 (ahw (v7 ..).1 ?_);refine ahw (D5 ⋯) ?_;rw[NG hs.b];erw[OD hd,ğ]
def Xx (hs:Sh h l):wg [nZ h l] s=ok .ax s:=by
 refine ahx ?_;have Y:=hs.a.len;have X:=hs.b.len;delta wg;simp only[VC];refine ahw (D6 ⋯ ⋯) ?_;rw[zP hs.a (ahz _),zP hs.b (ahz _),show jB h l=ό by delta jB;rw[Ċ,ť];intro x Z;simpa using hs.ap x Z];simp only[VC,Ğ,Œ,Ê,ô,ğ]
def sW (ps:List Pg) (h l:List Int):List D:=m4.flatMap λm=>(bH (jv ps m h l) 31).map λp=>D.tup [.int m,.int p.1,.int p.2]
def P8 (ps) (h l):(sW ps h l).length<=124:=by
 refine Ø (t6 (b:=31) λm _=>?_) (by decide);rw[Æ];exact Ah _ 31
def MM (hl:ps.length<=1000) (hf:∀p∈ps,lq p) (hb:cX ps=ό) (hs:Sh h l):Wp (pI [bD ps,nZ h l] s) λx s'=>x=.lst (sW ps h l)/\∃c,s'=s++c:=by
 delta pI;rw[c8];refine#[rfl,?_];rw[pM,oj];erw[wp_call,uW,aL,aU,aM,aZ,Û,ĳ,Č,ġ,Ó,Nat.reduceSub];refine ahw (Ab hl hf hb) ?_;rw[cP,pM,oj];refine ahw (Xx hs) ?_;rw[cP,cA,D4];refine ahw (fP rfl (by decide)) ?_;refine(OV _ (λm=>(bH (jv ps m h l) 31).map λp=>D.tup [.int m,.int p.1,.int p.2]) m4 s λm X=>#[_,rfl,λ_=>rfl,λs=>?_]).mono λW s' Z=>?_
 .delta more
  rw[bO];have hi:∃c,cB (aC wo (af (ck 1 [3] (cB (aC tu (af (aa 4) (af (aa 0) ah)))) (gN 0) cL (aC wR (af (aa 1) (af (aa 0) ah)))) ah)) [ϊ (.int m),ϋ,ϋ,ϊ (nZ h l),ϊ (bD ps)] s=ok ((bH (jv ps m h l) 31).map nY) (s++c):=by
   let(x,s',e,rfl,c,rfl):=OI hl;refine#[c++[.dead],om (ahx ?_)];erw[wp_call,uW,aL,aU,iu];refine ahw (om (s1:=s++c) (ds:=kJ.map (kY (iq ps m) (gQ ps m))) (ahx ?_)) #[by rw[Æ];exact le_size (by decide),?_]
   .erw[wp_call,uW,aL,aU,aM,aZ]
    exact ahw e #[rfl,rfl]
   refine ahw (comp_map _ (λ_=>ό) (λd=>.bl (jv ps m h l d.toNat)) kJ λd Y=>#[[ϊ _,ϊ _],rfl,rfl,λ_=>?_]) ?_
   .refine ahx ?_
    let(i,hi,rfl):=ï.mp Y;rw[î] at hi;erw[wp_call,uW,aL,aU,aM,aZ];exact ahw (Zi hs ⋯) #[rfl,rfl]
   .refine ahw (acU) #[rfl,?_]
    rw[Đ]
  let(c,hi):=hi;refine ahw hi ?_;refine ahw (uE nY (λ_=>ό) (λp=>[D.tup [.int m,.int p.1,.int p.2]]) _ λp V=>#[_,rfl,rfl,λ_=>?_]) ?_
  .refine ahx ?_
   delta emit;rw[bO];simp only[VC]
   first|exact#[by decide,rfl,trivial]|exact#[by decide,trivial]|decide
  .rw[filter_tt,<- ahe]
   exact#[rfl,c,rfl]
 .let(rfl,c,rfl):=Z
  refine#[le_size (Ø (P8 ps h l) (by decide)),?_];exact#[rfl,c,rfl]
section
variable {s s':ag} {env:Env} {x y z:Str} {ws:List Str} {c:Nat} {ps:List Pg} {m d:Int}
def fY (hx:è x=ό) (hy:è y=ό):è (x++y)=ό:=qU.mpr λn Z=>by
 rw[rn] at Z;exact(Ā.mp Z).elim (qU.mp hx n) (qU.mp hy n)
theorem Ed (hy:è y=ό):∀{zs},(∀z∈zs,è z=ό)->è (Ĳ y zs)=ό
 | [],_=>show è agq=ό by decide +kernel
 | [z],h=>h z ∅
 |z::u::r,h=>by
  exact fY (fY (h z ∅) hy) (Ed hy λv Z=>h v (Ë _ Z))
def aaL:∀n:Fin 31,è (num (n.val))=ό:=nofun
def ua (h:0<=i/\i<31):è (num i)=ό:=by
 have:=aaL #[i.toNat,by omega];rw[show (((#[_,by omega]:Fin 31).val))=i by simp;omega] at this;exact this
def AB (h:∀i∈l,0<=i/\i<10):è (cO l)=ό:=by
 delta cO;split
 .decide +kernel
 .refine qU.mpr λn Z=>?_
  let(i,hi,rfl):=ï.mp Z;have:=h i hi;omega
def Hq {fn:List D->ag->Res D} {fa} {ds} {y} (h:fa env s=ok ds s) (e:fn ds s=ϊ (.error y,s)):cj (eG fn fa) env s=ϊ (.error y,s):=by
 delta cj eG;rw[h,de,e];rfl
def BI (h:fa env s=ok ds s) (e:fn ds s=ok v s):cj (eG fn fa) env s=ok (.nx env) s:=by
 delta cj eG;rw[h,de,e];rfl
def P9:cx.CL [.int m] s=if iz m=ό then ok .ax s else ϊ (.error #["NoMould",ϋ],s):=by
 have e:eQ (cD (aC tH (af (aa 0) ah))) [ϊ (.int m)] s=ok (!iz m) s:=by
  refine ahx ?_;simp only[VC,Nx,ğ]
 show ai (aV _ _ _ [ϊ _] s) _=_;delta aV;rw[e]
 cases iz m<;>rfl
def Qa:cx.C8 [.int d] s=if gZ d=ό then ok .ax s else ϊ (.error #["NoDay",ϋ],s):=by
 have e:eQ (cD (aC tW (af (aa 0) ah))) [ϊ (.int d)] s=ok (!gZ d) s:=by
  refine ahx ?_;simp only[VC,PX,ğ]
 show ai (aV _ _ _ [ϊ _] s) _=_;delta aV;rw[e]
 cases gZ d<;>rfl
def A4 (p):fm 8 (k8.filter p):=(show fm 8 k8 from #[by decide,by decide]).filter p
def Qb (h:f env s=ok (.str x) s) (hl:x.length<=1000000) (hg:g env s=ok (.str y) s):qk f g env s=ok (.str (if x.length=0 then y else x)) s:=by
 delta qk;rw[h,de];dsimp only;rw[Ù (Ã (le_size hl))];by_cases Z:x.length=0
 .rw[Ù (by simp[Z]),Ù Z,hg]
 .rw[é (by simp[Z]),é Z]
theorem NH {y} {b}:∀{zs},(∀z∈zs,z.length<=b)->(Ĳ y zs).length<=zs.length*(b+y.length)
 | [],_=>by show 0<=_;omega
 | [z],h=>by
  have:=h z ∅;show z.length<=1*(b+y.length);omega
 |z::u::r,h=>by
  have Y:=h z ∅;have X:=NH (y:=y) λv Z=>h v (Ë _ Z);show (z++y++Ĳ y _).length<=_;rw[cW,cW,å,Nat.succ_mul];omega
def acV (ha:a.length<=1000) (hb:b.length<=1000):wg [.tup [mD a,mD b]] s=if (fZ a&&(fZ b&&jB a b))=ό then ok .ax s else ϊ (.error #["NoSheet",ϋ],s):=by
 have e:eQ (cD (aC qR (af (aa 0) ah))) [ϊ (.tup [mD a,mD b])] s=ok (!(fZ a&&(fZ b&&jB a b))) s:=by
  refine ahx ?_;simp only[VC,D6 ha hb,ğ]
 show ai (aV _ _ _ [ϊ _] s) _=_;delta aV;rw[e]
 cases fZ a&&(fZ b&&jB a b)<;>rfl
end
section
variable {s s':ag} {ps:List Pg} {m k:Int} {Q:Fl->ag->Prop} {e6 e11:Option D} {j y:Nat} {P A:List Int} {t g:Bool} {env:Env} {f h u:ahv D} {a b c:Bool}
abbrev pB (ps:List Pg) (m k:Int) (j:Nat) (e6:Option D) (P A:List Int) (t g:Bool) (e11:Option D):Env:=[ϊ (bD ps),ϊ (.int m),ϊ (.int k),ϊ (lI (shown ps m k)),ϊ (lI (eY ps m k)),ϊ (.aj j),e6,ϊ (lI P),ϊ (lI A),ϊ (.bl t),ϊ (.bl g),e11]
def Jj (hf:f env s=ok (.bl a) s) (hh:h env s=ok (.bl b) s):i6 f h env s=ok (.bl (a||b)) s:=ahx (by
 rw[xq];refine ahw hf ?_;rw[cG]
 cases a with
 |true=>exact#[rfl,rfl]
 |false=>exact ahw hh #[rfl,rfl])
def R8 (hf:f env s=ok (.bl a) s) (hh:h env s=ok (.bl b) s):dj f h env s=ok (.bl (a&&b)) s:=ahx (by
 rw[ot];refine ahw hf ?_;rw[cG]
 cases a with
 |false=>exact#[rfl,rfl]
 |true=>exact ahw hh #[rfl,rfl])
def two {x y z} (hf:f env s=ok x s) (hh:h env s=ok y s) (e:o x y s=ok z s):e2 o f h env s=ok z s:=ahx (by
 rw[bJ];exact ahw hf (ahw hh (ahw e #[rfl,rfl])))
def aey (hj:s[j]?=ϊ (.lst ((cM ps m k).map D.int))) (hP:P.length<=900) (hz:(sN ps m k y||(t&&!mN ps m k y))=z) (q:Q (.nx (pB ps m k j e6 (P++if z=ό then [(y:Int)] else []) A z g (ϊ (.int y)))) s):Wp (Nl (pB ps m k j e6 P A t g (ϊ (.int y))) s) Q:=by
 have e:i6 (e2 cy (aa 11) (aa 3)) (dj (aa 9) (e2 fN (aa 11) (aa 5))) (pB ps m k j e6 P A t g (ϊ _)) s=ok (.bl z) s:=(Jj (two rfl rfl (oC rfl).1) (R8 rfl (two rfl rfl (oC (uq hj)).2))).trans (by rw[<- hz];rfl);refine ahy λR Z=>?_;rw[cZ];refine ahw e ?_;rw[eJ];show ik R Q (.nx (pB ps m k j e6 P A z g _)) s;rw[cP];subst Z;rw[cZ];erw[bJ,aM,aZ,oy,aL,aU,ee];refine#[le_size (n:=1) (by decide),?_];refine ahw (rfl) (ahw Ad ?_);have:=one_le (y) z;refine ahw (uH ⋯) ?_;rw[eJ];exact q
def aez (hj:s[j]?=ϊ (.lst ((cM ps m k).map D.int))) (hA:A.length<=900) (hz:(g||lN ps m k y)=z) (hw:(z||mN ps m k y)=w) (q:Q (.nx (pB ps m k j e6 P ((if w=ό then [(y:Int)] else [])++A) t (z&&!mN ps m k y) (ϊ (.int y)))) s):Wp (Nm (pB ps m k j e6 P A t g (ϊ (.int y))) s) Q:=by
 refine ahy λR Z=>?_;rw[cZ];refine ahw ((Jj rfl (two rfl rfl (oC rfl).1)).trans (show _=ok (.bl z) s by rw[<- hz];rfl)) ?_;rw[eJ];show ik R Q (.nx (pB ps m k j e6 P A t z _)) s;subst Z;refine ahy λR Z=>?_;rw[cZ,bJ,bJ,oy,aL];erw[aM,aZ,aU];refine#[le_size (n:=1) (by decide),?_];rw[ee,aL];refine ahw ((Jj rfl (two rfl rfl (oC (uq hj)).1)).trans (show _=ok (.bl w) s by rw[<- hw];rfl)) ?_;rw[aU];refine ahw (rfl) (ahw Ad ?_);have:=one_le (y) w;refine ahw (uH ⋯) ?_;rw[eJ];rw[cP];subst Z;rw[cZ];refine ahw (R8 rfl (two rfl rfl (oC (uq hj)).2)) ?_;rw[eJ];exact q
abbrev Jk (ps:List Pg) (m k:Int) (i:Nat):List Int:=((ä i).filter λd=>pr (sN ps m k) (mN ps m k) d).map λd:Nat=>(d)
def acW:IC (af (eC (.int 30)) (af (e1 mv (eC (.int 1))) (af (e1 mv (eC (.int 1))) ah))) env s=ok downs s:=by rfl
def Cp (ps:List Pg) (m k:Int):D:=.tup [lI (iq ps m k),lI (gQ ps m k).reverse]
def NI (hl:ps.length<=100):Wp (Aw [bD ps,.int m,.int k] s) λd s'=>d=Cp ps m k/\Kp s s':=by
 refine c8.symm ▸ #[rfl,ahy λR Z=>?_];refine ahw (rfl) ?_;subst Z;refine ahy λR Z=>?_;refine R4 (t:=ό) hl λe6 s' U kp=>?_;subst Z;refine ahy λR Z=>ahw (rfl) ?_;subst Z;refine ahy λR Z=>?_;rw[jg];refine ahw (fP (n:=31) rfl (by decide)) ?_;refine Wp.iZ (λi env W=>W=s'/\∃e11,env=pB ps m k _ e6 (Jk ps m k i) [] (zi (sN ps m k) (mN ps m k) i) ύ e11) _ #[rfl,_,rfl] (λi d env W Y X=>?_) (λenv W X=>?_)
 .let(rfl,e11,rfl):=X
  rw[je] at Y;split at Y
  .cases Y
   rw[Ū];refine#[_,rfl,aey U (Ø tQ ⋯) (NC _ _ i) #[rfl,ϊ (.int i),?_]]
   rw[show Jk ps m k _=Jk ps m k i++(if pr _ _ i=ό then [(i:Int)] else []) from zQ]
   rfl
  .cases Y
 let(rfl,e11,rfl):=X;subst Z;refine ahy λR Z=>?_;rw[jg];refine ahw acW ?_;refine Wp.iZ (λi env V=>V=W/\∃e11,env=pB ps m k _ e6 _ (iS ps m k i).reverse _ (hZ (lN ps m k) (mN ps m k) i) e11) _ #[rfl,_,rfl] (λi d env V Y X=>?_) (λenv V X=>?_)
 .let(rfl,e11,rfl):=X
  rw[MB] at Y;split at Y
  .cases Y
   have T:((hZ (lN ps m k) (mN ps m k) i||lN ps m k (30-i))||mN ps m k (30-i))=ab (lN ps m k) (mN ps m k) (30-i):=by
    delta ab br;rw[show 31-(30-i+1)=i by omega,Bool.or_assoc]
   refine#[_,rfl,aez U (by rw[List.length_reverse];exact Ø tQ ⋯) rfl T #[rfl,ϊ (.int ((30-i:Nat))),?_]]
   rw[show iS ps m k _=iS ps m k i++(if ab _ _ _=ό then [((30-i:Nat):Int)] else []) from zQ,List.reverse_append]
   cases ab _ _ _<;>rfl
  .cases Y
 let(rfl,e11,rfl):=X;rw[cP];subst Z;rw[cA,iW];erw[aL,aM,aZ,aU];exact#[le_size (n:=2) (by decide),rfl,kp]
theorem OW {caps} {g} (h):∀(ns:List Int) s,(∀n∈ns,∃env,g (.int n) (Ó nt ϋ++caps)=ϊ env/\∀s,Wp (f env s) λy s'=>y=h n/\Kp s s')->Wp (gH nt caps g cL f (ns.map D.int) s) λys s'=>ys=ns.map h/\Kp s s'
 | [],s,_=>by
  rw[ĳ];delta gH;rw[bz];exact#[rfl,Kp.refl s]
 |x::Y,s,Z=>by
  let(env,X,W):=Z x Ö;rw[Û];delta gH;rw[X];erw[bO];refine ahw (rfl) ?_;erw[ú];let(y,V,e,rfl,U):=W s;erw[bO];refine ahw (by rw[e];rfl) ?_;refine(OW h Y V λy T=>Z y (Ë _ T)).mono λys Q S=>?_;let(rfl,R):=S;rw[bz];exact#[rfl,U.trans R]
def aeA (h:0<=k/\k<8):au (.lst (k8.map F)) (.int k) s=ok (F k) s:=by
 let(x,e1,e2):=oA (xs:=k8.map F) h.1 (by exact h.2);have:=by
  rw[à] at e2;have e3:k8[k.toNat]?=ϊ k:=by
   delta k8;rw[à,ķ ⋯];simp;omega
  rw[e3] at e2;exact(ahA e2).symm
 subst this;erw[au,jU,res,e1,bY]
def half {i} {F:Int->List Int} (hi:∀k,au (Cp ps m k) (.int i) s=ok (lI (F k)) s):eB ib (af (ck 1 [2,3] (dI (af (eC (.int 8)) ah)) (gN 0) (aH (e2 cy (aa 1) (e2 au (e2 au (aa 2) (aa 0)) (eC (.int i))))) (aa 0)) ah) [ϊ (bD ps),ϊ (.int m),ϊ (.int d),ϊ (.lst (k8.map (Cp ps m))),e6] s=ok (mD (k8.filter λk=>ώ (d∈F k))) s:=ahx (by
 rw[ee,aL,iu];refine ahw (fP rfl (by decide)) #[by exact le_size (by decide),?_];refine ahw (tO (λk=>ώ (d∈F k)) (λk=>.int k) k8 λk Z=>#[_,rfl,ahx ?_,λ_=>rfl]) ?_
 .rw[eX]
  refine ahw (two rfl (two (two rfl rfl (aeA (rm.mp Z))) rfl (hi k)) uV) ?_;rw[cG];exact#[rfl,rfl]
 .rw[aU]
  exact ahw (rfl) #[rfl,rfl])
def Wg (hl:ps.length<=100):Wp (zT [bD ps,.int m,.int d] s) λv s'=>v=kY (iq ps m) (gQ ps m) d/\Kp s s':=by
 refine c8.symm ▸ #[rfl,ahy λR Z=>?_];rw[cZ,iu];refine ahw (fP rfl (by decide)) #[by exact le_size (by decide),?_];refine(OW (Cp ps m) k8 s λk W=>#[[ϊ _,ϊ _,ϊ _],rfl,λs=>?_]).mono λV Y X=>?_
 .erw[wp_call,aL,aU,aM,aZ]
  exact NI hl
 let(rfl,kp):=X;rw[eJ];subst Z;refine ahy λR Z=>?_;rw[cZ];refine ahw (half λk=>rfl) ?_;rw[eJ];show ik R _ (.nx [ϊ _,ϊ _,ϊ _,ϊ _,ϊ _]) Y;rw[cP];subst Z;rw[cA,iW];erw[aM,aZ,aL];refine ahw (half λk=>rfl) ?_;rw[aU];refine#[le_size (n:=2) (by decide),?_,kp];delta kY;erw[List.mem_reverse]
end
noncomputable def n5 (z:Bool) (y:Nat) (st:List (Nat×Nat)×Option Nat):List (Nat×Nat)×Option Nat:=match st.2 with
 |none=>if z=ό then (st.1,ϊ y) else st
 |some f=>if z=ό then st else (st.1++[(f,y-1)],ϋ)
def pC (b:Nat->Bool):Nat->List (Nat×Nat)×Option Nat
 |0=>([],ϋ)
 |n+1=>n5 (b n) n (pC b n)
theorem Qc (b):∀n,(fW b n=ύ/\pC b n=(bH b n,ϋ))\/(fW b n=ό/\∃S f,pC b n=(S,ϊ f)/\bH b n=S++[(f,n-1)])
 |0=>.inl #[rfl,rfl]
 |n+1=>by
  have V:fW b (n+1)=b n:=by simp[fW]
  rw[V];have e:pC b (n+1)=n5 _ n _:=rfl
  rcases Qc b n with ⟨X,Y⟩ | ⟨X,S,f,Y,W⟩
  .cases Z:b n with
   |false=>exact .inl #[rfl,by rw[e,Y];simp[n5,bH,Z]]
   |true=>exact .inr #[rfl,bH b n,n,by rw[e,Y];simp[n5,Z],by simp[bH,Z,X]]
  .cases Z:b n with
   |false=>exact .inl #[rfl,by rw[e,Y];simp[n5,bH,Z,W]]
   |true=>exact .inr #[rfl,S,f,by rw[e,Y];simp[n5,Z],by simp[bH,Z,X,W]]
theorem LX:∀{n},(∀d,d<n->b d=c d)->bH b n=bH c n
 |0,_=>rfl
 |n+1,h=>by
  have:fW b n=fW c n:=by
   delta fW;by_cases Z:0<n
   .rw[h _ ⋯]
   .rw[Î Z,agQ,agQ]
  have ih:bH b n=bH c n:=LX λd Y=>h d ⋯;erw[bH,ih,this,h n ⋯]
theorem OX (b):∀n,(pC b n).1.length<=n
 |0=>ahz 0
 |n+1=>by
  have:=OX b n;show (n5 _ n _).1.length<=_;delta n5
  split<;>split<;>(try erw[Ï,å,Ą])<;>omega
section
variable {s s':ag} {ps:List Pg} {m k:Int} {Q:Fl->ag->Prop} {e5 e6 e7 e8 e9:Option D} {j y:Nat} {B h l:List Int} {L:List D}
noncomputable def oN:Option Nat->D
 |none=>.ax
 |some n=>.int n
noncomputable abbrev sX (m:Int) (p:Nat×Nat):D:=.tup [.int m,.int p.1,.int p.2]
abbrev wE (ps:List Pg) (h l:List Int) (j:Nat) (m:Int) (B:List Int) (e5 e6 e7 e8 e9:Option D):Env:=[ϊ (bD ps),ϊ (nZ h l),ϊ (.aj j),ϊ (.int m),ϊ (lI B),e5,e6,e7,e8,e9]
def yu (ht:t env s=ok a s) (hu:a=ό->u env s=ok b s):fj t u env s=ok (a&&b) s:=ahx (by
 rw[uj];refine ahw ht ?_
 cases a with
 |false=>exact#[rfl,rfl]
 |true=>exact ahw (hu rfl) #[rfl,rfl])
def tor (ht:t env s=ok a s) (hu:u env s=ok b s):ff t u env s=ok (a||b) s:=ahx (by
 rw[nq];refine ahw ht ?_
 cases a with
 |true=>exact#[rfl,rfl]
 |false=>exact ahw hu #[rfl,rfl])
def cK (h:f env s=ok (.bl a) s):aH f env s=ok a s:=by delta aH;rw[h];rfl
def acX (hj:s[j]?=ϊ (.lst (L++st.1.map (sX m)))) (hn:L.length+st.1.length<=1000) (hy:y<=31) (h0:∀f,st.2=ϊ f->0<y) (hz:z=(ώ (y<31)&&!ώ ((y:Int)∈B)))
 (q:∀s',s'[j]?=ϊ (.lst (L++(n5 z y st).1.map (sX m)))->(s'=s\/∃x,s'=s.set j x)->Q (.nx (wE ps h l j m B e5 e6 e7 (ϊ (oN (n5 z y st).2)) (ϊ (.int y)))) s'):Wp (Ms (wE ps h l j m B e5 e6 e7 (ϊ (oN st.2)) (ϊ (.int y))) s) Q:=by
 let(S,o):=st;have Z:=oC (x:=y) (d:=lI B) (s:=s) rfl;have lt:jo (.int y) (.int 31) s=ok (.bl (ώ (y<31))) s:=by
  show ok _ s=_;rw[show ώ _=ώ (y<31) from decide_eq_decide.mpr ⋯]
 have eq:aX (.int y) (.int 31) s=ok (.bl (!ώ _)) s:=ahx (by
  rw[uD];refine#[?_,rfl];by_cases h:y<31
  .rw[Ã h,beq_eq_false_iff_ne.mpr ⋯];rfl
  .rw[Î h,show (y)=31 by omega];rfl)
 cases o with
 |none =>
  refine iB (b:=z) (s':=s) ?_ ?_
  .rw[hz]
   exact yu (a:=ό) (cK rfl) λ_=>yu (cK (two rfl rfl lt)) λ_=>cK (two rfl rfl Z.2)
  .cases z with
   |true =>
    exact ahw rfl (q s hj (.inl rfl))
   |false =>
    refine iB (yu (b:=ύ) (cK rfl) λh=>by cases h) ?_;exact ahw rfl (q s hj (.inl rfl))
 |some f =>
  refine iB (yu (b:=ύ) (cK rfl) λh=>by cases h) ?_;refine iB (b:=!z) (s':=s) ?_ ?_
  .rw[hz,Bool.not_and,Bool.not_not]
   exact yu (a:=ό) (cK rfl) λ_=>tor (cK (two rfl rfl eq)) (cK (two rfl rfl Z.1))
  .cases z with
   |true =>
    exact ahw rfl (q s hj (.inl rfl))
   |false =>
    have Y:=uu (x:=sX m (f,y-1)) hj (by rw[Ï,Æ];exact hn);have W:=h0 f rfl;refine ahy λR X=>?_;rw[oj,xr];erw[aM,aZ];refine#[Y.1,?_];erw[iW,aL,aU,bJ,aM,aZ,cf,EJ];refine#[le_size (n:=3) (by decide),?_];rw[show (y)-1=((y-1:Nat):Int) by omega];refine ahw Y.2 ?_;rw[cP];subst X;rw[cZ,cf,eJ];refine q _ ?_ (.inr #[_,rfl]);rw[â (Ç.mp hj).1];show ϊ _=ϊ (Cell.lst (L++(S++[(f,y-1)]).map _));rw[Ď,Đ];rfl
abbrev BJ (ps:List Pg) (m:Int) (h l:List Int) (k:Int):List Int:=(if ώ (k∈h)=ό then (gQ ps m k).reverse else [])++if ώ (k∈l)=ό then iq ps m k else []
def OY:(BJ ps m h l k).length<=62:=by
 have Z:(gQ ps m k).reverse.length<=31:=by rw[List.length_reverse];exact tQ
 have Y:(iq ps m k).length<=31:=tQ;rw[Ï]
 split<;>split<;>(try erw[Ą])<;>omega
def Rc (ht:t env s=ok a s) (hf:f env s=ok (lI ns) s):jS t f (dh ah) env s=ok (lI (if a=ό then ns else [])) s:=ahx (by
 rw[oz];refine ahw ht ?_
 cases a with
 |true=>exact ahw hf #[rfl,rfl]
 |false =>
  exact ahw (rfl) #[rfl,rfl])
def acY (hl:ps.length<=100) (hB:B.length<=900) (q:∀s' e6 e7,Kp s s'->Q (.nx (wE ps h l j m (B++BJ ps m h l k) (ϊ (.int k)) e6 e7 e8 e9)) s'):Wp (Mr (wE ps h l j m B (ϊ (.int k)) e6 e7 e8 e9) s) Q:=by
 refine ahy λR Z=>?_;rw[cZ,wp_call];erw[aL,aU,aM,aZ];refine(NI hl).mono λd Y X=>?_;let(rfl,kp):=X;refine#[wE ps h l j m B _ _ _ e8 e9,rfl,?_];rw[cP];subst Z;rw[cZ,bJ,bJ];have a1:=OY (ps:=ps) (m:=m) (h:=h) (l:=l) (k:=k);rw[Ï] at a1;erw[aM,aZ];refine ahw (Rc (cK (two rfl (rfl) pN)) rfl) ?_;refine ahw (uH ⋯) ?_;refine ahw (Rc (cK (two rfl (rfl) pN)) rfl) ?_;refine ahw (uH (by rw[Ï];omega)) ?_;rw[eJ,Đ];exact q Y _ _ kp
def nI (ps:List Pg) (m:Int) (h l:List Int) (i:Nat):List Int:=(ä i).flatMap λk:Nat=>BJ ps m h l k
def NJ:nI ps m h l (i+1)=nI ps m h l i++BJ ps m h l i:=by
 delta nI;rw[ξ,List.flatMap_append,List.flatMap_singleton]
theorem OZ:∀{i},(nI ps m h l i).length<=i*62
 |0=>ahz 0
 |i+1=>by
  have Z:=OZ (i:=i);have Y:=OY (ps:=ps) (m:=m) (h:=h) (l:=l) (k:=(i));rw[NJ,Ï];omega
def acZ (hs:Sh h l) {d:Nat} (hd:d<=30):(!ώ ((d:Int)∈nI ps m h l 8))=jv ps m h l d:=by
 have pm:∀k,(d:Int)∈iq ps m k↔pr _ _ d=ό:=λk=>by rw[<- OD hd,Å]
 have am:∀k,(d:Int)∈(gQ ps m k).reverse↔ab _ _ d=ό:=λk=>by rw[<- OE hd,Å,List.mem_reverse]
 have key:(d:Int)∈nI ps m h l 8↔jv ps m h l d=ύ:=by
  delta nI jv;rw[agb,agV,ψ,ψ];constructor
  .rintro ⟨k,-,hk⟩
   rcases Ā.mp hk with hk|hk
   .split at hk
    .rename_i Y
     exact .inl #[k,á Y,by rw[(am k).mp hk];decide]
    .cases hk
   .split at hk
    .rename_i Y
     exact .inr #[k,á Y,by rw[(pm k).mp hk];decide]
    .cases hk
  .have up:∀{x},0<=x/\x<8->x.toNat∈ä 8/\((x.toNat):Int)=x:=λZ=>#[î.mpr ⋯,by omega]
   rintro (⟨x,Z,X⟩ | ⟨x,Z,X⟩)
   .let(W,V):=up (by have:=hs.a.lo x Z;omega)
    refine#[_,W,ó _ ?_];rw[V,Ù (Ã Z)];exact(am x).mpr (by simpa using X)
   .let(W,V):=up (by have:=hs.b.lo x Z;omega)
    refine#[_,W,Ò _ ?_];rw[V,Ù (Ã Z)];exact(pm x).mpr (by simpa using X)
 cases U:jv ps m h l d with
 |true=>rw[Î λz=>by rw[key.mp z] at U;cases U];rfl
 |false=>rw[Ã (key.mpr U)];rfl
def where3 (hl:ps.length<=100) (hs:Sh h l) (hj:s[j]?=ϊ (.lst L)) (hn:L.length<=900)
 (q:∀s' B e5 e6 e7 e8 e9,s'[j]?=ϊ (.lst (L++(bH (jv ps m h l) 31).map (sX m)))->Ex j s s'->Q (.nx (wE ps h l j m B e5 e6 e7 e8 e9)) s'):Wp (Mt [ϊ (bD ps),ϊ (nZ h l),ϊ (.aj j),ϊ (.int m),B0,e5,e6,e7,e8,e9] s) Q:=by
 refine ahy λR X=>ahw (rfl) ?_;subst X;refine ahy λR X=>?_;rw[jg];refine ahw (fP (n:=8) rfl (by decide)) ?_;refine Wp.iZ (λi env V=>i<=8->∃e5 e6 e7,env=wE ps h l j m (nI ps m h l i) e5 e6 e7 e8 e9/\Kp s V) _ (λ_=>#[_,_,_,rfl,Kp.refl s]) (λi d env V Z Y=>?_) (λenv V Y=>?_)
 .rw[je] at Z
  split at Z
  .cases Z
   let(e5,e6,e7,rfl,kp):=Y ⋯;rw[Ū];refine#[_,rfl,acY hl (Ø OZ ⋯) λW e6 e7 M _=>#[ϊ (.int i),e6,e7,?_,kp.trans M]];rw[NJ]
  .cases Z
 let(e5,e6,e7,rfl,kp):=Y (ahz _);subst X;refine ahy λR X=>ahw (rfl) ?_;rw[cP];subst X;rw[jg];refine ahw (fP (n:=32) rfl (by decide)) ?_;have S:=kp.get hj;generalize P:(λy:Nat=>ώ (y<31)&&!ώ ((y:Int)∈nI ps m h l 8))=b;refine Wp.iZ (λi env W=>i<=32->∃e9,env=wE ps h l j m (nI ps m h l 8) e5 e6 e7 (ϊ (oN (pC b i).2)) e9/\W[j]?=ϊ (.lst (L++(pC b i).1.map (sX m)))/\Ex j V W) _ (λ_=>#[_,rfl,by simpa [pC] using S,Ex.refl ..]) (λi d env W Z Y=>?_) (λenv W Y=>?_)
 .rw[je] at Z
  split at Z
  .cases Z
   let(e9,rfl,U,T):=Y ⋯;rw[Ū];have ln:=OX b i;refine#[_,rfl,acX U ⋯ ⋯ (λf K=>?_) (by rw[<- P]) λG J I _=>#[_,rfl,J,?_]]
   .cases i with
    |zero=>cases K
    |succ n=>omega
   .rcases I with rfl | ⟨x,rfl⟩
    .exact T
    .exact T.trans (Ex.set ..)
  .cases Z
 rw[jZ] at Y;let(e9,rfl,U,T):=Y (ahz _);have N:b 31=ύ:=by rw[<- P];rfl
 have O:bH b 32=bH (jv ps m h l) 31:=by
  have:bH b 32=bH b 31:=by
   show (if (b 31&&fW b 31)=ό then _ else if b 31=ό then _ else _)=_
   rw[N];rfl
  rw[this];exact LX λd Z=>by rw[<- P,<- acZ hs ⋯];simp[Z]
 have H:pC b 32=(bH b 32,ϋ):=by
  rcases Qc b 32 with ⟨-,h⟩ | ⟨h,-⟩
  .exact h
  .have:fW b 32=b 31:=by simp[fW]
   rw[this,N] at h;cases h
 rw[H,O] at U;exact q _ _ _ _ _ _ _ U (Ex.trans #[kp.1,λi hi _=>kp.2 i hi] T)
def Xy (hl:ps.length<=100) (hs:Sh h l):Wp (z9 [bD ps,nZ h l] s) λv s'=>v=.lst (sW ps h l)/\Kp s s':=by
 refine c8.symm ▸ #[rfl,ahy λR W=>?_];refine ahw (rfl) ?_;subst W;refine ahy λR W=>?_;rw[jg];refine ahw (fP (n:=4) rfl (by decide)) ?_;have V:∀{i},i<=4->(((ä i).map λi:Nat=>(i:Int)).flatMap λm=>(bH (jv ps m h l) 31).map (sX m)).length<=i*31:=λ{i} hi=>by
  induction i with
  |zero=>exact ahz 0
  |succ i ih =>
   rw[ξ,Ď,List.flatMap_append,Ï];have:=Ah (jv ps (i) h l) 31;erw[Û,ĳ,List.flatMap_cons,List.flatMap_nil,ð,Æ];omega
 refine Wp.iZ (λi env Z=>i<=4->∃e3 U e5 e6 e7 e8 e9,env=[ϊ _,ϊ _,ϊ _,e3,U,e5,e6,e7,e8,e9]/\Z[s.length]?=ϊ (.lst (((ä i).map λi:Nat=>(i:Int)).flatMap λm=>(bH (jv ps m h l) 31).map (sX m)))/\Ex s.length s Z) _ (λ_=>#[_,_,_,_,_,_,_,rfl,by simp,Ex.app ..]) (λi d env Z Y T=>?_) (λenv Z T=>?_)
 .rw[je] at Y
  split at Y
  .cases Y
   let(e3,U,e5,e6,e7,e8,e9,rfl,S,X):=T ⋯;refine#[_,rfl,where3 hl hs S (Ø (V ⋯) ⋯) λO B e5 e6 e7 e8 e9 Q P _=>#[_,_,_,_,_,_,_,rfl,?_,X.trans P]];rw[Q,ξ,Ď];simp
  .cases Y
 let(e3,U,e5,e6,e7,e8,e9,rfl,S,X):=T (ahz _);rw[cP];subst W;rw[cA,Fq];erw[aM,aZ];refine ahw (by erw[bx,S];rfl) #[rfl,Kp.set #[X.len,λi hi=>X.val i hi ⋯] (ahz _) _]
end
section
variable {s:ag} {x y z:Str} {l a b:List Int} {i m d:Int} {p:Pg} {ws:List Str}
def nJ (i:Int):Prop:=dP (num i)=ό/\vI (num i)=i
noncomputable def Tr:List Int:=((ä 32).map λn:Nat=>(n:Int))++[10 ^ 29]
def ac0:(Tr.all λi=>dP (num i)&&ώ (vI (num i)=i))=ό:=nofun
def aeB (h:i∈Tr):nJ i:=by
 have:=Þ.mp ac0 i h;rw[Â,Å] at this;exact this
def Hr (h0:0<=i) (h1:i<32):nJ i:=aeB (ó _ (ï.mpr #[i.toNat,î.mpr ⋯,by omega]))
def nJ.Cq (h:nJ i):1<=(num i).length/\(num i).length<=30/\∀c∈sg (num i),ja c=ό:=by
 have:=h.1;exact Dz (Â .. ▸ this).1
def nJ.free (h:nJ i):32∉sg (num i):=λZ=>by
 have:=h.Cq.2.2 32 Z
 revert this
 decide
def nJ.Ts (h:nJ i):è (num i)=ό:=qU.mpr λn Z=>by
 have:=á (h.Cq.2.2 n Z);omega
abbrev sT (a b:List Int):Str:=cO a++"/"++cO b
def O0 (h:Mg l):sV (cO l)=l:=by
 by_cases Z:l=[]
 .subst Z
  rfl
 .let(e1,e2):=Fu Z h.2
  delta sV;rw[e1,é e2,xu,Ĝ];refine(ag9 λi hi=>?_).trans (List.map_id l);have:=h.2 i hi;show ((48+i.toNat))-48=i;omega
def Rf (ha:Mg a) (hb:Mg b):sl (sT a b)=[cO a,cO b]:=acK ha.2 hb.2
def Gu (ha:Mg a) (hb:Mg b):jW (sT a b)=ό:=by
 delta jW;rw[Rf ha hb];erw[List.all_cons,List.all_nil,Bool.and_true];rw[show lP _=ό from P0 ha.2 ha.1,show lP _=ό from P0 hb.2 hb.1];rfl
def Bn (ha:Mg a) (hb:Mg b):kL (sT a b) 0=a/\kL (sT a b) 1=b:=by
 delta kL;rw[Rf ha hb];exact#[O0 ha,O0 hb]
def aaM (ha:Mg a) (hb:Mg b):32∉sg (sT a b):=λhm=>by
 rw[AA,AA] at hm
 rcases hm with (hm|hm)|hm
 .exact t9 (.inl (by decide)) ha.2 hm
 .revert hm;decide +kernel
 .exact t9 (.inl (by decide)) hb.2 hm
def Qd (ha:Mg a) (hb:Mg b):(sT a b).length<=19:=by
 have Z:=pO (l:=a);have Y:=pO (l:=b);have X:=ha.1;have W:=hb.1;rw[cW,cW];show _ + 1 + _<=19;omega
def Qe (ha:Mg a) (hb:Mg b):è (sT a b)=ό:=fY (fY (AB ha.2) nofun) (AB hb.2)
def Zj (h:gR p):jb (wordsOf p)=ό/\sm (wordsOf p)=p:=by
 have m:=lZ h;have d:=l0 h;have X:=Hr m.1 ⋯;have W:=Hr d.1 ⋯
 have S:jb (wordsOf p)=(dP _&&dP _&&if ji p="made" then jW _ else ώ _&&dP _):=rfl
 rw[S,X.1,W.1]
 cases p with
 |made Z Y a b =>
  have V:=uG h.2.2.1;have U:=uG h.2.2.2;refine#[Gu V U,?_];show Pg.made (vI (num Z)) (vI (num Y)) (kL (sT a b) 0) (kL (sT a b) 1)=_;rw[(Bn V U).1,(Bn V U).2,show vI (num Z)=Z from X.2,show vI (num Y)=Y from W.2]
 |cu Z Y k =>
  have T:=Hr h.2.2.1 (by have:=h.2.2.2;omega);refine#[T.1,?_];show Pg.cu (vI (num Z)) (vI (num Y)) (vI (num k))=_;rw[show vI (num Z)=Z from X.2,show vI (num Y)=Y from W.2,T.2]
def ac1 (h:gR p):bs ("out "++eO p)=("out":Str)::wordsOf p:=by
 have e:"out "++eO p=Ĳ #[#v[32]] (("out")::wordsOf p):=by
  show _="out"++#[_]++Ĳ _ _;rw[<- MF];rfl
 rw[e];refine wI ∅ λz hz=>?_
 rcases Ô.mp hz with rfl|hz
 .decide +kernel
 .exact LU h (by decide) z hz
inductive Ask where
 |book
 |l9 (m d:Int)
 |mT (a b:List Int)
def vv:Ask->Str
 | .book=>"book"
 | .l9 m d=>"surely "++num m++" "++num d
 | .mT a b=>"where "++sT a b
def oW:Ask->List Str
 | .book=>["book"]
 | .l9 m d=>["surely",num m,num d]
 | .mT a b=>["where",sT a b]
noncomputable def af4:List (List Int×List Int):=[([8],[]),([0],[0]),([1,0],[])]
def xT:Ask->Prop
 | .book=>True
 | .l9 m d=>(0<=m/\nJ m)/\0<=d/\nJ d
 | .mT a b=>(Mg a/\Mg b)/\(Sh a b\/(a,b)∈af4)
def ac2 (h:xT q):bs (vv q)=oW q:=by
 cases q with
 |book=>decide +kernel
 |l9 m d =>
  have e:vv (.l9 m d)=Ĳ #[#v[32]] (oW (.l9 m d)):=by
   show "surely "++num m++" "++num d="surely"++#[_]++(num m++#[_]++num d);rw[<- blank,show ("surely ":Str)="surely"++" " by decide +kernel];erw[Str.append_assoc]
  rw[e];refine wI (by simp[oW]) λz Z=>?_;erw[oW,Ô,õ,or_false] at Z
  rcases Z with rfl|rfl|rfl
  .decide +kernel
  .exact h.1.2.free
  .exact h.2.2.free
 |mT a b =>
  have e:vv (.mT a b)=Ĳ #[#v[32]] (oW (.mT a b)):=by
   rfl
  rw[e];refine wI (by simp[oW]) λz Z=>?_;erw[oW,Ô,õ,or_false] at Z
  rcases Z with rfl|rfl
  .decide +kernel
  .exact aaM h.1.1 h.1.2
def aaN (h:xT q):oV (oW q)=ό:=by
 cases q with
 |book=>decide +kernel
 |l9 m d =>
  show (dP _&&(dP _&&ό))=ό;rw[h.1.2.1,h.2.2.1];rfl
 |mT a b=>exact Gu h.1.1 h.1.2
def ac3 (h:xT q):(vv q).length<=1000/\è (vv q)=ό:=by
 cases q with
 |book=>decide +kernel
 |l9 m d =>
  have Z:=h.1.2.Cq.2.1;have Y:=h.2.2.Cq.2.1;refine#[?_,fY (fY (fY nofun h.1.2.Ts) nofun) h.2.2.Ts];show ("surely "++num m++" "++num d).length<=1000;rw[cW,cW,cW];show 7 + _ + 1 + _<=1000;omega
 |mT a b =>
  have Z:=Qd h.1.1 h.1.2;refine#[?_,fY nofun (Qe h.1.1 h.1.2)];show ("where "++sT a b).length<=1000;rw[cW];show 6 + _<=1000;omega
end
section
variable {s s':ag} {env:Env} {x y z:Str} {ws:List Str} {c:Nat} {ps:List Pg} {m d:Int}
noncomputable abbrev jH (y:Str):D:=.tup [.str "told",.str y]
def NK:∀{zs},zs≠[]->(∀z∈zs,0<z.length)->0<(Ĳ y zs).length
 | [],h,_=>absurd rfl h
 | [z],_,h=>h z ∅
 |z::u::r,_,h=>by
  show 0<(z++y++Ĳ y _).length;rw[cW,cW];have:=h z ∅;omega
def pT:D->Str
 | .tup [.int a,.int b,.int c]=>num a++","++num b++","++num c
 |_=>""
def so (d:D):Prop:=∃a b c,d=.tup [.int a,.int b,.int c]/\(0<=a/\a<31)/\(0<=b/\b<31)/\(0<=c/\c<31)
def Bp {d} (h:so d):(0<(pT d).length/\(pT d).length<=10)/\è (pT d)=ό:=by
 let(a,b,c,rfl,Z,Y,X):=h;have W:=j4 Z.1 Z.2;have V:=j4 Y.1 Y.2;have lc:=j4 X.1 X.2;refine#[?_,fY (fY (fY (fY (ua Z) nofun) (ua Y)) nofun) (ua X)];show 0<(num a++","++num b++","++num c).length/\(num a++","++num b++","++num c).length<=10;erw[cW];show 0 < _ + 1 + _ + 1 + _/\_ + 1 + _ + 1 + _<=10;omega
def Cr (ds:List D):Str:=if ds.isEmpty=ό then "none" else Ĳ " " (ds.map pT)
def places_len {ds:List D} (hn:ds.length<=200) (hd:∀d∈ds,so d):(Ĳ " " (ds.map pT)).length<=1000000:=by
 have:=NH (y:=" ") λz Z=>by
  let(d,Y,rfl):=ï.mp Z;exact(Bp (hd d Y)).1.2
 rw[Æ] at this;have X:(" ":Str).length=1:=rfl;rw[X] at this;omega
def Vl {ds:List D} (hn:ds.length<=200) (hd:∀d∈ds,so d):kg " " (.lst (ds.map λd=>D.str (pT d))) s=ok (.str (Ĳ " " (ds.map pT))) s:=by
 have Z:=Gq (s:=s) (y:=" ") (zs:=ds.map pT) (by decide) (by rw[Æ];omega) λz Y=>by
  let(d,X,rfl):=ï.mp Y;have:=(Bp (hd d X)).1;omega
 rw[Ĝ] at Z;exact Z
def aaO (hd:∀d∈ds,so d):è (Cr ds)=ό:=by
 delta Cr;split
 .decide +kernel
 .refine Ed nofun λz Z=>?_
  let(d,Y,rfl):=ï.mp Z;exact(Bp (hd d Y)).2
def Xz (hn:ds.length<=200) (hd:∀d∈ds,so d):CD [.lst ds] s=ok (.str (Cr ds)) s:=by
 have V:hW kg (eC (.str " ")) (ck 3 [] (cB (aa 0)) (gT [gN 0,gN 1,gN 2]) cL (kI [(e1 gr (aa 0)),(eC (.str ",")),(e1 gr (aa 1)),(eC (.str ",")),(e1 gr (aa 2))] agq)) [ϊ (.lst ds)] s=ok (.str (Ĳ " " (ds.map pT))) s:=by
  refine ahx ?_;rw[A1 rfl,iu];refine ahw (rfl) #[le_size ⋯,?_];have Z:=comp_map (nt:=3) (caps:=mj [] [ϊ (.lst ds)]) (g:=gT [gN 0,gN 1,gN 2]) (t:=cL) (f:=kI [(e1 gr (aa 0)),(eC (.str ",")),(e1 gr (aa 1)),(eC (.str ",")),(e1 gr (aa 2))] agq) (λd=>d) (λ_=>ό) (λd=>D.str (pT d)) ds λd Y=>by
   let(a,b,c,rfl,X,W,Z):=hd d Y;refine#[_,rfl,rfl,λ_=>?_];have T:=j4 X.1 X.2;have S:=j4 W.1 W.2;have lc:=j4 Z.1 Z.2;rw[kO (yt X.1 ⋯) (by show 0 + _<=_;omega),kO rfl (by rw[cW];show 0 + _ + 1<=_;omega),kO (yt W.1 ⋯) (by erw[cW];show 0 + _ + 1 + _<=_;omega),kO rfl (by erw[cW];show 0 + _ + 1 + _ + 1<=_;omega),kO (yt Z.1 ⋯) (by erw[cW];show 0 + _ + 1 + _ + 1 + _<=_;omega)]
   show (if ώ _=ό then ok _ s else ϋ)=_
   rw[Ù (Ã (le_size (by erw[cW];show 0 + _ + 1 + _ + 1 + _<=_;omega))),show agq++num a=num a from EN (by rw[rn];rfl)];rfl
  rw[List.map_id'] at Z;refine ahw Z ?_;rw[Ĺ.mpr (λ_ _=>rfl)];exact ahw (Vl hn hd) #[rfl,rfl]
 refine ahx ?_;refine c8.symm ▸ #[rfl,?_];rw[cA];refine ahw (Qb V (places_len hn hd) rfl) #[?_,rfl]
 cases ds with
 |nil=>rfl
 |cons d r =>
  have:0<(Ĳ " " ((d::r).map pT)).length:=NK ∅ λz U=>by
   let(d,Y,rfl):=ï.mp U;exact(Bp (hd d Y)).1.1
  rw[é ⋯];rfl
theorem Qf:∀n p,p∈bH f n->p.1<n/\p.2<n
 |0,p,h=>by cases h
 |n+1,p,h=>by
  have ih:=Qf (f:=f) n;delta bH at h;split at h
  .rcases Ā.mp h with h|h
   .have:=ih p (List.dropLast_subset _ h)
    omega
   .rw[ę.mp h]
    refine#[?_,by show n<n+1;omega]
    cases Z:(bH f n).getLast? with
    |none=>show 0<n+1;omega
    |some q =>
     have:=ih q (List.mem_of_getLast? Z);show q.1<n+1;omega
  .split at h
   .rcases Ā.mp h with h|h
    .have:=ih p h
     omega
    .rw[ę.mp h]
     exact#[by show n<n+1;omega,by show n<n+1;omega]
   .have:=ih p h
    omega
def Fy {d} (hd:d∈sW ps h l):so d:=by
 let(m,Z,hd):=agb.mp hd;let(p,Y,rfl):=ï.mp hd;have X:=Qf _ p Y;have W:=by
  have:∀m∈m4,(0)<=m/\m<4:=by decide
  exact this m Z
 exact#[m,_,_,rfl,by omega,by omega,by omega]
def Qg {fn g:List D->ag->Res D} {fa} {ds} {u} (h:fa env s=ok ds s) (e:fn ds s=ϊ (.error u,s)):aG (aC g (af (eG fn fa) ah)) env s=ϊ (.error u,s):=by
 show ai (ai (ai (ai _ fn) _) _) _=_;rw[h,de,e];rfl
abbrev aE (ps:List Pg) (ws:List Str):Env:=[ϊ (bD ps),ϊ (.lst (ws.map D.str))]
noncomputable def kz:List (Str×Int):=[("NoPage",2),("Clash",13),("NoDeed",14),("NoMould",4),("NoDay",5),("NoSheet",1)]
def qo (ps:List Pg) (m d:Int):D:=if iz m=ό then (if gZ d=ό then jH (sT (k8.filter λk=>ώ (d∈iq ps m k)) (k8.filter λk=>ώ (d∈gQ ps m k))) else ig 5) else ig 4
def R9 (ps:List Pg) (a b:List Int):D:=if (fZ a&&(fZ b&&jB a b))=ό then jH (Cr (sW ps a b)) else ig 1
def yv (r:Res D) (s:ag) (v:D):Prop:=(∃(y:Str) (c:List Cell),v=jH y/\è y=ό/\r=ok (.str y) (s++c))\/∃k n,(k,n)∈kz/\v=ig n/\r=ϊ (.error #[k,ϋ],s)
def LY (hl:ps.length<=1000) (hf:∀p∈ps,lq p) (hb:cX ps=ό):(∃k n,(k,n)∈kz/\qo ps m d=ig n/\cx.tX [bD ps,.int m,.int d] s=ϊ (.error #[k,ϋ],s))\/∃c,qo ps m d=jH (sT (k8.filter λk=>ώ (d∈iq ps m k)) (k8.filter λk=>ώ (d∈gQ ps m k)))/\cx.tX [bD ps,.int m,.int d] s=ok (kY (iq ps m) (gQ ps m) d) (s++c):=by
 show (∃k n,_/\_/\ai (ar _ _ [ϊ _,ϊ _,ϊ _] s) _=_)\/∃c,_/\ai (ar _ _ [ϊ _,ϊ _,ϊ _] s) _=_;rw[iA (BI rfl (Ab hl hf hb))];by_cases Y:iz m=ό
 .rw[iA (BI rfl (by rw[P9,Ù Y]))]
  by_cases Z:gZ d=ό
  .rw[iA (BI rfl (by rw[Qa,Ù Z]))]
   refine .inr ?_;have X:=by delta gZ at Z;simpa using Z
   let(v,W,e,rfl,c,rfl):=OI hl;refine#[c,by delta qo;rw[Ù Y,Ù Z],?_];refine ahx ?_;rw[bO,cA,bJ];erw[wp_call,aL,aU,aM,aZ];refine ahw e ?_;let(v,e1,e2):=oA (xs:=kJ.map (kY (iq ps m) (gQ ps m))) X.1 (by exact X.2);have:=by
    rw[à] at e2;have e3:kJ[d.toNat]?=ϊ d:=by
     delta kJ;rw[à,ķ ⋯];simp;omega
    rw[e3] at e2;exact(ahA e2).symm
   subst this;refine ahw (show au _ _ _=ok (kY (iq ps m) (gQ ps m) d) (s++c) by erw[au,jU,res,e1,bY]) ?_;rw[bz];exact#[rfl,rfl]
  .refine .inl #["NoDay",5,by simp[kz],by delta qo;rw[Ù Y,é Z],?_]
   rw[l8 (Hq rfl (by rw[Qa,é Z]))];rfl
 .refine .inl #["NoMould",4,by simp[kz],by delta qo;rw[é Y],?_]
  rw[l8 (Hq rfl (by rw[P9,é Y]))];rfl
def Wh (ha:dP a=ό) (hb:dP b=ό) (hl:ps.length<=1000) (hf:∀p∈ps,lq p) (jX:cX ps=ό):yv (qV [bD ps,.lst (([("surely":Str),a,b]).map D.str)] s) s (qo ps (vI a) (vI b)):=by
 have Z:∀{n} {u},([("surely":Str),a,b])[n]?=ϊ u->e2 au (aa 1) (eC _) (aE ps _) s=ok _ s:=λh=>ahx (by
  exact ahw (Ji h) #[rfl,rfl])
 have X:af (aa 0) (af (eB kh (af (e2 au (aa 1) (eC (.int 1))) ah)) (af (eB kh (af (e2 au (aa 1) (eC (.int 2))) ah)) ah)) (aE ps [("surely"),a,b]) s=ok [bD ps,.int (vI a),.int (vI b)] s:=by
  refine ahx ?_;rw[aL,aM,aL,ee,aL];refine ahw (Z rfl) ?_;rw[aU];refine ahw (rB ha) ?_;rw[aL,ee,aL];refine ahw (Z rfl) ?_;rw[aU];refine ahw (rB hb) ?_;rw[aU];exact#[rfl,rfl]
 have W:aH (e2 aX _ _) _ s=ok ό s:=(fM (Z (n:=0) rfl)).trans (by rw[Ã rfl])
 rcases LY hl hf jX with ⟨k,n,V,Y,e⟩ | ⟨c,Y,e⟩
 .refine .inr #[k,n,V,Y,?_]
  show ai (ar _ _ _ s) _=_;rw[l8 (?_)]
  .rfl
  .exact Qg X e
 .refine .inl #[_,c,Y,Qe (uG (A4 _)) (uG (A4 _)),ahx ?_]
  show Wp (ai _ _) _;rw[bO];refine ahy λR U=>iB W ?_;rw[cA,wp_call,aL,uW];refine ahw X (ahw e ?_);rw[aU];refine ahw (KQ (A4 _) (A4 _)) ?_;rw[nr,bz];exact#[rfl,rfl]
def XA (hv:jW v=ό) (hlv:v.length<=1000) (hl:ps.length<=1000) (hf:∀p∈ps,lq p) (jX:cX ps=ό):yv (qV [bD ps,.lst (([("where":Str),v]).map D.str)] s) s (R9 ps (kL v 0) (kL v 1)):=by
 obtain⟨i,j,li,L,⟨X,W⟩,S⟩:=LA hlv hv;rw[<- X,<- W];have V:∀{n} {u},([("where":Str),v])[n]?=ϊ u->e2 au (aa 1) (eC _) (aE ps _) s=ok _ s:=λh=>ahx (by
  exact ahw (Ji h) #[rfl,rfl])
 have T:af (aa 0) (af (aC wu (af (e2 au (aa 1) (eC (.int 1))) ah)) ah) (aE ps [("where"),v]) s=ok [bD ps,nZ i j] s:=by
  refine ahx ?_;rw[aL,aM,aL,wp_call,aL];refine ahw (V rfl) ?_;rw[aU];refine ahw (S s) ?_;rw[aU];exact#[rfl,rfl]
 have e1:aH (e2 aX (e2 au _ (eC (.int 0))) (eC (.str "surely"))) _ s=ok ύ s:=(fM (V rfl)).trans (by rw[Î nofun]);have Q:aH (e2 aX _ _) _ s=ok ό s:=(fM (V (n:=0) rfl)).trans (by rw[Ã rfl]);show yv (ai (ar _ _ (aE ps _) s) _) s _;rw[iA (by delta aV;rfl)];by_cases Z:(fZ i&&(fZ j&&jB i j))=ό
 .have Y:=Z
  erw[Â] at Y;have P:Sh i j:=#[tJ Y.1,tJ Y.2.1,λx O N=>by
   have:=Y.2.2;delta jB at this;rw[Ċ,ť] at this;exact this x O (Ã N)]
  let(d,K,e,rfl,c,rfl):=MM hl hf jX P;have M:=Xz (s:=s++c) (Ø (P8 ps i j) (by decide)) λd U=>Fy U;refine .inl #[_,c,Ù Z,aaO λd U=>Fy U,ahx ?_];rw[bO];refine ahy λR J=>iB Q ?_;rw[cA,wp_call,aL,uW];refine ahw T (ahw e ?_);rw[aU];refine ahw M ?_;rw[nr,bz];exact#[rfl,rfl]
 .refine .inr #["NoSheet",1,by simp[kz],é Z,?_]
  have e:pI [bD ps,nZ i j] s=ϊ (.error #["NoSheet",ϋ],s):=by
   delta pI aJ;rw[iA (BI rfl (Ab hl hf jX)),l8 (Hq rfl (by rw[acV ⋯ ⋯,é Z]))];rfl
  rw[l8 (?_)]
  .rfl
  .exact Qg T e
def qM (ps:List Pg):Str:=if ps.isEmpty=ό then "-" else textOf ps
def NL (h:gR p):è (eO p)=ό:=by
 have m:=lZ h;have d:=l0 h;have Z:è " "=ό:=nofun
 have Y:è "made"=ό:=nofun
 have X:è "mended"=ό:=nofun
 have w:è (ji p)=ό:=by
  cases p with
  |made _ _ _ _=>exact Y
  |cu _ _ _=>exact X
 have l:è (oJ p)=ό:=by
  cases p with
  |made W V a c=>exact fY (fY (AB (rz h.2.2.1)) nofun) (AB (rz h.2.2.2))
  |cu W V k=>exact ua #[h.2.2.1,by have:=h.2.2.2;omega]
 exact fY (fY (fY (fY (fY (fY w Z) (ua #[m.1,by omega])) Z) (ua d)) Z) l
def aaP (jX:cX ps=ό):è (qM ps)=ό:=by
 let(Z,X):=Fx jX;delta qM;split
 .decide +kernel
 .refine Ed nofun λz Y=>?_
  let(p,h,rfl):=ï.mp Y;exact fY (NL (rq (Z p h))) nofun
def Zk (jX:cX ps=ό):qV [bD ps,.lst (([("book":Str)]).map D.str)] s=ok (.str (qM ps)) s:=by
 have Y:e2 au (aa 1) (eC (.int 0)) (aE ps [("book")]) s=ok _ s:=ahx (by
  erw[bJ,aM,aZ,cf];exact ahw (Ji rfl) #[rfl,rfl])
 have lt:(textOf ps).length<=1000000:=by
  let(X,V):=Fx jX;have:=text_len λp h=>rq (X p h);omega
 refine ahx ?_;refine c8.symm ▸ #[rfl,?_];refine ahy λR Z=>iB (fM Y) ?_;rw[Î nofun,fq];subst Z;refine ahy λR Z=>iB (fM Y) ?_;rw[Î nofun,é Ú,fq,cP];subst Z;rw[cA];refine ahw (Qb (NA jX) lt rfl) #[?_,rfl]
 cases ps with
 |nil=>rfl
 |cons p r =>
  have:0<(textOf (p::r)).length:=NK ∅ λz W=>by
   let(q,U,rfl):=ï.mp W;rw[cW];show 0 < _ + 1;omega
  rw[é ⋯];rfl
def Hs (ps:List Pg):Ask->D
 | .book=>jH (qM ps)
 | .l9 m d=>qo ps m d
 | .mT a b=>R9 ps a b
def aaQ (hq:xT q) (hl:ps.length<=1000) (hf:∀p∈ps,lq p) (jX:cX ps=ό):yv (qV [bD ps,.lst ((oW q).map D.str)] s) s (Hs ps q):=by
 cases q with
 |book=>exact .inl #[_,_,rfl,aaP jX,by rw[ð];exact Zk jX]
 |l9 m d =>
  have:=Wh (s:=s) hq.1.2.1 hq.2.2.1 hl hf jX;rw[hq.1.2.2,hq.2.2.2] at this;exact this
 |mT a b =>
  have:=XA (s:=s) (Gu hq.1.1 hq.1.2) (Ø (Qd hq.1.1 hq.1.2) (by decide)) hl hf jX;rw[(Bn hq.1.1 hq.1.2).1,(Bn hq.1.1 hq.1.2).2] at this;exact this
end
section
variable {s s':ag} {env:Env} {x y z w:Str} {ws r:List Str} {ps book:List Pg} {p:Pg} {a b d:Nat} {ay:List (List Pg)}
structure Ds (s:ag) (a d b:Nat) (ay) (book):Prop where
 hd:s[a]?=ϊ (.ins "Desk" [("diary",.aj d)])
 di:Di s d b ay book
def aeC (h:s[a]?=ϊ (.ins "Desk" [("diary",.aj d)])):iO "Desk" "diary" (.aj a) s=ok (.aj d) s:=by
 delta iO jL;dsimp only;rw[h];rfl
def A5 (h:s[a]?=ϊ (.ins "Desk" [("diary",.aj d)])):e1 (iO "Desk" "diary") (aa 0) [ϊ (.aj a),e1',jQ] s=ok (.aj d) s:=by
 show ai (ok _ s) _=_;exact aeC h
def Rg (hl:ds.length=np) (he:ds.map ϊ++Ó (ns-np) ϋ=env) (h:B env s=ok (.rt v) s'):aJ np ns B ds s=ok v s':=by
 delta aJ;rw[Ù hl,he,h];rfl
def Rh {B:ahv Fl} {ds} {u} (hl:ds.length=np) (he:ds.map ϊ++Ó (ns-np) ϋ=env) (h:B env s=ϊ (.error u,s')):aJ np ns B ds s=ϊ (.error u,s'):=by
 delta aJ;rw[Ù hl,he,h];rfl
def ac4 (h:st env s=ok (.rt v) s'):ar st cw env s=ok (.rt v) s':=by delta ar;rw[h];rfl
def Fz (h:t env s=ok ό s):aV t st cw env s=st env s:=by delta aV;rw[h];rfl
def uX (h:t env s=ok ύ s):aV t st cw env s=cw env s:=by delta aV;rw[h];rfl
def ac5 (h:og [v] s=ok W s):aT (eG og (af (aa 1) ah)) (gN 2) [ϊ (.aj a),ϊ v,ϋ] s=ok (.nx [ϊ (.aj a),ϊ v,ϊ W]) s:=by
 show ai (ai (ok _ s) og) _=_;rw[de,h];rfl
noncomputable abbrev dE (a:Nat) (x:Str) (ws:List Str):Env:=[ϊ (.aj a),ϊ (.str x),ϊ (.lst (ws.map D.str))]
def oX:e2 au (aa 2) (eC (.int 0)) (dE a x (w::r)) s=ok (.str w) s:=ahx (by
 exact ahw EU #[rfl,rfl])
def Ri:ff (aH (e2 aX (e2 au (aa 2) (eC (.int 0))) (eC (.str "made")))) (aH (e2 aX (e2 au (aa 2) (eC (.int 0))) (eC (.str "mended")))) (dE a x (w::r)) s=ok (ώ (w="made"\/w="mended")) s:=by
 refine ahx ?_;rw[nq];refine ahw (fM oX) ?_;by_cases h:w="made"
 .rw[Ã h]
  exact#[(Ã (ſ h)).symm,rfl]
 .rw[Î h]
  refine ahw (fM oX) #[?_,rfl]
  by_cases Z:w="mended"<;>simp[h,Z]
def Zl (G:Ds s a d b ay book) (hw:w="made"\/w="mended") (ep:tM [.lst ((w::r).map D.str)] s=ok p.d s):ifs (dE a x (w::r)) s=ai (lR [.aj d,p.d] s) λ_ s=>ok (.nx (dE a x (w::r))) s:=by
 delta ifs;rw[uX ((fM oX).trans (by rw[Î λe=>by rw[e] at hw;revert hw;decide +kernel])),uX ((fM oX).trans (by rw[Î λe=>by rw[e] at hw;revert hw;decide +kernel])),Fz (Ri.trans (by rw[Ã hw]))];delta cj;rw[kZ G.di.ha (by rfl) (A5 G.hd) (ahx (by
  rw[aL,wp_call,aL];erw[aM,aZ];rw[aU];refine ahw ep ?_;rw[aU];exact#[rfl,rfl]))]
def EV (G:Ds s a d b ay book) (h1:¬ w="undo") (h2:¬ w="out") (h3:¬ (w="made"\/w="mended")):ifs (dE a x (w::r)) s=ai (qV [bD book,.lst ((w::r).map D.str)] s) λd s=>ok (.rt d) s:=by
 delta ifs;rw[uX ((fM oX).trans (by rw[Î h1])),uX ((fM oX).trans (by rw[Î h2])),uX (Ri.trans (by rw[Î h3]))];have e1:af (cQ "Diary" "book_now" ia (e1 (iO "Desk" "diary") (aa 0)) ah) (af (aa 2) ah) (dE a x (w::r)) s=ok [bD book,.lst ((w::r).map D.str)] s:=by
  refine ahx ?_;rw[aL];refine ahw ((kZ G.di.ha (by rfl) (A5 G.hd) rfl).trans (A3 G.di)) ?_;erw[aL,aU,aM,aZ,ğ]
 delta aG eG;rw[e1,de]
def aaR (h:w="made"\/w="mended"):¬ w="surely"/\¬ w="where"/\¬ (w="undo"\/w="book")/\¬ w="out":=by
 rcases h with rfl|rfl<;>decide +kernel
def aaS (G:Ds s a d b ay book) (ep:tM [.lst (r.map D.str)] s=ok p.d s):ifs (dE a x (("out")::r)) s=ai (n6 [.aj d,p.d] s) λ_ s=>ok (.nx (dE a x (("out")::r))) s:=by
 delta ifs;rw[uX ((fM oX).trans (by rw[Î nofun])),Fz ((fM oX).trans (by rw[Ã rfl]))];delta cj;rw[kZ G.di.ha (by rfl) (A5 G.hd) (ahx (by
  rw[aL,wp_call,aL,F6];erw[aM,aZ,Fs];refine ahw (rfl) (ahw OU ?_);rw[aU];refine ahw ep ?_;rw[aU];exact#[rfl,rfl]))]
def Met (x:Str) (a:Nat) (s:ag) (v:D) (s':ag):Prop:=(∃y,v=jH y/\è y=ό/\jc [.aj a,.str x] s=ok (.str y) s')\/∃k n,(k,n)∈kz/\v=ig n/\jc [.aj a,.str x] s=ϊ (.error #[k,ϋ],s')
def Ai (hl:x.length<=1000) (hk:è x=ό) (hb:bs x=ws) (hr:oV ws=ό):aT (eG og (af (aa 1) ah)) (gN 2) [ϊ (.aj a),ϊ (.str x),ϋ] s=ok (.nx (dE a x ws)) s:=ac5 (by rw[Zh hl hk,hb,Ù hr])
def Ee (hw:aT (eG og (af (aa 1) ah)) (gN 2) [ϊ (.aj a),ϊ (.str x),ϋ] s=ok (.nx (dE a x ws)) s) {r:Res D} (hi:ifs (dE a x ws) s=ai r λ_ s=>ok (.nx (dE a x ws)) s):(r=ok .ax s'->Met x a s (jH "ok") s')/\∀k n,(k,n)∈kz->r=ϊ (.error #[k,ϋ],s')->Met x a s (ig n) s':=by
 refine#[λe=>.inl #[_,rfl,by decide +kernel,?_],λk n Z e=>.inr #[k,n,Z,rfl,?_]]
 .refine Rg (env:=[ϊ _,ϊ _,ϋ]) rfl rfl ?_
  rw[iA hw,iA (hi.trans (by rw[e];rfl))];rfl
 .refine Rh (env:=[ϊ _,ϊ _,ϋ]) rfl rfl ?_
  rw[iA hw,l8 (hi.trans (by rw[e];rfl))]
def aaT (hw:aT (eG og (af (aa 1) ah)) (gN 2) [ϊ (.aj a),ϊ (.str x),ϋ] s=ok (.nx (dE a x ws)) s) {r} {v} (hi:ifs (dE a x ws) s=ai r λd s=>ok (.rt d) s) (h:yv r s v):∃c,Met x a s v (s++c):=by
 rcases h with ⟨y,c,Z,Y,e⟩ | ⟨k,n,X,Z,e⟩
 .refine#[c,.inl #[y,Z,Y,?_]]
  refine Rg (env:=[ϊ _,ϊ _,ϋ]) rfl rfl ?_;rw[iA hw,ac4 (hi.trans (by rw[e];rfl))]
 .refine#[[],.inr #[k,n,X,Z,?_]]
  rw[ð];refine Rh (env:=[ϊ _,ϊ _,ϋ]) rfl rfl ?_;rw[iA hw,l8 (hi.trans (by rw[e];rfl))]
def aaU (G:Ds s a d b ay book) {q} (hq:xT q):∃c,Met (vv q) a s (Hs book q) (s++c):=by
 have Y:=Ec G.di.last.laid.pg;have Z:book.length<=1000:=by have:=G.di.last.len;omega
 let(X,W):=ac3 hq;have hw:=Ai (a:=a) (s:=s) X W (ac2 hq) (aaN hq);refine aaT hw ?_ (aaQ hq Z Y G.di.last.book)
 cases q with
 |book=>exact EV G nofun nofun nofun
 |l9 m d=>exact EV G nofun nofun nofun
 |mT a b=>exact EV G nofun nofun nofun
def Zm (G:Ds s a d b ay book) (hl:x.length<=1000) (hk:è x=ό) (hb:bs x=w::r) (hw:w="made"\/w="mended") (hp:jb (w::r)=ό):(lR [.aj d,(sm (w::r)).d] s=ok .ax s'->Met x a s (jH "ok") s')/\∀k n,(k,n)∈kz->lR [.aj d,(sm (w::r)).d] s=ϊ (.error #[k,ϋ],s')->Met x a s (ig n) s':=by
 have Z:=λz Y=>Ø (Ag (show z∈bs x by rw[hb];exact Y)) hl;let(X,W,V,U):=aaR hw;have T:oV (w::r)=ό:=by
  show (if w="out" then _ else _)=ό
  rw[é U,é X,é W,é V];exact hp
 let(p,S,rfl,R):=LW Z hp;exact Ee (Ai hl hk hb T) (Zl G hw (R s))
def aaV (G:Ds s a d b ay book) (hl:x.length<=1000) (hk:è x=ό) (hb:bs x=("out":Str)::r) (hp:jb r=ό):(n6 [.aj d,(sm r).d] s=ok .ax s'->Met x a s (jH "ok") s')/\∀k n,(k,n)∈kz->n6 [.aj d,(sm r).d] s=ϊ (.error #[k,ϋ],s')->Met x a s (ig n) s':=by
 have Z:=λz Y=>Ø (Ag (show z∈bs x by rw[hb];exact Ë _ Y)) hl;let(p,X,rfl,W):=LW Z hp;exact Ee (Ai hl hk hb (by exact hp)) (aaS G (W s))
def NM (G:Ds s a d b ay book):(lS [.aj d] s=ok .ax s'->Met "undo" a s (jH "ok") s')/\∀k n,(k,n)∈kz->lS [.aj d] s=ϊ (.error #[k,ϋ],s')->Met "undo" a s (ig n) s':=by
 refine Ee (ws:=["undo"]) (Ai nofun nofun nofun nofun) ?_;delta ifs;rw[Fz ((fM oX).trans (by rw[Ã rfl]))];delta cj;rw[kZ G.di.ha (by rfl) (A5 G.hd) rfl]
def rwT:Dd->Pg->Str
 | .tell,p=>eO p
 | .rA,p=>"out "++eO p
 | .ql,_=>"undo"
def Ht (v:D):D:=if beq v qm=ό then jH "ok" else v
def aiN:Ht (ig i)=ig i:=é (by
 exact Ú)
def aiO:Ht qm=jH "ok":=Ù nofun
def NN (G:Ds s a d b ay book) (hp:cN p=ό) (w):Met (rwT w p) a s (Ht (rQ ay book w p).2) (s.set b (.lst ((rQ ay book w p).1.map bD))):=by
 have same:=Ze G.di.hb;have X:=rq hp;let(W,Y):=Zj X;have ln:=wJ X;have lk:=NL X
 cases w with
 |ql =>
  have e:=OT G.di;delta rQ;dsimp only;split
  .rename_i Z
   rw[Ù Z] at e;rw[same];exact(NM G).2 _ 14 (by simp[kz]) e
  .rename_i Z
   rw[é Z] at e;exact(NM G).1 e
 |tell =>
  have e:=OS G.di hp;rw[<- Y] at e
  have hw:ji p="made"\/ji p="mended":=by cases p<;>simp[ji]
  have M:=λs'=>Zm (s':=s') G ⋯ lk (Wb X) hw W;delta rQ;dsimp only;split
  .rename_i Z
   rw[Ù (by rw[Y];exact Z)] at e;refine(M _).1 (e.trans ?_);rw[Y]
  .rename_i Z
   rw[é (by rw[Y];exact Z)] at e;rw[same];exact(M _).2 _ 13 (by simp[kz]) e
 |rA =>
  have e:=MI G.di hp;rw[<- Y] at e;have M:=λs'=>aaV (s':=s') G (by rw[cW];show 4 + _<=1000;omega) (fY nofun lk) (ac1 X) W;delta rQ;dsimp only;split
  .rename_i Z
   rw[Ù (by rw[Y];exact Z)] at e;refine(M _).1 (e.trans ?_);rw[Y]
  .rename_i Z
   rw[é (by rw[Y];exact Z)] at e;rw[same];exact(M _).2 _ 13 (by simp[kz]) e
def Wi:∃c,kW "Desk" qQ env s=ok (.aj s.length) (s++c)/\∃d b,Ds (s++c) s.length d b [] []/\s.length<=b:=by
 have e:qQ [.aj s.length] (s++[.ins "Desk" []])=ok .ax (s++[.ins "Desk" [("diary",.aj (s.length+1))],.ins "Diary" [("books",.aj (s.length+2))],.lst [.tup []]]):=by
  delta qQ aJ;show ai (rM _ _ _ _ [ϊ (.aj s.length)] (s++[.ins "Desk" []])) _=_;delta rM;have Z:=P4 (env:=[ϊ (.aj s.length)]) (s:=s++[.ins "Desk" []]);rw[show (s++[Cell.ins "Desk" []]).length=s.length+1 by simp] at Z;rw[Z,de];show ai (ai (ok (D.aj s.length) _) _) _=_;rw[de];have e2:jL "Desk" (.aj s.length) (s++[.ins "Desk" []]++[.ins "Diary" [("books",.aj (s.length+1+1))],.lst [.tup []]])=ϊ (s.length,[]):=by
   delta jL;dsimp only;rw[Đ,ñ (ahz _),Nat.sub_self];rw[Č,List.getElem?_cons_zero];dsimp only;rw[Ù (Ã rfl)]
  rw[e2];dsimp only;rw[Ù (by decide)];have Y:∀(x y z u:Cell),List.set (s++[x]++[y,z]) s.length u=s++[u,y,z]:=λx y z u=>by simp
  rw[Y];rfl
 refine#[[.ins "Desk" [("diary",.aj (s.length+1))],.ins "Diary" [("books",.aj (s.length+2))],.lst [.tup []]],?_,s.length+1,s.length+2,#[by simp,?_],by omega]
 .delta kW
  rw[e];rfl
 .refine#[by simp,by simp,by decide,λps X=>?_]
  have:ps=[]:=by simpa using X
  subst this;exact Bk.nil
variable {f g:ahv D} {fa:ahv (List D)}
def Gv (hd:s[a]?=ϊ (.ins "Desk" [("diary",.aj d)])) (he:f env s=ok (.aj a) s) (hf:fa env s=ok ds s):cQ "Desk" "say" fn f fa env s=fn (.aj a::ds) s:=by
 have e:jL "Desk" (.aj a) s=ϊ (a,([("diary",.aj d)]:List (Str×D))):=by
  delta jL;dsimp only;rw[hd];dsimp only;rw[Ù (Ã rfl)]
 delta cQ;rw[he,de,e];dsimp only;rw[Ù (by rfl),hf,de]
end
abbrev lD (ps:List Pg):D:=.lst (ps.map Pg.d)
section
variable {s s':ag} {ps qs:List Pg} {p q:Pg} {m k:Int}
def Wj (h:ps.Perm qs):kT ps m k=kT qs m k:=by
 have e1:sN ps m k=sN qs m k:=by
  funext d;delta sN shown;congr 1;exact propext ((h.filter _).map _).mem_iff
 have e2:lN ps m k=lN qs m k:=by
  funext d;delta lN eY;congr 1;exact propext ((h.filter _).map _).mem_iff
 have e3:mN ps m k=mN qs m k:=by
  funext d;delta mN cM;congr 1;exact propext ((h.filter _).map _).mem_iff
 delta kT;rw[e1,e2,e3]
def aaW (h:ps.Perm qs):gE ps=gE qs:=by
 delta gE;rw[h.length_eq];erw[Wj h]
def De (hp:∀p∈ps,cN p=ό) (hn:ps.Nodup):Laid (ST.dF cz ps):=#[λq Z=>hp q ((ST.kM _).mem_iff.mp Z),Y6 hn]
def LZ (hp:∀p∈ps,cN p=ό) (hn:ps.Nodup) (hb:gE ps=ό):cX (ST.dF cz ps)=ό:=by
 rw[<- ES (De hp hn),aaW (ST.kM ps)];exact hb
def Wk (h:s[j]?=ϊ (.lst (ps.map Pg.d))):fN p.d (.aj j) s=ok (.bl (!lO p ps)) s:=by
 have e:inD p.d (ps.map Pg.d)=ϊ (lO p ps):=by
  delta inD;have Z:=uy p;rw[Ù (by delta mx;rw[Af,xw,Ã ⋯];rfl),List.any_map];rfl
 delta fN;rw[uq h];erw[e];rfl
theorem Sf.set {k b} (h:Sf s k) (kb:b≠k) (c):Sf (s.set b c) k:=by
 let(u,v,e,r):=h;exact#[u,v,by rw[ç kb];exact e,r]
def ac6 {k} {n} (h:Sf s k) (h0:0<=n) (h1:n<=30):Wp (cx.wU [.aj k,.int n] s) λd s'=>∃ps,d=bD ps/\cX ps=ό/\Laid ps/\Sf s' k/\Ex k s s':=by
 have c:=h.lt;refine c8.symm ▸ #[rfl,ahy λR V=>?_];erw[Û,ĳ,Ó,Nat.reduceSub,Č,ġ,wV,aL,aU,xp,bJ,oy,cf,wp_call,aM,aZ];refine#[le_size (by decide),le_size (by decide),?_];refine(jC ((Kp.app s _).sf h) (by decide) (by decide)).mono λd s1 Z=>?_;let(r,rfl,A,w,g1,H):=Z;let(d,Z,e):=Gs (ds:=[.int 31,.int 6,.int 12]) A w;refine ahw e ?_;have U:∃y,d=.int y/\0<y/\y<=31:=by
  erw[Ô,õ,or_false] at Z
  rcases Z with rfl|rfl|rfl
  .exact#[31,rfl,by decide,by decide]
  .exact#[6,rfl,by decide,by decide]
  .exact#[12,rfl,by decide,by decide]
 let(y,rfl,v,y1):=U;refine#[_,_,rfl,?_];have Q:s.length≠k:=by omega
 have u:s1[s.length]?=ϊ (.lst (([]).map Pg.d)):=H.get ∅ Q;have P:=(Ex.app k s _).trans H;subst V;refine ahy λR V=>?_;rw[jg];refine ahw (aaq (n:=n.toNat) (s1:=s1) (i:=n) (ahx (by simp only[VC,ğ])) ⋯ ⋯) ?_;refine Wp.iZ (λi env s'=>∃(ps:List Pg) (O N:Option D),env=[ϊ _,ϊ _,ϊ _,ϊ _,O,N]/\ps.length<=i/\(∀p∈ps,cN p=ό)/\ps.Nodup/\gE ps=ό/\s'[s.length]?=ϊ (.lst (ps.map _))/\Sf s' k/\Ex k s s') _ #[_,_,_,rfl,ahz _,λ_ z=>(õ z).elim,.nil,by decide +kernel,u,g1,P] (λi d env s' Z M=>?_) (λenv s' M=>?_)
 .let(ps,O,N,rfl,L,Y,X,T,K,g2,J):=M
  rw[je] at Z;split at Z
  .refine#[_,rfl,?_]
   refine ahy λR V=>?_;erw[cZ,eJ,wp_call,aL,aU,aM,aZ,ē,Ĕ];refine(acM g2 v y1).mono λd W Z=>?_;let(p,rfl,o,g3,G):=Z;have S:=G.get K Q;have F:=J.trans G;rw[cP];subst V;erw[jz,uj,eX,bJ,aM,aZ,Wk S,bz,cG]
   cases E:lO p ps with
   |true =>
    erw[Œ,Ê,ô,fq];exact#[ps,_,_,rfl,by omega,Y,X,T,S,g3,F]
   |false =>
    have m:p∉ps:=λz=>by rw[ET.mpr z] at E;cases E
    erw[ahm,ú,pV,wp_call,aL,aU,bJ,oy,aM,aZ];refine#[le_size (n:=1) (by decide),?_];refine ahw (show cm _ _ W=ok (lD (ps++[p])) W from ?_) ?_
    .delta cm
     have e:res (.aj s.length) W=.lst (ps.map Pg.d):=by delta res;erw[S]
     rw[e];have l:qc (ps.map Pg.d) [p.d]=ό:=Ã (le_size (by rw[Æ,å,Ą];omega))
     show bY (if qc _ _=ό then ϊ _ else ϋ) W=_
     rw[Ù l];show ok _ W=ok (D.lst _) W;rw[Ď];rfl
    .refine(P1 (t:=ύ) (by rw[Ï,å,Ą];omega)).mono λd b Z=>?_
     let(rfl,kp):=Z;have I:=kp.get S;have C:=kp.sf g3;have B:=F.trans #[kp.1,λi hi _=>kp.2 i hi];erw[lW]
     cases j:gE _ with
     |true =>
      erw[ú,oj,xr,aM,aZ];let(a1,a2):=uu I (by rw[Æ];omega);refine#[a1,?_];refine ahw a2 ?_;refine#[_,_,_,rfl,by rw[Ï];exact Nat.succ_le_succ L,λq g=>?_,?_,j,?_,Sf.set C Q _,B.hi (ahz _) _]
      .rcases Ā.mp g with z|z
       .exact Y q z
       .rw[ę.mp z];exact o
      .rw[agO]
       exact#[X,by simp,λx f y U e=>m (by rw[ę] at U;rw[<- U,<- e];exact f)]
      .rw[â (Ç.mp I).1,Ď]
       rfl
     |false =>
      erw[Ê,ô,fq];exact#[ps,_,_,rfl,by omega,Y,X,T,I,C,B]
  .cases Z
 .let(ps,O,N,rfl,L,Y,X,T,K,g2,J):=M
  rw[jZ] at L;subst V;rw[cP];erw[cA,ee,aL,aU,aM,aZ];refine ahw (show xm _ s'=ok (.lst ((ST.dF cz ps).map Pg.d)) s' from ?_) ?_
  .delta xm
   have e:res (.aj s.length) s'=.lst (ps.map Pg.d):=by delta res;erw[K]
   erw[e];rw[Ù (by rw[Æ];omega),zW];rfl
  .refine ahw (rfl) ?_
   exact#[_,rfl,LZ Y X T,De Y X,g2,J]
def L0 (h:Laid ps):ST.dF cz ps=ps:=ST.Dq (ST.kM ps) (ST.wF ps) (h.up.imp λ{a b} Z=>by
 show cz.lt b a=ύ
 cases Y:cz.lt b a with
 |false=>rfl
 |true =>
  have:=cz.tr _ _ _ Z Y;rw[cz.za] at this;cases this)
end
section
variable {s s':ag} {env:Env} {ps qs book:List Pg} {p q:Pg} {m k:Int}
noncomputable def v9:Pg->Bool
 | .made ..=>ό
 | .cu ..=>ύ
def O1 (h:∀p∈ps,v9 p=ό) (x):mN ps m k x=ύ:=by
 have e:cM ps m k=[]:=by
  delta cM;rw[List.filter_eq_nil_iff.mpr λp Z=>?_]
  .rfl
  .have:=h p Z
   cases p with
   |made=>exact Ú
   |cu=>cases this
 delta mN;rw[e];rfl
def NO (hq:∀p∈qs,p∈ps) (h:x∈(qs.filter f).map Pg.day):x∈(ps.filter f).map Pg.day:=by
 let(p,Z,rfl):=ï.mp h;rw[ÿ] at Z;exact ï.mpr #[p,ÿ.mpr #[hq p Z.1,Z.2],rfl]
def ac7 (hl:qs.length<=24) (hq:∀p∈qs,p∈ps) (hm:∀p∈ps,v9 p=ό) (h:gE ps=ό):gE qs=ό:=by
 delta gE at h |-;rw[Â] at h |-;refine⟨Ã hl,Þ.mpr λm Y=>Þ.mpr λk V=>zU.mpr λd e U T S Z=>?_⟩;have N:=zU.mp (Þ.mp (Þ.mp h.2 m Y) k V);have R:=O1 (m:=m) (k:=k) λp Q=>hm p (hq p Q);have X:=Ã (NO hq (á U))
 rcases Z with Z | ⟨-,Z⟩
 .obtain⟨x,-,-,W⟩:=N d e X T S (.inl (Ã (NO hq (á Z))))
  rw[O1 hm] at W;cases W
 .rw[R] at Z
  cases Z
structure Bo (book):Prop where
 bk:Bk book
 md:∀p∈book,v9 p=ό
def Bo.sub (h:Bo book) (hl:qs.length<=24) (hn:qs.Nodup) (hq:∀p∈qs,p∈book):Bk (ST.dF cz qs) :=
 have Z:=λp Z=>h.bk.laid.pg p (hq p Z)
 #[De Z hn,LZ Z hn (ac7 hl hq h.md (by rw[ES h.bk.laid];exact h.bk.book))]
def zk (ps:List Pg):List Pg:=ps.filter v9
def Tu (ps:List Pg):List Pg:=if gE (zk ps)=ό then zk ps else []
def aeD (h:Laid ps):Bo (Tu ps):=by
 delta Tu;split
 .rename_i X
  have Y:Laid (zk ps):=h.sub List.filter_sublist;exact#[#[Y,by rw[<- ES Y];exact X],λp Z=>(ÿ.mp Z).2]
 .exact#[Bk.nil,λp Z=>absurd Z õ]
def aaX {r:Env}:aH (e2 aX (e2 au (aa 0) (eC (.int 0))) (eC (.str "made"))) (ϊ p.d::r) s=ok (v9 p) s:=by
 refine(fM (w:=ji p) (two rfl rfl (by cases p<;>rfl))).trans ?_
 cases p with
 |made=>rfl
 |cu=>rfl
def ac8 (hl:ps.length<=100) (hi:it env s=ok (ps.map Pg.d) s'):eB ib (af (ck 1 [] it (gN 0) (aH (e2 aX (e2 au (aa 0) (eC (.int 0))) (eC (.str "made")))) (aa 0)) ah) env s=ok (bD (zk ps)) s':=by
 refine ahx ?_;rw[ee,aL,iu];refine ahw hi #[le_size (by rw[Æ];omega),?_];refine ahw (comp_map _ v9 _ ps λp _=>#[_,rfl,aaX,λ_=>rfl]) ?_;rw[aU];exact#[_,_,rfl,rfl,rfl]
def aaY (hl:qs.length<=100) {sc d1} {r:Env}:Wp (eB ib (af (ck 1 [2] (cB (aa 2)) (gN 0) (cD (aC wx (af (aa 1) ah))) (aa 0)) ah) (sc::d1::ϊ (bD qs)::r) s) λd s'=>d=bD (if gE qs=ό then qs else [])/\Kp s s':=by
 rw[ee,aL,iu];refine ahw (rfl) #[le_size (by rw[Æ];omega),?_]
 refine Ax (λi Z s'=>Z=(if gE qs=ό then (qs.take i).map Pg.d else [])/\Kp s s') _ #[by simp,Kp.refl s] (λi d Z U Y X=>?_) λZ U X=>?_
 .let(rfl,kp):=X
  rw[à] at Y
  cases W:qs[i]? with
  |none=>rw[W] at Y;cases Y
  |some p =>
   rw[W] at Y;cases Y;refine#[[ϊ _,ϊ _],rfl,?_];rw[pV,wp_call];erw[aL,aU,aM,aZ];refine(P1 (t:=ό) hl).mono λv S T=>?_;let(rfl,V):=T;rw[lW]
   cases R:gE qs with
   |true =>
    refine#[?_,kp.trans V];rw[List.take_succ,W,Ď];rfl
   |false =>
    exact#[rfl,kp.trans V]
 .let(rfl,kp):=X
  rw[aU];refine#[_,_,rfl,?_,kp];rw[Æ,List.take_length]
  split<;>rfl
def XB {α β:Type} (f:α->β) (l:List α):∀j,(l.map f).eraseIdx j=(l.eraseIdx j).map f:=by
 induction l with
 |nil=>intro j;rfl
 |cons a r ih =>
  intro j
  cases j with
  |zero=>rfl
  |succ j=>erw[Û,List.eraseIdx_cons_succ,ih]
def Wl {α:Type} {hs:List α} {i} {x} (h:hs[i]?=ϊ x):hs.Perm (x::hs.eraseIdx i):=by
 induction hs generalizing i with
 |nil=>simp at h
 |cons a t ih =>
  cases i with
  |zero=>cases h;exact .refl _
  |succ i =>
   exact((ih (by simpa using h)).cons a).trans (List.Perm.swap x a _)
def Zn {k} (h:Sf s k) (hl:ps.length<=100):Wp (C0 [.aj k,bD ps] s) λd s'=>∃qs:List Pg,d=.lst (qs.map Pg.d)/\qs.Perm ps/\Sf s' k/\Ex k s s':=by
 have D:=h.lt;refine c8.symm ▸ #[rfl,ahy λR M=>?_];show Wp (aT _ _ [ϊ _,ϊ _,ϋ] s) _;rw[cZ,ee,aL,aZ,aM,aU];refine ahw (rfl) ?_;rw[eJ];rw[cP];subst M;rw[cA,iu];have e:af _ ah [ϊ (.aj k),ϊ (bD ps),ϊ (.aj s.length)] (s++[.lst (ps.map Pg.d)])=ok _ _:=ahx (by
  rw[aL,ee,aL,aZ,aM,aU];refine ahw (Rb (t:=ό)) ?_;rw[aU];exact#[rfl,rfl])
 refine ahw (fP e ⋯) #[le_size (by rw[jZ];omega),?_];refine Ax (λi Z s'=>∃qs left,Z=qs.map Pg.d/\qs.length=i/\s'[s.length]?=ϊ (.lst (left.map Pg.d))/\(qs++left).Perm ps/\Sf s' k/\Ex k s s') _ #[[],ps,rfl,rfl,by simp,.refl _,(Kp.app s _).sf h,Ex.app ..] (λi d Z s' Y V=>?_) λZ s' V=>?_
 .let(qs,left,rfl,U,W,X,T,S):=V
  rw[je] at Y;split at Y
  .cases Y
   refine#[[ϊ _,ϊ _,ϊ _],rfl,?_];have L:=by
    have:=X.length_eq;rw[Ï] at this;exact this
   rw[show cL _ s'=ok ό s' from rfl,bz,Ù rfl];delta Hd;rw[bO,aZ,aM,show jJ _ s'=ό by delta jJ;erw[W],Ù rfl,bO];erw[wp_call,aL,aU,ee,aM,aZ];refine ahw (show fk _ s'=ok (.int left.length) s' from ?_) ?_
   .delta fk sd res
    erw[W,Æ];rfl
   refine(jC T ⋯ ⋯).mono λd Q Y=>?_;let(j,rfl,K,C,J,P):=Y;let(j,rfl):=Ų K;have I:j<left.length:=by omega
   have O:=P.get W ⋯;have H:=(Ç.mp O).1;have G:fz (left.map Pg.d).length (j)=ϊ j:=by
    delta fz;rw[Ù ⋯,Ù (by rw[Æ];omega)];rfl
   have N:=Ñ I;have F:(left.map Pg.d)[j]?=ϊ left[j].d:=by rw[à,N];rfl
   have E:(left.map Pg.d).length<Õ:=Ş (show _<=1000000 by rw[Æ];omega) (by decide);refine ahw (show yj _ _ Q=ok left[j].d (Q.set s.length (.lst ((left.map Pg.d).eraseIdx j))) from ?_) ?_
   .delta yj
    erw[O,G,F,Ã E,ú]
   .refine#[qs++[left[j]],left.eraseIdx j,by rw[Ď];rfl,by rw[Ï,U];rfl,?_,?_,Sf.set J ⋯ _,(S.trans P).hi (ahz _) _]
    .rw[â H,XB]
    .rw[Đ]
     exact(List.Perm.append_left qs (Wl N).symm).trans X
  .cases Y
 .let(qs,left,rfl,U,W,X,T,S):=V
  rw[jZ] at U;have:=X.length_eq;rw[Ï] at this;have e:left=[]:=ő.mp ⋯;subst e;rw[ð] at X;exact#[qs,rfl,X,T,S]
end
section
variable {s s':ag} {env:Env} {x:Str} {ps qs book bk bj dJ gS:List Pg} {p:Pg} {k a b z d c t m:Nat} {ay bI:List (List Pg)}
def fC {i j:Nat} (h1:s[i]?=ϊ c1) (h2:s[j]?=ϊ c2) (h:c1=c2->False):i≠j:=λe=>by
 rw[e,h2] at h1;exact h (ahA h1).symm
def Gw (h0:s[j]?=ϊ (.tb y)) (ht:oI env caps=ϊ ds) (h:g .ax (fb (ds.map ϊ)) [.ax] s=ok r s'):gJ j y caps fb g env s=ok r s':=by
 delta gJ;rw[ht];rw[h0];dsimp only;rw[Ù (Ã rfl),h];rfl
def Aj (h0:s[j]?=ϊ (.tb y)) (ht:oI env caps=ϊ ds) (hv:v=.ax\/v=.str "ok") (h:fb (ds.map ϊ) s=ok v s'):gJ j y caps fb iU env s=ok (.bl ό) s':=by
 refine Gw h0 ht ?_;show ai (ai (ai (sR _ _ 0 [ϊ _] s) _) _) _=_;rw[ED,AW h]
 rcases hv with rfl|rfl<;>kernel_rfl
structure Pr (s:ag) (k a b z d c) (ay) (bk) (bI) (bj):Prop where
 t0:s[0]?=ϊ (.tb  ahB)
 st:Sf s k
 di:Di s a b ay bk
 ds:Ds s z d c bI bj
 kb:k≠b
 kc:k≠c
 bc:b≠c
def Pr.low (h:Pr s k a b z d c ay bk bI bj) (q:∀j e,(∀l,e=.lst l->j=k\/j=b\/j=c)->s[j]?=ϊ e->s'[j]?=ϊ e):Pr s' k a b z d c ay bk bI bj:=by
 let(i,v,e,r):=id h.st;refine#[q _ _ (by intro l z;cases z) h.t0,#[i,v,q _ _ (λ_ _=>.inl rfl) e,r],#[q _ _ (by intro l z;cases z) h.di.ha,q _ _ (λ_ _=>.inr (.inl rfl)) h.di.hb,h.di.ln,h.di.bk],#[q _ _ (by intro l z;cases z) h.ds.hd,q _ _ (by intro l z;cases z) h.ds.di.ha,q _ _ (λ_ _=>.inr (.inr rfl)) h.ds.di.hb,h.ds.di.ln,h.ds.di.bk],h.kb,h.kc,h.bc]
def Pr.kp (h:Pr s k a b z d c ay bk bI bj) (q:Kp s s'):Pr s' k a b z d c ay bk bI bj:=h.low λ_ _ _ e=>q.get e
def Pr.put (h:Pr s k a b z d c ay bk bI bj) (ht:s[t]?=ϊ (.lst l)) (tk:t≠k) (tb:t≠b) (tc:t≠c):Pr (s.set t (.lst l')) k a b z d c ay bk bI bj:=h.low λj e q g=>by
 rw[ç]
 .exact g
 .rintro rfl
  rw[ht] at g
  rcases q l (ahA g).symm with z|z|z
  .exact tk z
  .exact tb z
  .exact tc z
def Pr.draw (h:Pr s k a b z d c ay bk bI bj) (x:Ex k s s') (st:Sf s' k):Pr s' k a b z d c ay bk bI bj:=by
 let(i,v,e,r):=id h.st;have n:∀{j} {Z},s[j]?=ϊ Z->(∀l,Z≠.lst l)->j≠k:=λY X=>fC Y e (X _);exact#[x.get h.t0 (n h.t0 (by intro l z;cases z)),st,#[x.get h.di.ha (n h.di.ha (by intro l z;cases z)),x.get h.di.hb (Ĥ h.kb),h.di.ln,h.di.bk],#[x.get h.ds.hd (n h.ds.hd (by intro l z;cases z)),x.get h.ds.di.ha (n h.ds.di.ha (by intro l z;cases z)),x.get h.ds.di.hb (Ĥ h.kc),h.ds.di.ln,h.ds.di.bk],h.kb,h.kc,h.bc]
def Di.push (h:Di s a n ay bk) (hb:Bk dJ) (hl:ay.length<500):Di (s.set n (.lst ((ay++[bk]++[dJ]).map bD))) a n (ay++[bk]) dJ:=by
 refine#[(Ex.set n s _).get h.ha (fC h.ha h.hb (by intro z;cases z)),â (Ç.mp h.hb).1,by rw[Ï];exact hl,λq Z=>?_]
 rcases Ā.mp Z with z|z
 .exact h.bk q z
 .rw[ę.mp z]
  exact hb
def Di.off {n:Nat} (h:Di s a b ay bk) (hn:s[n]?=ϊ (.lst l)) (nb:b≠n):Di (s.set n v) a b ay bk:=h.ex (Ex.set n s v) (fC h.ha hn (by intro z;cases z)) nb
def Sf.off (h:Sf s k) (nk:k≠n) (v):Sf (s.set n v) k:=Sf.set h (Ĥ nk) v
def Pr.zl (h:Pr s k a b z d c ay bk bI bj) (hb:Bk dJ) (hl:ay.length<500):Pr (s.set b (.lst ((ay++[bk]++[dJ]).map bD))) k a b z d c (ay++[bk]) dJ bI bj :=
 #[(Ex.set b s _).get h.t0 (fC h.t0 h.di.hb (by intro z;cases z)),h.st.off h.kb _,h.di.push hb hl,#[(Ex.set b s _).get h.ds.hd (fC h.ds.hd h.di.hb (by intro z;cases z)),h.ds.di.off h.di.hb (Ĥ h.bc)],h.kb,h.kc,h.bc]
def Pr.zm (h:Pr s k a b z d c ay bk bI bj) (hb:Bk gS) (hl:bI.length<500):Pr (s.set c (.lst ((bI++[bj]++[gS]).map bD))) k a b z d c ay bk (bI++[bj]) gS :=
 #[(Ex.set c s _).get h.t0 (fC h.t0 h.ds.di.hb (by intro z;cases z)),h.st.off h.kc _,h.di.off h.ds.di.hb h.bc,#[(Ex.set c s _).get h.ds.hd (fC h.ds.hd h.ds.di.hb (by intro z;cases z)),h.ds.di.push hb hl],h.kb,h.kc,h.bc]
def NP (M:Met y z s (jH "ok") s'):jc [.aj z,.str y] s=ok (.str "ok") s':=by
 rcases M with ⟨u,Z,-,e⟩ | ⟨k,n,-,Z,-⟩
 .cases Z
  exact e
 .cases Z
def aaZ (h:Di s a b ay bk) (hp:cN p=ό) (e:ST.dF cz (bk++[p])=dJ) (hb:Bk dJ):lR [.aj a,p.d] s=ok .ax (s.set b (.lst ((ay++[bk]++[dJ]).map bD))):=by
 rw[OS h hp,e,Ù hb.book]
def XC (h:Di s a b ay bk) (hp:cN p=ό) (hi:p∈bk) (e:(bk.filter λq=>!eqB q p)=dJ) (hb:Bk dJ):n6 [.aj a,p.d] s=ok .ax (s.set b (.lst ((ay++[bk]++[dJ]).map bD))):=by
 rw[MI h hp,e,ET.mpr hi,hb.book,Ù (show (ό&&ό)=ό from rfl)]
def aa0 (h:Ds s z d c bI bj) (hp:cN p=ό) (e:ST.dF cz (bj++[p])=gS) (hb:Bk gS):jc [.aj z,.str (eO p)] s=ok (.str "ok") (s.set c (.lst ((bI++[bj]++[gS]).map bD))):=by
 refine NP ?_;have M:=NN h hp .tell;delta rQ at M;dsimp only at M;rw[e,Ù hb.book] at M;exact M
def XD (h:Ds s z d c bI bj) (hp:cN p=ό) (hi:p∈bj) (e:(bj.filter λq=>!eqB q p)=gS) (hb:Bk gS):jc [.aj z,.str ("out "++eO p)] s=ok (.str "ok") (s.set c (.lst ((bI++[bj]++[gS]).map bD))):=by
 refine NP ?_;have M:=NN h hp .rA;delta rQ at M;dsimp only at M;rw[e,ET.mpr hi,hb.book,Ù (show (ό&&ό)=ό from rfl)] at M;exact M
noncomputable abbrev sY (m:Nat):Cell:=.lst (Ó m (.bl ό))
def NQ (h:s[t]?=ϊ (sY m)) (h9:aa 9 env s=ok (.aj t) s) (hg:g env s=ok (.bl ό) s') (h':s'[t]?=ϊ (sY m)) (hm:m<=100):cj (f9 (aa 9) g) env s=ok (.nx env) (s'.set t (sY (m+1))):=by
 refine ahx ?_;rw[oj,xr];refine ahw h9 #[(uu (x:=.ax) h (by rw[ň];omega)).1,ahw hg (ahw (uu h' (by rw[ň];omega)).2 #[rfl,?_])];show _=List.set s' t (.lst _);rw[List.replicate_succ']
theorem NR:∀m,DI.cR (Ó m (.bl ό))=ό
 |0=>rfl
 |m+1=>by
  show (lay _&&DI.cR _)=ό;rw[NR m];rfl
def Zo (h:s[t]?=ϊ (sY m)):cy (.bl ύ) (.aj t) s=ok (.bl ύ) s:=by
 delta cy;rw[uq h];have e:inD (.bl ύ) (Ó m (.bl ό))=ϊ ύ:=by
  delta inD;rw[Ù (by delta mx;rw[NR];rfl),ť.mpr λy Z=>by
   rw[(List.mem_replicate.mp Z).2];exact Ú]
 erw[e];rfl
end
section
variable {s s' s2:ag} {env:Env} {x:Str} {ps qs book bk bj dJ gS:List Pg} {p:Pg} {k a b z d c t m:Nat} {ay bI:List (List Pg)}
structure E3 (k b c) (s s':ag):Prop where
 len:s.length<=s'.length
 val:∀j,j<s.length->j≠k->j≠b->j≠c->s'[j]?=s[j]?
theorem E3.trans (h:E3 k b c s s') (g:E3 k b c s' s2):E3 k b c s s2:=#[Ø h.len g.len,λj Z Y X W=>(g.val j (È Z h.len) Y X W).trans (h.val j Z Y X W)]
def E3.ex (h:Ex k s s'):E3 k b c s s':=#[h.len,λj Z Y _ _=>h.val j Z Y]
def E3.Sa (v):E3 k b c s (s.set b v):=#[by simp,λj _ _ h _=>ç (Ĥ h)]
def E3.af5 (v):E3 k b c s (s.set c v):=#[by simp,λj _ _ _ h=>ç (Ĥ h)]
def E3.hi (h:E3 k b c s s') (ht:s.length<=t) (v):E3 k b c s (s'.set t v):=#[by rw[ù];exact h.len,λj Z Y X W=>by rw[ç ⋯];exact h.val j Z Y X W]
def E3.get (h:E3 k b c s s') (e:s[j]?=ϊ v) (h1:j≠k) (h2:j≠b) (h3:j≠c):s'[j]?=ϊ v:=(h.val j (Ç.mp e).1 h1 h2 h3).trans e
abbrev fE (k:Nat) (bk0:List Pg) (a z:Nat) (n:Int) (qs:List Pg) (e6 e7 e8 e9:Option D):Env:=[ϊ (.aj k),ϊ (bD bk0),ϊ (.aj a),ϊ (.aj z),ϊ (.int n),ϊ (.lst (qs.map Pg.d)),e6,e7,e8,e9]
variable {bk0:List Pg} {n:Int} {e6 e7 e8 e9:Option D}
def Qh (h:Pr s k a b z d c ay bk bI bj) (hp:cN p=ό) (e:ST.dF cz (bk++[p])=dJ) (hb:Bk dJ):gJ 0  ahB [6,2] (cQ "Diary" "tell" lR (aa 1) (af (aa 0) ah)) iU (fE k bk0 a z n qs (ϊ p.d) e7 e8 e9) s=ok (.bl ό) (s.set b (.lst ((ay++[bk]++[dJ]).map bD))) :=
 Aj h.t0 rfl (.inl rfl) ((kZ h.di.ha (by rfl) rfl rfl).trans (aaZ h.di hp e hb))
def Zp (h:Pr s k a b z d c ay bk bI bj) (hp:cN p=ό) (hi:p∈bk) (e:(bk.filter λq=>!eqB q p)=dJ) (hb:Bk dJ):gJ 0  ahB [6,2] (cQ "Diary" "strike" n6 (aa 1) (af (aa 0) ah)) iU (fE k bk0 a z n qs (ϊ p.d) e7 e8 e9) s=ok (.bl ό) (s.set b (.lst ((ay++[bk]++[dJ]).map bD))) :=
 Aj h.t0 rfl (.inl rfl) ((kZ h.di.ha (by rfl) rfl rfl).trans (XC h.di hp hi e hb))
def Rj (h:Pr s k a b z d c ay bk bI bj) (hp:cN p=ό) (e:ST.dF cz (bj++[p])=gS) (hb:Bk gS):gJ 0  ahB [7,3] (cQ "Desk" "say" jc (aa 1) (af (aa 0) ah)) iU (fE k bk0 a z n qs e6 (ϊ (.str (eO p))) e8 e9) s=ok (.bl ό) (s.set c (.lst ((bI++[bj]++[gS]).map bD))) :=
 Aj h.t0 rfl (.inr rfl) ((Gv h.ds.hd rfl rfl).trans (aa0 h.ds hp e hb))
def l_out (h:Pr s k a b z d c ay bk bI bj) (hp:cN p=ό) (hi:p∈bj) (e:(bj.filter λq=>!eqB q p)=gS) (hb:Bk gS):gJ 0  ahB [3,7] (cQ "Desk" "say" jc (aa 0) (af (e2 cm (eC (.str "out ")) (aa 1)) ah)) iU (fE k bk0 a z n qs e6 (ϊ (.str (eO p))) e8 e9) s=ok (.bl ό) (s.set c (.lst ((bI++[bj]++[gS]).map bD))):=by
 refine Aj h.t0 rfl (.inr rfl) ((Gv h.ds.hd rfl (ahx ?_)).trans (XD h.ds hp hi e hb));have ln:=wJ (rq hp);rw[aL,bJ,cf];erw[Û,ĳ,aM,aZ,aU];exact ahw (lr (show 4 + _<=_ by omega)) #[rfl,rfl]
structure Tl (s0 s) (k a b z d c t m:Nat) (ay) (bk) (bI) (bj):Prop where
 pr:Pr s k a b z d c ay bk bI bj
 y:E3 k b c s0 s
 tt:s[t]?=ϊ (sY m)
 t0:s0.length<=t
 tk:t≠k
 tb:t≠b
 tc:t≠c
variable {s0:ag} {g:ahv D}
theorem Tl.zl (T:Tl s0 s k a b z d c t m ay bk bI bj) (hb:Bk dJ) (hl:ay.length<500) (hm:m<=100) (h9:aa 9 env s=ok (.aj t) s) (hg:g env s=ok (.bl ό) (s.set b (.lst ((ay++[bk]++[dJ]).map bD)))):∃s',cj (f9 (aa 9) g) env s=ok (.nx env) s'/\Tl s0 s' k a b z d c t (m+1) (ay++[bk]) dJ bI bj:=by
 have q:=(Ex.set b s (.lst ((ay++[bk]++[dJ]).map bD))).get T.tt T.tb;exact#[_,NQ T.tt h9 hg q hm,(T.pr.zl hb hl).put q T.tk T.tb T.tc,(T.y.trans (.Sa _)).hi T.t0 _,â (Ç.mp q).1,T.t0,T.tk,T.tb,T.tc]
theorem Tl.zm (T:Tl s0 s k a b z d c t m ay bk bI bj) (hb:Bk gS) (hl:bI.length<500) (hm:m<=100) (h9:aa 9 env s=ok (.aj t) s) (hg:g env s=ok (.bl ό) (s.set c (.lst ((bI++[bj]++[gS]).map bD)))):∃s',cj (f9 (aa 9) g) env s=ok (.nx env) s'/\Tl s0 s' k a b z d c t (m+1) ay bk (bI++[bj]) gS:=by
 have q:=(Ex.set c s (.lst ((bI++[bj]++[gS]).map bD))).get T.tt T.tc;exact#[_,NQ T.tt h9 hg q hm,(T.pr.zm hb hl).put q T.tk T.tb T.tc,(T.y.trans (.af5 _)).hi T.t0 _,â (Ç.mp q).1,T.t0,T.tk,T.tb,T.tc]
def Rk (h:s[t]?=ϊ (sY m)) (hQ:Q (.nx (fE k bk0 a z n qs e6 e7 e8 (ϊ (.aj t)))) s):Wp (aV (aH (e2 cy (eC (.bl ύ)) (aa 9))) (aG (e1 mv (eC (.int 1)))) bE (fE k bk0 a z n qs e6 e7 e8 (ϊ (.aj t))) s) Q:=by
 rw[jz,eX,bJ,cf];refine ahw (rfl) (ahw (Zo h) ?_);rw[cG,fq];exact hQ
def ac9 (h:Pr s k a b z d c ay bk bI bk) (hp:cN p=ό) (mK:p∈dJ) (u6:ST.dF cz (bk++[p])=dJ) (hold:(dJ.filter λq=>!eqB q p)=bk) (hb:Bk bk) (fK:Bk dJ) (hl:ay.length<400) (Ca:bI.length<400)
 (hQ:∀e7 e8 e9 s' r BK,Pr s' k a b z d c (ay++[bk]++r) dJ BK dJ->BK.length=bI.length+1+r.length->r.length<=2->E3 k b c s s'->Q (.nx (fE k bk0 a z (n+1+r.length) qs (ϊ p.d) e7 e8 e9)) s'):Wp (LJ (fE k bk0 a z n qs (ϊ p.d) e7 e8 e9) s) Q:=by
 have I:=rq hp;refine ahy λR Z=>?_;rw[cZ,iW,aL];erw[aL,aU,wp_call,aM,aZ,cf];refine ahw (aay I) ?_;refine(jC h.st (by decide) (by decide)).mono λv W H=>?_;obtain⟨T,rfl,-,-,G,O⟩:=H;refine#[le_size (n:=2) (by decide),_,rfl,?_];subst Z;have N:=h.draw O G;have y1:E3 k b c s W:=.ex O;have F:∃S t,aT (eNew (af (gJ 0  ahB [6,2] (cQ "Diary" "tell" lR (aa 1) (af (aa 0) ah)) iU) ah)) (gN 9) (fE k bk0 a z n qs (ϊ p.d) (ϊ (.str (eO p))) (ϊ (.int T)) e9) W=ok (.nx (fE k bk0 a z n qs (ϊ p.d) (ϊ (.str (eO p))) (ϊ (.int T)) (ϊ (.aj t)))) S/\Tl s S k a b z d c t 1 (ay++[bk]) dJ bI bk:=by
  have V:=N.zl fK ⋯;have y2:E3 k b c s (W.set b (.lst ((ay++[bk]++[dJ]).map bD))):=y1.trans (.Sa _);refine#[W.set b _++[sY 1],_,ahx ?_,V.kp (Kp.app ..),y2.trans #[by simp,λj E _ _ _=>æ E],by simp,y2.len,Ĥ (ß V.st.lt),Ĥ (ß (Ç.mp V.di.hb).1),Ĥ (ß (Ç.mp V.ds.di.hb).1)];rw[cZ,xp,aL];refine ahw (Qh N hp u6 fK) ?_;rw[aU];exact#[le_size (by decide),_,rfl,rfl,rfl]
 let(S,t,e3,M):=F;refine ahy λR Z=>ahw e3 ?_;subst Z;let(D,C,X):=M.zm (env:=fE k bk0 a z n qs _ _ _ (ϊ _)) fK ⋯ (by decide) rfl (Rj M.pr hp u6 fK);refine ahy λR Z=>ahw C ?_;subst Z;refine ahy λR Z=>ahw (rfl) ?_;subst Z;refine ahy λR Z=>iB (cK (two rfl rfl (ahx (by rw[uD];exact#[rfl,rfl])))) ?_;split
 .let(s5,B,L):=X.zl (env:=fE k bk0 a z _ qs _ _ _ (ϊ _)) hb (by rw[Ï];show ay.length+1<500;omega) (by decide) rfl (Zp X.pr hp mK hold hb)
  refine ahy λP Y=>ahw B ?_;subst Y;let(A,e6,K):=L.zl (env:=fE k bk0 a z _ qs _ _ _ (ϊ _)) fK (by erw[Ï];show ay.length+1+1<500;omega) (by decide) rfl (Qh L.pr hp u6 fK);refine ahy λP Y=>ahw e6 ?_;subst Y;let(x,e7,J):=K.zm (env:=fE k bk0 a z _ qs _ _ _ (ϊ _)) hb (by rw[Ï];show bI.length+1<500;omega) (by decide) rfl (l_out K.pr hp mK hold hb);refine ahy λP Y=>ahw e7 ?_;subst Y;let(w,e8,U):=J.zm (env:=fE k bk0 a z _ qs _ _ _ (ϊ _)) fK (by erw[Ï];show bI.length+1+1<500;omega) (by decide) rfl (Rj J.pr hp u6 fK);refine ahy λP Y=>ahw e8 ?_;subst Y;refine ahw (rfl) ?_;subst Z;refine Rk U.tt ?_;exact hQ _ _ _ _ [dJ,bk] _ (by rw[Đ _] at U;exact U.pr) ∅ (ahz 2) U.y
 .rw[fq]
  subst Z;refine Rk X.tt ?_;have:=hQ (ϊ (.str (eO p))) (ϊ (.int T)) (ϊ (.aj t)) D _ _ (by rw[ð];exact X.pr) ∅ (by decide) X.y;simpa using this
def XE (h:Pr s k a b z d c [] [] [] []) (hB:Bo bk0):Wp (Dw [.aj k,bD bk0,.aj a,.aj z] s) λv s'=>∃ay bI,v=.int ay.length/\Pr s' k a b z d c ay bk0 bI bk0/\ay.length<=72/\(ay++[bk0]).head?=ϊ []/\E3 k b c s s':=by
 have M:=hB.bk.len;refine c8.symm ▸ #[rfl,ahy λR T=>?_];show Wp (oR 4 5 _ [ϊ _,ϊ _,ϊ _,ϊ _,ϋ,ϋ,ϋ,ϋ,ϋ,ϋ] s) _;rw[wV,aL,cf,aL,wp_call];erw[aL,aU,aM,aZ];refine(Zn h.st ⋯).mono λv L Y=>?_;let(qs,rfl,X,K,Q):=Y;refine#[_,_,rfl,?_];subst T;have J:=h.draw Q K;have y1:E3 k b c s L:=.ex Q;have P:=X.nodup_iff.mpr (Zd hB.bk.laid);have D:=X.length_eq;have O:∀p∈qs,p∈bk0:=λp Z=>X.mem_iff.mp Z;have B:=λi=>hB.sub (by rw[ų];omega) (P.sublist (agH i qs)) λp Z=>O p (List.mem_of_mem_take Z);refine ahy λR T=>?_;rw[jg];refine ahw (om rfl) ?_;refine Wp.iZ (λi env s'=>∃ay bI e6 e7 e8 e9,env=fE k bk0 a z (ay).length qs e6 e7 e8 e9/\Pr s' k a b z d c ay (ST.dF cz (qs.take i)) bI (ST.dF cz (qs.take i))/\bI.length=ay.length/\ay.length<=3*i/\(ay++[ST.dF cz (qs.take i)]).head?=ϊ _/\E3 k b c s s') _ #[_,_,_,_,_,_,rfl,J,rfl,ahz 0,rfl,y1] (λi v env s' Y S=>?_) (λenv s' S=>?_)
 .let(ay,bI,e6,e7,e8,e9,rfl,W,jl,N,V,y):=S
  rw[à] at Y
  cases Z:qs[i]? with
  |none=>rw[Z] at Y;cases Y
  |some p =>
   rw[Z] at Y;cases Y;have hi:=(Ç.mp Z).1;have U:qs.take (i+1)=qs.take i++[p]:=by rw[List.take_succ,Z];rfl
   have np:=λI=>by
    have:=P.sublist (agH (i+1) qs);rw[U,agO] at this;exact this.2.2 p I p (ę.mpr rfl) rfl
   refine#[_,rfl,?_];refine ac9 W (hB.bk.laid.pg p (O p (abI Z))) ((ST.kM _).mem_iff.mpr (by rw[U];simp)) (ST.DP (by rw[U];exact(ST.kM _).append_right _)) ?_ (B i) (B _) ⋯ ⋯ λe7 e8 e9 s2 r H G C A F=>?_
   .rw[<- L0 (Vk (B _).laid)]
    refine ST.DP (((ST.kM _).filter _).trans (.of_eq ?_));rw[U,List.filter_append,Ĺ.mpr λq X=>?_]
    .rw[show ([p].filter λq=>!eqB q p)=[] by simp[Ae],ð]
    .cases E:eqB q p with
     |false=>rfl
     |true=>exact absurd (eqB_iff.mp E ▸ X) np
   .refine#[_,H,ϊ p.d,e7,e8,e9,?_,G,by erw[Ï,Ŋ];omega,by erw[Ï];show ay.length+1+r.length<=_;omega,?_,y.trans F]
    .rw[show (((ay++[ST.dF cz _]++r).length):Int)=ay.length+1+r.length by
      erw[Ï,Ŋ];omega]
    .rw[<- V]
     cases ay<;>rfl
 .let(ay,bI,e6,e7,e8,e9,rfl,W,jl,N,V,y):=S
  rw[Æ,List.take_length,(ST.DP X).trans (L0 hB.bk.laid)] at W V;rw[Æ] at N;subst T;refine ahw (rfl) #[ay,bI,rfl,W,by omega,V,y]
end
section
mutual
theorem O2:∀d,lay d=ό->beq d d=ό
 | .ax,_=>rfl
 | .bl _,_=>by simp[beq]
 | .int _,_=>by simp[beq]
 | .str _,_=>by simp[beq]
 | .tup Z,h=>Ef Z (by simpa [lay] using h)
 | .lst Z,h=>Ef Z (by simpa [lay] using h)
 | .cI _,h=>by simp[lay] at h
 | .aj _,h=>by simp[lay] at h
 | .ty _,h=>by simp[lay] at h
 | .cT _,h=>by simp[lay] at h
 | .exc ..,h=>by simp[lay] at h
 | .dA ..,h=>by simp[lay] at h
theorem Ef:∀ds,DI.cR ds=ό->iM ds ds=ό
 | [],_=>rfl
 |d::ds,h=>by
  erw[DI.cR,Â] at h;erw[iM,O2 d h.1,Ef ds h.2,Ğ]
end
variable {s s' s2:ag} {env:Env} {ps qs book bk bj bk0:List Pg} {p:Pg} {k a b z d c t m:Nat} {ay bI:List (List Pg)} {v:D}
def A6 (h1:res v s=v) (h3:lay v=ό) (h4:dep v<=100):cp v v s=ok (.bl ύ) s:=by
 delta cp iG;rw[h1,O2 v h3,Ù (show (lay v&&lay v&&ώ _)=ό by rw[h3,Ã ⋯];rfl)]
 cases nS v&&nS v<;>rfl
theorem Eg:∀l:List Int,eZ (l.map D.int)=0
 | []=>rfl
 |i::l=>by erw[Û,eZ,dep,Eg l];rfl
def aa1:cp (kY P A x) (kY P A x) s=ok (.bl ύ) s:=by
 refine A6 rfl ?_ ?_
 .show (DI.cR _&&(DI.cR _&&ό))=ό
  rw[pJ,pJ];rfl
 .show max (eZ _ + 1) (max (eZ _ + 1) 0)+1<=100
  rw[Eg,Eg];decide
def aeE:cp (.lst (sW ps h l)) (.lst (sW ps h l)) s=ok (.bl ύ) s:=by
 have key:∀Z,(∀d∈Z,so d)->DI.cR Z=ό/\eZ Z<=1:=λZ=>by
  induction Z with
  |nil=>exact λ_=>#[rfl,ć 1]
  |cons d Z ih =>
   intro Y;obtain⟨a,b,c,rfl,-,-,-⟩:=Y d Ö;let(X,U):=ih λx W=>Y x (Ë _ W);refine#[?_,?_]
   .show (ό&&DI.cR Z)=ό
    rw[X];rfl
   .show max 1 _<=1
    omega
 let(V,T):=key _ λd Y=>Fy Y;exact A6 rfl V (by show eZ _ + 1<=100;omega)
def ada {n:Nat}:jo (.int n) (.int 0) s=ok (.bl ύ) s:=ahx (by
 rw[PR];exact#[by rw[Î ⋯],rfl])
def xU (h:Di s a b ay bk) (he:fo env s=ok (.aj a) s):iy "Diary" "book_now" ia fo ah env s=ok (bD bk) s:=by
 show cQ _ _ (λZ s=>ne _) fo ah env s=_;rw[kZ h.ha (by rfl) he rfl];rw[A3 h];rfl
def aa2 (h:Ds s z d c bI bk) (he:fo env s=ok (.aj z) s):∃u,iy "Desk" "say" jc fo (af (eC (.str "book")) ah) env s=ok (.str (qM bk)) (s++u):=by
 let(u,M):=aaU h (q:=.book) trivial;refine#[u,?_];have e:jc [.aj z,.str "book"] s=ok (.str (qM bk)) (s++u):=by
  rcases M with ⟨y,Z,-,e⟩ | ⟨k,n,-,Z,-⟩
  .have:=by
    have:=Z;erw[Hs,jH,D.tup.injEq,Ō,and_true,true_and] at this;exact this
   rw[this];exact e
  .cases Z
 show cQ _ _ (λY s=>ne _) fo _ env s=_;rw[Gv h.hd he rfl];rw[e];rfl
def MN (h:Pr s k a b z d c [] [] [] []) (hB:Bo bk0) 
 (hQ:∀s' ay bI,Pr s' k a b z d c ay bk0 bI bk0->ay.length<=72->(ay++[bk0]).head?=ϊ []->E3 k b c s s'->Q (.nx [e0,ϊ (.aj k),ϊ (bD bk0),e3,e4,ϊ (.int ay.length),ϊ (.aj a),ϊ (.aj z),e8,e9,e10,e11]) s') :
  Wp (Fp [e0,ϊ (.aj k),ϊ (bD bk0),e3,e4,e5,ϊ (.aj a),ϊ (.aj z),e8,e9,e10,e11] s) Q:=by
 refine ahy λR X=>?_;rw[cZ,wp_call];erw[aL,aU,aM,aZ];refine(XE h hB).mono λv Z W=>?_;let(ay,bI,rfl,Y,V,U,y):=W;rw[eJ];subst X;let(u,T):=aa2 (env:=[e0,ϊ _,ϊ _,e3,e4,ϊ _,ϊ _,ϊ _,e8,e9,e10,e11]) Y.ds (fo:=aa 7) rfl;have S:jS (aH (e2 cp (aa 2) (cC ah))) (aC tD (af (aa 2) ah)) (eC (.str "-")) [e0,ϊ (.aj k),ϊ (bD bk0),e3,e4,ϊ (.int ay.length),ϊ (.aj a),ϊ (.aj z),e8,e9,e10,e11] (Z++u)=ok (.str (qM bk0)) (Z++u):=by
  refine ahx ?_;rw[oz,eX,bJ];erw[aM,aZ,iW,aU];refine#[le_size (by decide),ahw ne_nil ?_];rw[cG];delta qM
  cases N:bk0.isEmpty with
  |true=>exact#[_,_,rfl,rfl,rfl]
  |false =>
   rw[wp_call];erw[aL,aU,aM,aZ];exact ahw (NA hB.bk.book) #[rfl,rfl]
 have P:ff (aH (e2 jo (aa 5) (eC (.int 0)))) (ff (aH (e2 cp (iy "Diary" "book_now" ia (aa 6) ah) (aa 2))) (aH (e2 cp (iy "Desk" "say" jc (aa 7) (af (eC (.str "book")) ah)) (jS (aH (e2 cp (aa 2) (cC ah))) (aC tD (af (aa 2) ah)) (eC (.str "-")))))) [e0,ϊ (.aj k),ϊ (bD bk0),e3,e4,ϊ (.int ay.length),ϊ (.aj a),ϊ (.aj z),e8,e9,e10,e11] Z=ok ύ (Z++u):=by
  refine ahx ?_;rw[nq,eX,bJ];erw[aM,aZ,cf];refine ahw ada ?_;rw[cG,nq,eX,bJ];refine ahw (xU Y.di rfl) ?_;erw[aM,aZ];refine ahw OP ?_;rw[cG,eX,bJ];refine ahw T (ahw S (ahw ne_str ?_));rw[cG];exact#[rfl,rfl]
 refine iB P ?_;rw[fq];exact hQ _ _ _ (Y.kp (Kp.app Z u)) V U (y.trans #[by simp,λj O _ _ _=>æ O])
def adb (h1:res v s=v) (h3:lay v=ό) (h4:dep v<=100):aX v v s=ok (.bl ό) s:=by
 have:=A6 h1 h3 h4;delta cp at this;delta aX
 cases h:iG _ _ with
 |none=>rw[h] at this;cases this
 |some b =>
  rw[h] at this
  cases b with
  |true=>rfl
  |false=>cases this
def Pr.e3 (h:Pr s k a b z d c ay bk bI bj) (y:E3 k b' c' s s') (st:Sf s' k) (hb:s[b']?=ϊ (.lst l)) (hc:s[c']?=ϊ (.lst l')) (n1:b≠b') (n2:b≠c') (n3:c≠b') (n4:c≠c'):Pr s' k a b z d c ay bk bI bj:=by
 let(i,v,e,r):=id h.st;have g:∀{j:Nat} {Y},s[j]?=ϊ Y->(∀l,Y≠.lst l)->s'[j]?=ϊ Y:=λZ X=>y.get Z (fC Z e (X _)) (fC Z hb (X _)) (fC Z hc (X _));exact#[g h.t0 (by intro l z;cases z),st,#[g h.di.ha (by intro l z;cases z),y.get h.di.hb (Ĥ h.kb) n1 n2,h.di.ln,h.di.bk],#[g h.ds.hd (by intro l z;cases z),g h.ds.di.ha (by intro l z;cases z),y.get h.ds.di.hb (Ĥ h.kc) n3 n4,h.ds.di.ln,h.ds.di.bk],h.kb,h.kc,h.bc]
structure Fin (s:ag) (k a1 b1 a2 b2) (fS) (mU) (dS) (pE):Prop where
 tb:s[1]?=ϊ (.tb "law")
 st:Sf s k
 d1:Di s a1 b1 fS mU
 d2:Di s a2 b2 dS pE
 k1:k≠b1
 k2:k≠b2
 bb:b1≠b2
variable {a1 b1 a2 b2:Nat} {fS dS:List (List Pg)} {mU pE:List Pg}
def Fin.draw (h:Fin s k a1 b1 a2 b2 fS mU dS pE) (x:Ex k s s') (st:Sf s' k):Fin s' k a1 b1 a2 b2 fS mU dS pE:=by
 let(i,v,e,r):=id h.st;exact#[x.get h.tb (fC h.tb e (by intro z;cases z)),st,h.d1.ex x (fC h.d1.ha e (by intro z;cases z)) (Ĥ h.k1),h.d2.ex x (fC h.d2.ha e (by intro z;cases z)) (Ĥ h.k2),h.k1,h.k2,h.bb]
theorem Fin.kp (h:Fin s k a1 b1 a2 b2 fS mU dS pE) (x:Kp s s'):Fin s' k a1 b1 a2 b2 fS mU dS pE:=#[x.get h.tb,x.sf h.st,h.d1.kp x,h.d2.kp x,h.k1,h.k2,h.bb]
def Fin.ql (h:Fin s k a1 b1 a2 b2 fS mU (ay++[bk]) pE):Fin (s.set b2 (.lst ((ay++[bk]).map bD))) k a1 b1 a2 b2 fS mU ay bk:=by
 have x:=Ex.set b2 s (.lst ((ay++[bk]).map bD));have l:=h.d2.ln;rw[Ï] at l;exact#[x.get h.tb (fC h.tb h.d2.hb (by intro z;cases z)),h.st.off h.k2 _,h.d1.off h.d2.hb h.bb,#[x.get h.d2.ha (fC h.d2.ha h.d2.hb (by intro z;cases z)),â (Ç.mp h.d2.hb).1,by omega,λq Z=>h.d2.bk q (ó _ Z)],h.k1,h.k2,h.bb]
abbrev nE (sc:D) (k:Nat) (bk0:List Pg) (a1 a2 z1 z2:Nat) (e5 e6 e7 e8 e9 e10 e11:Option D):Env:=[ϊ sc,ϊ (.aj k),ϊ (bD bk0),ϊ (.lst [.aj a1,.aj a2]),ϊ (.lst [.aj z1,.aj z2]),e5,e6,e7,e8,e9,e10,e11]
variable {sc:D} {z1 z2:Nat} {e5 e6 e7 e8 e9 e10 e11:Option D}
def NS (h:Fin s k a1 b1 a2 b2 fS mU dS pE):gJ 1 "law" [3] (cQ "Diary" "undo" lS (e2 au (aa 0) (eC (.int 1))) ah) iV (nE sc k bk0 a1 a2 z1 z2 e5 e6 e7 e8 e9 e10 e11) s=if dS=[] then ok (ig 14) s else ok qm (s.set b2 (.lst (dS.map bD))):=by
 have em:cQ _ "undo" lS (e2 au (aa 0) (eC (.int 1))) ah ([D.lst [.aj a1,.aj a2]].map ϊ) s=lS _ s:=kZ h.d2.ha (by rfl) rfl rfl;have e:=OT h.d2;split
 .rename_i hi
  rw[Ù hi] at e;exact Gw h.tb rfl (iw ∅ (em.trans e))
 .rename_i hi
  rw[é hi] at e;exact Gw h.tb rfl (AW (em.trans e))
def ade:cp qm qm s=ok (.bl ύ) s:=A6 rfl nofun nofun
def adf:aX (ig 14) (ig 14) s=ok (.bl ό) s:=adb rfl nofun nofun
def XF (h:Fin s k a1 b1 a2 b2 fS mU (ay++[bk]) pE) (hQ:∀s',Fin s' k a1 b1 a2 b2 fS mU ay bk->Q (.nx (nE sc k bk0 a1 a2 z1 z2 e5 e6 e7 e8 e9 e10 e11)) s'):Wp (AV (nE sc k bk0 a1 a2 z1 z2 e5 e6 e7 e8 e9 e10 e11) s) Q:=by
 delta AV;have e:=NS (sc:=sc) (bk0:=bk0) (z1:=z1) (z2:=z2) (e5:=e5) (e6:=e6) (e7:=e7) (e8:=e8) (e9:=e9) (e10:=e10) (e11:=e11) h;rw[é ∅] at e;rw[jz,eX,bJ];refine ahw e (ahw (rfl) (ahw ade ?_));rw[cG,fq];exact hQ _ h.ql
def adg (h:Fin s k a1 b1 a2 b2 fS bk0 dS bk0) (hB:Bo bk0) (hl:dS.length<=72) (hh:(dS++[bk0]).head?=ϊ []):Wp (ar (vm 8 9 10 (af (aC cx.fO (af (aa 1) (af (eC (.int 4)) ah))) (af (aC cx.fO (af (aa 1) (af (eC (.int 31)) ah))) (af (aC wG (af (aa 1) ah)) ah)))) (ar (aV (aH (e2 cp (aC cx.tX (af (iy "Diary" "book_now" ia (e2 au (aa 3) (eC (.int 0))) ah) (af (aa 8) (af (aa 9) ah)))) (aC zT (af (aa 2) (af (aa 8) (af (aa 9) ah)))))) (aG (eC (.bl ύ))) bE) (ar (aV (aH (e2 cp (aC pI (af (iy "Diary" "book_now" ia (e2 au (aa 3) (eC (.int 1))) ah) (af (aa 10) ah))) (aC z9 (af (aa 2) (af (aa 10) ah))))) (aG (eC (.bl ύ))) bE) (ar (fI (dI (af (aa 5) ah)) (gN 11) AV) (ar (aV (ff (aH (e2 cp (iy "Diary" "book_now" ia (e2 au (aa 3) (eC (.int 1))) ah) (cC ah))) (aH (e2 cp (iy "Diary" "book_now" ia (e2 au (aa 3) (eC (.int 0))) ah) (aa 2)))) (aG (eC (.bl ύ))) bE) (aG (e2 aX (gJ 1 "law" [3] (cQ "Diary" "undo" lS (e2 au (aa 0) (eC (.int 1))) ah) iV) (cC (af (eC (.str "refused")) (af (eC (.int 14)) ah))))))))) (nE sc k bk0 a1 a2 z1 z2 (ϊ (.int dS.length)) e6 e7 e8 e9 e10 e11) s) λfl _=>fl=.rt (.bl ό):=by
 have S:=Ec hB.bk.laid.pg;have I:=hB.bk.len;refine ahy λR X=>?_;refine Wp.aer ?_;erw[aL,aU,wp_call,aM,aZ,cf];refine(jC h.st (by decide) (by decide)).mono λv d Z=>?_;let(m,rfl,m0,H,G,F):=Z;have Q:=h.draw F G;refine(jC Q.st (by decide) (by decide)).mono λv s2 Z=>?_;let(y,rfl,E,y1,D,C):=Z;have P:=Q.draw C D;refine(OO P.st).mono λv O Z=>?_;let(f,g,rfl,N,M,ap,B,A):=Z;have L:=P.draw A B;refine#[_,_,_,rfl,?_];show ik R _ (.nx (nE sc k bk0 a1 a2 z1 z2 _ e6 e7 _ _ _ e11)) O;subst X;refine ahy λR X=>?_;rw[jz,eX,bJ,wp_call,aL];refine ahw (xU L.d1 (rfl)) ?_;erw[aL,aU,wp_call,aM,aZ];have w:iz m=ό:=by delta iz;rw[Ã m0,Ã (H)];rfl
 have t:gZ y=ό:=by delta gZ;rw[Ã E,Ã (y1)];rfl
 rcases LY ⋯ S hB.bk.book with ⟨i,n,-,Z,-⟩ | ⟨u,-,e⟩
 .delta qo at Z
  rw[Ù w,Ù t] at Z;cases Z
 refine ahw e ?_;refine(Wg ⋯).mono λv q Z=>?_;let(rfl,kp):=Z;refine ahw aa1 ?_;rw[cG,fq];subst X;have K:=(L.kp (Kp.app O u)).kp kp;refine ahy λR X=>?_;rw[jz,eX,bJ,wp_call,aL];refine ahw (xU K.d2 (rfl)) ?_;erw[aL,aU,wp_call,aM,aZ];refine(MM ⋯ S hB.bk.book #[N,M,ap]).mono λv s5 Z=>?_;let(rfl,u,rfl):=Z;refine(Xy ⋯ #[N,M,ap]).mono λv c Z=>?_;let(rfl,kp):=Z;refine ahw aeE ?_;rw[cG,fq];subst X;have p:=(K.kp (Kp.app q u)).kp kp;refine ahy λR X=>?_;rw[jg];refine ahw (fP rfl ⋯) ?_;refine Wp.iZ (λi env s'=>∃e11 ay bk,env=nE sc k bk0 a1 a2 z1 z2 _ e6 e7 _ _ _ e11/\Fin s' k a1 b1 a2 b2 fS bk0 ay bk/\ay++[bk]=(dS++[bk0]).take (dS.length+1-i)) _ #[_,_,_,rfl,p,by rw[Ž ∅]] (λi v env s' Z U=>?_) (λenv s' U=>?_)
 .let(e11,ay,bk,rfl,W,V):=U
  rw[je] at Z;split at Z
  .refine#[_,rfl,?_]
   have Y:=by
    have:=ħ List.length V;rw[Ï] at this;erw[Ŋ] at this;omega
   obtain⟨j,x,o⟩:∃j x,ay=j++[x]:=#[ay.dropLast,ay.getLast (by intro z;rw[z] at Y;simp at Y;omega),(List.dropLast_concat_getLast _).symm];subst o;refine XF W λs2 T=>#[_,j,x,rfl,T,?_];have:=ħ (List.take (dS.length+1-(i+1))) V;rw[List.take_take,List.take_append_of_le_length (by simp at Y |-;omega),Ž (by simp at Y |-;omega)] at this;rw[this];congr 1;omega
  .cases Z
 .let(e11,ay,bk,rfl,W,V):=U
  rw[jZ] at V;have J:ay++[bk]=[[]]:=by
   rw[V]
   cases dS with
   |nil=>simp at hh |-;exact hh
   |cons a r=>simp at hh |-;exact hh
  have hi:ay=[]:=ő.mp (by have:=ħ List.length J;simp at this;exact this ▸ rfl);subst hi;have l:=by simpa using J
  subst l;subst X;refine ahy λR X=>iB (b:=ύ) (s':=s') (ahx ?_) ?_
  .rw[nq,eX,bJ]
   refine ahw (xU W.d2 (rfl)) ?_;erw[iW,aU];refine#[le_size (by decide),ahw ne_nil ?_];rw[cG,show (!([]).isEmpty)=ύ from rfl,eX,bJ];refine ahw (xU W.d1 (rfl)) ?_;erw[aM,aZ];refine ahw OP ?_;rw[cG];exact#[rfl,rfl]
  .rw[é Ú,fq,cP]
   subst X;rw[cA,bJ];have e:=NS (sc:=sc) (bk0:=bk0) (z1:=z1) (z2:=z2) (e5:=ϊ (.int dS.length)) (e6:=e6) (e7:=e7) (e8:=ϊ (.int m)) (e9:=ϊ (.int y)) (e10:=ϊ (nZ f g)) (e11:=e11) W;refine ahw e (ahw (rfl) (ahw adf rfl))
def Rl (env) (s):∃s',kW "Diary" pH env s=ok (.aj s.length) s'/\Kp s s'/\Di s' s.length (s.length+1) [] []/\s'.length=s.length+2:=#[_,P4,Kp.app ..,aaG s,by simp]
def Rm (env) (s):∃s' d c,kW "Desk" qQ env s=ok (.aj s.length) s'/\Kp s s'/\Ds s' s.length d c [] []/\s.length<=c:=by
 let(u,e,d,b,G,h):=Wi;exact#[_,d,b,e,Kp.app ..,G,h]
theorem Ds.kp (h:Ds s z d c ay bk) (x:Kp s s'):Ds s' z d c ay bk:=#[x.get h.hd,h.di.kp x]
def aeF (k a1 b1 z1 d1 c1 a2 b2 z2 d2 c2:Nat) (bk0:List Pg):Nat->Option D->ag->Prop
 |0,_,s=>s[1]?=ϊ (.tb "law")/\Pr s k a1 b1 z1 d1 c1 [] [] [] []/\Pr s k a2 b2 z2 d2 c2 [] [] [] []
 |1,_,s=>s[1]?=ϊ (.tb "law")/\Pr s k a2 b2 z2 d2 c2 [] [] [] []/\k≠b1/\∃fS,Di s a1 b1 fS bk0
 |_,e5,s=>∃fS dS,e5=ϊ (.int (dS).length)/\Fin s k a1 b1 a2 b2 fS bk0 dS bk0/\dS.length<=72/\(dS++[bk0]).head?=ϊ []
def aeG (h1:s[1]?=ϊ (.tb "law")) (p1:Pr s k a1 b1 z1 d1 c1 [] [] [] []) (p2:Pr s k a2 b2 z2 d2 c2 [] [] [] []) (bb:b1≠b2) (bc:b1≠c2) (cb:c1≠b2) (cc:c1≠c2) (hB:Bo bk0)
 (hQ:∀s' fS dS e6 e7,Fin s' k a1 b1 a2 b2 fS bk0 dS bk0->dS.length<=72->(dS++[bk0]).head?=ϊ []->Q (.nx (nE sc k bk0 a1 a2 z1 z2 (ϊ (.int dS.length)) e6 e7 e8 e9 e10 e11)) s') :
  Wp (fI (Bh (af (aa 3) (af (aa 4) ah))) (gT [(gN 6),(gN 7)]) Fp (nE sc k bk0 a1 a2 z1 z2 e5 e6 e7 e8 e9 e10 e11) s) Q:=by
 rw[jg];refine ahw (show Bh _ _ s=ok [.tup [.aj a1,.aj z1],.tup [.aj a2,.aj z2]] s from rfl) ?_;refine Wp.iZ (λi env s'=>∃e5 e6 e7,env=nE sc k bk0 a1 a2 z1 z2 e5 e6 e7 e8 e9 e10 e11/\aeF k a1 b1 z1 d1 c1 a2 b2 z2 d2 c2 bk0 i e5 s') _ #[e5,e6,e7,rfl,h1,p1,p2] (λi v env s' X V=>?_) (λenv s' V=>?_)
 .let(e5,e6,e7,rfl,W):=V
  match i,X,W with
  |0,X,W =>
   cases X;let(g,Z,Y):=W;refine#[_,rfl,?_];refine MN Z hB λs2 ay bI S _ _ y=>#[_,_,_,rfl,?_,?_,Z.kb,ay,S.di]
   .exact y.get g (λz=>by obtain⟨i,v,e,-⟩:=Z.st;exact fC g e (by intro z;cases z) z) (fC g Z.di.hb (by intro z;cases z)) (fC g Z.ds.di.hb (by intro z;cases z))
   .exact Y.e3 y S.st Z.di.hb Z.ds.di.hb (Ĥ bb) (Ĥ cb) (Ĥ bc) (Ĥ cc)
  |1,X,W =>
   cases X;let(g,Y,kb,fS,Z):=W;refine#[_,rfl,?_];refine MN Y hB λs2 ay bI R U T y=>#[_,_,_,rfl,fS,ay,rfl,#[?_,R.st,#[?_,?_,Z.ln,Z.bk],R.di,kb,Y.kb,bb],U,T]
   .exact y.get g (λz=>by obtain⟨i,v,e,-⟩:=Y.st;exact fC g e (by intro z;cases z) z) (fC g Y.di.hb (by intro z;cases z)) (fC g Y.ds.di.hb (by intro z;cases z))
   .exact y.get Z.ha (λz=>by obtain⟨i,v,e,-⟩:=Y.st;exact fC Z.ha e (by intro z;cases z) z) (fC Z.ha Y.di.hb (by intro z;cases z)) (fC Z.ha Y.ds.di.hb (by intro z;cases z))
   .exact y.get Z.hb (Ĥ kb) bb bc
  |i+2,X,_=>simp at X
 .let(e5,e6,e7,rfl,fS,dS,rfl,P,U,T):=V
  exact hQ _ _ _ _ _ P U T
end
def Zq (ns) (hn:ns.length<=63):∃s,cx.F5 [.cT ns] [.tb  ahB,.tb "law"]=ϊ (.ok (.bl ό),s):=by
 suffices h:Wp (cx.F5 _ _) λd _=>d=.bl ό by
  let(d,s,e,rfl):=h;exact#[s,e]
 refine c8.symm ▸ #[rfl,ahy λR Y=>?_];show Wp (aT _ _ [ϊ _,ϋ,ϋ,ϋ,ϋ,ϋ,ϋ,ϋ,ϋ,ϋ,ϋ,ϋ] _) _;rw[cZ];erw[wp_call,aL,aU,aM,cf];refine(aaA ⋯).mono λdd z y=>?_;let(rfl,O,N,rfl):=y;rw[eJ];have W:([Cell.tb  ahB,.tb "law"]++[N])[0]?=ϊ _:=rfl;have g1:([Cell.tb  ahB,.tb "law"]++[N])[1]?=ϊ _:=rfl;subst Y;generalize [Cell.tb _,.tb _]++[N]=s at O W g1;have M:∃Z X,cB (aC cx.wU (af (aa 1) (af (aC cx.fO (af (aa 1) (af (eC (.int 24)) ah))) ah))) [ϊ (.cT ns),ϊ (.aj 2),ϋ,ϋ,ϋ,ϋ,ϋ,ϋ,ϋ,ϋ,ϋ,ϋ] s=ok (Z.map Pg.d) X/\cX Z=ό/\Laid Z/\Sf X 2/\Ex 2 s X:=by
  have w:Wp (aC cx.wU (af (aa 1) (af (aC cx.fO (af (aa 1) (af (eC (.int 24)) ah))) ah)) [ϊ (.cT ns),ϊ (.aj 2),ϋ,ϋ,ϋ,ϋ,ϋ,ϋ,ϋ,ϋ,ϋ,ϋ] s) λd X=>∃Z,d=bD Z/\cX Z=ό/\Laid Z/\Sf X 2/\Ex 2 s X:=by
   erw[aL,aU,wp_call,aM,aZ,cf];refine(jC O (by decide) (by decide)).mono λv z U=>?_;let(n,rfl,x,n1,u,t):=U;refine(ac6 u x ⋯).mono λv r U=>?_;let(Z,rfl,hb,V,T,S):=U;exact#[Z,rfl,hb,V,T,t.trans S]
  let(d,X,e,Z,rfl,h):=w;exact#[Z,X,kN e,h]
 let(Z,r,M,hb,V,T,S):=M;have J:=Bk.len #[V,hb];have q:(0)≠2:=by decide
 have p:(1)≠2:=by decide
 have W:=S.get W q;have g1:=S.get g1 p;refine ahy λR Y=>?_;rw[cZ];refine ahw (ac8 ⋯ M) ?_;rw[eJ];subst Y;refine ahy λR Y=>?_;rw[cZ];have o:(zk Z).length<=24:=Ø (Ľ ..) J;refine(aaY ⋯).mono λv I U=>?_;let(rfl,kp):=U;rw[eJ];have H:=aeD V;show ik R _ (.nx [ϊ _,ϊ _,ϊ _,ϋ,ϋ,ϋ,ϋ,ϋ,ϋ,ϋ,ϋ,ϋ]) I;subst Y;have G:=kp.sf T;have W:=kp.get W;have g1:=kp.get g1;clear kp hb V J o O T;refine ahy λR Y=>?_;rw[cZ,iW,aL,oy,aL];let(m,l,k,j,l4):=Rl _ I;refine ahw l ?_;rw[aL];let(s5,i,F,g,l5):=Rl _ m;refine ahw i ?_;rw[aU];refine#[le_size (n:=2) (by decide),?_];rw[aL,oy,aL];let(f,c,b,E,L,D,l6):=Rm _ s5;refine ahw E ?_;rw[aL];let(C,a,c2,B,Q,G2,l7):=Rm _ f;refine ahw B ?_;rw[aU];refine#[le_size (n:=2) (by decide),?_];rw[aL,cf,aU];refine#[le_size (n:=3) (by decide),_,rfl,?_];subst Y;have lk:=G.lt;have lc1:=(Ç.mp D.di.hb).1;have P:=((k.trans F).trans L).trans Q;have A:=P.sf G;have p1:Pr C 2 _ _ _ c b _ _ _ _:=#[P.get W,A,j.kp ((F.trans L).trans Q),D.kp Q,by omega,by omega,by omega];have p2:Pr C 2 _ _ _ a c2 _ _ _ _:=#[P.get W,A,g.kp (L.trans Q),G2,by omega,by omega,by omega];refine ahy λR Y=>aeG (P.get g1) p1 p2 ⋯ ⋯ ⋯ ⋯ H λs8 fS dS E B hF V hh=>?_;subst Y;refine(adg hF H V hh).mono λfl s9 K=>?_;subst K;rw[kS]
end DI
namespace DI
open PySem L2 PySem.W
noncomputable def qX (K:Ň) (c:Str) (fs:List Str):Bool:=match nsIn K Ð c with
 |some (ϊ (.ref C))=>plainGet K C agq&&hasDictIn K C&&plainOver K C&&(match findIn K (.ref C) "__setattr__" with|some (ϊ (.builtin x))=>ώ (x="object.__setattr__") | _=>ύ)&&fs.all (λf=>match findIn K (.ref C) f with|some ϋ=>ό | _=>ύ)&&makesIn K C&&keepIn K (.ref C)
 |_=>ύ
section
variable {K:Ň} {c m q f:Str} {fs ps:List Str} {st:Stmt} {h:ū} {mg:Str->Option ã}
def Hu (e:qX K c fs=ό):∃C,nsIn K Ð c=ϊ (ϊ (.ref C))/\lC K C/\(∀f∈fs,pQ K C f)/\makesIn K C=ό/\keepIn K (.ref C)=ό:=by
 delta qX at e;split at e
 .rename_i C Y
  erw[Â,Þ] at e;obtain⟨⟨⟨⟨⟨⟨X,W⟩,V⟩,Z⟩,U⟩,T⟩,S⟩:=e;refine#[C,Y,#[X,W,V,?_],λf R=>?_,T,S]
  .split at Z
   .rename_i x Q
    rw[Q,á Z]
   .cases Z
  .have q:=U f R
   split at q
   .assumption
   .cases q
 .cases e
def Rn (e:qX K c fs=ό) (hf:f∈fs):ym K c f:=by
 let(C,Z,Y,X,_):=Hu e;exact#[C,Z,Y,X f hf]
def Dm (K:Ň) (c m q:Str) (st:Stmt):Prop:=∃(C f:þ) (Z:ã) (Y:Option þ) (sl:Array _) (kV X pm:ã) (an:Option þ) (cd W:ã),nsIn K Ð c=ϊ (ϊ (.ref C))/\findIn K (.ref C) m=ϊ (ϊ (.ref f))/\K.lookup f=ϊ #[Z,Y,.func (fnOf m q (lT st) (gU st) (cJ st) .none kV X pm an cd W),sl]/\codeIn K cd q=ό/\keepIn K (.ref f)=ό/\isFn K (.ref f)=ό
def aeH {C f} {oc} {od} {sl} {kV dc pm} {an} {cd ct} (a:nsIn K Ð c=ϊ (ϊ (.ref C))) (b:findIn K (.ref C) m=ϊ (ϊ (.ref f))) (l:K.lookup f=ϊ #[oc,od,.func (fnOf m q (lT st) (gU st) (cJ st) .none kV dc pm an cd ct),sl]) (d:codeIn K cd q=ό) (k:keepIn K (.ref f)=ό) (i:isFn K (.ref f)=ό):Dm K c m q st:=#[C,f,oc,od,sl,kV,dc,pm,an,cd,ct,a,b,l,d,k,i]
def uY (e:qX K c fs=ό) (D:Dm K c m q st) (hb:∀kV doc pm an bo ct us,us.length=ps.length->bindArgs (fnOf m q (lT st) (gU st) (cJ st) .none kV doc pm an bo ct) #[us,[]]=pure (ps.zip us)):GM K c m q st ps:=by
 let(C,f,X,W,sl,kV,V,pm,an,cd,ct,a,b,l,d,k,i):=D;let(U,Z,Y,_):=Hu e;rw[a] at Z;cases Z;have F:=AE l d k;exact#[C,f,_,a,Y,#[b,i,k],#[F,F.binds hb]]
def Ro (X:K.In h) (G:h.Ns Ð mg) (e:qX K c fs=ό) (D:Dm K c "__init__" q st) (hb:∀kV doc pm an bo ct us,us.length=ps.length->bindArgs (fnOf "__init__" q (lT st) (gU st) (cJ st) .none kV doc pm an bo ct) #[us,[]]=pure (ps.zip us)):GK K mg c q st ps:=by
 let(C,f,V,U,sl,kV,T,pm,an,cd,ct,a,b,l,d,k,i):=D;let(S,Z,_,_,Y,W):=Hu e;rw[a] at Z;cases Z;have F:=AE l d k;exact#[C,f,_,a,mg_of X G a,#[Y,b,i,W],#[F,F.binds hb]]
end
def EW (K:Ň) (x y:Str):Bool:=AR K x&&AR K y&&match tabIn K x,tabIn K y with
 |some (_,P),ϊ (_,Z)=>ώ (P≠Z)
 |_,_=>ύ
def Zr (h:EW K x y=ό):∃c P c' P',(tabIn K x=ϊ (c,P)/\codeHdIn K c P=ό/\K.lookup P=ϋ)/\(tabIn K y=ϊ (c',P')/\codeHdIn K c' P'=ό/\K.lookup P'=ϋ)/\P≠P':=by
 delta EW at h;rw[Â,Â] at h;obtain⟨⟨X,W⟩,Z⟩:=h;let(c,P,a1,a2,V):=Om X;let(c',P',Y,U,T):=Om W;rw[a1,Y] at Z;exact#[c,P,c',P',#[a1,a2,V],#[Y,U,T],á Z]
def A7 (K:Ň) (T T':þ):Sp:=λY H Q _=>∃(a:þ) (Z:List Int),Y=[.ref a]/\bV K H a (Z.map V.int)/\Z.length<=63/\H T=ϊ (.cK #v[])/\H T'=ϊ (.cK #v[])/\∀X,Q (.bl ό) X
def aa3 {K} {mg} {base} {k} {f c T c' T'} {fd} {x y z} {g} (F:dg P w K mg base fB k f fd [x] (mO K g)) (ht:tabIn K y=ϊ (c,T)) (sE:tabIn K z=ϊ (c',T')) (gj:T≠T')
  (h:∀ns,ns.length<=63->∃s,g [.cT ns] [.tb y,.tb z]=ϊ (.ok (.bl ό),s)):dg P w K mg base fB k f fd [x] (A7 K T T'):=F.imp λN H Q E ⟨a,ns,e,hS,W,Y,X,q⟩=>by
 subst e;let(s,V):=h ns W;have U:∀b,(#[[T,T'],[.tb y,.tb z],H]:Wd).Z b->b=T\/b=T':=λb ⟨k,c,e1,_,_⟩=>by
  match k,e1 with
  |0,e1=>exact .inl (ahA e1).symm
  |1,e1=>exact .inr (ahA e1).symm
 have S:aW K #[[T,T'],[.tb y,.tb z],H]:=by
  refine#[rfl,by simp[gj],λk a e=>?_,λk a c' e1 e2=>?_]
  .match k,e with
   |0,e=>cases e;show H T≠ϋ;rw[Y];intro z;cases z
   |1,e=>cases e;show H T'≠ϋ;rw[X];intro z;cases z
  .match k,e1,e2 with
   |0,e1,e2=>cases e1;cases e2;exact#[c,_,ht,Y,trivial,λpos R z=>by cases z]
   |1,e1,e2=>cases e1;cases e2;exact#[_,_,sE,X,trivial,λpos R z=>by cases z]
 refine#[_,[.cT ns],rfl,S,aA.one #[a,rfl,?_],?_]
 .rcases hS with hS|hS
  .refine .inl #[λz=>?_,hS]
   rcases U a z with e|e
   .rw[e] at hS;rcases hS with hS | ⟨_,hS⟩<;>(rw[Y] at hS;cases hS)
   .rw[e] at hS;rcases hS with hS | ⟨_,hS⟩<;>(rw[X] at hS;cases hS)
  .exact .inr hS
 .rw[V]
  intro M _ _ _ v O;have e:=O;subst e;exact q _
end DI
end
namespace DI.cx
open PySem L2 DI
noncomputable def aeI:List Str:=["NoMarks","NoSheet","NoPage","NoBook","NoMould","NoDay","NoSort","NoNumber","NoSheets","NoRun","NoLaying","NoHeap","NoCount","Clash","NoDeed","NoText","NoRow","TooMany","Lacking"]
def Df (K:Ň) (x:Str) (st:Stmt):Prop:=∃(f:þ) (Z:ã) (Y:Option þ) (sl:Array (Option ã)) (kV X pm:ã) (an:Option þ) (cd W:ã),í K Ð x=ϊ (ϊ (.ref f))/\K.lookup f=ϊ ⟨Z,Y,.func (Ŕ x x (lT st) (gU st) (cJ st) .none kV X pm an cd W),sl⟩/\adM K cd x=ό/\ľ K (.ref f)=ό
def aeJ {K:Ň} {x:Str} {st:Stmt} {f:þ} {oc:ã} {od:Option þ} {sl:Array (Option ã)} {kV dc pm:ã} {an:Option þ} {cd ct:ã} (a:í K Ð x=ϊ (ϊ (.ref f))) (l:K.lookup f=ϊ ⟨oc,od,.func (Ŕ x x (lT st) (gU st) (cJ st) .none kV dc pm an cd ct),sl⟩) (c:adM K cd x=ό) (k:ľ K (.ref f)=ό):Df K x st:=⟨f,oc,od,sl,kV,dc,pm,an,cd,ct,a,l,c,k⟩
def rR {K:Ň} {x:Str} {i:Int} {t:Tok} (e:í K Ð x=ϊ (ϊ (.int i t))):∃t,í K Ð x=ϊ (ϊ (.int i t)):=⟨t,e⟩
def Rp {K:Ň} {x y:Str} {t:Tok} (e:í K Ð x=ϊ (ϊ (.str y t))):∃t,í K Ð x=ϊ (ϊ (.str y t)):=⟨t,e⟩
def bA {K:Ň} {h:ū} {mg:Str->Option ã} {x:Str} {st:Stmt} {ps:List Str} (X:K.In h) (G:h.Ns Ð mg) (D:Df K x st) (hb:∀(kV doc pm:ã) (an:Option þ) (bo ct:ã) (us:List ã),us.length=ps.length->bindArgs (Ŕ x x (lT st) (gU st) (cJ st) .none kV doc pm an bo ct) ⟨us,[]⟩=pure (ps.zip us)):∃f fd,Gd K mg x st ps f fd:=by
 obtain⟨f,Z,Y,sl,kV,W,pm,an,cd,ct,a,l,c,k⟩:=D;have F:=AE (st:=st) l c k;exact⟨f,_,ı X G a,F,F.binds hb⟩
def cq {P:List ã->Prop} (h:∀a0:ã,P [a0]) (us:List ã) (hl:us.length=1):P us:=by
 cases us with
 |nil=>simp at hl
 |cons a0 Z =>
 cases Z with
 |cons _ _=>simp at hl
 |nil =>
 exact h a0
def ic {P:List ã->Prop} (h:∀a0 a1:ã,P [a0,a1]) (us:List ã) (hl:us.length=2):P us:=by
 cases us with
 |nil=>simp at hl
 |cons a0 Z =>
 cases Z with
 |nil=>simp at hl
 |cons a1 Y =>
 cases Y with
 |cons _ _=>simp at hl
 |nil =>
 exact h a0 a1
def oK {P:List ã->Prop} (h:∀a0 a1 a2:ã,P [a0,a1,a2]) (us:List ã) (hl:us.length=3):P us:=by
 cases us with
 |nil=>simp at hl
 |cons a0 Z =>
 cases Z with
 |nil=>simp at hl
 |cons a1 Y =>
 cases Y with
 |nil=>simp at hl
 |cons a2 X =>
 cases X with
 |cons _ _=>simp at hl
 |nil =>
 exact h a0 a1 a2
def Rq {P:List ã->Prop} (h:∀a0 a1 a2 a3:ã,P [a0,a1,a2,a3]) (us:List ã) (hl:us.length=4):P us:=by
 cases us with
 |nil=>simp at hl
 |cons a0 Y =>
 cases Y with
 |nil=>simp at hl
 |cons a1 X =>
 cases X with
 |nil=>simp at hl
 |cons a2 W =>
 cases W with
 |nil=>simp at hl
 |cons a3 Z =>
 cases Z with
 |cons _ _=>simp at hl
 |nil =>
 exact h a0 a1 a2 a3
def all_mk {P:ø} {w:Ĭ} {K:Ň} {h:ū} {mg:Str->Option ã} {fa:þ} (X:K.In h) (G:h.Ns Ð mg) (hfa:mg "law"=ϊ (.ref fa))
  (d0:Df K "_law_cell_at" (top 84))
  (d1:Df K "_law_state" (top 85))
  (d2:Df K "_law_take" (top 86))
  (d3:Df K "_law_mixed_up" (top 100))
  (d4:Df K  ahQ (top 97))
  (d5:Df K  ahR (top 98))
  (d6:Df K "_law_line" (top 99))
  (d7:Df K "_law_classes" (top 95))
  (d8:Df K "is_rising" (top 30))
  (d9:Df K "is_number" (top 25))
  (Jo:Df K "is_below" (top 26))
  (Jp:Df K "is_mark" (top 27))
  (Jq:Df K "are_marks" (top 37))
  (Jr:Df K "are_apart" (top 39))
  (Js:Df K "is_sheet" (top 38))
  (Jt:Df K "is_mould" (top 28))
  (Ju:Df K "is_day" (top 29))
  (Jv:Df K "is_page" (top 40))
  (Jw:Df K "need_page" (top 49))
  (Jx:Df K "are_laid" (top 41))
  (Jy:Df K "days_seen" (top 46))
  (Jz:Df K "days_mended" (top 47))
  (JA:Df K "is_any_behind" (top 45))
  (JB:Df K "clashes" (top 44))
  (JC:Df K "faults_of" (top 43))
  (JD:Df K "is_book" (top 42))
  (JE:Df K "are_figures" (top 73))
  (JF:Df K "is_sheet_word" (top 72))
  (JG:Df K "is_number_word" (top 71))
  (JH:Df K "are_page_words" (top 70))
  (JI:Df K "is_row" (top 80))
  (kJ:Df K "words_of" (top 79))
  (JJ:Df K "marks_of" (top 76))
  (JK:Df K "sheet_of" (top 75))
  (JL:Df K "page_of" (top 74))
  (JM:Df K "marks_text" (top 67))
  (JN:Df K "sheet_text" (top 68))
  (JO:Df K "places_text" (top 82))
  (JP:Df K "need_book" (top 50))
  (JQ:Df K "page_text" (top 69))
  (JR:Df K "book_text" (top 66))
  (JS:Df K "need_mould" (top 31))
  (JT:Df K "need_day" (top 32))
  (JU:Df K "days_present" (top 58))
  (JV:Df K "days_absent" (top 59))
  (JW:Df K "marks_on" (top 57))
  (JX:Df K "sure_sheets" (top 56))
  (JY:Df K "surely" (top 54))
  (JZ:Df K "need_sheet" (top 48))
  (J0:Df K "stretches" (top 61))
  (J1:Df K "agree" (top 60))
  (J2:Df K "places_of" (top 55))
  (J3:Df K "answer" (top 81))
  (J4:Df K "_law_met" (top 96))
  (J5:Df K "_law_done" (top 101))
  (Cw:Df K  ahB (top 102))
  (J6:Df K "_law_sheet" (top 87))
  (J8:Df K "_law_days" (top 92))
  (J9:Df K "_law_surely" (top 93))
  (Ka:Df K "_law_where" (top 94))
  (Kb:Df K "_law_page" (top 88))
  (Kc:Df K  ahS (top 89))
  (Kd:Df K "_law_is_book" (top 90))
  (Ke:Df K "_law_book" (top 91))
  (DA:∃t,í K Ð "NOTHING"=ϊ (ϊ (.str "-" t)))
  (DB:∃t,í K Ð "FIGURES"=ϊ (ϊ (.str "0123456789" t)))
  (oo:qX K "Diary" ["books"]=ό)
  (wX:qX K "Desk" ["diary"]=ό)
  (Kf:Dm K "Diary" "keep" "Diary.keep" (fL (top 52) 5))
  (Kg:Dm K "Diary" "book_now" "Diary.book_now" (fL (top 52) 4))
  (Kh:Dm K "Diary" "tell" "Diary.tell" (fL (top 52) 1))
  (ze:Dm K "Diary" "undo" "Diary.undo" (fL (top 52) 3))
  (zf:Dm K "Diary" "strike" "Diary.strike" (fL (top 52) 2))
  (Ki:Dm K "Desk" "say" "Desk.say" (fL (top 78) 1))
  (Kj:Dm K "Diary" "__init__" "Diary.__init__" (fL (top 52) 0))
  (Kk:Dm K "Desk" "__init__" "Desk.__init__" (fL (top 78) 0))
  (dl:Df K "law" (top 103))
  (EX:∃t,í K Ð "MARKS"=ϊ (ϊ (.int (8) t)))
  (Eh:∃t,í K Ð "MOULDS"=ϊ (ϊ (.int (4) t)))
  (FA:∃t,í K Ð "DAYS"=ϊ (ϊ (.int (31) t)))
  (EY:∃t,í K Ð "PAGES"=ϊ (ϊ (.int (24) t)))
  (Gx:∃t,í K Ð "HAS"=ϊ (ϊ (.int (0) t)))
  (EZ:∃t,í K Ð "LACKS"=ϊ (ϊ (.int (1) t)))
  (DC:∃t,í K Ð "LONGEST"=ϊ (ϊ (.int (30) t)))
  (CS:í K Ð "ValueError"=ϊ ϋ)
  (Gy:í K Ð "all"=ϊ ϋ)
  (Gz:í K Ð "any"=ϊ ϋ)
  (FC:í K Ð "bool"=ϊ ϋ)
  (GA:í K Ð "int"=ϊ ϋ)
  (CU:í K Ð "isinstance"=ϊ ϋ)
  (GB:í K Ð "len"=ϊ ϋ)
  (FD:í K Ð "list"=ϊ ϋ)
  (E1:í K Ð "range"=ϊ ϋ)
  (Dg:í K Ð "reversed"=ϊ ϋ)
  (GC:í K Ð "set"=ϊ ϋ)
  (Ei:í K Ð "sorted"=ϊ ϋ)
  (GD:í K Ð "str"=ϊ ϋ)
  (E2:í K Ð "tuple"=ϊ ϋ)
  (GF:í K Ð "zip"=ϊ ϋ)
  (xf:ni K b9 aeI "MouldError"=ό) (tf:EW K  ahB "law"=ό)
  : ∃(c T c' T':þ) (fd:FuncData),(Ű K  ahB=ϊ (c,T)/\K.lookup T=ϋ)/\(Ű K "law"=ϊ (c',T')/\K.lookup T'=ϋ)/\(∀(s:Ý) (v:ã),BindsTo s fd ⟨[v],[]⟩ [(ahG,v)])/\∀base:ū,K.In base->base.Ns Ð mg->base.BuiltinsAt mg T->base.BuiltinsAt mg T'->dg P w K mg base fB 17 fa fd [ahG] (A7 K T T'):=by
 have g0:=bA (ps:=[ahG,"_law_k"]) X G d0 λ_ _ _ _ _ _=>ic λ_ _=>rfl;have g1:=bA (ps:=[ahG,"_law_k"]) X G d1 λ_ _ _ _ _ _=>ic λ_ _=>rfl;have g2:=bA (ps:=[ahC,ahL]) X G d2 λ_ _ _ _ _ _=>ic λ_ _=>rfl;have g3:=bA (ps:=[ahC,ahD]) X G d3 λ_ _ _ _ _ _=>ic λ_ _=>rfl;have g4:=bA (ps:=["_law_marks"]) X G d4 λ_ _ _ _ _ _=>cq λ_=>rfl;have g5:=bA (ps:=[ahM]) X G d5 λ_ _ _ _ _ _=>cq λ_=>rfl;have g6:=bA (ps:=[ahH]) X G d6 λ_ _ _ _ _ _=>cq λ_=>rfl;have g7:=bA (ps:=["_law_e"]) X G d7 λ_ _ _ _ _ _=>cq λ_=>rfl;have g8:=bA (ps:=["things"]) X G d8 λ_ _ _ _ _ _=>cq λ_=>rfl;have g9:=bA (ps:=["thing"]) X G d9 λ_ _ _ _ _ _=>cq λ_=>rfl;have Z:=bA (ps:=["thing","many"]) X G Jo λ_ _ _ _ _ _=>ic λ_ _=>rfl;have Y:=bA (ps:=["thing"]) X G Jp λ_ _ _ _ _ _=>cq λ_=>rfl;have W:=bA (ps:=["thing"]) X G Jq λ_ _ _ _ _ _=>cq λ_=>rfl;have V:=bA (ps:=["marks","others"]) X G Jr λ_ _ _ _ _ _=>ic λ_ _=>rfl;have U:=bA (ps:=["thing"]) X G Js λ_ _ _ _ _ _=>cq λ_=>rfl;have S:=bA (ps:=["thing"]) X G Jt λ_ _ _ _ _ _=>cq λ_=>rfl;have R:=bA (ps:=["thing"]) X G Ju λ_ _ _ _ _ _=>cq λ_=>rfl;have Q:=bA (ps:=["thing"]) X G Jv λ_ _ _ _ _ _=>cq λ_=>rfl;have O:=bA (ps:=["thing"]) X G Jw λ_ _ _ _ _ _=>cq λ_=>rfl;have N:=bA (ps:=["thing"]) X G Jx λ_ _ _ _ _ _=>cq λ_=>rfl;have M:=bA (ps:=["pages","mould","mark","half"]) X G Jy λ_ _ _ _ _ _=>Rq λ_ _ _ _=>rfl;have L:=bA (ps:=["pages","mould","mark"]) X G Jz λ_ _ _ _ _ _=>oK λ_ _ _=>rfl;have J:=bA (ps:=["days","day","later"]) X G JA λ_ _ _ _ _ _=>oK λ_ _ _=>rfl;have I:=bA (ps:=["pages","mould","mark"]) X G JB λ_ _ _ _ _ _=>oK λ_ _ _=>rfl;have H:=bA (ps:=["pages"]) X G JC λ_ _ _ _ _ _=>cq λ_=>rfl;have E:=bA (ps:=["thing"]) X G JD λ_ _ _ _ _ _=>cq λ_=>rfl;have D:=bA (ps:=["word"]) X G JE λ_ _ _ _ _ _=>cq λ_=>rfl;have C:=bA (ps:=["word"]) X G JF λ_ _ _ _ _ _=>cq λ_=>rfl;have B:=bA (ps:=["word"]) X G JG λ_ _ _ _ _ _=>cq λ_=>rfl;have A:=bA (ps:=["words"]) X G JH λ_ _ _ _ _ _=>cq λ_=>rfl;have z:=bA (ps:=["words"]) X G JI λ_ _ _ _ _ _=>cq λ_=>rfl;have y:=bA (ps:=["row"]) X G kJ λ_ _ _ _ _ _=>cq λ_=>rfl;have x:=bA (ps:=["word"]) X G JJ λ_ _ _ _ _ _=>cq λ_=>rfl;have u:=bA (ps:=["word"]) X G JK λ_ _ _ _ _ _=>cq λ_=>rfl;have r:=bA (ps:=["words"]) X G JL λ_ _ _ _ _ _=>cq λ_=>rfl;have q:=bA (ps:=["marks"]) X G JM λ_ _ _ _ _ _=>cq λ_=>rfl;have p:=bA (ps:=["sheet"]) X G JN λ_ _ _ _ _ _=>cq λ_=>rfl;have o:=bA (ps:=["places"]) X G JO λ_ _ _ _ _ _=>cq λ_=>rfl;have n:=bA (ps:=["thing"]) X G JP λ_ _ _ _ _ _=>cq λ_=>rfl;have m:=bA (ps:=["page"]) X G JQ λ_ _ _ _ _ _=>cq λ_=>rfl;have j:=bA (ps:=["book"]) X G JR λ_ _ _ _ _ _=>cq λ_=>rfl;have i:=bA (ps:=["thing"]) X G JS λ_ _ _ _ _ _=>cq λ_=>rfl;have g:=bA (ps:=["thing"]) X G JT λ_ _ _ _ _ _=>cq λ_=>rfl;have d:=bA (ps:=["book","mould","mark"]) X G JU λ_ _ _ _ _ _=>oK λ_ _ _=>rfl;have b:=bA (ps:=["book","mould","mark"]) X G JV λ_ _ _ _ _ _=>oK λ_ _ _=>rfl;have g45:=bA (ps:=["days_by_mark","day"]) X G JW λ_ _ _ _ _ _=>ic λ_ _=>rfl;have g46:=bA (ps:=["book","mould"]) X G JX λ_ _ _ _ _ _=>ic λ_ _=>rfl;have g47:=bA (ps:=["book","mould","day"]) X G JY λ_ _ _ _ _ _=>oK λ_ _ _=>rfl;have g48:=bA (ps:=["thing"]) X G JZ λ_ _ _ _ _ _=>cq λ_=>rfl;have g49:=bA (ps:=["holds"]) X G J0 λ_ _ _ _ _ _=>cq λ_=>rfl;have g50:=bA (ps:=["sheet","sure"]) X G J1 λ_ _ _ _ _ _=>ic λ_ _=>rfl;have g51:=bA (ps:=["book","sheet"]) X G J2 λ_ _ _ _ _ _=>ic λ_ _=>rfl;have g52:=bA (ps:=["book","words"]) X G J3 λ_ _ _ _ _ _=>ic λ_ _=>rfl;have g53:=bA (ps:=["_law_call"]) X G J4 λ_ _ _ _ _ _=>cq λ_=>rfl;have g54:=bA (ps:=["_law_call"]) X G J5 λ_ _ _ _ _ _=>cq λ_=>rfl;have g55:=bA (ps:=[ahC,ahN,ahJ,ahK]) X G Cw λ_ _ _ _ _ _=>Rq λ_ _ _ _=>rfl;have g56:=bA (ps:=[ahC]) X G J6 λ_ _ _ _ _ _=>cq λ_=>rfl;have g57:=bA (ps:=[ahD,ahF,ahE]) X G J8 λ_ _ _ _ _ _=>oK λ_ _ _=>rfl;have g58:=bA (ps:=[ahD,ahF,ahI]) X G J9 λ_ _ _ _ _ _=>oK λ_ _ _=>rfl
 have g59:=bA (ps:=[ahD,ahM]) X G Ka λ_ _ _ _ _ _=>ic λ_ _=>rfl;have g60:=bA (ps:=[ahC,ahO]) X G Kb λ_ _ _ _ _ _=>ic λ_ _=>rfl;have g61:=bA (ps:=[ahD,ahF,ahE]) X G Kc λ_ _ _ _ _ _=>oK λ_ _ _=>rfl;have g62:=bA (ps:=[ahD]) X G Kd λ_ _ _ _ _ _=>cq λ_=>rfl;have g63:=bA (ps:=[ahC,ahL]) X G Ke λ_ _ _ _ _ _=>ic λ_ _=>rfl;have qW:∃t,mg "MARKS"=ϊ (.int (8) t):=by obtain⟨t,e⟩:=EX;exact⟨t,ı X G e⟩
 have wA:∃t,mg "MOULDS"=ϊ (.int (4) t):=by obtain⟨t,e⟩:=Eh;exact⟨t,ı X G e⟩
 have ra:∃t,mg "DAYS"=ϊ (.int (31) t):=by obtain⟨t,e⟩:=FA;exact⟨t,ı X G e⟩
 have DY:∃t,mg "PAGES"=ϊ (.int (24) t):=by obtain⟨t,e⟩:=EY;exact⟨t,ı X G e⟩
 have uC:∃t,mg "HAS"=ϊ (.int (0) t):=by obtain⟨t,e⟩:=Gx;exact⟨t,ı X G e⟩
 have tY:∃t,mg "LACKS"=ϊ (.int (1) t):=by obtain⟨t,e⟩:=EZ;exact⟨t,ı X G e⟩
 have C9:∃t,mg "LONGEST"=ϊ (.int (30) t):=by obtain⟨t,e⟩:=DC;exact⟨t,ı X G e⟩
 have US:=ā X G CS;have aeK:=ā X G Gy;have aeL:=ā X G Gz;have adh:=ā X G FC;have aeM:=ā X G GA;have UT:=ā X G CU;have aeN:=ā X G GB;have adi:=ā X G FD;have aa4:=ā X G E1;have Wm:=ā X G Dg;have aeO:=ā X G GC;have Zs:=ā X G Ei;have aeP:=ā X G GD;have aa5:=ā X G E2;have aeQ:=ā X G GF;have tI:∃t,mg "NOTHING"=ϊ (.str "-" t):=by obtain⟨t,e⟩:=DA;exact⟨t,ı X G e⟩
 have Dc:∃t,mg "FIGURES"=ϊ (.str "0123456789" t):=by obtain⟨t,e⟩:=DB;exact⟨t,ı X G e⟩
 have m0:=uY (ps:=["self","pages"]) oo Kf λ_ _ _ _ _ _=>ic λ_ _=>rfl;have m1:=uY (ps:=["self"]) oo Kg λ_ _ _ _ _ _=>cq λ_=>rfl;have m2:=uY (ps:=["self","page"]) oo Kh λ_ _ _ _ _ _=>ic λ_ _=>rfl;have m3:=uY (ps:=["self"]) oo ze λ_ _ _ _ _ _=>cq λ_=>rfl;have m4:=uY (ps:=["self","page"]) oo zf λ_ _ _ _ _ _=>ic λ_ _=>rfl;have m5:=uY (ps:=["self","row"]) wX Ki λ_ _ _ _ _ _=>ic λ_ _=>rfl;have m6:=Ro (ps:=["self"]) X G oo Kj λ_ _ _ _ _ _=>cq λ_=>rfl;have m7:=Ro (ps:=["self"]) X G wX Kk λ_ _ _ _ _ _=>cq λ_=>rfl;obtain⟨f,oc,od,sl,kV,dc,pm,an,cd,ct,a,l,c,k⟩:=dl;have e:=hfa.symm.trans (ı X G a);cases e;have F:=AE (st:=(top 103)) l c k;have GL:Gd K mg "law" (top 103) [ahG] _ _:=⟨ı X G a,F,F.binds λ_ _ _ _ _ _=>cq λ_=>rfl⟩;have lx0:IY K mg  ahB:=by
  obtain⟨f',_,_,_,_,_,_,_,_,_,a',_⟩:=Cw;exact⟨f',a',ı X G a'⟩
 obtain⟨c1,T1,c0,T0,⟨zh,Je,hT1⟩,⟨ht,hC,hT⟩,gj⟩:=Zr tf;exact⟨c1,T1,c0,T0,_,⟨zh,hT1⟩,⟨ht,hT⟩,λs v=>.of_eq rfl,λbase _ _ Jf hB=>aa3 (acB ⟨US,aeK,aeL,adh,aeM,UT,aeN,adi,aa4,Wm,aeO,Zs,aeP,aa5,aeQ,gY X G xf (by decide +kernel),gY X G xf (by decide +kernel),gY X G xf (by decide +kernel),gY X G xf (by decide +kernel),gY X G xf (by decide +kernel),gY X G xf (by decide +kernel),gY X G xf (by decide +kernel),gY X G xf (by decide +kernel),gY X G xf (by decide +kernel),gY X G xf (by decide +kernel),gY X G xf (by decide +kernel),gY X G xf (by decide +kernel),gY X G xf (by decide +kernel),gY X G xf (by decide +kernel),gY X G xf (by decide +kernel),gY X G xf (by decide +kernel),gY X G xf (by decide +kernel),gY X G xf (by decide +kernel),gY X G xf (by decide +kernel),aeg xf,lx0,qi X G xf (by decide +kernel),qi X G xf (by decide +kernel),qi X G xf (by decide +kernel),qi X G xf (by decide +kernel),qi X G xf (by decide +kernel),qi X G xf (by decide +kernel),qi X G xf (by decide +kernel),qi X G xf (by decide +kernel),afL X G xf,qW,wA,ra,DY,uC,tY,C9,tI,Dc,Rn oo (by decide),Rn wX (by decide),m0,m1,m2,m3,m4,m5,m6,m7,g0,g1,g2,g3,g4,g5,g6,g7,g8,g9,Z,Y,W,V,U,S,R,Q,O,N,M,L,J,I,H,E,D,C,B,A,z,y,x,u,r,q,p,o,n,m,j,i,g,d,b,g45,g46,g47,g48,g49,g50,g51,g52,g53,g54,g55,g56,g57,g58,g59,g60,g61,g62,g63⟩ ht hC hB zh Je Jf GL a) zh ht gj Zq⟩
def walk {l:PySem.W.OpenLaw} {q:ø} {loose:List Str} {XP:(Str->Option ã)->ū->Prop} {YP:Ĭ->ū->Prop} {d:DefRec} {K:Params->Ň} (hn:l.most=ϊ 63) (yJ:d.params.defaults=[]) {dy dz:DefRec} (hd:(PyProof.Rows.recsOf q).find? (λe=>e.name==(ahB:Str))=ϊ dy) (fy:(PyProof.Rows.recsOf q).find? (λe=>e.name==("law":Str))=ϊ dz)
  (hY:∀(w:Ĭ) (h:ū),YP w h->(K w.params).In h)
  (F:∀(w:Ĭ) (mg:Str->Option ã) (fa:þ) (h:ū),(K w.params).In h->h.Ns Ð mg->mg d.name=ϊ (.ref fa) ->
   ∃(c T c' T':þ) (fd:FuncData),(Ű (K w.params)  ahB=ϊ (c,T)/\(K w.params).lookup T=ϋ)/\(Ű (K w.params) "law"=ϊ (c',T')/\(K w.params).lookup T'=ϋ)/\(∀(s:Ý) (u:ã),BindsTo s fd ⟨[u],[]⟩ [(ahG,u)])/\∀base:ū,(K w.params).In base->base.Ns Ð mg->base.BuiltinsAt mg T->base.BuiltinsAt mg T'->dg l.prog w (K w.params) mg base fB 17 fa fd [ahG] (A7 (K w.params) T T')) :
  PySem.W.WalkO q loose XP YP l.row.toRowW d [] (λf vs=>PySem.call f vs) :=
 L2.acu (n:=63) (k:=17) (x:= ahG) (CX:=λ_=>fB) (sp:=λw=>A7 (K w.params))  ahB "law" hn (by decide) yJ ⟨rfl,by decide,by decide,rfl⟩ hY hd fy F (λ_ _ _ _ a Z Y X V U=>⟨a,Z,rfl,U,Y,X,V,λ_=>rfl⟩) λ_ _ _ _ _ z=>z
end DI.cx
open PySem PySem.W PyProof.Rows
namespace PySem.W.Fast
def te12673114224901855531:=trivial
def te1207987084127340672:=trivial
def te10078028638817536869:=trivial
def te8403559534865787773:=trivial
def te15500001179271910561:=trivial
def te4678103353419205127:=trivial
def te8593344485492926597:=trivial
def te16206850233861740884:=trivial
def te13052408679150730464:=trivial
end PySem.W.Fast
set_option maxRecDepth 100000 in
set_option maxHeartbeats 0 in
theorem PySem.Challenge.cw_twinmoulds_k48_whole_pages_in_any_order_holds : PySem.Challenge.rw_twinmoulds_k48_whole_pages_in_any_order.Holds := by
 w_on;o_law;k_head;(case hw=>w_witness2)
 k_fill
 refine DI.cx.walk (l:=PySem.Challenge.rw_twinmoulds_k48_whole_pages_in_any_order) rfl rfl rfl rfl (λw h Y=>PySem.W.km_in_of Y) ?F
 case F =>
  intro w V U h Z G X;refine' DI.cx.all_mk Z G X ?d0 ?d1 ?d2 ?d3 ?d4 ?d5 ?d6 ?d7 ?d8 ?d9 ?Jo ?Jp ?Jq ?Jr ?Js ?Jt ?Ju ?Jv ?Jw ?Jx ?Jy ?Jz ?JA ?JB ?JC ?JD ?JE ?JF ?JG ?JH ?JI ?kJ ?JJ ?JK ?JL ?JM ?JN ?JO ?JP ?JQ ?JR ?JS ?JT ?JU ?JV ?JW ?JX ?JY ?JZ ?J0 ?J1 ?J2 ?J3 ?J4 ?J5 ?Cw ?J6 ?J8 ?J9 ?Ka ?Kb ?Kc ?Kd ?Ke ?DA ?DB ?oo ?wX ?Kf ?Kg ?Kh ?ze ?zf ?Ki ?Kj ?Kk ?dl ?EX ?Eh ?FA ?EY ?Gx ?EZ ?DC ?CS ?Gy ?Gz ?FC ?GA ?CU ?GB ?FD ?E1 ?Dg ?GC ?Ei ?GD ?E2 ?GF ?xf ?tf
  (case d0|d1|d2|d3|d4|d5|d6|d7|d8|d9|Jo|Jp|Jq|Jr|Js|Jt|Ju|Jv|Jw|Jx|Jy|Jz|JA|JB|JC|JD|JE|JF|JG|JH|JI|kJ|JJ|JK|JL|JM|JN|JO|JP|JQ|JR|JS|JT|JU|JV|JW|JX|JY|JZ|J0|J1|J2|J3|J4|J5|Cw|J6|J8|J9|Ka|Kb|Kc|Kd|Ke|dl=>refine' DI.cx.aeJ ?a ?l ?c ?k;(case a=>k_is);(case l=>k_is);(case c=>k_is);(case k=>k_is))
  (case EX=>refine' DI.cx.rR ?e;(case e=>k_is))
  (case Eh=>refine' DI.cx.rR ?e;(case e=>k_is))
  (case FA=>refine' DI.cx.rR ?e;(case e=>k_is))
  (case EY=>refine' DI.cx.rR ?e;(case e=>k_is))
  (case Gx=>refine' DI.cx.rR ?e;(case e=>k_is))
  (case EZ=>refine' DI.cx.rR ?e;(case e=>k_is))
  (case DC=>refine' DI.cx.rR ?e;(case e=>k_is))
  (case CS|Gy|Gz|FC|GA|CU|GB|FD|E1|Dg|GC|Ei|GD|E2|GF=>k_is)
  (case DA=>refine' DI.cx.Rp ?e;(case e=>k_is))
  (case DB=>refine' DI.cx.Rp ?e;(case e=>k_is))
  (case oo=>kernel_rfl)
  (case wX=>kernel_rfl)
  (case Kf|Kg|Kh|ze|zf|Ki|Kj|Kk=>refine' DI.aeH ?a ?b ?l ?c ?k ?f;(case a=>k_is);(case b=>k_is);(case l=>k_is);(case c=>k_is);(case k=>k_is);(case f=>k_is))
  (case xf=>kernel_rfl)
  (case tf=>kernel_rfl)
