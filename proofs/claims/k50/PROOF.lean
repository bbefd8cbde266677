import PyProof.Rows.All
import Wide.All
import OpenK.AllK
import Wide.FinOn
import Lean
import PyProof.EqAt
import PyProof.EqKinds
import PyProof.TupleCall
import PyProof.NeData
import PyProof.P3In
import PyProof.FactsAll.set
import PyProof.CollectWalk
import PyProof.FactsAll.range
import PyProof.MinMaxWalk
import KE.KMinKey
import PyProof.WalkInts
import PyProof.Rows.CallKwBuiltin
import KE.KLam
import KE.KSortTup
import PyProof.Rows.Range3
import PyProof.ListRange
import PyProof.DictRoadsH
import KE.KDictList
import PyProof.Rows.SortKeyStr
import PyProof.DictCompW
import PyProof.DictWalks
import PyProof.Rows.CompDC
import PyProof.SumAny
import PyProof.TupleOfGen
import PyProof.CollectIter
import KE.KTryMore
import OpenK.KOwn
import PyProof.ExcBaseAll.ValueError
import KE.KNestM
import PyProof.NsDelKeeps
import PyProof.ExcAttrAll.ValueError
import PyProof.Conv_int_bool
import KE.KIntText
import PyProof.StrLawsTight
import PyProof.StrLawsChain
import PyProof.StrLawsIn
import PySem.Challenge.RW_twinmoulds_k50_texts_put_otherwise
set_option compiler.extract_closed false
set_option bootstrap.genMatcherCode false
set_option genInjectivity false
set_option genSizeOfSpec false
set_option Elab.async false
set_option linter.all false
set_option maxRecDepth 100000
set_option maxHeartbeats 4000000
open Decidable renaming decide→ώ
open Option renaming some→ϊ,none→ϋ
open Bool renaming true→ό,false→ύ
open PySem renaming wpAny_bind→À,wpAny_pure→Â,Shared→Æ,Value→È,starEach→Ð,sizeLine→Ù,mainGlobals→Ú,Addr→Þ,wpAny→ß,model→è,Program→ê,Around→ó,bootBuiltins→ü,foldedSetIterable→ă,wpAny_holding→Ĉ,wpAny_newObj_type→č,World→Ď,wpAny_call_entry→ě,compareOp→Ğ,wpAny_callSpecial?_slot→Ġ,wpAny_mono→ħ,Expr→ĳ,wpAny_seqItems→ķ,wpAny_setState_of→ĸ,wpAny_field→Ĺ,FuncData→ĺ,Heap→Ŀ,backTo→ŀ,codeAny_builtin→Ń,mem_of_lookup→ņ,codeAny_mono→Ŋ,binaryOp→ŏ,SetTable→ő,eval→ŗ,assignEach→Ř,letOwnedTupleGo→ş,sizeLine_eq→ţ,wpAny_setField→Ũ,wpAny_truthy_bool→Ū,wpAny_pyIter_list→ū,intKind→Ŵ,Builtin→Ÿ,wpAny_rule→ź,wpAny_askSetting→ż,wpAny_standAt→ž,attributeBase→ſ,wpAny_setField_rec→δ,NameKind→ξ,codeAny_call_builtin→ο,wpAny_storeSet_of→ω,rawInt→acz,Scope→acB,wpAny_attempt→acC,wpAny_setEntries_of→acE,scanBound→acI,pickOrder→acJ,wpAny_forIn_list→acK,codeAny→acN,Keyword→acO,wpAny_Call_Name_kw→acR,pyNext→acU,keywordEach→acW,wpAny_specialOf→acZ,swapsWithSole→ac6,swappedStores→ac7,call_meets→ac8,fits_of_scanBound→ada,cellsFrom→adk,IsPair→adn,intText?→ads,wpAny_call→adA,wpAny_typeOf→adE,assignInOrder→adH,wpAny_passesOwn→adI,behindInMarks→adJ,codeAny_of_tree→adO,typeIs_str→ad6,sliceBounds→ad7,eqIsQuiet_byValue→aeb,bindName→aec,wpAny_bindName→aed,weight_type_call_type→aeg,holding→aej,wpAny_isInstance→ael,cLine→aer,plainId_quiet→aet,noteFrame→aeD,assign→aeJ,backToKw→aeL,compEnvC→aeM,compPost→aeQ,standAt→aeU,Stmt→aeW,Arguments→aeZ,relabel→ae5,pyIter→ae9
open PySem.Heap renaming get?_push_of_some→Á,lt_size→Í,get?_push_size→Ò,size_push→ý,get?_update_self→ġ,SameBut→ı,get?_update_other→ŕ,FlyingW→ac1,ExtBut→adw,get?_update_ne→ady,get?_some_iff→adV
open Bool renaming false_ne_true→Ã,and_eq_true→Å,false_eq_true→Ç,not_true→ò,true_and→ô,not_eq_true'→û,not_eq_true→ē,eq_iff_iff→ĝ,not_false→į,and_self→Ĳ,false_and→η,or_eq_true→ψ,not_not→aei,and_true→aev,and_false→aeV
open List renaming length_map→Ä,getElem?_eq_getElem→Ê,mem_cons_of_mem→Ì,mem_cons→Ï,getElem?_eq_some_iff→Ñ,mem_append_right→Ó,mem_cons_self→Õ,replicate→Ø,size_toArray→Ý,length_append→à,getElem?_append_left→â,all_eq_true→ä,mem_map→å,length_cons→æ,map_cons→ç,getElem?_map→é,not_mem_nil→ì,getElem?_append_right→í,range→ö,mem_range→ø,pairwise_cons→þ,mem_append_left→Ā,getElem?_set_ne→ā,mem_append→Ć,append_nil→ć,length_take→ĉ,mem_singleton→ċ,getD_eq_getElem?_getD→ď,getElem?_set_self→Đ,mem_of_getElem?→Ē,map_map→ę,length_set→ģ,length_nil→ĥ,map_append→ĩ,cons_append→ī,zip_cons_cons→Į,lookup_cons→Ĵ,set_cons_succ→Ļ,set_cons_zero→ļ,filter_eq_self→Ľ,getElem?_replicate→ľ,mem_filter→Ł,nil_append→ł,drop_eq_getElem_cons→ń,getElem?_eq_none→Ō,length_drop→Ŕ,replicate_succ→ř,flatten_cons→Ś,append_assoc→ś,mem_filterMap→Š,any_eq_true→Ť,filterMap_cons→Ů,nodup_cons→Ű,getD→ű,getElem_of_mem→Ų,take_of_length_le→ų,drop_zero→ν,ext_getElem?→υ,map_nil→acA,getElem?_range→acD,filter_cons→acM,filter_eq_nil_iff→acQ,dropLast_concat_getLast→acT,length_replicate→acV,foldl_cons→acX,take_append_drop→ac3,length_filter_le→ac4,length_range→adb,mem_of_mem_take→adi,mem_of_mem_drop→adj,nodup_nil→adp,getElem_mem→adt,isEmpty_nil→adu,map_eq_nil_iff→adz,getElem?_take_of_lt→adC,forIn_cons→adM,map_filterMap→adN,length_eq_zero_iff→adQ,map_inj_right→adU,map_drop→adW,all_cons→adX,filter_append→adY,flatMap_eq_nil_iff→adZ,pairwise_lt_range→ad2,take_sublist→ad5,drop_sublist→ad9,nodup_append→aea,toArray→aef,drop_length→aem,count_le_length→aeq,of_mem_zip→aex,map_congr_left→aez,drop_succ_cons→aeG,any_map→aeS
open Nat renaming lt_of_lt_of_le→Ë,le_trans→Ü,ne_of_lt→á,lt_irrefl→ñ,zero_le→ą,lt_succ_of_lt→Ě,ne_of_gt→Ş,lt_succ_self→ť,le_of_not_lt→acH,le_of_lt_succ→adf,le_succ→adx,lt_of_le_of_lt→adS,le_max_right→aen,add_assoc→aeu,mod_lt→aew,not_lt_zero→aeF,le_of_eq→aeP,succ_pos→aeR,not_lt→ae2
open PySem.PyData renaming strOk→ã,eqv→Ķ,depthAll→aeC
open Array renaming length_toList→ë,getElem?_toList→ù,getD_eq_getD_getElem?→Ę,getElem?_eq_some_iff→Ħ,toList_push→ac9,forIn_toList→adT,toList_inj→aeo,mem_toList_iff→aep,toList_append→aeE,append_assoc→aeI,getD→ae0
open And renaming intro→ï
open PySem.W renaming nsIn→ð,mg_none_of→Č,Frag→İ,mg_of→Ņ,fnOf→ŧ,keepIn→θ,cellsFrom_some→acP,codeIn→adl,hideAll_get→adv,callWith_K→aeK,methodObj→aeY,tabIn→ae7,excIn→ae8
open PySem.SetTable renaming below→ú,bits→ĕ,turns→Ė,runEnd→ğ,grown→μ,insertAt→χ,leap→acG,slot→aes,layClean→ae1
open PySem.Txt renaming split→Ă
open PySem.Builtin.Str renaming occurrences→Ą,strSliceIndices→ĭ
open PySem.Str renaming ofString→Ċ,join→Ŏ
open PySem.Obj renaming data_mapFields→đ,isFreed_of_fields→ŋ,mapSeq→Ŭ,putSet→adG,cls_mapFields→ad8
open PySem.Builtin.SmallTypes renaming nextOf→Ĕ,ownedTupleIsFree→Ň,ownedTupleHandOut→ado
open PySem.F renaming called_set→ė,slot_tuple_iterator_next→ŷ,isi_meta_tuple→Ż,isi_meta_list→ς,slot_tuple_hash→ade,args_tuple_add_2→adD,entry_tuple_add→adL,plainAttrs_list→adR,slot_tuple_add→ad1,plainAttrs_str→ad3,slot_int_rmul→aey,slot_zip_next→aeA
open Classical renaming byContradiction→Ģ
open PySem.Heap.SameBut renaming update→Ĥ
open False renaming elim→Ī
open PyProof.Rows renaming slot_tuple_getitem→Ĭ,firstMet→ō,envOfC→ŝ,callWith_type1→ů,assignInOrder_cons→Ž,split_pos→ad4,split_le→aeh,IntsAre→aek,seqObj→aeO,AllBare→ae4,envOfC→afa
open ForInStep renaming yield→Ő
open PyProof.Rows.F renaming plain_set_update_loop→Œ,entry_set_update_loop→acF
open PySem.Around renaming under_plainId→œ,under_plain→aeN
open Option renaming map_eq_some_iff→Ŗ,map_some→acY,isSome_iff_exists→adB
open Int renaming toNat_natCast→Ŝ,emod_lt_of_pos→ε,emod_nonneg→ac2,zero_add→ac5,eq_ofNat_of_zero_le→ad0
open PySem.Builtin.Tuple renaming tupleExact→š,tupleItemsOf→Ŷ,tupleIsExact→adg,tupleHashOf→adq
open PySem.Value renaming ref→Ŧ,type→ũ,bool→Ź,int→aeX
open Function renaming comp_def→ŭ
open Ne renaming symm→ŵ
open PySem.StrLaws renaming join_split→ζ,split_free→aeT
open PySem.Builtin.Slice renaming slicePlaces→ι,sliceAdjust→adm,sliceApplied→aeH
open PySem.PassesOwn renaming never→acy
open PySem.Sem renaming wp→acL
open PySem.Builtin.Frozenset renaming updateFrom→acS
open List.cons renaming injEq→ac0
open Or renaming inl→adh
open PySem.Builtin.List renaming listTooLong→adF,listExtendWith→aeB
open PySem.Calls renaming spliced_cons→adK
open PySem.Code renaming quiet_builtin→adP
open List.Pairwise renaming sublist→aee
open PySem.NumText renaming digitsVal→ae3
open PySem.Shared renaming TypeIs→ae6
def É:=@decide_eq_true_eq
def Î:=@decide_eq_true
def Ô:=@if_pos
def Ö:=@if_neg
def Û:=@decide_eq_false
def î:=@of_decide_eq_true
def õ:=@if_false
def ÿ:=@if_true
def Ĝ:=@beq_self_eq_true
def Ĩ:=@bne_self_eq_false
def ĵ:=@congrArg
def ň:=@decide_true
def Ţ:=@and_self
def afn:=@Nat.le_refl
def afo:=@Option.some.inj
abbrev afp:PySem.Str:="_law_state_here"
abbrev afq:PySem.Str:="_law_script"
abbrev afr:PySem.Str:="_law_mark"
abbrev afs:PySem.Str:="_law_word"
abbrev aft:PySem.Str:="_law_pages"
abbrev afu:PySem.Str:="_law_text"
abbrev afv:PySem.Str:="_law_due"
abbrev afw:PySem.Str:="_law_many"
abbrev afx:PySem.Str:="_law_page_here"
abbrev afy:PySem.Str:="_law_line_here"
abbrev afz:PySem.Str:="_law_mould"
abbrev afA:PySem.Str:="_law_told"
abbrev afB:PySem.Str:="_law_parts"
abbrev afC:PySem.Str:="_law_thing"
abbrev afD:PySem.Str:="_law_other_here"
abbrev afE:PySem.Str:="_law_marks_text"
abbrev afF:PySem.Str:="_law_sheet_text"
abbrev afG:PySem.Str:="_law_mark_stands"
noncomputable section
def hold{G:Prop}(h:∀P:Prop,(G->P)->P):G:=h G id
local macro_rules | `(tactic| obtain ⟨$a,$b,$c,$d,$xs,*⟩ := $h)=>`(tactic| (refine hold λP k=>?_;rcases $h:term with ⟨$a,$b,$c,$d,$xs,*⟩<;>(refine k ?_;clear k P)))
local macro_rules | `(tactic| obtain ⟨$a,$b,$c,$d⟩ := $h)=>`(tactic| (refine hold λP k=>?_;rcases $h:term with ⟨$a,$b,$c,$d⟩<;>(refine k ?_;clear k P)))
local macro_rules | `(tactic| rcases $h:term with ⟨$a,$b,$c,$xs,*⟩ | $q)=>`(tactic| (refine hold λP k=>?_;obtain ⟨$a,$b,$c,$xs,*⟩ | $q := $h<;>(refine k ?_;clear k P)))
local macro_rules | `(⋯)=>`(by omega)
local macro_rules | `(∅)=>`(by simp)
local macro_rules | `(nofun)=>`(by decide +kernel)
local macro_rules | `(tactic| delta $x* $[$l]?)=>`(tactic| unfold $x* $[$l]?)
local macro_rules | `(tactic| erw[$[$x:term],*] $[$l:location]?)=>`(tactic| simp only[$[$x:term],*] $[$l:location]?)
local macro_rules | `(tactic| calc $t:term)=>`(tactic| refine $t)
set_option hygiene false
local macro_rules | `(0e0)=>`((by decide))
local macro_rules | `(0e1)=>`(⟨.bl ύ,H,I.tok _,rfl,q⟩)
local macro_rules | `(0e2)=>`((è X.prog X.w))
local macro_rules | `(0e3)=>`((by kernel_rfl))
local macro_rules | `(0e4)=>`((aa 0))
local macro_rules | `(0e5)=>`((.fresh 0 0 (bH w)))
local macro_rules | `(0e6)=>`((ag 0))
local macro_rules | `(0e7)=>`((.ref s.heap.objs.size))
local macro_rules | `(0e8)=>`((x==("__debug__":Str)))
local macro_rules | `(0e9)=>`((cp X N sc cl C s H ex pn))
local macro_rules | `(1e0)=>`((tE X.K Ξ f))
local macro_rules | `(1e1)=>`((eC (.int 1)))
local macro_rules | `(1e2)=>`(⟨#[c]⟩)
local macro_rules | `(1e3)=>`((.str x))
local macro_rules | `(1e4)=>`(⟨rfl,rfl⟩)
local macro_rules | `(1e5)=>`((eU X N sc cl C s H ex pn))
local macro_rules | `(1e6)=>`((.lst ((ls++[t]).map D.str)))
local macro_rules | `(1e7)=>`(⟨tg,src,tests,0⟩)
local macro_rules | `(1e8)=>`((aa 1))
local macro_rules | `(1e9)=>`((eC (.int 0)))
local macro_rules | `(2e0)=>`((è P w))
local macro_rules | `(2e1)=>`((.Call (.Name x p) (e::es) [] pos))
local macro_rules | `(2e2)=>`((f env s))
local macro_rules | `(2e3)=>`((è prog w))
local macro_rules | `(2e4)=>`((af 0e4 ah))
local macro_rules | `(2e5)=>`((.tup [.str "made",.int Y,.int Z,.tup [ti X,ti W]]))
local macro_rules | `(2e6)=>`((ag 1))
local macro_rules | `(2e7)=>`((Þ×Obj))
local macro_rules | `(2e8)=>`((ns.map D.int))
local macro_rules | `(2e9)=>`((.ListComp el gens sc ps))
local macro_rules | `(3e0)=>`((afn _))
local macro_rules | `(3e1)=>`(⟨_,Ò _ rfl,rfl,rfl⟩)
local macro_rules | `(3e2)=>`((([a]:List ĳ).length+([]:List acO).length+(if ([]:List acO).isEmpty then 0 else 1)<30))
local macro_rules | `(3e3)=>`((ύ,ŗ a X.env))
local macro_rules | `(3e4)=>`((ST.cJ bR (cH ls)))
local macro_rules | `(3e5)=>`((bB a&&bB b&&if w="made" then jb v else ώ (w="mended")&&bB v))
local macro_rules | `(3e6)=>`((hs w (.tup ks)))
local macro_rules | `(3e7)=>`((w.params.setOrder a ep))
local macro_rules | `(3e8)=>`((.bl ύ))
local macro_rules | `(3e9)=>`((eC (.int 2)))
local macro_rules | `(4e0)=>`((eC (.int 3)))
local macro_rules | `(4e1)=>`((aP items.size items.size hi-aP items.size 0 lo))
local macro_rules | `(4e2)=>`((.ref it))
local macro_rules | `(4e3)=>`((aT F.gk (gm F) Z (aW 0e6 ao)))
local macro_rules | `(4e4)=>`((.lst (zs.map D.str)))
local macro_rules | `(4e5)=>`((.int i))
local macro_rules | `(4e6)=>`((nY w a b v x A B (.tup [mD (bw p),mD (bw q)]) (ϊ (.lst ([p,q].map oM)))))
local macro_rules | `(4e7)=>`((List D))
local macro_rules | `(4e8)=>`((af 1e8 ah))
local macro_rules | `(4e9)=>`((.ListComp el [1e7] sc ps))
local macro_rules | `(5e0)=>`(⟨_,rfl⟩)
local macro_rules | `(5e1)=>`((cf gQ rfl F.gu gw (ay 0e6)))
local macro_rules | `(5e2)=>`((.tup [.str "mended",.int Y,.int Z,.int V]))
local macro_rules | `(5e3)=>`((.ref C))
local macro_rules | `(5e4)=>`((bo _))
local macro_rules | `(5e5)=>`((ύ,ŗ e X.env))
local macro_rules | `(5e6)=>`((cP I q ∅))
local macro_rules | `(5e7)=>`(((cp X N sc cl C s H ex pn).eY (xy 0e9)))
local macro_rules | `(5e8)=>`((A.deeper (afa qual scope s.heap.objs.size f bq)))
local macro_rules | `(5e9)=>`((bt 0e6 ao))
local macro_rules | `(6e0)=>`((x,NameKind.free))
local macro_rules | `(6e1)=>`((.bl ό))
local macro_rules | `(6e2)=>`((.ref a))
local macro_rules | `(6e3)=>`((.builtin "isinstance"))
local macro_rules | `(6e4)=>`((ps.map Pg.d))
local macro_rules | `(6e5)=>`((.str "made"))
local macro_rules | `(6e6)=>`((aa 2))
local macro_rules | `(6e7)=>`((A.deeper (ŝ x (cY st) s.heap.objs.size f bq)))
local macro_rules | `(6e8)=>`((.ListComp el [1e7,⟨lR,jP,nh,0⟩,⟨uJ,qM,vU,0⟩] sc ps))
local macro_rules | `(6e9)=>`((.lst (a.map D.int)))
local macro_rules | `(7e0)=>`((.str "mended"))
local macro_rules | `(7e1)=>`((zE (X.env.qual++"<lambda>") params body scope cl ((X.mg "__name__").getD .none) c' ja))
local macro_rules | `(7e2)=>`((cf jF rfl F.cK iy (aW 0e6 (jO iT rfl F.iS))))
local macro_rules | `(7e3)=>`((.ref p))
local macro_rules | `(7e4)=>`((apos.endLine==ba.line))
local macro_rules | `(7e5)=>`((eB dZ (af 0e4 (af (eC (.ty "tuple")) ah))))
local macro_rules | `(7e6)=>`((.inl rfl))
local macro_rules | `(7e7)=>`((n,NameKind.free))
local macro_rules | `(7e8)=>`((tA X.K Ξ fa))
local macro_rules | `(7e9)=>`((ŧ name qual params body scope dV kV doc pm an bq ct))
local macro_rules | `(8e0)=>`((ag 2))
local macro_rules | `(8e1)=>`((.lst (b.map D.int)))
local macro_rules | `(8e2)=>`(⟨#[10]⟩)
local macro_rules | `(8e3)=>`((.error ⟨"NoText",ϋ⟩,s))
local macro_rules | `(8e4)=>`((oE k x sn at' way zs cF (ϊ (.lst (ws.map D.str))) (ϊ (.int place)) ϋ ϋ))
local macro_rules | `(8e5)=>`((e2 ar 0e4 1e9))
local macro_rules | `(8e6)=>`((eC (.str "\n")))
local macro_rules | `(8e7)=>`((e::es))
local macro_rules | `(8e8)=>`((.ref D))
local macro_rules | `(8e9)=>`((af (eC (.str "refused")) (af (eC (.int 15)) ah)))
local macro_rules | `(9e0)=>`(⟨i,j,rfl,rfl,ax S h _ rfl⟩)
local macro_rules | `(9e1)=>`((aB (aM fN)))
set_option hygiene true
local macro_rules | `(tactic| omega) => `(tactic| lia)
open PySem.W (Frag)
namespace L2
open PySem PySem.Spec PyProof.Rows
abbrev Key:=Sum Int Str
def D7:Key->È->Bool
 | .inl k,v=>Value.isInt k v
 | .inr x,v=>Value.isStrOf x v
def abe (w:Ď):Key->Int
 | .inl k=>hashInt k
 | .inr x=>hashStr w x
def lX:∀{k:Key} {v:È},D7 k v=ό->(∃i t,k=Sum.inl i/\v=aeX i t)\/(∃x t,k=Sum.inr x/\v=Value.str x t)
 | .inl i,v,h=>by
  obtain⟨t,e⟩:=Value.isInt_shape (k:=i) (v:=v) h;exact .inl ⟨i,t,rfl,e⟩
 | .inr x,v,h=>by
  obtain⟨t,e⟩:=Value.isStrOf_shape (x:=x) (v:=v) h;exact .inr ⟨x,t,rfl,e⟩
def XN (a b:Int):ώ ((Sum.inl a:Key)=Sum.inl b)=(a==b):=by
 by_cases e:a=b
 ·subst e;simp
 ·have h:¬ (Sum.inl a:Key)=Sum.inl b:=λq=>e (Sum.inl.inj q)
  rw[Û h];exact(beq_eq_false_iff_ne.mpr e).symm
def XO (a b:Str):ώ ((Sum.inr a:Key)=Sum.inr b)=ώ (a=b):=by
 by_cases e:a=b
 ·subst e;simp
 ·have h:¬ (Sum.inr a:Key)=Sum.inr b:=λq=>e (Sum.inr.inj q)
  rw[Û h,Û e]
def XQ (a:Int) (b:Str):ώ ((Sum.inl a:Key)=Sum.inr b)=ύ:=Û (λq=>nomatch q)
def XR (a:Str) (b:Int):ώ ((Sum.inr a:Key)=Sum.inl b)=ύ:=Û (λq=>nomatch q)
def yX (prog:ê) (w:Ď):PySem.KeyKind prog w Key where
 is:=D7
 hash:=abe w
 inj:=λv a b X Y=>by
  rcases lX X with ⟨i,t,rfl,rfl⟩ | ⟨x,t,rfl,rfl⟩
  ·rcases lX Y with ⟨j,u,rfl,e⟩ | ⟨y,u,rfl,e⟩
   ·injection e with e1 _;rw[e1]
   ·exact nomatch e
  ·rcases lX Y with ⟨j,u,rfl,e⟩ | ⟨y,u,rfl,e⟩
   ·exact nomatch e
   ·injection e with e1 _;rw[e1]
 byValue:=λk v h=>by
  rcases lX h with ⟨i,t,rfl,rfl⟩ | ⟨x,t,rfl,rfl⟩<;>rfl
 pyHash:=λZ h=>by
  rcases lX Z with ⟨i,t,rfl,rfl⟩ | ⟨x,t,rfl,rfl⟩
  ·exact wpAny_pyHash_int h
  ·exact wpAny_pyHash_str h
 eqBool:=λW Z h=>by
  rcases lX W with ⟨i,t,rfl,rfl⟩ | ⟨x,t,rfl,rfl⟩
  ·rcases lX Z with ⟨j,u,rfl,rfl⟩ | ⟨y,u,rfl,rfl⟩
   ·rw[XN] at h;exact wpAny_eqBool_int h
   ·rw[XQ] at h;exact SeqAt.EqAt.int_str i t y u _ _ _ _ h
  ·rcases lX Z with ⟨j,u,rfl,rfl⟩ | ⟨y,u,rfl,rfl⟩
   ·rw[XR] at h;exact SeqAt.EqAt.str_int x t j u _ _ _ _ h
   ·rw[XO] at h;exact wpAny_eqBool_str h
 «strs»:=λk x t v h=>by
  rcases lX h with ⟨i,u,rfl,e⟩ | ⟨y,u,rfl,e⟩
  ·exact nomatch e
  ·injection e with e1 _
   subst e1
   cases v<;>rfl
set_option genInjectivity true in
inductive V where
 |ak|bl (b:Bool)|int (i:Int)|str (x:Str)|jT (b:Array UInt8)|Fy (b:UInt64)|ref (a:Þ)|ty (n:String)
 deriving DecidableEq
def RelV:V->È->Prop
 | .ak,u=>u=Value.none
 | .bl b,u=>u=Ź b
 | .int i,u=>∃t,u=aeX i t
 | .str x,u=>∃t,u=Value.str x t
 | .jT b,u=>∃t,u=Value.bytes b t
 | .Fy b,u=>∃t,u=Value.float b t
 | .ref a,u=>u=Ŧ a
 | .ty n,u=>u=ũ n
abbrev Vals:List V->List È->Prop:=Paired RelV
theorem Vals.length (r:Vals xs us):xs.length=us.length:=Paired.length r
theorem Vals.get:∀{xs:List V} {us:List È} {i:Nat} {x:V},Vals xs us->xs[i]?=ϊ x->∃u,us[i]?=ϊ u/\RelV x u
 |_,_,_,_,.nil,e=>by simp at e
 |_,_,0,_,.cons r _,e=>by simp at e;subst e;exact⟨_,rfl,r⟩
 |_,_,i+1,x,.cons _ t,e=>by
  obtain⟨u,Z,Y⟩:=Vals.get (i:=i) (x:=x) t (by simpa using e);exact⟨u,by simpa using Z,Y⟩
theorem Vals.set (r:RelV x u):∀{xs:List V} {us:List È} (i:Nat),Vals xs us->Vals (xs.set i x) (us.set i u)
 |_,_,_,.nil=>.nil
 |_,_,0,.cons _ t=>.cons r t
 |_,_,i+1,.cons q t=>.cons q (Vals.set r i t)
theorem Vals.append:∀{xs ys:List V} {us ws:List È},Vals xs us->Vals ys ws->Vals (xs++ys) (us++ws)
 |_,_,_,_,.nil,s=>s
 |_,_,_,_,.cons r t,s=>.cons r (Vals.append t s)
theorem Vals.take:∀{xs:List V} {us:List È} (n:Nat),Vals xs us->Vals (xs.take n) (us.take n)
 |_,_,0,_=>.nil
 |_,_,_ + 1,.nil=>.nil
 |_,_,n+1,.cons r t=>.cons r (Vals.take n t)
theorem Vals.drop:∀{xs:List V} {us:List È} (n:Nat),Vals xs us->Vals (xs.drop n) (us.drop n)
 |_,_,0,r=>r
 |_,_,_ + 1,.nil=>.nil
 |_,_,n+1,.cons _ t=>Vals.drop n t
def NY:Option V->Option È->Prop
 |some v,ϊ u=>RelV v u
 |none,ϋ=>True
 |_,_=>False
def KV {κ:Type}:List (κ×V)->List (κ×È)->Prop:=Paired λ(p:κ×V) (q:κ×È)=>p.1=q.1/\RelV p.2 q.2
def kV:Key->V
 | .inl i=>.int i
 | .inr x=>.str x
inductive HO where
 |lst (xs:List V)
 |tup (xs:List V)
 |dK (aR:List (Key×V))|dT (aR:List (List Key×V))
 |set (S:Int->Bool) (n:Nat)
 |ins (C dx:Þ) (fs:List (Str×V))
 |own (x:Þ)
 |xd (fs:List (Str×V))
 |met (f x:Þ)
 |ei (lo hi:Int)
 |bz (o:Obj) (u:HO)
 |eD (ps:Array È)
 |ext (φ:Ŀ->Prop)
abbrev Hp:=Þ->Option HO
def upd (H:Hp) (a:Þ) (o:HO):Hp:=λb=>if b=a then ϊ o else H b
def cO:upd H a o a=ϊ o:=by delta upd;rw[Ô rfl]
def bx (h:b≠a):upd H a o b=H b:=by delta upd;rw[Ö h]
def dC {H:Hp} {a b:Þ} {o:HO} (h:H a=ϊ o) (h':H b=ϋ):a≠b:=by
 intro e;subst e;rw[h] at h';cases h'
section
variable (P:ê) (w:Ď)
def dR (H:Hp) (h:Ŀ) (a:Þ):HO->Prop
 | .lst Z=>Z.length<=Ù/\∃(its:List È) (n:Nat),Vals Z its/\h.get? a=ϊ { cls:=.type "list",data:=.seq its.toArray n }
 | .tup Z=>Z.length<=Ù/\∃its:List È,Vals Z its/\IsTup h a its.toArray
 | .dK X=>X.length<=Ù/\(a==sysModules)=ύ/\∃R,KV X R/\h.DictOf (yX P w) a R
 | .dT X=>X.length<=Ù/\(a==sysModules)=ύ/\∃Z:List (List Key×Þ×È),
   Paired (λ(p:List Key×V) (q:List Key×Þ×È)=>p.1=q.1/\H q.2.1=ϊ (.tup (p.1.map kV))/\RelV p.2 q.2.2) X Z /\
   ∃o Q M,h.get? a=ϊ o/\o.ExactDict/\o.data=.dict Q M/\Q.toList=Z.map (entryOfKey (tupleKind (yX P w)))/\(Z.map (·.1)).Nodup
 | .set S n=>h.SetOf (Ŵ P w) a S n
 | .ins C U fs=>H U=ϊ (.own a)/\fs.length<=1000/\U≠a/\h.get? a=ϊ (PySem.W.instObj C U) /\
   ∃Y,h.Ns1 U Y/\(∀f,NY (fs.lookup f) (Y f))/\PySem.Within Y (fs.map (·.1))
 | .own _=>∃o,h.get? a=ϊ o
 | .xd fs=>∃Y,h.Ns1 a Y/\∀f,NY (fs.lookup f) (Y f)
 | .ei lo hi=>∃t u v,h.get? a=ϊ { cls:=.type "range",data:=.fields #[.int lo t,.int hi u,.int 1 v] }
 | .bz o u=>h.get? a=ϊ o/\dR H h a u
 | .eD L=>h.get? a=ϊ { cls:=.none,data:=.fields L }
 | .met f x=>h.get? a=ϊ (aeY (.ref f) (.ref x))
 | .ext T=>T h/\(∃o,h.get? a=ϊ o)/\∀O N:Ŀ,T O->(∀o,O.get? a=ϊ o->N.get? a=ϊ o)->T N
def cN (H:Hp) (h:Ŀ):Prop:=∀a o,H a=ϊ o->dR P w H h a o
end
section
variable {P:ê} {w:Ď} {H H':Hp} {h h':Ŀ} {a:Þ} {o:HO}
theorem dR.lt (x:dR P w H h a o):a<h.objs.size:=by
 cases o with
 |lst Z=>obtain⟨_,_,_,_,e⟩:=x;exact Í e
 |tup Z=>obtain⟨_,_,_,p⟩:=x;exact p.lt
 |dK Y=>obtain⟨_,_,_,_,o,_,_,e,_⟩:=x;exact Í e
 |dT Y=>obtain⟨_,_,_,_,o,_,_,e,_⟩:=x;exact Í e
 |set S n=>obtain⟨o,_,_,_,e,_⟩:=x;exact Í e
 |ins C X fs=>obtain⟨_,_,_,e,_⟩:=x;exact Í e
 |own y=>obtain⟨_,e⟩:=x;exact Í e
 |xd fs=>obtain⟨_,⟨_,_,_,e,_⟩,_⟩:=x;exact Í e
 |ei lo hi=>obtain⟨_,_,_,e⟩:=x;exact Í e
 |bz W u=>obtain⟨e,_⟩:=x;exact Í e
 |eD V=>exact Í (show h.get? a=ϊ _ from x)
 |met f y=>exact Í (show h.get? a=ϊ _ from x)
 |ext U=>obtain⟨_,⟨_,e⟩,_⟩:=x;exact Í e
theorem Paired.NZ {α β:Type} {F G:α->β->Prop}:∀{N0:List α} {N1:List β},Paired F N0 N1->(∀a b,F a b->G a b)->Paired G N0 N1
 |_,_,.nil,_=>.nil
 |_,_,.cons r t,f=>.cons (f _ _ r) (Paired.NZ t f)
def dR.gy (x:dR P w H h a o) (k:∀b u,(b=a\/H b=ϊ (.own a))->h.get? b=ϊ u->h'.get? b=ϊ u)
  (ho:∀b,H b=ϊ (.own a)->H' b=ϊ (.own a)) (ht:∀b xs,H b=ϊ (.tup xs)->H' b=ϊ (.tup xs)):dR P w H' h' a o:=by
 induction o with
 |lst xs=>obtain⟨z,its,n,r,e⟩:=x;exact⟨z,its,n,r,k _ _ 7e6 e⟩
 |tup xs=>obtain⟨z,its,r,Z,e,c⟩:=x;exact⟨z,its,r,Z,k _ _ 7e6 e,c⟩
 |dK R=>obtain⟨z,y,Q,r,Z,Y,X,e,c⟩:=x;exact⟨z,y,Q,r,Z,Y,X,k _ _ 7e6 e,c⟩
 |dT R =>
  obtain⟨z,y,xs,r,Z,Y,X,e,c⟩:=x;exact⟨z,y,xs,Paired.NZ r λp q z=>⟨z.1,ht _ _ z.2.1,z.2.2⟩,Z,Y,X,k _ _ 7e6 e,c⟩
 |set S n=>obtain⟨Z,Y,X,t,e,c⟩:=x;exact⟨Z,Y,X,t,k _ _ 7e6 e,c⟩
 |ins C O fs =>
  obtain⟨d,z,ne,e,W,⟨V,Y,X,e2,c⟩,r⟩:=x;exact⟨ho _ d,z,ne,k _ _ 7e6 e,W,⟨V,Y,X,k _ _ (.inr d) e2,c⟩,r⟩
 |own y=>obtain⟨Z,e⟩:=x;exact⟨Z,k _ _ 7e6 e⟩
 |xd fs=>obtain⟨W,⟨V,Y,X,e,c⟩,r⟩:=x;exact⟨W,⟨V,Y,X,k _ _ 7e6 e,c⟩,r⟩
 |ei lo hi=>obtain⟨t,u,v,e⟩:=x;exact⟨t,u,v,k _ _ 7e6 e⟩
 |bz Z u ih=>obtain⟨e,q⟩:=x;exact⟨k _ _ 7e6 e,ih q⟩
 |eD U =>
  have e:h.get? a=ϊ { cls:=.none,data:=.fields U }:=x;show h'.get? a=ϊ { cls:=.none,data:=.fields U };exact k a _ 7e6 e
 |met f y =>
  have e:h.get? a=ϊ (aeY (.ref f) (.ref y)):=x;show h'.get? a=ϊ (aeY (.ref f) (.ref y));exact k a _ 7e6 e
 |ext N=>obtain⟨p,⟨o,e⟩,T⟩:=x;exact⟨T _ _ p λo q=>k _ _ 7e6 q,⟨o,k _ _ 7e6 e⟩,T⟩
theorem cN.lt (x:cN P w H h) (e:H a=ϊ o):a<h.objs.size:=(x a o e).lt
def cN.fresh (x:cN P w H h) (e:h.objs.size<=a):H a=ϋ:=by
 cases q:H a with
 |none=>rfl
 |some u=>exact absurd (Ë (x.lt q) e) (ñ _)
def cN.kept (x:cN P w H h) (k:∀b u,h.get? b=ϊ u->h'.get? b=ϊ u):cN P w H h':=λa o e =>
 (x a o e).gy (λb u _ q=>k b u q) (λ_ q=>q) λ_ _ q=>q
def cN.laid (x:cN P w H h) (k:∀b u,h.get? b=ϊ u->h'.get? b=ϊ u) (hp:h.objs.size<=a) (new:dR P w (upd H a o) h' a o):cN P w (upd H a o) h':=λb u e=>by
 have Z:=x.fresh hp;by_cases Y:b=a
 ·subst Y;rw[cO] at e;cases e;exact new
 ·rw[bx Y] at e
  exact(x b u e).gy (λc v _ q=>k c v q) (λc q=>by rw[bx (dC q Z)];exact q) λc X q=>by rw[bx (dC q Z)];exact q
end
def Rd (H:Hp) (a:Þ) (u:HO):Prop:=H a=ϊ u\/∃o,H a=ϊ (.bz o u)
def Rd.ok (r:Rd H a u) (x:cN P w H h):dR P w H h a u:=by
 rcases r with r | ⟨o,r⟩
 ·exact x a u r
 ·obtain⟨_,q⟩:=x a _ r
  exact q
def AF:Option HO->Prop
 |some (.lst _)=>True
 |some (.dK _)=>True
 |some (.dT _)=>True
 |some (.set _ _)=>True
 |some (.ins _ _ _)=>True
 |some (.ext _)=>True
 |_=>False
section
variable {P:ê} {w:Ď} {H:Hp} {h h':Ŀ} {x e:Þ} {o':HO}
def cN.write (ok:cN P w H h) (mu:AF (H x)) (he:e=x\/H e=ϊ (.own x)) (k:∀b u,b≠e->h.get? b=ϊ u->h'.get? b=ϊ u) (uh:∃u,h'.get? e=ϊ u)
  (new:dR P w (upd H x o') h' x o'):cN P w (upd H x o') h':=λb u q=>by
 have V:∀c y,H c=ϊ (.own y)->c≠x:=λc y r z=>by subst z;rw[r] at mu;exact mu
 have W:∀c Z,H c=ϊ (.tup Z)->c≠x:=λc Z r z=>by subst z;rw[r] at mu;exact mu
 by_cases Y:b=x
 ·subst Y;rw[cO] at q;cases q;exact new
 ·rw[bx Y] at q
  by_cases X:b=e
  ·have U:H b=ϊ (.own x):=by
    rcases he with z|z
    ·exact absurd (X.trans z) Y
    ·rw[X];exact z
   rw[q] at U;cases U;obtain⟨v,T⟩:=uh;exact⟨v,by rw[X];exact T⟩
  ·refine(ok b u q).gy (λc v hc r=>k c v ?_ r) (λc r=>by rw[bx (V c b r)];exact r) λc Z r=>by rw[bx (W c Z r)];exact r
   rcases hc with rfl|hc
   ·exact X
   ·rintro rfl
    rcases he with z|z
    ·exact V c b hc z
    ·rw[hc] at z;cases z;exact Y rfl
end
structure Un (fs ex:List Þ) (H H':Hp) (h h':Ŀ):Prop where
 keep:∀b o,h.get? b=ϊ o->H b=ϋ->b∉fs->b∉ex->h'.get? b=ϊ o
 slot:∀b o,h.get? b=ϊ o->H b=ϋ->b∈fs->b∉ex->∃sl,h'.get? b=ϊ { o with slots:=sl }
 free:∀b o,h.get? b=ϊ o->H b=ϋ->b∉ex->H' b=ϋ
 there:∀b o,h.get? b=ϊ o->b∉ex->∃o',h'.get? b=ϊ o'
 fz:∀b xs,H b=ϊ (.tup xs)->H' b=ϊ (.tup xs)
 eR:∀b o u,H b=ϊ (.bz o u)->H' b=ϊ (.bz o u)
 fB:∀b ps,H b=ϊ (.eD ps)->∃more,H' b=ϊ (.eD (ps++more))
section
variable {fs fs' ex ex':List Þ} {H H1 H2:Hp} {h h1 h2 h':Ŀ} {a x e:Þ} {o:HO}
def Un.any (u:Un fs ex H H1 h h1) (q:h.get? b=ϊ ob) (n:H b=ϋ) (hx:b∉ex):∃sl,h1.get? b=ϊ { ob with slots:=sl }:=by
 by_cases Z:b∈fs
 ·exact u.slot b ob q n Z hx
 ·exact⟨ob.slots,u.keep b ob q n Z hx⟩
def Un.kept (k:∀b u,h.get? b=ϊ u->h'.get? b=ϊ u):Un fs ex H H h h' :=
 ⟨λb Z q _ _ _=>k b Z q,λb Z q _ _ _=>⟨Z.slots,k b Z q⟩,λ_ _ _ n _=>n,λb Z q _=>⟨Z,k b Z q⟩,λ_ _ q=>q,λ_ _ _ q=>q,λ_ Y q=>⟨#[],by rw[q];simp⟩⟩
def Un.refl:Un fs ex H H h h:=Un.kept λ_ _ q=>q
def Un.laid (k:∀b u,h.get? b=ϊ u->h'.get? b=ϊ u) (hp:h.objs.size<=a) (hn:H a=ϋ):Un fs ex H (upd H a o) h h' where
 keep:=λb u q _ _ _=>k b u q
 slot:=λb u q _ _ _=>⟨u.slots,k b u q⟩
 free:=λb u q n _=>by rw[bx (á (Ë (Í q) hp))];exact n
 there:=λb u q _=>⟨u,k b u q⟩
 fz:=λb Z q=>by rw[bx (dC q hn)];exact q
 eR:=λb u Z q=>by rw[bx (dC q hn)];exact q
 fB:=λb Y q=>⟨#[],by rw[bx (dC q hn),q];simp⟩
def Un.write (mu:AF (H x)) (he:e=x\/H e=ϊ (.own x)) (k:∀b u,b≠e->h.get? b=ϊ u->h'.get? b=ϊ u) (uh:∃u,h'.get? e=ϊ u):Un fs ex H (upd H x o) h h':=by
 have Y:∀b,H b=ϋ->b≠x:=λb n z=>by subst z;rw[n] at mu;exact mu
 have X:∀b,H b=ϋ->b≠e:=λb n z=>by
  subst z
  rcases he with r|r
  ·exact Y b n r
  ·rw[n] at r;cases r
 have Z:∀b u,H b=ϊ u->¬ AF (ϊ u)->b≠x:=λb u q nm z=>by subst z;rw[q] at mu;exact nm mu
 refine⟨λb u q n _ _=>k b u (X b n) q,λb u q n _ _=>⟨u.slots,k b u (X b n) q⟩,λb u q n _=>by rw[bx (Y b n)];exact n,λb u q _=>?_,
  λb V q=>by rw[bx (Z b _ q λz=>z)];exact q,λb u V q=>by rw[bx (Z b _ q λz=>z)];exact q,λb U q=>⟨#[],by rw[bx (Z b _ q λz=>z),q];simp⟩⟩
 by_cases W:b=e
 ·subst W;exact uh
 ·exact⟨u,k b u W q⟩
end
def ui (h:Ŀ) (H:Hp):List Þ:=(ö h.objs.size).filter λa=>(H a).isSome
def nE (h:Ŀ) (H:Hp):Ŀ:=PySem.W.hideAll h (ui h H)
def Sw (h:Ŀ) (H:Hp):(nE h H).objs.size=h.objs.size:=PySem.W.hideAll_size _ _
def B4 (e:h.get? b=ϊ o) (n:H b=ϋ):(nE h H).get? b=ϊ o :=
 adv _ e λZ=>by
  have q:(H b).isSome=ό:=(Ł.mp Z).2;rw[n] at q;simp at q
def V3 (e:(nE h H).get? b=ϊ o):h.get? b=ϊ o/\H b=ϋ:=by
 have Z:h.get? b=ϊ o:=PySem.W.of_hideAll (ui h H) e;refine⟨Z,?_⟩
 cases q:H b with
 |none=>rfl
 |some x =>
  have Y:b∈ui h H:=Ł.mpr ⟨ø.mpr (Í Z),by simp[q]⟩;have z:(nE h H).get? b=ϋ:=PySem.W.hideAll_none (ui h H) Y;rw[z] at e;cases e
def V4 (g h:Ŀ) (L:Þ):List (Þ×Obj):=(ö h.objs.size).filterMap λa=>if a=L\/(g.get? a).isSome=ό then ϋ else (h.get? a).map λo=>(a,o)
def rest (g h:Ŀ) (L d:Þ):List (Þ×Obj):=(V4 g h L).filter λp=>ώ (p.1≠d)
structure Mod (K:İ) (mg:Str->Option È) (base:Ŀ):Prop where
 lE:K.In base
 glob:base.Ns Ú mg
 blt:∃mb,base.Ns builtinsNs mb/\∀x:Str,x≠"__name__"->mb x=ü x
 nolimit:base.NoLimit
structure Cx where
 prog:ê
 w:Ď
 K:İ
 mg:Str->Option È
 base:Ŀ
 A:ó
 N:List Str
 c8:Æ
 mx:Hp
 env:Env
 outer:List Env
 stack:List Env
 ex:List Þ
 fn:Str->Bool
 calm:Bool
 pn:List 2e7
 xe:È->Æ->Prop
def cm (l:List Env):List Þ:=l.filterMap (·.frame)
abbrev Cx.fs (X:Cx):List Þ:=cm X.outer
def qW (sc:acB) (x:Str):Prop:=sc.names.lookup x=ϊ .local\/sc.names.lookup x=ϊ .cell\/sc.names.lookup x=ϊ .free
def Loc (sc:acB) (x:Str):Prop:=sc.names.lookup x=ϊ .local\/sc.names.lookup x=ϊ .cell
def Look (env:Env) (h:Ŀ) (m:Str->Option È) (x:Str) (u:È):Prop :=
 (env.kindOf x=ϊ .local/\m x=ϊ u)\/((env.kindOf x=ϊ .cell\/env.kindOf x=ϊ .free)/\∃c,env.cells.lookup x=ϊ c/\h.IsCell c (ϊ u))
structure Cx.Ok (X:Cx):Prop where
 mod:Mod X.K X.mg X.base
 kind:X.env.scope.kind=.function
 glob:X.env.globals=Ú
 blt:X.env.builtins=builtinsNs
 above:X.c8.heap.objs.size<=X.env.locals
 inj:∀x y c,X.env.cells.lookup x=ϊ c->X.env.cells.lookup y=ϊ c->x=y
 has:∀x,(X.env.kindOf x=ϊ .cell\/X.env.kindOf x=ϊ .free)->∃c,X.env.cells.lookup x=ϊ c
 uj:∀x c,X.fn x=ό->X.env.cells.lookup x=ϊ c->X.c8.heap.objs.size<=c
 hd:X.calm=ό->X.A.handled=ϋ
 frames:X.A.frames=ϊ X.stack
 jU:X.stack=X.outer\/(X.stack=X.env::X.outer/\X.env.frame=ϊ X.env.locals)
 OI:∀b∈X.ex,b≠X.env.locals/\∀x c,X.env.cells.lookup x=ϊ c->c≠b
 bs:∀b o,X.base.get? b=ϊ o->X.c8.heap.get? b=ϊ o/\X.mx b=ϋ
 jq:X.base.objs.size<=X.c8.heap.objs.size
 oK:∀b o,X.base.get? b=ϊ o->b∉X.ex
 Ai:∀b∈X.ex,b∉X.fs
 jk:X.c8.heap.FunFrames X.base X.outer
 lF:∀b∈X.fs,X.mx b=ϋ
structure Inv (X:Cx) (π:List 2e7) (σ:List (Option V)) (H:Hp) (s:Æ):Prop where
 ok:X.Ok
 os:s.os=X.c8.os
 bare:ae4 s.gens
 base:Un X.fs X.ex X.mx H X.c8.heap s.heap
 loc:∃m,s.heap.Ns X.env.locals m/\∀(i:Nat) (x:Str) (v:V),X.N[i]?=ϊ x->σ[i]?=ϊ (ϊ v)->qW X.env.scope x->∃u,RelV v u/\Look X.env s.heap m x u
 cell:∀x c,X.env.cells.lookup x=ϊ c->∃v,s.heap.IsCell c v
 free:H X.env.locals=ϋ
 jf:∀x c,X.env.cells.lookup x=ϊ c->H c=ϋ
 pin:∀p∈X.pn++π,s.heap.get? p.1=ϊ p.2/\H p.1=ϋ/\p.1≠X.env.locals/\p.1∉X.fs/\∀v,p.2.data≠.cell v
 az:cN X.prog X.w H s.heap
 len:σ.length=X.N.length
section
variable {X:Cx} {π:List (Þ×Obj)} {σ:List (Option V)} {H H':Hp} {s:Æ} {h':Ŀ}
def Cx.Ok.abg (ok:X.Ok) (e:X.base.get? b=ϊ o):b∉X.fs:=λZ=>by
 have:=(ok.jk.mem Z).1;rw[e] at this;cases this
theorem Inv.bs (I:Inv X π σ H s):∀b o,X.base.get? b=ϊ o->s.heap.get? b=ϊ o/\H b=ϋ:=λb o e =>
 ⟨I.base.keep b o (I.ok.bs b o e).1 (I.ok.bs b o e).2 (I.ok.abg e) (I.ok.oK b o e),I.base.free b o (I.ok.bs b o e).1 (I.ok.bs b o e).2 (I.ok.oK b o e)⟩
def Inv.bk (I:Inv X π σ H s):∀b o,X.base.get? b=ϊ o->s.heap.get? b=ϊ o:=λb o e=>(I.bs b o e).1
theorem Inv.mod (I:Inv X π σ H s):Mod X.K X.mg X.base:=I.ok.mod
def Inv.jr (I:Inv X π σ H s):X.K.In s.heap:=I.ok.mod.lE.keeps I.bk
theorem Inv.lt (I:Inv X π σ H s):X.env.locals<s.heap.objs.size:=let ⟨_,Z,_⟩:=I.loc;Z.lt
def Inv.sz (I:Inv X π σ H s):X.c8.heap.objs.size<=s.heap.objs.size:=Ü I.ok.above (Nat.le_of_lt I.lt)
def Inv.tG (I:Inv X π σ H s) {a:Þ} (h:s.heap.objs.size<=a):a∉X.fs:=λZ=>by
 obtain⟨_,o,Y,_⟩:=I.ok.jk.mem Z;exact absurd (Ë (Í Y) (Ü I.sz h)) (ñ _)
def Inv.kH (I:Inv X π σ H s):∀x c,X.env.cells.lookup x=ϊ c->c≠X.env.locals:=λx c e z=>by
 obtain⟨v,o,Z,Y⟩:=I.cell x c e;obtain⟨m,⟨U,T,S,W,V,_⟩,_⟩:=I.loc;rw[z,W] at Z;cases Z;rw[V] at Y;cases Y
theorem Inv.jk (I:Inv X π σ H s):s.heap.FunFrames X.base X.outer:=by
 have all:∀(l:List Env),(∀b∈cm l,b∈X.fs)->X.c8.heap.FunFrames X.base l->s.heap.FunFrames X.base l:=by
  intro l
  induction l with
  |nil=>intro _ _;trivial
  |cons env r ih =>
   intro hs V;obtain⟨U,⟨L,o,Z,T,S,R⟩,Q⟩:=V;have Y:L∈X.fs:=hs L (by delta cm;rw[Ů,Z];exact Õ);obtain⟨sl,e⟩:=I.base.slot L o S (I.ok.lF L Y) Y λz=>I.ok.Ai L z Y;exact⟨U,⟨L,_,Z,T,e,R⟩,ih (λb W=>hs b (by delta cm;rw[Ů,Z];exact Ì _ W)) Q⟩
 exact all X.outer (λ_ W=>W) I.ok.jk
theorem Inv.stack (I:Inv X π σ H s):s.heap.FunFrames X.base X.stack:=by
 rcases I.ok.jU with e | ⟨e,Z⟩
 ·rw[e];exact I.jk
 ·rw[e]
  obtain⟨m,Y,_⟩:=I.loc;calc .cons (by rw[I.ok.kind];decide) Z Y ?_ I.jk;exact Heap.get?_none_of_le (Ü I.ok.jq I.ok.above)
def Inv.ki (I:Inv X π σ H s):∀b∈cm X.stack,b∈X.env.locals::X.fs:=λb Z=>by
 rcases I.ok.jU with e | ⟨e,Y⟩
 ·rw[e] at Z;exact Ì _ Z
 ·rw[e] at Z
  delta cm at Z;rw[Ů,Y] at Z;exact Z
def Inv.vB (I:Inv X π σ H s):∀b∈cm X.stack,H b=ϋ:=λb hb=>by
 rcases Ï.mp (I.ki b hb) with e|hb
 ·rw[e];exact I.free
 ·obtain⟨_,o,Z,_⟩:=I.ok.jk.mem hb
  exact I.base.free b o Z (I.ok.lF b hb) λz=>I.ok.Ai b z hb
def Inv.step {g':Array GenState} {t':Nat} {d':Drawn} {ch:List Þ} (I:Inv X π σ H s)
  (mF:∀b∈ch,(b∈X.ex\/X.c8.heap.objs.size<=b)/\b≠X.env.locals/\(∀x c,X.env.cells.lookup x=ϊ c->c≠b)/\∀p∈X.pn++π,p.1≠b)
  (keep:∀b o,b≠X.env.locals->b∉X.fs->b∉ch->s.heap.get? b=ϊ o->H b=ϋ->h'.get? b=ϊ o)
  (slot:∀b o,b≠X.env.locals->b∈X.fs->b∉ch->s.heap.get? b=ϊ o->H b=ϋ->∃sl,h'.get? b=ϊ { o with slots:=sl }) (free:∀b o,b∉ch->s.heap.get? b=ϊ o->H b=ϋ->H' b=ϋ)
  (there:∀b o,b∉ch->s.heap.get? b=ϊ o->∃o',h'.get? b=ϊ o')
  (fz:∀b xs,H b=ϊ (.tup xs)->H' b=ϊ (.tup xs)) (eR:∀b o u,H b=ϊ (.bz o u)->H' b=ϊ (.bz o u)) (fB:∀b ps,H b=ϊ (.eD ps)->∃more,H' b=ϊ (.eD (ps++more)))
  (ns:∀m,s.heap.Ns X.env.locals m->h'.Ns X.env.locals m) (az:cN X.prog X.w H' h') (hg:ae4 g') :
  Inv X π σ H' { s with heap:=h',gens:=g',drawn:=d',toks:=t' }:=by
 have S:∀b o,X.c8.heap.get? b=ϊ o->b≠X.env.locals:=λb o e=>á (Ë (Í e) I.ok.above);have U:∀b o,X.c8.heap.get? b=ϊ o->b∉X.ex->b∉ch:=λb o e Z Y=>by
  rcases(mF b Y).1 with z|z
  ·exact Z z
  ·exact absurd (Ë (Í e) z) (ñ _)
 have cellK:∀x c,X.env.cells.lookup x=ϊ c->∀v,s.heap.IsCell c v->h'.IsCell c v:=λx c e v ⟨o,W,T⟩=>by
  have V:c∉ch:=λz=>(mF c z).2.2.1 x c e rfl;by_cases R:c∈X.fs
  ·obtain⟨sl,q⟩:=slot c o (I.kH x c e) R V W (I.jf x c e)
   exact⟨_,q,T⟩
  ·exact⟨o,keep c o (I.kH x c e) R V W (I.jf x c e),T⟩
 refine⟨I.ok,I.os,hg,⟨λb o e n Y Z=>?_,λb o e n Y Z=>?_,λb o e n Z=>?_,λb o e Z=>?_,λb xs e=>fz b xs (I.base.fz b xs e),λb o xs e=>eR b o xs (I.base.eR b o xs e),λb ps e=>?_⟩,?_,λx c e=>?_,?_,λx c e=>?_,λp Q=>?_,az,I.len⟩
 ·exact keep b o (S b o e) Y (U b o e Z) (I.base.keep b o e n Y Z) (I.base.free b o e n Z)
 ·obtain⟨sl,e1⟩:=I.base.slot b o e n Y Z
  obtain⟨O,e2⟩:=slot b _ (S b o e) Y (U b o e Z) e1 (I.base.free b o e n Z);exact⟨O,e2⟩
 ·obtain⟨o',e1⟩:=I.base.there b o e Z
  exact free b o' (U b o e Z) e1 (I.base.free b o e n Z)
 ·obtain⟨o',e1⟩:=I.base.there b o e Z
  exact there b o' (U b o e Z) e1
 ·obtain⟨N,e1⟩:=I.base.fB b ps e
  obtain⟨M,e2⟩:=fB b _ e1;exact⟨N++M,by rw[e2,aeI]⟩
 ·obtain⟨m,L,K⟩:=I.loc
  calc⟨m,ns m L,λi x v e1 e2 J=>?_⟩;obtain⟨u,r,l⟩:=K i x v e1 e2 J;refine⟨u,r,?_⟩
  rcases l with l | ⟨k,c,e,z⟩
  ·exact .inl l
  ·exact .inr ⟨k,c,e,cellK x c e _ z⟩
 ·obtain⟨v,z⟩:=I.cell x c e
  exact⟨v,cellK x c e v z⟩
 ·obtain⟨m,⟨o,_,_,W,_⟩,_⟩:=I.loc
  exact free _ o (λz=>(mF _ z).2.1 rfl) W I.free
 ·obtain⟨v,o,W,T⟩:=I.cell x c e
  exact free c o (λz=>(mF c z).2.2.1 x c e rfl) W (I.jf x c e)
 ·obtain⟨e,n,ne,P,d⟩:=I.pin p Q
  have V:p.1∉ch:=λz=>(mF p.1 z).2.2.2 p Q rfl;exact⟨keep p.1 p.2 ne P V e n,free p.1 p.2 V e n,ne,P,d⟩
def Inv.un {t':Nat} (I:Inv X π σ H s) (u:Un X.fs [] H H' s.heap h') (az:cN X.prog X.w H' h'):Inv X π σ H' { s with heap:=h',toks:=t' }:=by
 obtain⟨m,⟨o,Q,P,W,r⟩,_⟩:=id I.loc;obtain⟨sl,U⟩:=u.any W I.free ∅
 exact I.step (g':=s.gens) (d':=s.drawn) (ch:=[]) (λ_ z=>nomatch z) (λb o _ Z _ e n=>u.keep b o e n Z ∅) (λb o _ Z _ e n=>u.slot b o e n Z ∅) (λb o _ e n=>u.free b o e n ∅) (λb o _ e=>u.there b o e ∅) u.fz u.eR u.fB (λO T=>by
  obtain⟨N,Y,S,V,R⟩:=T;rw[W] at V;cases V;exact⟨_,Y,S,U,R⟩) az I.bare
def Inv.call {g':Array GenState} {t':Nat} {d':Drawn} {ch:List Þ} (I:Inv X π σ H s) (u:Un (cm X.stack) ch H H' s.heap h') (az:cN X.prog X.w H' h') (hg:ae4 g')
  (mF:∀b∈ch,(b∈X.ex\/X.c8.heap.objs.size<=b)/\b≠X.env.locals/\(∀x c,X.env.cells.lookup x=ϊ c->c≠b)/\∀p∈X.pn++π,p.1≠b) :
  Inv X π σ H' { s with heap:=h',gens:=g',drawn:=d',toks:=t' }:=by
 obtain⟨m,⟨o,P,O,V,r⟩,_⟩:=id I.loc;obtain⟨sl,Y⟩:=u.any V I.free λz=>(mF _ z).2.1 rfl;exact I.step (ch:=ch) mF (λb o Y T Z e n=>u.keep b o e n (λz=>(Ï.mp (I.ki b z)).elim Y T) Z) (λb o _ _ Z e n=>u.any e n Z) (λb o Z e n=>u.free b o e n Z) (λb o Z e=>u.there b o e Z) u.fz u.eR u.fB (λN S=>by
  obtain⟨M,W,R,U,Q⟩:=S;rw[V] at U;cases U;exact⟨_,W,R,Y,Q⟩) az hg
def Inv.turned {t':Nat} {it:Þ} (I:Inv X π σ H s) (k:∀b o,b≠it->s.heap.get? b=ϊ o->h'.get? b=ϊ o) (hn:H it=ϋ) (hL:it≠X.env.locals)
  (h1:it∈X.ex\/X.c8.heap.objs.size<=it) (h2:∀x c,X.env.cells.lookup x=ϊ c->c≠it) (h3:∀p∈X.pn++π,p.1≠it):Inv X π σ H { s with heap:=h',toks:=t' }:=by
 have Y:∀b u,H b=ϊ u->b≠it:=λb u e z=>by rw[z,hn] at e;cases e
 refine I.step (g':=s.gens) (d':=s.drawn) (ch:=[it]) (λb W=>?_) (λb o _ _ Z e _=>k b o (λz=>Z (by simp[z])) e) (λb o _ _ Z e _=>⟨o.slots,k b o (λz=>Z (by simp[z])) e⟩) (λ_ _ _ _ n=>n)
  (λb o Z e=>⟨o,k b o (λz=>Z (by simp[z])) e⟩) (λ_ _ e=>e) (λ_ _ _ e=>e) (λb R e=>⟨#[],by rw[e];simp⟩) (λm V=>?_) (λb u e=>?_) I.bare
 ·have e:b=it:=by simpa using W
  subst e;exact⟨h1,hL,h2,h3⟩
 ·obtain⟨o,U,T,S,r⟩:=V
  exact⟨o,U,T,k _ o (ŵ hL) S,r⟩
 ·refine(I.az b u e).gy (λc v Z q=>k c v ?_ q) (λ_ q=>q) λ_ _ q=>q
  rcases Z with z|z
  ·rw[z];exact Y b u e
  ·exact Y c _ z
def Inv.tok (I:Inv X π σ H s) (t:Nat):Inv X π σ H { s with toks:=t }:=I.un (h':=s.heap) (t':=t) Un.refl I.az
theorem Inv.kept (I:Inv X π σ H s) (k:∀b u,s.heap.get? b=ϊ u->h'.get? b=ϊ u):Inv X π σ H { s with heap:=h',toks:=t' }:=I.un (Un.kept k) (I.az.kept k)
theorem Inv.laid {a:Þ} {o:HO} {t':Nat} (I:Inv X π σ H s) (k:∀b u,s.heap.get? b=ϊ u->h'.get? b=ϊ u) (hp:s.heap.objs.size<=a) (new:dR X.prog X.w (upd H a o) h' a o) :
  Inv X π σ (upd H a o) { s with heap:=h',toks:=t' }:=I.un (Un.laid k hp (I.az.fresh hp)) (I.az.laid k hp new)
theorem Inv.write (I:Inv X π σ H s) (mu:AF (H x)) (he:e=x\/H e=ϊ (.own x)) (k:∀b u,b≠e->s.heap.get? b=ϊ u->h'.get? b=ϊ u) (uh:∃u,h'.get? e=ϊ u)
 (new:dR X.prog X.w (upd H x o) h' x o):Inv X π σ (upd H x o) { s with heap:=h',toks:=t' }:=I.un (Un.write mu he k uh) (I.az.write mu he k uh new)
def Inv.m7 (I:Inv X π σ H s) (h:∀p∈MR,s.heap.get? p.1=ϊ p.2/\H p.1=ϋ/\p.1≠X.env.locals/\p.1∉X.fs/\∀v,p.2.data≠.cell v):Inv X MR σ H s :=
 ⟨I.ok,I.os,I.bare,I.base,I.loc,I.cell,I.free,I.jf,λp Z=>(Ć.mp Z).elim (λz=>I.pin p (Ā _ z)) (h p),I.az,I.len⟩
def B5 {N:List Str} (hN:N.Nodup) {i j:Nat} {x:Str} (a:N[i]?=ϊ x) (b:N[j]?=ϊ x):i=j:=by
 obtain⟨Z,e1⟩:=Ñ.mp a;obtain⟨Y,e2⟩:=Ñ.mp b;exact(List.getElem_inj hN).mp (e1.trans e2.symm)
def Sx {M:Model} {A:ó} {E:È->Æ->Prop} {i:Nat} {x:Str} {v:V} {u:È} {Q:Unit->Æ->Prop} (I:Inv X π σ H s) (hN:X.N.Nodup) (hi:X.N[i]?=ϊ x) (hx:Loc X.env.scope x) (r:RelV v u)
  (h:∀s',Inv X π (σ.set i (ϊ v)) H s'->(∃a,ı a s.heap s'.heap/\(a=X.env.locals\/X.env.cells.lookup x=ϊ a))->Q () s') (hf:X.fn x=ό\/X.env.scope.names.lookup x=ϊ .local:=by first|exact .inl rfl|exact .inr rfl|assumption):ß M A (storeName X.env x u) Q E s:=by
 obtain⟨m,T,D⟩:=id I.loc;have lh:(X.env.scope.kind==.class||(X.env.scope.kind==.module&&X.env.locals != X.env.globals))=ύ:=by rw[I.ok.kind];rfl
 have C:i < σ.length:=by rw[I.len];exact(Ñ.mp hi).1
 have kH:=I.kH;have tracked:∀{a:Þ} {h':Ŀ},(∃o,s.heap.get? a=ϊ o/\H a=ϋ)->ı a s.heap h'->cN X.prog X.w H h':=λ{a h'} ha hs b ob e=>by
  obtain⟨_,_,B⟩:=ha;refine(I.az b ob e).gy (λc W hc q=>(hs.2 c ?_).trans q) (λ_ q=>q) λ_ _ q=>q;rintro rfl
  rcases hc with rfl|hc
  ·rw[B] at e;cases e
  ·rw[B] at hc;cases hc
 rcases hx with hk|hk
 ·refine wpAny_storeName_local hk T (λh' kI hs=>?_) lh
  obtain⟨oL,_,_,uk,_⟩:=id T;refine h _ ⟨I.ok,I.os,I.bare,⟨λb o e n Z hx=>?_,λb o e n Z hx=>?_,I.base.free,λb o e hx=>?_,I.base.fz,I.base.eR,I.base.fB⟩,⟨_,kI,λj y S e1 e2 R=>?_⟩,λy c e=>?_,I.free,I.jf,λp P=>?_,tracked ⟨oL,uk,I.free⟩ hs,by simpa using I.len⟩ ⟨_,hs,.inl rfl⟩
  ·exact(hs.2 b (á (Ë (Í e) I.ok.above))).trans (I.base.keep b o e n Z hx)
  ·obtain⟨sl,e1⟩:=I.base.slot b o e n Z hx
   exact⟨sl,(hs.2 b (á (Ë (Í e) I.ok.above))).trans e1⟩
  ·obtain⟨O,e1⟩:=I.base.there b o e hx
   exact⟨O,(hs.2 b (á (Ë (Í e) I.ok.above))).trans e1⟩
  ·by_cases Y:j=i
   ·subst Y
    rw[hi] at e1;cases e1;rw[Đ C] at e2;cases e2;exact⟨u,r,.inl ⟨hk,by simp⟩⟩
   ·rw[ā (ŵ Y)] at e2
    obtain⟨L,K,q⟩:=D j y S e1 e2 R;refine⟨L,K,?_⟩
    rcases q with ⟨k,e⟩ | ⟨k,c,e,z⟩
    ·refine .inl ⟨k,?_⟩
     have:y≠x:=λe=>Y (B5 hN e1 (e ▸ hi));simp[this,e]
    ·exact .inr ⟨k,c,e,z.sameBut hs (kH y c e)⟩
  ·obtain⟨W,z⟩:=I.cell y c e
   exact⟨W,z.sameBut hs (kH y c e)⟩
  ·obtain⟨e,n,ne,J,d⟩:=I.pin p P
   exact⟨(hs.2 p.1 ne).trans e,n,ne,J,d⟩
 ·have G:X.fn x=ό:=by
   rcases hf with z|z
   ·exact z
   ·rw[z] at hk;cases hk
  obtain⟨c,hc⟩:=I.ok.has x (.inl hk);obtain⟨W,z⟩:=I.cell x c hc;calc wpAny_storeName_cell I.ok.kind hk hc z (λh' t hs=>?_);obtain⟨l,g,F⟩:=id z
  refine h { s with heap:=h' } ⟨I.ok,I.os,I.bare,⟨λb o e n Z hx=>?_,λb o e n Z hx=>?_,I.base.free,λb o e hx=>?_,I.base.fz,I.base.eR,I.base.fB⟩,⟨m,T.sameBut hs (ŵ (kH x c hc)),λj y S e1 e2 R=>?_⟩,λy U e=>?_,I.free,I.jf,λp P=>?_,tracked ⟨l,g,I.jf x c hc⟩ hs,by simpa using I.len⟩ ⟨c,hs,.inr hc⟩
  ·exact(hs.2 b (á (Ë (Í e) (I.ok.uj x c G hc)))).trans (I.base.keep b o e n Z hx)
  ·obtain⟨sl,e1⟩:=I.base.slot b o e n Z hx
   exact⟨sl,(hs.2 b (á (Ë (Í e) (I.ok.uj x c G hc)))).trans e1⟩
  ·obtain⟨O,e1⟩:=I.base.there b o e hx
   exact⟨O,(hs.2 b (á (Ë (Í e) (I.ok.uj x c G hc)))).trans e1⟩
  ·by_cases Y:j=i
   ·subst Y
    rw[hi] at e1;cases e1;rw[Đ C] at e2;cases e2;exact⟨u,r,.inr ⟨.inl hk,c,hc,t⟩⟩
   ·rw[ā (ŵ Y)] at e2
    obtain⟨L,K,q⟩:=D j y S e1 e2 R;refine⟨L,K,?_⟩
    rcases q with q | ⟨k,U,e,z'⟩
    ·exact .inl q
    ·refine .inr ⟨k,U,e,z'.sameBut hs ?_⟩
     rintro rfl;exact Y (B5 hN e1 (I.ok.inj _ _ _ e hc ▸ hi))
  ·by_cases f:U=c
   ·subst f;exact⟨_,t⟩
   ·obtain⟨w2,z2⟩:=I.cell y U e
    exact⟨w2,z2.sameBut hs f⟩
  ·obtain⟨e,n,ne,J,d⟩:=I.pin p P
   calc⟨(hs.2 p.1 ?_).trans e,n,ne,J,d⟩;intro q;rw[q,g] at e;have q':l=p.2:=afo e;exact d W (by rw[<- q'];exact F)
def mY (I:Inv X π σ H s) (hN:X.N.Nodup) (hi:X.N[i]?=ϊ x) (hx:Loc X.env.scope x) (r:RelV v u)
 (h:∀s',Inv X π (σ.set i (ϊ v)) H s'->Q () s') (hf:X.fn x=ό\/X.env.scope.names.lookup x=ϊ .local:=by first|exact .inl rfl|exact .inr rfl|assumption):ß M A (storeName X.env x u) Q E s :=
 Sx I hN hi hx r (λs' Z _=>h s' Z) hf
def Inv.sU (I:Inv X π σ H s) (ho:s'.os=s.os) (u:Un (cm X.stack) ch H H' s.heap s'.heap) (az:cN X.prog X.w H' s'.heap) (hg:ae4 s'.gens)
 (mF:∀b∈ch,(b∈X.ex\/X.c8.heap.objs.size<=b)/\b≠X.env.locals/\(∀x c,X.env.cells.lookup x=ϊ c->c≠b)/\∀p∈X.pn++π,p.1≠b):Inv X π σ H' s':=by
 obtain⟨h',g',d',t',Z⟩:=s';have e:Z=s.os:=ho;subst e;exact I.call (g':=g') (t':=t') (d':=d') u az hg mF
end
abbrev XK:=È->Option Þ->Hp->Prop
abbrev St:=List (Option V)
abbrev VK:=V->Hp->Prop
abbrev TE:=St->Hp->VK->Prop
abbrev TT:=St->Hp->(Bool->Hp->Prop)->Prop
abbrev TA:=St->Hp->(List V->Hp->Prop)->Prop
structure Ends where
 nx:St->Hp->Prop
 rt:VK
 bk:St->Hp->Prop:=λ_ _=>False
 ct:St->Hp->Prop:=λ_ _=>False
abbrev TS:=Ends->St->Hp->Prop
def EP (X:Cx) (π:List 2e7) (σ:St) (Q:VK) (u:È) (s':Æ):Prop:=∃v Z,Inv X π σ Z s'/\RelV v u/\Q v Z
def TP (X:Cx) (π:List 2e7) (σ:St) (Q:Bool->Hp->Prop) (b:Bool) (s':Æ):Prop:=∃Z,Inv X π σ Z s'/\Q b Z
def AP (X:Cx) (π:List 2e7) (σ:St) (Q:List V->Hp->Prop) (us:List È) (s':Æ):Prop:=∃Z Y,Inv X π σ Y s'/\Vals Z us/\Q Z Y
def SP (X:Cx) (π:List 2e7) (D:Ends) (f:Flow) (s':Æ):Prop :=
 match f with
 | .next=>∃ Y Z,Inv X π Y Z s'/\D.nx Y Z
 | .brk=>∃ Y Z,Inv X π Y Z s'/\D.bk Y Z
 | .cont=>∃ Y Z,Inv X π Y Z s'/\D.ct Y Z
 | .ret u=>∃v Y Z,Inv X π Y Z s'/\RelV v u/\D.rt v Z
def PE (X:Cx) (e:ĳ) (t:TE):Prop :=
 ∀(Z:List (Þ×Obj)) (s:Æ) (σ:St) (H:Hp) (Q:VK),Inv X Z σ H s->t σ H Q->ß 0e2 X.A (ŗ e X.env) (EP X Z σ Q) X.xe s
def PT (X:Cx) (e:ĳ) (t:TT):Prop :=
 ∀(Z:List (Þ×Obj)) (s:Æ) (σ:St) (H:Hp) (Q:Bool->Hp->Prop),Inv X Z σ H s->t σ H Q->ß 0e2 X.A (isTrue e X.env (ŗ e X.env)) (TP X Z σ Q) X.xe s
def PW (X:Cx) (e:ĳ) (t:TT):Prop :=
 ∀(whole:Sem È) (Z:List (Þ×Obj)) (s:Æ) (σ:St) (H:Hp) (Q:Bool->Hp->Prop),Inv X Z σ H s->t σ H Q->ß 0e2 X.A (isTrue e X.env whole) (TP X Z σ Q) X.xe s
def PW.pt (h:PW X e t):PT X e t:=h _
def PA (X:Cx) (es:List ĳ) (t:TA):Prop :=
 ∀(pos:Pos) (Z:List (Þ×Obj)) (s:Æ) (σ:St) (H:Hp) (Q:List V->Hp->Prop),Inv X Z σ H s->t σ H Q->ß 0e2 X.A (spliced (ŀ pos (Ð es X.env))) (AP X Z σ Q) X.xe s
def PS (X:Cx) (st:aeW) (t:TS):Prop :=
 ∀(Z:List (Þ×Obj)) (s:Æ) (σ:St) (H:Hp) (D:Ends),Inv X Z σ H s->t D σ H->ß 0e2 X.A (exec st X.env) (SP X Z D) X.xe s
def dq (X:Cx) (st:List aeW) (t:TS):Prop :=
 ∀(Z:List (Þ×Obj)) (s:Æ) (σ:St) (H:Hp) (D:Ends),Inv X Z σ H s->t D σ H->ß 0e2 X.A (execs st X.env) (SP X Z D) X.xe s
def aJ {α:Type} {t:Sem α} {Q Q':α->Æ->Prop} {M:Model} {A:ó} {E:È->Æ->Prop} {s:Æ} (h:ß M A t Q E s) (hQ:∀a s,Q a s->Q' a s):ß M A t Q' E s:=ħ h hQ λ_ _ x=>x
section
variable {X:Cx}
def abi (i:Nat):TE:=fun σ H Q=>∃v,σ[i]?=ϊ (ϊ v)/\Q v H
def tC (v:V):TE:=λ_ H Q=>Q v H
def LQ {i:Nat} {x:Str} {pos:Pos} (hN:X.N[i]?=ϊ x) (hv:qW X.env.scope x) (hd:0e8=ύ:=by decide) (fc:(x==("__classdict__":Str))=ύ:=by decide):PE X (.Name x pos) (abi i):=by
 intro W s σ H Q I h;obtain⟨v,e,h⟩:=h;obtain⟨m,V,U⟩:=I.loc;obtain⟨u,r,l⟩:=U i x v hN e hv;have fin:EP X W σ Q u s:=⟨v,H,I,r,h⟩
 rcases l with ⟨hk,T⟩ | ⟨hk,c,Z,Y⟩
 ·exact wpAny_Name (wpAny_loadName_local I.ok.kind hk V T fin) hd
 ·rcases hk with hk|hk
  ·exact wpAny_Name (wpAny_loadName_cell I.ok.kind hk Z Y fin) hd
  ·exact wpAny_Name (wpAny_loadName_free I.ok.kind hk Z Y fin fc) hd
def LR {i j pos}:PE X (.Constant 4e5 j pos) (tC 4e5):=λ_ _ _ H _ I h=>wpAny_Constant_int ⟨.int i,H,I.tok _,5e0,h⟩
def D8 {b j pos}:PE X (.Constant (.bool b) j pos) (tC (.bl b)):=λ_ _ _ H _ I h=>Constant_bool ⟨.bl b,H,I,rfl,h⟩
def XS {j pos}:PE X (.Constant .none j pos) (tC .ak):=λ_ _ _ H _ I h=>Constant_none ⟨.ak,H,I,rfl,h⟩
def XU {x j pos}:PE X (.Constant 1e3 j pos) (tC 1e3):=λ_ _ _ H _ I h=>Calls.Constant_str ⟨.str x,H,I.tok _,5e0,h⟩
def Gl (X:Cx) (x:Str):Prop:=X.env.kindOf x=ϊ .globalImplicit
def sj {E:È->Æ->Prop} {π:List 2e7} {s:Æ} {σ:St} {H:Hp} {x:Str} {u:È} {pos:Pos} {Q:È->Æ->Prop} (I:Inv X π σ H s) (hg:Gl X x) (hm:X.mg x=ϊ u) (h:Q u s)
  (hd:0e8=ύ:=by decide):ß 0e2 X.A (ŗ (.Name x pos) X.env) Q E s :=
 Calls.Name_function_global I.ok.kind hg (Calls.loadGlobal_global (by rw[I.ok.glob];exact I.mod.glob.keeps I.bk) hm h) hd
def sG {E:È->Æ->Prop} {π:List 2e7} {s:Æ} {σ:St} {H:Hp} {x:Str} {u:È} {pos:Pos} {Q:È->Æ->Prop} (I:Inv X π σ H s) (hg:Gl X x) (hm:X.mg x=ϋ) (hv:ü x=ϊ u) (h:Q u s)
  (hn:x≠"__name__":=by decide) (hd:0e8=ύ:=by decide):ß 0e2 X.A (ŗ (.Name x pos) X.env) Q E s:=by
 obtain⟨W,Z,Y⟩:=I.mod.blt;exact Calls.Name_function_global I.ok.kind hg (Calls.loadGlobal_builtin (by rw[I.ok.glob];exact I.mod.glob.keeps I.bk) hm (by rw[I.ok.blt];exact Z.keeps I.bk) ((Y x hn).trans hv) h) hd
def Cz (hg:Gl X x) (hm:X.mg x=ϊ u) (r:RelV v u) (hd:0e8=ύ:=by decide):PE X (.Name x pos) (tC v) :=
 λ_ _ _ H _ I h=>sj I hg hm ⟨v,H,I,r,h⟩ hd
def yY {x:Str} {v:V} {u:È} {pos:Pos} (hg:Gl X x) (hm:X.mg x=ϋ) (hv:ü x=ϊ u) (r:RelV v u) (hn:x≠"__name__":=by decide) (hd:0e8=ύ:=by decide):PE X (.Name x pos) (tC v) :=
 λ_ _ _ H _ I h=>sG I hg hm hv ⟨v,H,I,r,h⟩ hn hd
variable {a b:ĳ} {ta tb:TE} {pos:Pos}
variable {tA AJ:TT} {rest:List ĳ}
def fL (t u:TT):TT:=fun σ H Q=>t σ H λc Z=>if c=ό then u σ Z Q else Q ύ Z
def gU (t u:TT):TT:=fun σ H Q=>t σ H λc Z=>if c=ό then Q ό Z else u σ Z Q
def fM (t:TT):TT:=fun σ H Q=>t σ H λc Z=>Q (!c) Z
def V5 (ha:PT X a tA):PW X (.BoolOp .And [a] pos) tA:=by
 intro Y Z s σ H Q I h;refine isTrue_and (aJ (ha Z s σ H Q I h) λc W e=>?_)
 cases c with
 |true=>exact isTrue_and_nil e
 |false=>exact e
def XW (ha:PT X a tA):PW X (.BoolOp .Or [a] pos) tA:=by
 intro Y Z s σ H Q I h;refine isTrue_or (aJ (ha Z s σ H Q I h) λc W e=>?_)
 cases c with
 |false=>exact isTrue_or_nil e
 |true=>exact e
def XX (ha:PT X a tA) (hb:PW X (.BoolOp .And (b::rest) pos) AJ):PW X (.BoolOp .And (a::b::rest) pos) (fL tA AJ):=by
 intro U Z s σ H Q I h;refine isTrue_and (aJ (ha Z s σ H _ I h) λc T ⟨Y,W,V⟩=>?_)
 cases c with
 |true=>exact hb U Z T σ Y Q W V
 |false=>exact⟨Y,W,V⟩
def ZU (ha:PT X a tA) (hb:PW X (.BoolOp .Or (b::rest) pos) AJ):PW X (.BoolOp .Or (a::b::rest) pos) (gU tA AJ):=by
 intro U Z s σ H Q I h;refine isTrue_or (aJ (ha Z s σ H _ I h) λc T ⟨Y,W,V⟩=>?_)
 cases c with
 |true=>exact⟨Y,W,V⟩
 |false=>exact hb U Z T σ Y Q W V
def XY (ha:PT X a tA):PT X (.UnaryOp .Not a pos) (fM tA):=by
 intro Z s σ H Q I h;exact isTrue_not (ha Z s σ H (λc Y=>Q (!c) Y) I h)
def ZV (ta tb:TE):TE:=fun σ H Q=>ta σ H λx Z=>∃c,x=.bl c/\if c=ό then tb σ Z Q else Q 3e8 Z
def abj (ta tb:TE):TE:=fun σ H Q=>ta σ H λx Z=>∃c,x=.bl c/\if c=ό then Q 6e1 Z else tb σ Z Q
def ZW (ta:TE):TE:=fun σ H Q=>ta σ H λx Z=>∃c,x=.bl c/\Q (.bl (!c)) Z
def XZ {op} (h:PE X a t):PE X (.BoolOp op [a] pos) t:=λZ s σ H Q I hw=>BoolOp_one (h Z s σ H Q I hw)
def X0 (ha:PE X a ta) (hb:PE X (.BoolOp .And (b::rest) pos) tb):PE X (.BoolOp .And (a::b::rest) pos) (ZV ta tb):=by
 intro Y s σ H Q I h;calc BoolOp_and (aJ (ha Y s σ H _ I h) λv U ⟨x,W,V,T,Z⟩=>?_);obtain⟨c,rfl,Z⟩:=Z;cases T;refine Ū ?_
 cases c with
 |true=>exact hb Y U σ W Q V Z
 |false=>exact⟨.bl ύ,W,V,rfl,Z⟩
def ZX (ha:PE X a ta) (hb:PE X (.BoolOp .Or (b::rest) pos) tb):PE X (.BoolOp .Or (a::b::rest) pos) (abj ta tb):=by
 intro Y s σ H Q I h;calc BoolOp_or (aJ (ha Y s σ H _ I h) λv U ⟨x,W,V,T,Z⟩=>?_);obtain⟨c,rfl,Z⟩:=Z;cases T;refine Ū ?_
 cases c with
 |false=>exact hb Y U σ W Q V Z
 |true=>exact⟨.bl ό,W,V,rfl,Z⟩
def X1 (ha:PE X a ta):PE X (.UnaryOp .Not a pos) (ZW ta):=by
 intro Y s σ H Q I h;calc UnaryOp_ (aJ (ha Y s σ H _ I h) λv T ⟨x,W,V,U,Z⟩=>?_);obtain⟨c,rfl,Z⟩:=Z;cases U;exact not_of (Ū ⟨.bl (!c),W,V,rfl,Z⟩)
def tIf (t:TT) (ta tb:TE):TE:=fun σ H Q=>t σ H λc Z=>if c=ό then ta σ Z Q else tb σ Z Q
def Ui {c:ĳ} (hc:PT X c tA) (ha:PE X a ta) (hb:PE X b tb):PE X (.IfExp c a b pos) (tIf tA ta tb):=by
 intro Z s σ H Q I h;refine wpAny_IfExp (aJ (hc Z s σ H _ I h) λd Y ⟨W,V,U⟩=>?_)
 cases d with
 |true=>exact ha Z Y σ W Q V U
 |false=>exact hb Z Y σ W Q V U
end
def bN (K:İ) (H:Hp) (a:Þ) (xs:List V):Prop :=
 Rd H a (.lst xs) \/
  ∃(o:Obj) (its:Array È) (n:Nat),K.lookup a=ϊ o/\o.cls=.type "list"/\o.dict=ϋ/\o.data=.seq its n/\its.size<=Ù/\Vals xs its.toList
def bO (K:İ) (H:Hp) (a:Þ) (xs:List V):Prop :=
 Rd H a (.tup xs) \/
  ∃(o:Obj) (its:Array È) (n:Nat),K.lookup a=ϊ o/\o.cls=.type "tuple"/\o.data=.seq its n/\its.size<=Ù/\Vals xs its.toList
def abk:È->Option V
 | .none=>ϊ .ak
 | .bool b=>ϊ (.bl b)
 | .int i _=>ϊ 4e5
 | .str x _=>ϊ 1e3
 | .bytes b _=>ϊ (.jT b)
 | .float b _=>ϊ (.Fy b)
 | .ref a=>ϊ 6e2
 | .type n=>ϊ (.ty n)
 |_=>ϋ
def RelV.abs (r:RelV x u):abk u=ϊ x:=by
 cases x with
 |ak=>cases r;rfl
 |bl _=>cases r;rfl
 |int _=>obtain⟨t,rfl⟩:=r;rfl
 |str _=>obtain⟨t,rfl⟩:=r;rfl
 |jT _=>obtain⟨t,rfl⟩:=r;rfl
 |Fy _=>obtain⟨t,rfl⟩:=r;rfl
 |ref _=>cases r;rfl
 |ty _=>cases r;rfl
def RelV.inj (r:RelV x u) (q:RelV y u):x=y:=afo (r.abs.symm.trans q.abs)
theorem Vals.inj:∀{xs ys:List V} {us:List È},Vals xs us->Vals ys us->xs=ys
 |_,_,_,.nil,.nil=>rfl
 |_,_,_,.cons r t,.cons Z Y=>by rw[r.inj Z,Vals.inj t Y]
section
variable {X:Cx} {π:List (Þ×Obj)} {σ:St} {H:Hp} {s:Æ} {a:Þ} {xs ys:List V}
def bN.of {K:İ} (h:H a=ϊ (.lst xs)):bN K H a xs:=.inl (.inl h)
def bO.of {K:İ} (h:H a=ϊ (.tup xs)):bO K H a xs:=.inl (.inl h)
def Inv.list (I:Inv X π σ H s) (h:bN X.K H a xs):∃its:List È,Vals xs its/\PlainL s.heap a its.toArray/\xs.length<=Ù:=by
 rcases h with h | ⟨o,its,n,Z,Y,W,hs,V,r⟩
 ·obtain⟨z,its,n,r,e⟩:=h.ok I.az
  exact⟨its,r,⟨_,n,e,rfl,rfl,rfl⟩,z⟩
 ·refine⟨its.toList,r,⟨o,n,I.jr a o Z,Y,W,by simpa using hs⟩,?_⟩
  have e:=r.length;erw[ë] at e;omega
def Inv.tuple (I:Inv X π σ H s) (h:bO X.K H a xs):∃its:List È,Vals xs its/\IsTup s.heap a its.toArray/\xs.length<=Ù:=by
 rcases h with h | ⟨o,its,n,Z,Y,hs,W,r⟩
 ·obtain⟨z,its,r,p⟩:=h.ok I.az
  exact⟨its,r,p,z⟩
 ·refine⟨its.toList,r,⟨o,I.jr a o Z,Y,n,by simpa using hs⟩,?_⟩
  have e:=r.length;erw[ë] at e;omega
def Inv.JO (I:Inv X π σ H s) (h:bN X.K H a xs) (h':bN X.K H a ys):xs=ys:=by
 obtain⟨its,r,⟨o,n,e,_,_,d⟩,_⟩:=I.list h;obtain⟨Z,V,⟨T,S,Y,_,_,W⟩,_⟩:=I.list h';rw[e] at Y;cases Y;rw[d] at W
 injection W with U _
 have:its=Z:=by simpa using ĵ Array.toList U
 subst this;exact r.inj V
def Inv.Jd (I:Inv X π σ H s) (h:bO X.K H a xs) (h':bO X.K H a ys):xs=ys:=by
 obtain⟨its,r,⟨o,e,_,n,d⟩,_⟩:=I.tuple h;obtain⟨Z,V,⟨T,Y,_,S,W⟩,_⟩:=I.tuple h';rw[e] at Y;cases Y;rw[d] at W
 injection W with U _
 have:its=Z:=by simpa using ĵ Array.toList U
 subst this;exact r.inj V
end
abbrev Cx.eY (X:Cx) (E:È->Æ->Prop):Cx:={ X with xe:=E }
abbrev Cx.nL (X:Cx):Cx:=X.eY λ_ _=>False
theorem Cx.Ok.eY {X:Cx} (ok:X.Ok) (E:È->Æ->Prop):(X.eY E).Ok :=
 ⟨ok.mod,ok.kind,ok.glob,ok.blt,ok.above,ok.inj,ok.has,ok.uj,ok.hd,ok.frames,ok.jU,ok.OI,ok.bs,ok.jq,ok.oK,ok.Ai,ok.jk,ok.lF⟩
def Cx.Ok.l7 {X:Cx} {E:È->Æ->Prop} (ok:(X.eY E).Ok):X.Ok :=
 ⟨ok.mod,ok.kind,ok.glob,ok.blt,ok.above,ok.inj,ok.has,ok.uj,ok.hd,ok.frames,ok.jU,ok.OI,ok.bs,ok.jq,ok.oK,ok.Ai,ok.jk,ok.lF⟩
section
variable {X:Cx} {π:List (Þ×Obj)} {σ:St} {H:Hp} {s:Æ} {E:È->Æ->Prop}
theorem Inv.eY (I:Inv X π σ H s) (E:È->Æ->Prop):Inv (X.eY E) π σ H s:=⟨I.ok.eY E,I.os,I.bare,I.base,I.loc,I.cell,I.free,I.jf,I.pin,I.az,I.len⟩
theorem Inv.l7 (I:Inv (X.eY E) π σ H s):Inv X π σ H s:=⟨I.ok.l7,I.os,I.bare,I.base,I.loc,I.cell,I.free,I.jf,I.pin,I.az,I.len⟩
theorem SP.l7 (h:SP (X.eY E) π D f s'):SP X π D f s':=by
 cases f with
 |next=>obtain⟨Z,Y,I,q⟩:=h;exact⟨Z,Y,I.l7,q⟩
 |brk=>obtain⟨Z,Y,I,q⟩:=h;exact⟨Z,Y,I.l7,q⟩
 |cont=>obtain⟨Z,Y,I,q⟩:=h;exact⟨Z,Y,I.l7,q⟩
 |ret u=>obtain⟨v,Z,Y,I,r,q⟩:=h;exact⟨v,Z,Y,I.l7,r,q⟩
theorem dq.nL {st:List aeW} {t:TS} (h:dq X.nL st t):dq X st t:=λπ s σ H D I hw =>
 ħ (h π s σ H D (I.eY _) hw) (λ_ _ q=>q.l7) λ_ _ z=>Ī z
end
section
variable {X:Cx} {st:aeW} {rest:List aeW} {t u:TS} {e:ĳ} {te:TE} {pos:Pos}
def ZY:TS:=λD σ H=>D.nx σ H
def abl (t u:TS):TS:=λD σ H=>t { D with nx:=u D } σ H
def V6:dq X [] ZY:=λ_ _ σ H _ I h=>wpAny_execs_nil ⟨σ,H,I,h⟩
def Uj (h1:PS X st t) (h2:dq X rest u):dq X (st::rest) (abl t u):=by
 intro Z s σ H D I h
 refine wpAny_execs_cons (aJ (h1 Z s σ H { D with nx:=u D } I h) λf Y q=>?_)
 cases f with
 |next =>
  obtain⟨W,V,U,q⟩:=q;exact h2 Z Y W V D U q
 |ret v=>exact q
 |brk=>exact q
 |cont=>exact q
def V7 (h1:PS X st t):dq X [st] t:=by
 intro Z s σ H D I h;refine wpAny_execs_cons (aJ (h1 Z s σ H D I h) λf Y q=>?_)
 cases f with
 |next=>exact wpAny_execs_nil q
 |ret v=>exact q
 |brk=>exact q
 |cont=>exact q
def Inv.quiet {π:List 2e7} {σ:St} {H:Hp} {s:Æ} (I:Inv X π σ H s):interactive X.env=ύ:=by simp[interactive,I.ok.kind]
def ZZ (te:TE):TS:=λD σ H=>te σ H λ_ Z=>D.nx σ Z
def V8 (he:PE X e te) (hs:swapsWith e ϋ pos.line X.env=pure ύ:=by rfl):PS X (.Expr e pos) (ZZ te):=by
 intro Z s σ H D I h;exact wpAny_Expr_any (aJ (he Z s σ H _ I h) λv U ⟨x,Y,W,T,V⟩=>⟨σ,Y,W,V⟩) I.quiet hs
def abm (te:TE):TS:=λD σ H=>te σ H D.rt
def X2 (he:PE X e te):PS X (.Return (ϊ e) pos) (abm te):=by
 intro Z s σ H D I h;exact wpAny_Return_some (aJ (he Z s σ H _ I h) λv T ⟨x,Y,W,V,U⟩=>⟨x,σ,Y,W,V,U⟩)
def abn (c:TT) (t u:TS):TS:=λD σ H=>c σ H λb Z=>if b=ό then t D σ Z else u D σ Z
def Z0 {c:ĳ} {a b:List aeW} {tc:TT} (hc:PT X c tc) (ha:dq X a t) (hb:dq X b u):PS X (.If c a b pos) (abn tc t u):=by
 intro Z s σ H D I h;refine wpAny_If (aJ (hc Z s σ H _ I h) λd Y ⟨W,V,U⟩=>?_)
 cases d with
 |true=>exact ha Z Y σ W D V U
 |false=>exact hb Z Y σ W D V U
end
abbrev TG:=V->St->Hp->(St->Hp->Prop)->Prop
abbrev jV:=List V->St->Hp->(St->Hp->Prop)->Prop
def PG (X:Cx) (target:ĳ) (t:TG):Prop :=
 ∀(Z:List (Þ×Obj)) (s:Æ) (σ:St) (H:Hp) (v:V) (u:È) (Q:St->Hp->Prop),Inv X Z σ H s->RelV v u->t v σ H Q ->
  ß 0e2 X.A (aeJ target X.env u) (λ_ U=>∃ Y W,Inv X Z Y W U/\Q Y W) X.xe s
def kJ (X:Cx) (ts:List ĳ) (t:jV):Prop :=
 ∀(Z:List (Þ×Obj)) (s:Æ) (σ:St) (H:Hp) (Y:List V) (W:List È) (Q:St->Hp->Prop),Inv X Z σ H s->Vals Y W->t Y σ H Q ->
  ß 0e2 X.A (adH ((Ř ts X.env).map (·.2)) W) (λ_ S=>∃ U T,Inv X Z U T S/\Q U T) X.xe s
abbrev EO:=V->V->V->Hp->(Hp->Prop)->Prop
def N4 (X:Cx) (t:EO):Prop :=
 ∀(Z:List (Þ×Obj)) (s:Æ) (σ:St) (H:Hp) (o i v:V) (Y W u:È) (Q:Hp->Prop),Inv X Z σ H s->RelV o Y->RelV i W->RelV v u->t o i v H Q ->
  ß 0e2 X.A (setItem Y W u) (λ_ T=>∃U,Inv X Z σ U T/\Q U) X.xe s
section
variable {X:Cx} {pos:Pos}
def nk (i:Nat):TG:=λv σ H Q=>Q (σ.set i (ϊ v)) H
def iA (hN:X.N.Nodup) (hi:X.N[i]?=ϊ x) (hx:Loc X.env.scope x) (hf:X.fn x=ό\/X.env.scope.names.lookup x=ϊ .local:=by first|exact .inl rfl|exact .inr rfl|assumption):PG X (.Name x pos) (nk i):=by
 intro Y s σ H v u Q I r h;exact wpAny_assign_Name (mY I hN hi hx r (λW Z=>⟨_,H,Z,h⟩) hf)
def ER:jV:=λZ σ H Q=>Z=[]/\Q σ H
def D9 (t:TG) (u:jV):jV:=λZ σ H Q=>∃v r,Z=v::r/\t v σ H fun Y X=>u r Y X Q
def yZ:kJ X [] ER:=by
 intro Z s σ H Y W Q I r h;obtain⟨e,h⟩:=h;subst e;cases r;exact assignInOrder_nil ⟨σ,H,I,h⟩
def p9 {e:ĳ} {es:List ĳ} {t:TG} {u:jV} (h1:PG X e t) (h2:kJ X es u)
  (hs:(Ř 8e7 X.env).map (·.2)=aeJ e X.env::(Ř es X.env).map (·.2):=by rfl):kJ X 8e7 (D9 t u):=by
 intro Z s σ H R P Q I r h;obtain⟨v,O,e1,h⟩:=h;subst e1
 cases r with
 |cons r Y =>
  rw[hs];calc Ž (aJ (h1 Z s σ H _ _ _ I r h) λ_ W ⟨V,U,T,S⟩=>?_);exact h2 Z W V U _ _ Q T Y S
def ES (K:İ) (n:Nat) (t:jV):TG:=λv σ H Q=>∃a Z,v=.ref a/\bO K H a Z/\Z.length=n/\t Z σ H Q
def zx {k:Nat} {n:Nat} (hc:X.calm=ό) (h:kJ X es t)
 (hn:(Ř es X.env).length=n:=by rfl) (gG:(Ř es X.env).findIdx? (·.1)=ϋ:=by rfl):PG X (.Tuple es k pos) (ES X.K n t):=by
 intro Z s σ H v u Q I r hw;obtain⟨a,W,e1,V,U,hw⟩:=hw;subst e1;cases r;obtain⟨its,Y,T,O⟩:=I.tuple V;refine assign_Tuple_tuple (I.ok.hd hc) T (by simp[hn,<- U,Y.length]) gG λS R=>?_
 have P:Inv X Z σ H { s with heap:=S }:=I.kept (t':=s.toks) λb o e=>R b o (á (Í e)) e
 exact h Z _ σ H W _ Q P (by simpa using Y) hw
def abo (to ti:TE) (t:EO):TG:=λv σ H Q=>to σ H λo Z=>ti σ Z λi Y=>t o i v Y λX=>Q σ X
def X6 {o i:ĳ} {to ti:TE} {t:EO} (ho:PE X o to) (hi:PE X i ti) (hs:N4 X t)
  (ha:∀v,aeJ (.Subscript o i pos) X.env v=(do
   let ov <- aej [v] (ŗ o X.env)
   let iv <- aej [v,ov] (ŗ i X.env)
   aeU pos
   aej [v,ov,iv] (setItem ov iv v)
   release [v,ov,iv] []):=by intro _;rfl):PG X (.Subscript o i pos) (abo to ti t):=by
 intro Z s σ H v u Q I r h;rw[ha];calc À (Ĉ (aJ (ho Z s σ H _ I h) λov Y ⟨x,W,V,U,T⟩=>?_));calc À (Ĉ (aJ (hi Z Y σ W _ V T) λiv S ⟨y,R,P,O,N⟩=>?_));calc À (ž (À (Ĉ (aJ (hs Z S σ R x y v ov iv u _ P U O r N) λ_ J ⟨M,L,K⟩=>?_))));exact wpAny_release ⟨σ,M,L,K⟩
def tH (te:TE) (g:TG):TS:=λD σ H=>te σ H λx Z=>g x σ Z D.nx
def LS {tg e:ĳ} {te:TE} {g:TG} (he:PE X e te) (hg:PG X tg g) (hs:ac6 [tg] e pos.line X.env=pure ύ:=by rfl) (hw:ac7 [tg] e X.env=pure ϋ:=by rfl)
  (h1:(Ř [tg] X.env).map (·.2)=[aeJ tg X.env]:=by rfl):PS X (.Assign [tg] e pos) (tH te g):=by
 intro Z s σ H D I h;calc wpAny_Assign_stores (aJ (he Z s σ H _ I h) λv Y ⟨x,W,V,U,T⟩=>?_) hs hw;rw[h1];exact aJ (hg Z Y σ W x v _ V U T) λ_ S q=>q
def X7 {i:Nat} {x:Str} {e:ĳ} {te:TE} {pos':Pos} (hN:X.N.Nodup) (hi:X.N[i]?=ϊ x) (hx:Loc X.env.scope x) (he:PE X e te) (hs:swapsWith e (ϊ (.Name x pos')) pos.line X.env=pure ύ:=by rfl) (hf:X.fn x=ό\/X.env.scope.names.lookup x=ϊ .local:=by first|exact .inl rfl|exact .inr rfl|assumption) :
  PS X (.Assign [.Name x pos'] e pos) (tH te (nk i)):=by
 intro Z s σ H D I h;calc wpAny_Assign_Name (aJ (he Z s σ H _ I h) λv S ⟨y,Y,W,V,U⟩=>?_) hs;exact mY W hN hi hx V (λR T=>⟨_,Y,T,U⟩) hf
def abp (i j:Nat) (ta:TA):TS:=λD σ H=>ta σ H λZ Y=>∃v w,Z=[v,w]/\D.nx ((σ.set i (ϊ v)).set j (ϊ w)) Y
def X8 {i j:Nat} {x y:Str} {a b:ĳ} {ta:TA} {px py pt:Pos} {kt k2 i7} (hc:X.calm=ό) (hN:X.N.Nodup) (hi:X.N[i]?=ϊ x) (hj:X.N[j]?=ϊ y) (fC:i≠j)
  (hx:X.env.scope.names.lookup x=ϊ .local) (hy:X.env.scope.names.lookup y=ϊ .local) (ha:PA X [a,b] ta)
  (hw:ac7 [.Tuple [.Name x px,.Name y py] kt pt] (.Tuple [a,b] k2 i7) X.env=pure (ϊ [x,y]))
  (hs:ac6 [.Tuple [.Name x px,.Name y py] kt pt] (.Tuple [a,b] k2 i7) pos.line X.env=pure ύ:=by rfl) :
  PS X (.Assign [.Tuple [.Name x px,.Name y py] kt pt] (.Tuple [a,b] k2 i7) pos) (abp i j ta):=by
 intro U s σ H D I h;rw[exec_Assign_arm];calc À (ž ?_);rw[hs];calc À (Â ?_);rw[Ö 0e0];calc À (Tuple_ (aJ (ha _ U s σ H _ I h) λR Z ⟨C,T,Q,P,V⟩=>?_));obtain⟨v,w,e1,V⟩:=V;subst e1;obtain⟨Y,W,rfl,O,M⟩:∃Y W,R=[Y,W]/\RelV v Y/\RelV w W:=by
  cases P with
  |cons p q =>
   cases q with
   |cons L K =>
    cases K;exact⟨_,_,rfl,p,L⟩
 refine č ?_ (by show 2<=Ù;decide)
 have J:Inv X U σ T { Z with heap:=Z.heap.push { cls:=.type "tuple",data:=.seq [Y,W].toArray } }:=Q.kept (t':=Z.toks) λb o e=>Á _ e
 rw[hw];refine À (Â ?_)
 show ß 0e2 X.A (do rule "assign.swapped-stores";let items <- unpackItems (.ref Z.heap.objs.size) 2 ϋ;adH [λv=>aec X.env y v,λv=>aec X.env x v] items.reverse;pure Flow.next) _ _ _
 calc À (ź (À (unpackItems_tuple (items:=#[Y,W]) (I.ok.hd hc) (IsTup.new Z.heap _) λh' G=>?_)));have F:=J.kept (h':=h') (t':=Z.toks) λb o e=>G b o (á (Í e)) e
 show ß _ _ (adH [λv=>aec X.env y v,λv=>aec X.env x v] [W,Y] >>= λ_=>pure Flow.next) _ _ _
 calc À (Ž (aed (mY F hN hj (.inl hy) M (λB E=>?_) (.inr hy))));calc Ž (aed (mY E hN hi (.inl hx) O (λz S=>assignInOrder_nil (Â ?_)) (.inr hx)));rw[List.set_comm _ _ (ŵ fC)] at S;exact⟨_,T,S,V⟩
end
structure It where
 go:Nat->Hp->Prop
 uq:Nat->Hp->V->Hp->Prop
 stop:Nat->Hp->Prop
def eZ (X:Cx) (π:List 2e7) (H:Hp) (b:Þ):Prop :=
 H b=ϋ/\b≠X.env.locals/\b∉X.fs/\(b∈X.ex\/X.c8.heap.objs.size<=b)/\(∀x c,X.env.cells.lookup x=ϊ c->c≠b)/\∀p∈X.pn++π,p.1≠b
def Inv.wQ {X:Cx} {π:List 2e7} {σ:St} {H H':Hp} {s:Æ} {b:Þ} (I:Inv X π σ H s) (hb:s.heap.objs.size<=b) (hn:H' b=ϋ):eZ X π H' b:=by
 refine⟨hn,Ş (Ë I.lt hb),I.tG hb,.inr (Ü I.sz hb),λx c e z=>?_,λp Z z=>?_⟩
 ·obtain⟨v,q⟩:=I.cell x c e
  exact absurd (Ë q.lt (by rw[z];exact hb)) (ñ _)
 ·exact absurd (Ë (Í (I.pin p Z).1) (by rw[z];exact hb)) (ñ _)
structure Turn (P:ê) (w:Ď) (K:İ) (tg:ĳ) (J:It) (fp:List Þ) (it:Þ) (tn:Nat->Ŀ->Prop):Prop where
 mem:it∈fp
 obj:∀i h,tn i h->∀b∈fp,∃o,h.get? b=ϊ o/\∀v,o.data≠.cell v
 keep:∀i h h',tn i h->(∀b∈fp,∀o,h.get? b=ϊ o->h'.get? b=ϊ o)->tn i h'
 item:∀(X:Cx),X.prog=P->X.w=w->X.K=K->X.calm=ό->∀(i:Nat) (π:List (Þ×Obj)) (s:Æ) (σ:St) (H:Hp) (E:È->Æ->Prop),Inv X π σ H s->(∀b∈fp,eZ X π H b)->tn i s.heap->J.go i H ->
  ß 2e0 X.A (acU 4e2) (λr s1=>∃u,r=ϊ u /\
   ß 2e0 X.A (ş tg 4e2 u) (λ_ s2=>∃x H',Inv X π σ H' s2/\RelV x u/\J.uq i H x H'/\tn (i+1) s2.heap/\∀b∈fp,H' b=ϋ) E s1) E s
 done:∀(X:Cx),X.prog=P->X.w=w->X.K=K->X.calm=ό->∀(i:Nat) (π:List (Þ×Obj)) (s:Æ) (σ:St) (H:Hp) (E:È->Æ->Prop),Inv X π σ H s->(∀b∈fp,eZ X π H b)->tn i s.heap->J.stop i H ->
  ß 2e0 X.A (acU 4e2) (λr s1=>r=ϋ/\Inv X π σ H s1) E s
 self:∀(A:ó) (i:Nat) (s:Æ) (Q:È->Æ->Prop) (E:È->Æ->Prop),tn i s.heap->Q 4e2 s->ß 2e0 A (ae9 4e2) Q E s
abbrev TI:=St->Hp->(It->Hp->Prop)->Prop
def OM (X:Cx) (π:List 2e7) (σ:St) (tg:ĳ) (R:It->Hp->Prop) (gW:È) (s2:Æ):Prop :=
 ∃(it:Þ) (Y:List Þ) (tn:Nat->Ŀ->Prop) (J:It) (Z:Hp),gW=.ref it/\Inv X π σ Z s2/\Turn X.prog X.w X.K tg J Y it tn/\tn 0 s2.heap/\(∀b∈Y,eZ X π Z b)/\R J Z
def PI (X:Cx) (tg iter:ĳ) (wi:TI):Prop :=
 ∀(Z:List (Þ×Obj)) (s:Æ) (σ:St) (H:Hp) (R:It->Hp->Prop),Inv X Z σ H s->wi σ H R ->
  ß 0e2 X.A (ŗ iter X.env) (λv Y=>ß 0e2 X.A (ae9 v) (OM X Z σ tg R) X.xe Y) X.xe s
def zU (ho:s.heap.get? it=ϊ o) (hc:o.cls=.type n) (hd:o.data=.fields vs)
 (hn:["enumerate","zip","dict_itemiterator","dict_reverseitemiterator","odict_iterator","itertools.zip_longest","itertools.pairwise"].contains n=ύ) (hQ:Q () s):ß M A (ş tg 4e2 u) Q E s:=by
 delta ş
 cases tg<;>first
  |exact Â hQ
  |(cases u<;>first
    |exact Â hQ
    |(refine À (wpAny_load ho ?_)
      rw[hc,hd]
      show ß M A (if (["enumerate","zip","dict_itemiterator","dict_reverseitemiterator","odict_iterator","itertools.zip_longest","itertools.pairwise"].contains n&&vs[0]?==ϊ (acz _))=ό then _ else _) Q E s
      rw[Ö (by intro h;rw[hn,η] at h;cases h)];exact Â hQ))
def FA (K:İ) (a:Þ):It :=
 ⟨λi H=>∃Z x,bN K H a Z/\Z[i]?=ϊ x,λi H x Y=>Y=H/\∀Z,bN K H a Z->Z[i]?=ϊ x,λi H=>∃Z,bN K H a Z/\Z.length<=i⟩
def FC (K:İ) (a:Þ):It :=
 ⟨λi H=>∃Z x,bO K H a Z/\Z[i]?=ϊ x,λi H x Y=>Y=H/\∀Z,bO K H a Z->Z[i]?=ϊ x,λi H=>∃Z,bO K H a Z/\Z.length<=i⟩
def xr (lo:Int) (n:Nat):It:=⟨λi _=>i<n,λi H x Z=>Z=H/\x=.int (lo+i),λi _=>n<=i⟩
def Sy {P:ê} {w:Ď} {K:İ} {tg:ĳ} (a it:Þ):Turn P w K tg (FA K a) [it] it (λi h=>h.IsListIter it a i) where
 mem:=by simp
 obj:=λi h Z b Y=>by
  have e:b=it:=by simpa using Y
  subst e;obtain⟨o,e,c,d⟩:=Z;exact⟨o,e,λv z=>by rw[d] at z;cases z⟩
 keep:=λi h W Z k=>Z.at λo e=>k it ∅ o e
 item:=by
  intro X T hw S L i J s σ H E I V Z R;subst T hw S;obtain⟨F,x,U,Q⟩:=R;obtain⟨its,O,p,D⟩:=I.list U;obtain⟨u,C,B⟩:=O.get Q;obtain⟨f0,f1,f2,N,f4,M⟩:=V it ∅;refine wpAny_pyNext_list_item Z p.isList (x:=u) (by simpa using C) λW G A=>?_
  have y:Inv X J σ H { s with heap:=W }:=I.turned (t':=s.toks) (λb o Y e=>(A.2 b Y).trans e) f0 f1 N f4 M
  obtain⟨o,e,c,d⟩:=id G
  exact⟨u,rfl,zU (s:={ s with heap:=W }) e c d 0e0 ⟨x,H,y,B,⟨rfl,λq t=>by rw[I.JO t U];exact Q⟩,G,λb Y=>(V b Y).1⟩⟩
 done:=by
  intro X T hw S L i J s σ H E I V Z R;subst T hw S;obtain⟨F,U,Q⟩:=R;obtain⟨its,O,p,D⟩:=I.list U;obtain⟨f0,f1,f2,N,f4,M⟩:=V it ∅;have n:=O.length;exact wpAny_pyNext_list_end (I.ok.hd L) Z p.isList (by simp;omega) λW r=>⟨rfl,I.turned (t':=s.toks) (λb o Y e=>r b o Y e) f0 f1 N f4 M⟩
 self:=λ_ _ _ _ _ Z h=>wpAny_pyIter_listiter Z h
def RB {P:ê} {w:Ď} {K:İ} {tg:ĳ} (a it:Þ):Turn P w K tg (FC K a) [it] it (λi h=>h.IsTupleIter it a i) where
 mem:=by simp
 obj:=λi h Z b Y=>by
  have e:b=it:=by simpa using Y
  subst e;obtain⟨o,e,c,d⟩:=Z;exact⟨o,e,λv z=>by rw[d] at z;cases z⟩
 keep:=λi h W Z k=>Z.at λo e=>k it ∅ o e
 item:=by
  intro X T hw S L i J s σ H E I V Z R;subst T hw S;obtain⟨F,x,U,Q⟩:=R;obtain⟨its,O,p,D⟩:=I.tuple U;obtain⟨u,C,B⟩:=O.get Q;obtain⟨f0,f1,f2,N,f4,M⟩:=V it ∅;refine wpAny_pyNext_tuple_item Z (show s.heap.IsTuple a its.toArray from p) (x:=u) (by simpa using C) λW G A=>?_
  have y:Inv X J σ H { s with heap:=W }:=I.turned (t':=s.toks) (λb o Y e=>(A.2 b Y).trans e) f0 f1 N f4 M
  obtain⟨o,e,c,d⟩:=id G
  exact⟨u,rfl,zU (s:={ s with heap:=W }) e c d 0e0 ⟨x,H,y,B,⟨rfl,λq t=>by rw[I.Jd t U];exact Q⟩,G,λb Y=>(V b Y).1⟩⟩
 done:=by
  intro X T hw S L i J s σ H E I V Z R;subst T hw S;obtain⟨F,U,Q⟩:=R;obtain⟨its,O,p,D⟩:=I.tuple U;obtain⟨f0,f1,f2,N,f4,M⟩:=V it ∅;have n:=O.length;exact wpAny_pyNext_tuple_end (I.ok.hd L) Z (show s.heap.IsTuple a its.toArray from p) (by simp;omega) λW r=>⟨rfl,I.turned (t':=s.toks) (λb o Y e=>r b o Y e) f0 f1 N f4 M⟩
 self:=λ_ _ _ _ _ Z h=>wpAny_pyIter_tupleiter Z h
def RC {P:ê} {w:Ď} {K:İ} {tg:ĳ} (it:Þ) (lo:Int) (n:Nat):Turn P w K tg (xr lo n) [it] it (λi h=>IsRangeIter h it (lo+(i:Nat)*1) ((n:Int)-(i:Nat)) 1) where
 mem:=by simp
 obj:=λi h Z b Y=>by
  have e:b=it:=by simpa using Y
  subst e;exact⟨_,Z,λv z=>by
   have G:Data.fields _=Data.cell v:=z;cases G⟩
 keep:=λi h V Z k=>k it ∅ _ Z
 item:=by
  intro X T hw S R i M s σ H E I U Z Q;subst T hw S;obtain⟨f0,f1,f2,O,f4,N⟩:=U it ∅;have W:=Walks.range (prog:=X.prog) (w:=X.w) (I.ok.hd R) it lo 1 n;calc W.item i s _ _ Q Z λv V L F J D=>?_;obtain⟨t,rfl⟩:=F
  have C:Inv X M σ H { s with heap:=V,toks:=L }:=I.turned (λb o Y e=>D b o (by simpa using Y) e) f0 f1 O f4 N
  refine⟨_,rfl,zU (s:={ s with heap:=V,toks:=L }) (n:="range_iterator") J rfl rfl 0e0 ⟨.int (lo+i),H,C,⟨t,?_⟩,1e4,J,λb Y=>(U b Y).1⟩⟩
  rw[Int.mul_one]
 done:=by
  intro X T hw S R i M s σ H E I U Z Q;subst T hw S;obtain⟨f0,f1,f2,O,f4,N⟩:=U it ∅;exact wpAny_pyNext_range_end (I.ok.hd R) Z (by have:n<=i:=Q;omega) λV B=>⟨rfl,I.turned (t':=s.toks) (λb o Y e=>B b o Y e) f0 f1 O f4 N⟩
 self:=λ_ _ _ _ _ Z h=>wpAny_pyIter_rangeiter Z h
section
variable {X:Cx} {tg:ĳ}
def MT (K:İ) (tl:TE):TI:=fun σ H R=>tl σ H λx Z=>∃a,x=.ref a/\(∃Y,bN K Z a Y)/\R (FA K a) Z
def N5 (K:İ) (tl:TE):TI:=fun σ H R=>tl σ H λx Z=>∃a,x=.ref a/\(∃Y,bO K Z a Y)/\R (FC K a) Z
def V9 {l:ĳ} {tl:TE} (hl:PE X l tl):PI X tg l (MT X.K tl):=by
 intro W s σ H R I h;calc aJ (hl W s σ H _ I h) λv Z ⟨x,V,Y,U,T⟩=>?_;obtain⟨a,e,⟨P,S⟩,q⟩:=T;subst e;cases U;obtain⟨its,O,p,N⟩:=Y.list S;calc ū p.isList ?_;calc⟨Z.heap.objs.size,[Z.heap.objs.size],_,_,V,rfl,Y.kept (t':=Z.toks) λb o e=>Á _ e,Sy a _,3e1,λb Q=>?_,q⟩;have e:b=Z.heap.objs.size:=by simpa using Q
 subst e;exact Y.wQ 3e0 (Y.az.fresh 3e0)
def X9 {l:ĳ} {tl:TE} (hl:PE X l tl):PI X tg l (N5 X.K tl):=by
 intro W s σ H R I h;calc aJ (hl W s σ H _ I h) λv Z ⟨x,V,Y,U,T⟩=>?_;obtain⟨a,e,⟨P,S⟩,q⟩:=T;subst e;cases U;obtain⟨its,O,p,N⟩:=Y.tuple S;calc wpAny_pyIter_tuple (show Z.heap.IsTuple a its.toArray from p) ?_;calc⟨Z.heap.objs.size,[Z.heap.objs.size],_,_,V,rfl,Y.kept (t':=Z.toks) λb o e=>Á _ e,RB a _,3e1,λb Q=>?_,q⟩;have e:b=Z.heap.objs.size:=by simpa using Q
 subst e;exact Y.wQ 3e0 (Y.az.fresh 3e0)
def JP {π:List 2e7} {σ:St} {H:Hp} {s:Æ} {R:It->Hp->Prop} {E:È->Æ->Prop} {lo hi:Int} {t u v:Tok} {tk:Nat} (I:Inv X π σ H s) (h1:-(2 ^ 62)<=lo) (h2:lo<2 ^ 62) (h3:-(2 ^ 62)<=hi) (h4:hi<2 ^ 62)
  (q:R (xr lo (hi-lo).toNat) H):ß 0e2 X.A (ae9 0e7) (OM X π σ tg R) E { s with heap:=s.heap.push { cls:=.type "range",data:=.fields #[.int lo t,.int hi u,.int 1 v] },toks:=tk }:=by
 refine wpAny_pyIter_range (IsRange.new ..) (small_one h1 h2 h3 h4) ?_
 have Z:Inv X π σ H { s with heap:=s.heap.push { cls:=.type "range",data:=.fields #[.int lo t,.int hi u,.int 1 v] },toks:=tk }:=I.kept λb o e=>Á _ e
 refine⟨(s.heap.push { cls:=.type "range",data:=.fields #[.int lo t,.int hi u,.int 1 v] }).objs.size,[(s.heap.push { cls:=.type "range",data:=.fields #[.int lo t,.int hi u,.int 1 v] }).objs.size],_,_,H,rfl,
  Z.kept (t':=tk) λb o e=>Á _ e,RC _ lo (hi-lo).toNat,?_,λb Y=>?_,q⟩
 ·have e1:lo+((0:Nat):Int)*1=lo:=by simp
  have e2:(((hi-lo).toNat:Nat):Int)-((0:Nat):Int)=Builtin.Range.rangeSize lo hi 1:=by rw[rangeSize_one];split<;>omega
  show IsRangeIter _ _ (lo+((0:Nat):Int)*1) ((((hi-lo).toNat:Nat):Int)-((0:Nat):Int)) 1;rw[e1,e2];exact Ò _ rfl
 ·have e:b=(s.heap.push { cls:=.type "range",data:=.fields #[.int lo t,.int hi u,.int 1 v] }).objs.size:=by simpa using Y
  subst e;exact Z.wQ 3e0 (Z.az.fresh 3e0)
def Z1 (ta:TA):TI:=fun σ H R=>ta σ H λZ Y=>∃j:Int,Z=[.int j]/\-(2 ^ 62)<=j/\j<2 ^ 62/\R (xr 0 j.toNat) Y
def Z2 (ta:TA):TI:=fun σ H R=>ta σ H λZ Y=>∃i j:Int,Z=[.int i,.int j]/\(-(2 ^ 62)<=i/\i<2 ^ 62/\-(2 ^ 62)<=j/\j<2 ^ 62)/\R (xr i (j-i).toNat) Y
def Sz {a:ĳ} {ta:TA} {p pos:Pos} (hg:Gl X "range") (hm:X.mg "range"=ϋ) (ha:PA X [a] ta) (hs:Ð [a] X.env=[3e3]:=by rfl):PI X tg (.Call (.Name "range" p) [a] [] pos) (Z1 ta):=by
 intro Y s σ H R I h;calc Call_ (sG I hg hm boot_range (ů (aJ (ha pos Y s σ H _ I h) λS Q ⟨P,O,W,V,Z⟩=>?_) hs rfl));obtain⟨j,e,Z,U,q⟩:=Z;subst e
 cases V with
 |cons r T =>
  cases T;obtain⟨t,rfl⟩:=r;exact call_range_1 (JP W ⋯ ⋯ Z U (by simpa using q))
def SA {a b:ĳ} {ta:TA} {p pos:Pos} (hg:Gl X "range") (hm:X.mg "range"=ϋ) (ha:PA X [a,b] ta) (hs:Ð [a,b] X.env=[3e3,(ύ,ŗ b X.env)]:=by rfl) (fE:Ð [b] X.env=[(ύ,ŗ b X.env)]:=by rfl) :
  PI X tg (.Call (.Name "range" p) [a,b] [] pos) (Z2 ta):=by
 intro W s σ H R I h;calc Call_ (sG I hg hm boot_range (ů (aJ (ha pos W s σ H _ I h) λO N ⟨M,L,V,U,Z⟩=>?_) (by rw[hs,fE]) (by rw[fE];rfl)));obtain⟨i,j,e,⟨Z,T,S,Q⟩,q⟩:=Z;subst e
 cases U with
 |cons r Y =>
  cases Y with
  |cons P Y =>
   cases Y;obtain⟨t,rfl⟩:=r;obtain⟨K,rfl⟩:=P;exact call_range_2 (JP V Z T S Q q)
def N6 (wi:TI) (g:TG) (tb:TS):TS:=λD σ H=>wi σ H λJ V=>∃W:Nat->Nat->St->Hp->Prop,(∃m,W 0 m σ V)/\∀i m σ H,W i m σ H ->
 (J.stop i H/\D.nx σ H)\/(J.go i H/\∃N:St->Hp->Prop,(∀ Y Z,N Y Z->∃X,X < m/\W (i+1) X Y Z)/\∀x Z,J.uq i H x Z->g x σ Z fun U T=>tb { D with nx:=N,ct:=N,bk:=D.nx } U T)
def oj (fp:List Þ) (h:Ŀ):List (Þ×Obj):=fp.filterMap λb=>(h.get? b).map λo=>(b,o)
def rN (hb:b∈fp) (e:h.get? b=ϊ o):(b,o)∈oj fp h:=Š.mpr ⟨b,hb,by rw[e];rfl⟩
def Je (hp:p∈oj fp h):p.1∈fp/\h.get? p.1=ϊ p.2:=by
 obtain⟨b,Z,e⟩:=Š.mp hp
 cases q:h.get? b with
 |none=>rw[q] at e;cases e
 |some o =>
  rw[q] at e;have Y:(b,o)=p:=afo e;subst Y;exact⟨Z,q⟩
def Inv.pinned {π:List 2e7} {σ:St} {H:Hp} {s:Æ} {fp:List Þ} (I:Inv X π σ H s) (hf:∀b∈fp,eZ X π H b) (ho:∀b∈fp,∃o,s.heap.get? b=ϊ o/\∀v,o.data≠.cell v):Inv X (π++oj fp s.heap) σ H s :=
 I.m7 λp W=>(Ć.mp W).elim (λz=>I.pin p (Ó _ z)) λz=>by
  obtain⟨Z,e⟩:=Je z;obtain⟨f0,f1,f2,_⟩:=hf p.1 Z;obtain⟨o,Y,d⟩:=ho p.1 Z;rw[e] at Y;cases Y;exact⟨e,f0,f1,f2,d⟩
def Inv.mZ {π pl:List 2e7} {σ:St} {H:Hp} {s:Æ} (I:Inv X (π++pl) σ H s):Inv X π σ H s:=I.m7 λp Z=>I.pin p (Ó _ (Ā _ Z))
def Ya {iter:ĳ} {body:List aeW} {wi:TI} {g:TG} {tb:TS} {pos:Pos} (hp:PassesOwn 0e2 X.A X.env X.xe) (hc:X.calm=ό) (hi:PI X tg iter wi) (hg:PG X tg g) (hb:dq X body tb)
  (hs:∀x,ă iter X.env x=pure x:=by intro _;rfl):PS X (.For tg iter body [] pos) (N6 wi g tb):=by
 intro R s σ H D I h;calc wpAny_For (aJ (hi R s σ H _ I h) λv s1 p=>aJ p λgW s2 l=>?_) hs;obtain⟨it,Q,tn,J,k,e,j,T,c,f2,W,⟨m0,a⟩,turn⟩:=l;subst e;have stat:∀{U:Hp},(∀b∈Q,U b=ϋ)->∀b∈Q,eZ X R U b:=λhn b hb=>⟨hn b hb,(f2 b hb).2⟩;calc codeAny_forLoop_any (λn C=>∃i P U,Inv X R P U C/\tn i C.heap/\(∀b∈Q,U b=ϋ)/\W i n P U) ?_ m0 ⟨0,σ,k,j,c,λb hb=>(f2 b hb).1,a⟩;intro n B zzz;obtain⟨i,O,L,z,y,t,w3⟩:=zzz
 rcases turn i n O L w3 with ⟨stop,qn⟩ | ⟨go,N,hN,step⟩
 ·refine adI hp (aJ (T.done X rfl rfl rfl hc i R B O L X.xe z (stat t) y stop) λr s4 ⟨K,I4⟩=>?_)
  subst K;exact wpAny_execs_nil ⟨O,L,I4,qn⟩
 ·refine adI hp (aJ (T.item X rfl rfl rfl hc i R B O L X.xe z (stat t) y go) λr s4 ⟨u,K,h4⟩=>?_)
  subst K;calc adI hp (aJ h4 λ_ s5 ⟨x,q,I5,r5,y5,G,xt⟩=>?_);have xu:=I5.pinned (stat xt) (T.obj _ _ G);calc adI hp (aJ (hg _ s5 O q x u _ xu r5 (step x q y5)) λ_ s6 ⟨F,H6,I6,q6⟩=>?_);calc adI hp (aJ (hb _ s6 F H6 _ I6 q6) λf E S=>?_);have again:∀{Z:St} {Y:Hp},Inv X (R++oj Q s5.heap) Z Y E->N Z Y->∃m,m<n/\∃i P U,Inv X R P U E/\tn i E.heap/\(∀b∈Q,U b=ϋ)/\W i m P U:=λ{Z Y} V M=>by
   obtain⟨m',hm,w7⟩:=hN Z Y M;calc⟨m',hm,i+1,Z,Y,V.mZ,T.keep _ _ _ G λb hb o e=>(V.pin (b,o) (Ó _ (Ó _ (rN hb e)))).1,λb hb=>?_,w7⟩;obtain⟨o,e,d⟩:=T.obj _ _ G b hb;exact(V.pin (b,o) (Ó _ (Ó _ (rN hb e)))).2.1
  cases f with
  |next=>obtain⟨Z,Y,V,M⟩:=S;exact again V M
  |cont=>obtain⟨Z,Y,V,M⟩:=S;exact again V M
  |brk=>obtain⟨Z,Y,V,S⟩:=S;exact⟨Z,Y,V.mZ,S⟩
  |ret v=>obtain⟨x7,Z,Y,V,r7,S⟩:=S;exact⟨x7,Z,Y,V.mZ,r7,S⟩
end
abbrev R2:=V->V->Hp->VK->Prop
def bF (X:Cx) (f:È->È->Sem È) (r:R2):Prop :=
 ∀(Z:List (Þ×Obj)) (s:Æ) (σ:St) (H:Hp) (x y:V) (v u:È) (Q:VK),Inv X Z σ H s->RelV x v->RelV y u->r x y H Q ->
  ß 0e2 X.A (f v u) (EP X Z σ Q) X.xe s
def xw (X:Cx) (f:È->Sem È) (r:V->Hp->VK->Prop):Prop :=
 ∀(Z:List (Þ×Obj)) (s:Æ) (σ:St) (H:Hp) (x:V) (v:È) (Q:VK),Inv X Z σ H s->RelV x v->r x H Q ->
  ß 0e2 X.A (f v) (EP X Z σ Q) X.xe s
def cC (X:Cx) (f:È) (r:List V->Hp->VK->Prop):Prop :=
 ∀(Z:List (Þ×Obj)) (s:Æ) (σ:St) (H:Hp) (Y:List V) (W:List È) (Q:VK),Inv X Z σ H s->Vals Y W->r Y H Q ->
  ß 0e2 X.A (call f W) (EP X Z σ Q) X.xe s
def abq (X:Cx) (r:V->Hp->(Bool->Hp->Prop)->Prop):Prop :=
 ∀(Z:List (Þ×Obj)) (s:Æ) (σ:St) (H:Hp) (x:V) (v:È) (Q:Bool->Hp->Prop),Inv X Z σ H s->RelV x v->r x H Q ->
  ß 0e2 X.A (truthy v) (TP X Z σ Q) X.xe s
def xx (r:R2) (ta tb:TE):TE:=fun σ H Q=>ta σ H λx Z=>tb σ Z λy Y=>r x y Y Q
def ON (r:V->Hp->VK->Prop) (ta:TE):TE:=fun σ H Q=>ta σ H λx Z=>r x Z Q
def rI (C:Int->Int->Prop) (g:Int->Int->V):R2:=λx y H Q=>∃i j,x=.int i/\y=.int j/\C i j/\Q (g i j) H
def qY (g:Int->Int->V):R2:=λx y H Q=>∃i j,x=.int i/\y=.int j/\Q (g i j) H
def rU (g:Int->V):V->Hp->VK->Prop:=λx H Q=>∃i,x=.int i/\Q (g i) H
section
variable {X:Cx} {a b c:ĳ} {ta tb tc:TE} {pos:Pos}
def ET (ha:PE X a ta) (hb:PE X b tb) {π:List 2e7} {s:Æ} {σ:St} {H:Hp} {R:V->V->Hp->Prop} (I:Inv X π σ H s)
  (h:ta σ H λx H1=>tb σ H1 λy H2=>R x y H2) {Q:È->Æ->Prop} {f:È->È->Sem È}
  (hf:∀v u s2 x y H2,Inv X π σ H2 s2->RelV x v->RelV y u->R x y H2->ß 0e2 X.A (f v u) Q X.xe s2) :
  ß 0e2 X.A (ŗ a X.env) (λv bG=>ß 0e2 X.A (ŗ b X.env) (λu kC=>ß 0e2 X.A (f v u) Q X.xe kC) X.xe bG) X.xe s:=by
 calc aJ (ha π s σ H _ I h) λv Z ⟨x,H1,Y,W,U⟩=>?_;calc aJ (hb π Z σ H1 _ Y U) λu s2 ⟨y,H2,T,S,P⟩=>?_;exact hf v u s2 x y H2 T W S P
def Z3 (ho:bF X (ŏ op) r) (ha:PE X a ta) (hb:PE X b tb):PE X (.BinOp a op b pos) (xx r ta tb):=by
 intro Z s σ H Q I h;exact wpAny_BinOp (ET ha hb I h λv u Y x y W V U T q=>ho Z Y σ W x y v u Q V U T q)
def MU {op:UnaryOp} {r:V->Hp->VK->Prop} (ho:xw X (unaryOp op) r) (ha:PE X a ta):PE X (.UnaryOp op a pos) (ON r ta):=by
 intro Z s σ H Q I h;exact UnaryOp_ (aJ (ha Z s σ H _ I h) λv Y ⟨x,W,U,T,S⟩=>ho Z Y σ W x v Q U T S)
def AK {C:Int->Int->Prop} {g:Int->Int->Int}
 (rule:∀(i j:Int) (t u:Tok) (s:Æ) (Q:È->Æ->Prop) (E:È->Æ->Prop),C i j->Q (.int (g i j) s.toks) { s with toks:=s.toks+1 }->ß 0e2 X.A (f (.int i t) (.int j u)) Q E s) :
  bF X f (rI C λi j=>.int (g i j)):=by
 intro U s σ H x y v u Q I Z Y h;obtain⟨i,j,rfl,rfl,W,q⟩:=h;obtain⟨t,rfl⟩:=Z;obtain⟨V,rfl⟩:=Y;exact rule i j t V s _ _ W ⟨.int (g i j),H,I.tok _,5e0,q⟩
def N7 {g:Int->Int->Int}
 (rule:∀(i j:Int) (t u:Tok) (s:Æ) (Q:È->Æ->Prop) (E:È->Æ->Prop),Q (.int (g i j) s.toks) { s with toks:=s.toks+1 }->ß 0e2 X.A (f (.int i t) (.int j u)) Q E s) :
  bF X f (qY λi j=>.int (g i j)):=by
 intro V s σ H x y v u Q I Z Y h;obtain⟨i,j,rfl,rfl,q⟩:=h;obtain⟨t,rfl⟩:=Z;obtain⟨W,rfl⟩:=Y;exact rule i j t W s _ _ ⟨.int (g i j),H,I.tok _,5e0,q⟩
def EU {g:Int->Int->Bool}
 (rule:∀(i j:Int) (t u:Tok) (s:Æ) (Q:È->Æ->Prop) (E:È->Æ->Prop),Q (.bool (g i j)) s->ß 0e2 X.A (f (.int i t) (.int j u)) Q E s) :
  bF X f (qY λi j=>.bl (g i j)):=by
 intro V s σ H x y v u Q I Z Y h;obtain⟨i,j,rfl,rfl,q⟩:=h;obtain⟨t,rfl⟩:=Z;obtain⟨W,rfl⟩:=Y;exact rule i j t W s _ _ ⟨.bl (g i j),H,I,rfl,q⟩
def abr (i j:Int):Prop:=0<j/\j<1073741824
def abt (i j:Int):Prop:=0<=j/\j<=1000000/\i.natAbs<2 ^ 64
def Aj (i j:Int):Prop:=(-(2 ^ 64)<i/\i<2 ^ 64)\/(-(2 ^ 64)<j/\j<2 ^ 64)
def Aj.ok (h:Aj i j):IntMulOk i j:=by
 rcases h with ⟨Z,Y⟩ | ⟨Z,Y⟩
 ·exact .of_left (intBits_le_64 Z Y)
 ·exact .of_right (intBits_le_64 Z Y)
def Yb:bF X (ŏ .Add) (qY λi j=>.int (i+j)):=N7 λ_ _ _ _ _ _ _ q=>add_int q
def Yc:bF X (ŏ .Sub) (qY λi j=>.int (i-j)):=N7 λ_ _ _ _ _ _ _ q=>sub_int q
def Yd:bF X (ŏ .Mult) (rI Aj λi j=>.int (i*j)):=AK λ_ _ _ _ _ _ _ Z q=>mul_int q Z.ok
def Wa:bF X (ŏ .FloorDiv) (rI abr λi j=>.int (i / j)):=AK λi j _ _ _ _ _ Z q=>by
 have Y:(0:Int)<j:=Z.1;have W:j<1073741824:=Z.2;exact floordiv_int ⋯ (by rw[Int.fdiv_eq_ediv_of_nonneg i ⋯];exact q) (.inl (PyProof.noPylong_small ⋯))
def Ye:bF X (ŏ .Mod) (rI (λ_ j=>0<j) λi j=>.int (i % j)):=AK λi j _ _ _ _ _ Z q=>by
 have Y:(0:Int)<j:=Z;exact mod_int' ⋯ (by rw[Int.fmod_eq_emod_of_nonneg i ⋯];exact q)
def Yf:bF X (ŏ .Pow) (rI abt λi j=>.int (i ^ j.toNat)):=AK λ_ _ _ _ _ _ _ Z q=>pow_int_small Z.1 Z.2.1 Z.2.2 q
def unI {g:Int->Int}
 (rule:∀(i:Int) (t:Tok) (s:Æ) (Q:È->Æ->Prop) (E:È->Æ->Prop),Q (.int (g i) s.toks) { s with toks:=s.toks+1 }->ß 0e2 X.A (f (.int i t)) Q E s) :
  xw X f (rU λi=>.int (g i)):=by
 intro Y s σ H x v Q I Z h;obtain⟨i,rfl,q⟩:=h;obtain⟨t,rfl⟩:=Z;exact rule i t s _ _ ⟨.int (g i),H,I.tok _,5e0,q⟩
def LU:xw X (unaryOp .USub) (rU λi=>.int (-i)):=unI λ_ _ _ _ _ q=>neg_int q
end
def EV:V->V->Bool
 | .ak,.ak=>ό | .ak,.int _=>ό | .int _,.ak=>ό | .ak,.bl _=>ό | .bl _,.ak=>ό | .ak,.str _=>ό | .str _,.ak=>ό
 | .int _,.int _=>ό | .bl _,.bl _=>ό | .str _,.str _=>ό | .jT _,.jT _=>ό
 | .int _,.str _=>ό | .str _,.int _=>ό | .bl _,.str _=>ό | .str _,.bl _=>ό
 |_,_=>ύ
def rEq:R2:=λx y H Q=>EV x y=ό/\Q (.bl (ώ (x=y))) H
def rNe:R2:=λx y H Q=>EV x y=ό/\Q (.bl (!ώ (x=y))) H
def KQ:ώ (V.int i=V.int j)=(i==j):=by
 rw[ĝ];simp
def LV:ώ (V.bl i=V.bl j)=(i==j):=by
 rw[ĝ];simp
def CB:ώ (V.str i=V.str j)=(i==j):=by
 rw[ĝ];simp
def KR:ώ (V.jT i=V.jT j)=(i.toList==j.toList):=by
 rw[ĝ];cases i;cases j;simp
section
variable {X:Cx} {a b c:ĳ} {ta tb tc:TE} {pos:Pos}
def cP {π:List 2e7} {σ:St} {H:Hp} {s:Æ} {Q:VK} {k k':Bool} (I:Inv X π σ H s) (q:Q (.bl k) H) (e:k=k'):EP X π σ Q (.bool k') s:=by
 subst e;exact⟨.bl k,H,I,rfl,q⟩
def Z4:bF X (Ğ .Eq) rEq:=by
 intro U s σ H x y v u Q I V Z h;obtain⟨hs,q⟩:=h
 cases x with
 |ak =>
  cases V
  cases y with
  |ak=>cases Z;exact PySem.EqNone.eq_none_none 5e6
  |bl j=>cases Z;exact PySem.EqNone.eq_none_bool 5e6
  |int j=>obtain⟨Y,rfl⟩:=Z;exact PySem.EqNone.eq_none_int 5e6
  |str j=>obtain⟨Y,rfl⟩:=Z;exact PySem.EqNone.eq_none_str 5e6
  |_=>exact absurd (show ύ=ό from hs) Ã
 |bl i =>
  cases V
  cases y with
  |ak=>cases Z;exact PySem.EqNone.eq_bool_none 5e6
  |bl j=>cases Z;exact eq_bool (cP I q LV)
  |str j=>obtain⟨Y,rfl⟩:=Z;exact PySem.EqMixed.eq_bool_str 5e6
  |_=>exact absurd (show ύ=ό from hs) Ã
 |int i =>
  obtain⟨t,rfl⟩:=V
  cases y with
  |ak=>cases Z;exact PySem.EqNone.eq_int_none 5e6
  |int j=>obtain⟨Y,rfl⟩:=Z;exact eq_int (cP I q KQ)
  |str j=>obtain⟨Y,rfl⟩:=Z;exact PySem.EqMixed.eq_int_str 5e6
  |_=>exact absurd (show ύ=ό from hs) Ã
 |str i =>
  obtain⟨t,rfl⟩:=V
  cases y with
  |ak=>cases Z;exact PySem.EqNone.eq_str_none 5e6
  |bl j=>cases Z;exact PySem.EqMixed.eq_str_bool 5e6
  |int j=>obtain⟨Y,rfl⟩:=Z;exact PySem.EqMixed.eq_str_int 5e6
  |str j=>obtain⟨Y,rfl⟩:=Z;exact eq_str (cP I q CB)
  |_=>exact absurd (show ύ=ό from hs) Ã
 |jT i =>
  obtain⟨t,rfl⟩:=V
  cases y with
  |jT j=>obtain⟨Y,rfl⟩:=Z;exact PySem.W.eq_bytes (cP I q KR)
  |_=>exact absurd (show ύ=ό from hs) Ã
 |_=>cases y<;>exact absurd (show ύ=ό from hs) Ã
def MV:bF X (Ğ .NotEq) rNe:=by
 intro U s σ H x y v u Q I V Z h;obtain⟨hs,q⟩:=h
 cases x with
 |ak =>
  cases V
  cases y with
  |ak=>cases Z;exact PySem.EqNone.ne_none_none 5e6
  |bl j=>cases Z;exact PySem.EqNone.ne_none_bool 5e6
  |int j=>obtain⟨Y,rfl⟩:=Z;exact PySem.EqNone.ne_none_int 5e6
  |str j=>obtain⟨Y,rfl⟩:=Z;exact PySem.EqNone.ne_none_str 5e6
  |_=>exact absurd (show ύ=ό from hs) Ã
 |bl i =>
  cases V
  cases y with
  |ak=>cases Z;exact PySem.EqNone.ne_bool_none 5e6
  |bl j=>cases Z;exact ne_bool (cP I q (ĵ not LV))
  |str j=>obtain⟨Y,rfl⟩:=Z;exact PySem.EqMixed.ne_bool_str 5e6
  |_=>exact absurd (show ύ=ό from hs) Ã
 |int i =>
  obtain⟨t,rfl⟩:=V
  cases y with
  |ak=>cases Z;exact PySem.EqNone.ne_int_none 5e6
  |int j=>obtain⟨Y,rfl⟩:=Z;exact ne_int (cP I q (ĵ not KQ))
  |str j=>obtain⟨Y,rfl⟩:=Z;exact PySem.EqMixed.ne_int_str 5e6
  |_=>exact absurd (show ύ=ό from hs) Ã
 |str i =>
  obtain⟨t,rfl⟩:=V
  cases y with
  |ak=>cases Z;exact PySem.EqNone.ne_str_none 5e6
  |bl j=>cases Z;exact PySem.EqMixed.ne_str_bool 5e6
  |int j=>obtain⟨Y,rfl⟩:=Z;exact PySem.EqMixed.ne_str_int 5e6
  |str j=>obtain⟨Y,rfl⟩:=Z;exact ne_str (cP I q (ĵ not CB))
  |_=>exact absurd (show ύ=ό from hs) Ã
 |jT i =>
  obtain⟨t,rfl⟩:=V
  cases y with
  |jT j=>obtain⟨Y,rfl⟩:=Z;exact PySem.W.ne_bytes (cP I q (ĵ not KR))
  |_=>exact absurd (show ύ=ό from hs) Ã
 |_=>cases y<;>exact absurd (show ύ=ό from hs) Ã
def Z5:bF X (Ğ .LtE) (qY λi j=>.bl (ώ (i<=j))):=EU λ_ _ _ _ _ _ _ q=>le_int q
def Z6:bF X (Ğ .Gt) (qY λi j=>.bl (ώ (j<i))):=EU λ_ _ _ _ _ _ _ q=>gt_int q
def Z7:bF X (Ğ .GtE) (qY λi j=>.bl (ώ (j<=i))):=EU λ_ _ _ _ _ _ _ q=>ge_int q
def SD:bF X (Ğ .In) (λx y H Q=>∃i j,x=.str i/\y=.str j/\Q (.bl (!(Ą j i 0 j.length 1).isEmpty)) H):=by
 intro W s σ H x y v u Q I Z Y h;obtain⟨i,j,rfl,rfl,q⟩:=h;obtain⟨t,rfl⟩:=Z;obtain⟨V,rfl⟩:=Y;exact in_str (cP I q rfl)
def Yg:bF X (Ğ .Is) (λx y H Q=>y=.ak/\Q (.bl (ώ (x=.ak))) H):=by
 intro W s σ H x y v u Q I Z Y h;obtain⟨rfl,q⟩:=h;cases Y;refine is_none_gen (cP I q ?_)
 cases x<;>first
  |(cases Z;rfl)
  |(obtain⟨t,rfl⟩:=Z;rfl)
def Wb:bF X (Ğ .IsNot) (λx y H Q=>y=.ak/\Q (.bl (!ώ (x=.ak))) H):=by
 intro W s σ H x y v u Q I Z Y h;obtain⟨rfl,q⟩:=h;cases Y;refine isnot_none_gen (cP I q ?_)
 cases x<;>first
  |(cases Z;rfl)
  |(obtain⟨t,rfl⟩:=Z;rfl)
def bo (b:ĳ) (h:op≠.In:=by decide) (h2:op≠.NotIn:=by decide):adJ op b=ύ:=by
 have e1:(op==CmpOp.In)=ύ:=by cases op<;>first|rfl|exact absurd rfl h
 have e2:(op==CmpOp.NotIn)=ύ:=by cases op<;>first|rfl|exact absurd rfl h2
 cases b<;>simp[adJ,e1,e2]
def Wc (ho:bF X (Ğ op) r) (ha:PE X a ta) (hb:PE X b tb) (hm:adJ op b=ύ):PE X (.Compare a [op] [b] pos) (xx r ta tb):=by
 intro Z s σ H Q I h;exact wpAny_Compare1 (ET ha hb I h λv u Y x y W V U T q=>ho Z Y σ W x y v u Q V U T q) hm
def zV (t:TE):TT:=fun σ H Q=>t σ H λx Z=>∃k,x=.bl k/\Q k Z
def We {op:CmpOp} {r:R2} (ho:bF X (Ğ op) r) (ha:PE X a ta) (hb:PE X b tb) (hm:adJ op b=ύ):PT X (.Compare a [op] [b] pos) (zV (xx r ta tb)):=by
 intro Z s σ H Q I h;refine wpAny_isTrue_Compare1 (aJ (ha Z s σ H _ I h) λv Y ⟨x,W,V,U,T⟩=>aJ (hb Z Y σ W _ V T) λu S ⟨y,R,P,O,N⟩ =>
  aJ (ho Z S σ R x y v u _ P U O N) λc G ⟨z,M,L,K,k,e,J⟩=>?_) hm
 subst e;cases K;exact Ū ⟨M,L,J⟩
def LW (r r':R2) (ta tb tc:TE):TE:=fun σ H Q=>ta σ H λx Y=>tb σ Y λy X=>r x y X λz Z=>∃k,z=.bl k /\
 (if k=ό then tc σ Z λW V=>r' y W V Q else Q 3e8 Z)
def Uk {op uu:CmpOp} {r r':R2} (ho:bF X (Ğ op) r) (ie:bF X (Ğ uu) r') (ha:PE X a ta) (hb:PE X b tb) (hc:PE X c tc)
  (hm:lastMarks [op,uu] [b,c]=ύ:=by with_unfolding_all rfl):PE X (.Compare a [op,uu] [b,c] pos) (LW r r' ta tb tc):=by
 intro Z s σ H Q I h;refine Compare_chain (aJ (ha Z s σ H _ I h) λv T ⟨x,S,R,P,O⟩=>chain_link (aJ (hb Z T σ S _ R O) λu N ⟨y,M,L,Y,K⟩ =>
  aJ (ho Z N σ M x y v u _ L P Y K) λd J ⟨z,W,V,G,k,e,U⟩=>?_)) hm
 subst e;cases G;refine Ū ?_
 cases k with
 |false=>exact ite_ff ⟨.bl ύ,W,V,rfl,U⟩
 |true=>exact ite_tt (chain_last (aJ (hc Z J σ W _ V U) λF E ⟨D,C,B,A,w⟩=>ie Z E σ C y D u F Q B Y A w))
def qG (K:İ) (x:V) (H:Hp) (k:Bool):Prop :=
 match x with
 | .ak=>k=ύ
 | .bl b=>k=b
 | .int i=>k=(i != 0)
 | .str y=>y.length<=Ù/\k=((y.length:Int) != 0)
 | .jT y=>y.size<=Ù/\k=((y.size:Int) != 0)
 | .ref p=>(∃Z,bN K H p Z/\k=!Z.isEmpty)\/(∃Z,bO K H p Z/\k=!Z.isEmpty)\/∃Y,H p=ϊ (.dK Y)/\k=!Y.isEmpty
 |_=>False
def RD {κ:Type} {aR:List (κ×V)} {vs:List (κ×È)} (r:KV aR vs):(!vs.isEmpty)=!aR.isEmpty:=by
 cases r<;>rfl
def IL (r:Vals xs its):(!its.toArray.isEmpty)=!xs.isEmpty:=by
 cases r<;>simp
def qj:(Ù:Nat)<2 ^ 63:=by rw[ţ];decide
def LX:abq X (λx H Q=>∃k,qG X.K x H k/\Q k H):=by
 intro J s σ H x v Q I U h;obtain⟨k,e,q⟩:=h;have G:=qj;have hs:Ù=16777216:=ţ
 cases x with
 |ak =>
  cases U;have Z:k=ύ:=e;subst Z;exact truthy_none ⟨H,I,q⟩
 |bl b =>
  cases U;have Z:k=b:=e;subst Z;exact Ū ⟨H,I,q⟩
 |int i =>
  obtain⟨t,rfl⟩:=U;have Z:k=(i != 0):=e;subst Z;exact PySem.P.truthy_int ⟨H,I,q⟩
 |str y =>
  obtain⟨t,rfl⟩:=U;obtain⟨M,Z⟩:y.length<=Ù/\k=((y.length:Int) != 0):=e;subst Z;exact PySem.P.truthy_str ⋯ ⟨H,I.tok _,q⟩
 |jT y =>
  obtain⟨t,rfl⟩:=U;obtain⟨M,Z⟩:y.size<=Ù/\k=((y.size:Int) != 0):=e;subst Z;exact PySem.W.truthy_bytes ⋯ ⟨H,I.tok _,q⟩
 |ref p =>
  cases U;have Z:(∃V,bN X.K H p V/\k=!V.isEmpty)\/(∃V,bO X.K H p V/\k=!V.isEmpty)\/∃T,H p=ϊ (.dK T)/\k=!T.isEmpty:=e
  rcases Z with ⟨V,S,Z⟩ | ⟨V,S,Z⟩ | ⟨T,S,Z⟩
  ·subst Z
   obtain⟨its,r,O,N⟩:=I.list S;have Y:=r.length;exact wpAny_truthy_list O.isList (by erw[Ý];omega) ⟨H,I.tok _,by rw[IL r];exact q⟩
  ·subst Z
   obtain⟨its,r,O,N⟩:=I.tuple S;have Y:=r.length;exact truthy_tuple O (by erw[Ý];omega) ⟨H,I.tok _,by rw[IL r];exact q⟩
  ·subst Z
   obtain⟨N,L,R,r,m⟩:T.length<=Ù/\(p==sysModules)=ύ/\∃R,KV T R/\s.heap.DictOf (yX X.prog X.w) p R:=I.az p _ S;have Y:T.length=R.length:=Paired.length r;exact wpAny_truthy_dict L m ⋯ ⟨H,I.tok _,by rw[RD r];exact q⟩
 |_=>exact(show False from e).elim
def Ul (ha:PE X a ta) (he:∀whole,isTrue a X.env whole=(do let v <- whole;aeU a.pos;aej [v] (truthy v))) :
  PT X a (fun σ H Q=>ta σ H λx H'=>∃k,qG X.K x H' k/\Q k H'):=by
 intro Z s σ H Q I h;exact isTrue_plain (aJ (ha Z s σ H _ I h) λv Y ⟨x,W,V,U,T⟩=>LX Z Y σ W x v Q V U T) (he _)
def RE:bF X (ŏ .Add) (λx y H Q=>∃i j,x=.str i/\y=.str j/\i.length+j.length<=Ù/\Q (.str (i++j)) H):=by
 intro U s σ H x y v u Q I Z Y h;obtain⟨i,j,rfl,rfl,W,q⟩:=h;obtain⟨t,rfl⟩:=Z;obtain⟨V,rfl⟩:=Y;exact add_str (λV T=>⟨.str (i++j),H,I.tok _,5e0,q⟩) W
def vals1 (r:Vals [x] us):∃u,us=[u]/\RelV x u:=by
 cases r with
 |cons Z Y=>cases Y;exact⟨_,rfl,Z⟩
def vals2 (r:Vals [x,y] us):∃u w',us=[u,w']/\RelV x u/\RelV y w':=by
 cases r with
 |cons Z Y =>
  cases Y with
  |cons X W=>cases W;exact⟨_,_,rfl,Z,X⟩
def SE (hc:X.calm=ό):cC X (.builtin "max") (λxs H Q=>∃i j,xs=[.int i,.int j]/\Q (.int (if j > i then j else i)) H):=by
 intro Y s σ H xs W Q I r h;obtain⟨i,j,rfl,q⟩:=h;obtain⟨u,V,rfl,⟨t,rfl⟩,⟨U,rfl⟩⟩:=vals2 r;calc max_two_ints (I.ok.hd hc) λT S k=>⟨_,H,I.kept k,?_,q⟩;by_cases Z:j > i
 ·rw[Ô Z,Ô Z];exact⟨_,rfl⟩
 ·rw[Ö Z,Ö Z];exact⟨_,rfl⟩
def SF (hc:X.calm=ό):cC X (.builtin "min") (λxs H Q=>∃i j,xs=[.int i,.int j]/\Q (.int (if j<i then j else i)) H):=by
 intro Y s σ H xs W Q I r h;obtain⟨i,j,rfl,q⟩:=h;obtain⟨u,V,rfl,⟨t,rfl⟩,⟨U,rfl⟩⟩:=vals2 r;calc min_two_ints (I.ok.hd hc) λT S k=>⟨_,H,I.kept k,?_,q⟩;by_cases Z:j<i
 ·rw[Ô Z,Ô Z];exact⟨_,rfl⟩
 ·rw[Ö Z,Ö Z];exact⟨_,rfl⟩
def QD:cC X (.type "str") (λxs H Q=>∃i,xs=[.int i]/\i.natAbs.log2<1920/\Q (.str (toString i)) H):=by
 intro Y s σ H xs W Q I r h;obtain⟨i,rfl,Z,q⟩:=h;obtain⟨u,rfl,t,rfl⟩:=vals1 r;exact PySem.P.str_of_int Z ⟨.str _,H,I.tok _,5e0,q⟩
end
structure ck (k:Nat) (A:ó):Prop where
 hd:A.handled=ϋ
 dp:A.depth+3*k+5<recursionLimit
 un:A.units+16*k+200<aer
 gd:A.guards=ϊ []
def ck.mono (r:ck k A) (h:j<=k):ck j A:=⟨r.hd,by have:=r.dp;omega,by have:=r.un;omega,r.gd⟩
theorem ck.deeper (r:ck (k+1) A) (env:Env):ck k (A.deeper env) :=
 ⟨r.hd,by have:=r.dp;show A.depth+1+3*k+5 < _;omega,by have:=r.un;show A.units+3+16*k+200 < _;omega,r.gd⟩
theorem ck.depth (r:ck k A):A.depth<recursionLimit:=by have:=r.dp;omega
def abu:TA:=λ_ H Q=>Q [] H
def Z8 (ta:TE) (tr:TA):TA:=fun σ H Q=>ta σ H λx Z=>tr σ Z λY X=>Q (x::Y) X
section
variable {X:Cx} {e:ĳ} {es:List ĳ} {te:TE} {t:TA} {pos:Pos}
def iD:PA X [] abu:=λ_ _ _ _ H Q I h=>Calls.spliced_nil ⟨[],H,I,.nil,h⟩
def gn (ha:PE X e te) (hr:PA X es t) (hs:Ð 8e7 X.env=5e5::Ð es X.env:=by rfl):PA X 8e7 (Z8 te t):=by
 intro pos Z s σ H Q I h;rw[hs];show ß _ _ (spliced (5e5::ŀ pos (Ð es X.env))) _ _ s;calc adK (aJ (ha Z s σ H _ I h) λu Y ⟨x,W,V,U,T⟩=>?_);exact aJ (hr pos Z Y σ W _ V T) λM L ⟨S,R,P,O,N⟩=>⟨x::S,R,P,.cons U O,N⟩
def abv (t:TA):TE:=fun σ H Q=>t σ H λZ Y=>Z.length<=Ù/\∀p,Y p=ϋ->Q 7e3 (upd Y p (.tup Z))
def abw (t:TA):TE:=fun σ H Q=>t σ H λZ Y=>Z.length<=Ù/\∀p,Y p=ϋ->Q 7e3 (upd Y p (.lst Z))
def Yh {x1} (h:PA X es t):PE X (.Tuple es x1 pos) (abv t):=by
 intro V s σ H Q I U;calc wpAny_Tuple_spliced (aJ (h pos V s σ H _ I U) λT Z ⟨S,Y,W,r,z,q⟩=>⟨by rw[<- r.length];exact z,?_⟩);have R:Y Z.heap.objs.size=ϋ:=W.az.fresh 3e0;calc⟨.ref Z.heap.objs.size,upd Y Z.heap.objs.size (.tup S),W.laid (t':=Z.toks) (λb u e=>Á _ e) 3e0 ?_,rfl,q _ R⟩;exact⟨z,T,r,⟨_,Ò _ rfl,rfl,_,rfl⟩⟩
def LY (h:PA X es t):PE X (.List es pos) (abw t):=by
 intro V s σ H Q I U;calc wpAny_List_spliced (aJ (h pos V s σ H _ I U) λT Z ⟨S,Y,W,r,z,q⟩=>⟨by rw[<- r.length];exact z,?_⟩);have R:Y Z.heap.objs.size=ϋ:=W.az.fresh 3e0;calc⟨.ref Z.heap.objs.size,upd Y Z.heap.objs.size (.lst S),W.laid (t':=Z.toks) (λb u e=>Á _ e) 3e0 ?_,rfl,q _ R⟩;exact⟨z,T,0,r,Ò _ rfl⟩
end
abbrev Sp:=List V->Hp->VK->XK->Prop
abbrev jW:=List Env->Hp->Æ->XK->È->Æ->Prop
structure tI (P:ê) (w:Ď) (K:İ) (mg:Str->Option È) (base:Ŀ) (A:ó) (outer:List Env) (s:Æ) (H:Hp):Prop where
 frames:A.frames=ϊ outer
 mod:Mod K mg base
 bs:∀b o,base.get? b=ϊ o->s.heap.get? b=ϊ o/\H b=ϋ
 jq:base.objs.size<=s.heap.objs.size
 jk:s.heap.FunFrames base outer
 lF:∀b∈cm outer,H b=ϋ
 az:cN P w H s.heap
 bare:ae4 s.gens
def CE (outer:List Env) (P:ê) (w:Ď) (H:Hp) (s:Æ) (Q:VK) (u:È) (s':Æ):Prop :=
 ∃v Z,s'.os=s.os/\ae4 s'.gens/\Un (cm outer) [] H Z s.heap s'.heap/\cN P w Z s'.heap/\RelV v u/\Q v Z
def CR (CX:jW) (outer:List Env) (P:ê) (w:Ď) (H:Hp) (s:Æ) (Q:VK) (E:XK) (r:Result) (s':Æ):Prop :=
 match r with
 | .ok (.ret u)=>CE outer P w H s Q u s'
 | .ok _=>False
 | .error e=>CX outer H s E e s'
structure dG (P:ê) (w:Ď) (K:İ) (mg:Str->Option È) (base:Ŀ) (CX:jW) (k:Nat) (f:Þ) (fd:ĺ) (ps:List Str) (sp:Sp):Prop where
 len:∀vs H Q E,sp vs H Q E->vs.length=ps.length
 run:∀(A:ó) (outer:List Env) (s:Æ) (H:Hp) (args:Args) (us:List È) (vs:List V) (Q:VK) (E:XK),ck k A->tI P w K mg base A outer s H->BindsTo s fd args (ps.zip us)->Vals vs us->sp vs H Q E ->
  acN 2e0 A (.call (.ref f) args) (CR CX outer P w H s Q E) s
def dG.imp {P:ê} {w:Ď} {K:İ} {mg:Str->Option È} {base:Ŀ} {CX:jW} {k:Nat} {f:Þ} {fd:ĺ} {ps:List Str} {sp OO:Sp} (F:dG P w K mg base CX k f fd ps sp)
  (h:∀vs H Q E,OO vs H Q E->sp vs H Q E):dG P w K mg base CX k f fd ps OO :=
 ⟨λvs H Q E q=>F.len vs H Q E (h _ _ _ _ q),λA outer s H args Z vs Q E Y X W V hs=>F.run A outer s H args Z vs Q E Y X W V (h _ _ _ _ hs)⟩
section
variable {X:Cx} {π:List (Þ×Obj)} {σ:St} {H:Hp} {s s':Æ}
def Inv.nF (I:Inv X π σ H s):tI X.prog X.w X.K X.mg X.base X.A X.stack s H :=
 ⟨I.ok.frames,I.ok.mod,I.bs,Ü I.ok.jq I.sz,I.stack,I.vB,I.az,I.bare⟩
def Inv.after (I:Inv X π σ H s) (h:CE X.stack X.prog X.w H s Q u s'):EP X π σ Q u s':=by
 obtain⟨v,Z,os,bare,un,Y,r,q⟩:=h;obtain⟨W,g,d,t,V⟩:=s';obtain rfl:V=s.os:=os;exact⟨v,Z,I.call (h':=W) (g':=g) (d':=d) (t':=t) (ch:=[]) un Y bare (λb z=>absurd z ∅),r,q⟩
end
def MW (sp:Sp) (ai:List V) (E:XK) (t:TA):TE:=fun σ H Q=>t σ H λZ Y=>sp (Z++ai) Y Q E
def Binds (K:İ) (fd:ĺ) (ps:List Str) (ds:List È):Prop :=
 ∀(s:Æ) (Z:List È),K.In s.heap->(Z++ds).length=ps.length->BindsTo s fd ⟨Z,[]⟩ (ps.zip (Z++ds))
def Binds.all {K:İ} {fd:ĺ} {ps:List Str} (h:∀us:List È,us.length=ps.length->bindArgs fd ⟨us,[]⟩=pure (ps.zip us)):Binds K fd ps []:=λs us _ Z=>by
 rw[ć] at Z |-;exact .of_eq (h us Z)
def Passes (CX:jW) (X:Cx) (E:XK):Prop:=∀(Y:List (Þ×Obj)) (σ:St) (H:Hp) (s:Æ) (e:È) (Z:Æ),Inv X Y σ H s->CX X.stack H s E e Z->X.xe e Z
section
variable {X:Cx} {CX:jW} {k:Nat} {f C:Þ} {fd:ĺ} {ps:List Str} {sp:Sp} {ai:List V} {ds:List È} {E:XK} {x m:Str} {p pos apos:Pos} {e o:ĳ} {es:List ĳ} {ta:TE} {t:TA}
def Yi {π:List 2e7} {σ:St} {H:Hp} {s:Æ} {Q:VK} {us:List È} {vs:List V} (F:dG X.prog X.w X.K X.mg X.base CX k f fd ps sp) (hr:ck k X.A) (hb:Binds X.K fd ps ds) (hd:Vals ai ds) (hx:Passes CX X E)
  (I:Inv X π σ H s) (r:Vals vs us) (h:sp (vs++ai) H Q E):ß 0e2 X.A (call (.ref f) us) (EP X π σ Q) X.xe s:=by
 have Y:Vals (vs++ai) (us++ds):=r.append hd;have W:(us++ds).length=ps.length:=by rw[<- Y.length];exact F.len _ _ _ _ h
 refine adA (Ŋ (F.run X.A X.stack s H ⟨us,[]⟩ (us++ds) (vs++ai) Q E hr I.nF (hb s us I.jr W) Y h) λr U Z=>?_)
 cases r with
 |error e=>exact hx π σ H s e U I Z
 |ok T =>
  cases T with
  |ret u=>exact I.after Z
  |next=>exact Ī Z
  |brk=>exact Ī Z
  |cont=>exact Ī Z
def KS (F:dG X.prog X.w X.K X.mg X.base CX k f fd ps sp) (hr:ck k X.A) (hg:Gl X x) (hm:X.mg x=ϊ (.ref f)) (hk:θ X.K (.ref f)=ό) (hb:Binds X.K fd ps ds) (hd:Vals ai ds) (hx:Passes CX X E)
  (ha:PA X 8e7 t) (fe:0e8=ύ:=by decide) (he:Ð 8e7 X.env=5e5::Ð es X.env:=by rfl) (bP:(ŀ pos (Ð es X.env)).any (·.1)=ύ:=by rfl) :
  PE X 2e1 (MW sp ai E t):=by
 intro Y s σ H Q I h;calc acR (sj I hg hm ?_ fe);calc aeK (h₀:=X.base) I.ok.mod.lE hk (aJ (ha pos Y s σ H _ I h) λW V ⟨U,T,Z,r,q⟩=>⟨Z.jr,?_⟩) he bP;exact Yi F hr hb hd hx Z r q
end
structure qe (N P:List Str) (sc:acB):Prop where
 kind:sc.kind=.function
 co:sc.isCoroutine=ύ
 gen:sc.isGenerator=ύ
 nd:N.Nodup
 pre:N.take P.length=P
 par:∀x∈P,sc.names.lookup x=ϊ .local\/sc.names.lookup x=ϊ .cell
 Yj:∀y∈sc.names,y.2≠.free
theorem Jf {kindOf:Str->Option ξ} {x:Str}:∀{binds:List (Str×È)} {m:Str->Option È},(∀v,(x,v)∉binds)->bindL kindOf binds m x=m x
 | [],_,_=>rfl
 |(n,v)::r,m,h=>by
  delta bindL;rw[Jf λw hw=>h w (Ì _ hw)];split
  ·have:x≠n:=by rintro rfl;exact h v Õ
   simp[this]
  ·rfl
theorem Jg {kindOf:Str->Option ξ} {x:Str}:∀{binds:List (Str×È)} {m:Str->Option È},(∀v,(x,v)∉binds)->bindC kindOf binds m x=m x
 | [],_,_=>rfl
 |(n,v)::r,m,h=>by
  delta bindC;rw[Jg λw hw=>h w (Ì _ hw)];split
  ·rfl
  ·have:x≠n:=by rintro rfl;exact h v Õ
   simp[this]
theorem Jh {kindOf:Str->Option ξ} {x:Str} {v:È}:∀{P:List Str} {vs:List È} {i:Nat} {m:Str->Option È},P.Nodup->P[i]?=ϊ x->vs[i]?=ϊ v->kindOf x=ϊ .local ->
  bindL kindOf (P.zip vs) m x=ϊ v
 | [],_,_,_,_,h,_,_=>by simp at h
 |_::_,[],_,_,_,_,h,_=>by simp at h
 |p::P,w::vs,0,m,X,Z,Y,W=>by
  simp at Z Y;subst Z;subst Y;show bindL kindOf ((p,w)::P.zip vs) m p=_;delta bindL;rw[Jf λv V=>(Ű.mp X).1 (aex V).1,Ô W];simp
 |p::P,w::vs,i+1,m,X,Z,Y,W=>by
  show bindL kindOf ((p,w)::P.zip vs) m x=_;delta bindL;exact Jh (i:=i) (Ű.mp X).2 (by simpa using Z) (by simpa using Y) W
theorem Ji {kindOf:Str->Option ξ} {x:Str} {v:È}:∀{P:List Str} {vs:List È} {i:Nat} {m:Str->Option È},P.Nodup->P[i]?=ϊ x->vs[i]?=ϊ v->kindOf x≠ϊ .local ->
  bindC kindOf (P.zip vs) m x=ϊ v
 | [],_,_,_,_,h,_,_=>by simp at h
 |_::_,[],_,_,_,_,h,_=>by simp at h
 |p::P,w::vs,0,m,X,Z,Y,W=>by
  simp at Z Y;subst Z;subst Y;show bindC kindOf ((p,w)::P.zip vs) m p=_;delta bindC;rw[Jg λv V=>(Ű.mp X).1 (aex V).1,Ö W];simp
 |p::P,w::vs,i+1,m,X,Z,Y,W=>by
  show bindC kindOf ((p,w)::P.zip vs) m x=_;delta bindC;exact Ji (i:=i) (Ű.mp X).2 (by simpa using Z) (by simpa using Y) W
def start (N:List Str) (vs:List V):St:=vs.map ϊ++Ø (N.length-vs.length) ϋ
def iZ (CX:jW) (P:ê) (w:Ď) (K:İ) (mg:Str->Option È) (base:Ŀ) (N:List Str) (qual:Str) (scope:acB) (f:Þ) (cd:È) (A:ó) (outer:List Env) (s:Æ) (H:Hp) (E:XK):Cx where
 prog:=P
 w:=w
 K:=K
 mg:=mg
 base:=base
 A:=A.deeper (afa qual scope s.heap.objs.size f cd)
 N:=N
 c8:=s
 mx:=H
 env:=afa qual scope s.heap.objs.size f cd
 outer:=outer
 stack:=afa qual scope s.heap.objs.size f cd::outer
 ex:=[]
 calm:=ό
 fn:=λ_=>ό
 pn:=[]
 xe:=λe Y=>ß 2e0 (A.deeper (afa qual scope s.heap.objs.size f cd)) (leaving (afa qual scope s.heap.objs.size f cd) e) (λ_ Z=>CX outer H s E e Z) (λX Z=>CX outer H s E X Z) Y
def JQ {sc:acB} {n:Nat} {x:Str} (h:sc.names.lookup x=ϊ .cell):∃c,(adk n sc.names []).lookup x=ϊ c:=by
 have q:=acP sc.names n [] (.inl h);exact adB.mp q
def Jj {CX:jW} {P:ê} {w:Ď} {K:İ} {mg:Str->Option È} {base:Ŀ} {N ps:List Str} {qual:Str} {scope:acB} {f:Þ} {cd:È} {A:ó} {outer:List Env} {s s1:Æ} {H:Hp} {E:XK} {us:List È} {vs:List V}
  (S:qe N ps scope) (hd:A.handled=ϋ) (e0:tI P w K mg base A outer s H) (hl:vs.length=ps.length) (r:Vals vs us)
  (x:InCallC s s.heap.objs.size (bindL (afa qual scope s.heap.objs.size f cd).kindOf (ps.zip us) λ_=>ϋ) (adk (s.heap.objs.size+1) scope.names []) (bindC (afa qual scope s.heap.objs.size f cd).kindOf (ps.zip us) λ_=>ϋ) s1) :
  Inv (iZ CX P w K mg base N qual scope f cd A outer s H E) [] (start N vs) H s1:=by
 have M:ps.length<=N.length:=by have:=ĵ List.length S.pre;rw[ĉ] at this;omega
 obtain⟨X,L,rfl,U⟩:=x.done;have W:∀b:Þ,b∉(iZ CX P w K mg base N qual scope f cd A outer s H E).ex:=λb z=>absurd (show b∈([]:List Þ) from z) ∅;refine⟨⟨e0.mod,S.kind,rfl,rfl,afn _,λy z c X Z=>?_,λy hy=>?_,λy c _ h=>?_,λ_=>hd,Around.frames_deeper e0.frames,.inr 1e4,λb z=>absurd z (W b),e0.bs,e0.jq,λb _ _=>W b,λb z=>absurd z (W b),e0.jk,e0.lF⟩,
  rfl,e0.bare,Un.kept U,⟨_,x.toInCall.ns,λi y v X Z J=>?_⟩,λy c h=>⟨_,x.cell y c h⟩,e0.az.fresh 3e0,λy c h=>?_,λp Y=>absurd (show p∈([]:List 2e7) from Y) ∅,e0.az.kept U,?_⟩
 ·exact name_of_addr x.apart (ņ X) (ņ Z)
 ·have hy:scope.names.lookup y=ϊ .cell\/scope.names.lookup y=ϊ .free:=hy
  rcases hy with hy|hy
  ·exact JQ hy
  ·exact absurd rfl (S.Yj _ (ņ hy))
 ·exact Nat.le_of_lt (x.above y c (ņ h))
 ·have hi:i<vs.length:=by
   delta start at Z;by_cases hi:i<vs.length
   ·exact hi
   ·rw[í (by simpa using hi)] at Z
    rw[ľ] at Z
    split at Z<;>cases Z
  have Q:vs[i]?=ϊ v:=by
   delta start at Z;rw[â (by simpa using hi),é] at Z
   cases e:vs[i]? with
   |none=>rw[e] at Z;cases Z
   |some a=>rw[e] at Z;cases Z;rfl
  obtain⟨u,T,O⟩:=r.get Q;have Y:ps[i]?=ϊ y:=by
   rw[<- S.pre,adC ⋯];exact X
  have R:ps.Nodup:=by rw[<- S.pre];exact S.nd.sublist (ad5 _ _)
  refine⟨u,O,?_⟩
  rcases S.par y (Ē Y) with k|k
  ·exact .inl ⟨k,Jh R Y T k⟩
  ·obtain⟨c,e⟩:=JQ (n:=s.heap.objs.size+1) k
   calc .inr ⟨.inl k,c,e,?_⟩;have q:=x.cell y c e;rw[Ji R Y T (by show scope.names.lookup y≠_;rw[k];decide)] at q;exact q
 ·exact e0.az.fresh (Nat.le_of_lt (x.above y c (ņ h)))
 ·delta start
  show _=N.length;rw[à,Ä,acV];omega
def Ea {CX:jW} {P:ê} {w:Ď} {K:İ} {mg:Str->Option È} {base:Ŀ} {k:Nat} {f:Þ} {name qual:Str} {params:aeZ} {body:List aeW} {scope:acB} {dV kV doc pm bq ct oc:È} {an od:Option Þ}
  {jX:Array (Option È)} {N ps:List Str} {sp:Sp} (lk:K.lookup f=ϊ ⟨oc,od,.func 7e9,jX⟩) (fc:adl K bq qual=ό) (S:qe N ps scope)
  (len:∀vs H Q E,sp vs H Q E->vs.length=ps.length)
  (k9:∀(A:ó) (outer:List Env) (s:Æ) (H:Hp) (vs:List V) (Q:VK) (E:XK),ck k 5e8->sp vs H Q E ->
   ∃t,dq (iZ CX P w K mg base N qual scope f bq A outer s H E) body t/\t { nx:=λ_ H'=>Q .ak H',rt:=Q } (start N vs) H) :
  dG P w K mg base CX (k+1) f 7e9 ps sp:=by
 calc⟨len,λA outer s H args L vs Q E X Z G r R=>?_⟩;have F:=len _ _ _ _ R;have O:K.In s.heap:=Z.mod.lE.keeps λb o e=>(Z.bs b o e).1;have lim:s.heap.NoLimit:=Z.mod.nolimit.keeps λb o e=>(Z.bs b o e).1;have D:∀y∈ps.zip L,scope.names.lookup y.1=ϊ .local\/(scope.names.lookup y.1=ϊ .cell/\((adk (s.heap.objs.size+1) scope.names []).lookup y.1).isSome=ό):=λ⟨n,v⟩ C=>by
  rcases S.par n (aex C).1 with q|q
  ·exact .inl q
  ·exact .inr ⟨q,acP _ _ _ (.inl q)⟩
 calc codeAny_call_function X.depth (O _ _ lk) rfl S.co S.gen rfl (PySem.W.codeRec_of O fc) (G _ _ _ _ ?_);calc wpAny_newFunctionEnv_cells S.kind D λenv B M x=>?_;subst B;calc⟨lim.keeps x.toInCall.keep,codeAny_func ?_⟩;obtain⟨t,z,p⟩:=k9 A outer s H vs Q E (X.deeper _) R;have I:Inv (iZ CX P w K mg base N qual scope f bq A outer s H E) [] (start N vs) H M:=Jj S X.hd Z F r x;calc ħ (z [] M (start N vs) H _ I p) (λm U hs=>?_) λe U hs=>hs;have fin:∀{Y:St} {H':Hp} {v:V} {u:È},Inv (iZ CX P w K mg base N qual scope f bq A outer s H E) [] Y H' U->RelV v u->Q v H'->CE outer P w H s Q u U :=
  λ{Y H' v u} J T q=>⟨v,H',J.os,J.bare,J.base,J.az,T,q⟩
 cases m with
 |ret u =>
  obtain⟨v,Y,H',J,T,q⟩:=hs;exact fin J T q
 |next =>
  obtain⟨Y,H',J,q⟩:=hs;exact fin (v:=V.ak) (u:=Value.none) J rfl q
 |brk =>
  obtain⟨_,_,_,q⟩:=hs;exact Ī q
 |cont =>
  obtain⟨_,_,_,q⟩:=hs;exact Ī q
section
variable {X:Cx} {x:Str} {p pos:Pos} {e:ĳ} {es:List ĳ} {t:TA} {id T:String} {r:List V->Hp->VK->Prop}
def FD (r:List V->Hp->VK->Prop) (t:TA):TE:=fun σ H Q=>t σ H λZ Y=>r Z Y Q
def rW (hc:cC X (.builtin id) r) (hg:Gl X x) (hm:X.mg x=ϋ) (hv:ü x=ϊ (.builtin id)) (ha:PA X 8e7 t) (hn:x≠"__name__":=by decide) (fe:0e8=ύ:=by decide)
  (he:Ð 8e7 X.env=5e5::Ð es X.env:=by rfl) (bP:(ŀ pos (Ð es X.env)).any (·.1)=ύ:=by rfl):PE X 2e1 (FD r t):=by
 intro Z s σ H Q I h;calc acR (sG I hg hm hv ?_ hn fe);exact PyProof.Rows.callWith_builtin1 (aJ (ha pos Z s σ H _ I h) λY W ⟨V,U,T,S,R⟩=>hc Z W σ U V Y Q T S R) he bP
def yD (hc:cC X (.type T) r) (hg:Gl X x) (hm:X.mg x=ϋ) (hv:ü x=ϊ (.type T)) (ha:PA X 8e7 t) (hn:x≠"__name__":=by decide) (fe:0e8=ύ:=by decide)
  (he:Ð 8e7 X.env=5e5::Ð es X.env:=by rfl) (bP:(ŀ pos (Ð es X.env)).any (·.1)=ύ:=by rfl):PE X 2e1 (FD r t):=by
 intro Z s σ H Q I h;calc acR (sG I hg hm hv ?_ hn fe);exact ů (aJ (ha pos Z s σ H _ I h) λY W ⟨V,U,S,R,P⟩=>hc Z W σ U V Y Q S R P) he bP
end
end L2
namespace HT
open PySem PyProof.Rows
def lexLt:List Int->List Int->Bool
 | [],[]=>ύ
 | [],_::_=>ό
 |_::_,[]=>ύ
 |x::Z,y::Y=>if x=y then lexLt Z Y else ώ (x<y)
def ke (x y:Int) (xs ys:List Int):lexLt (x::xs) (y::ys)=if x=y then lexLt xs ys else ώ (x<y):=rfl
def JR (A:ó) (s:Æ) (a:Int) (t:Tok) (c:Int) (u:Tok) (prog:ê) (w:Ď) (E:È->Æ->Prop) (Q:È->Æ->Prop) (h:Q (.bool (ώ (a<c))) s) :
  ß 2e3 A (richCompare .Lt (.int a t) (.int c u)) Q E s :=
 (PyProof.Rows.lt_int h:ß 2e3 A (Ğ .Lt (.int a t) (.int c u)) Q E s)
section
variable {prog:ê} {w:Ď} {A:ó} {E:È->Æ->Prop} {s:Æ}
def Wf (ht:IsTup s.heap t vs.toArray) (hb:IsTup s.heap b ws.toArray) (hv:vs≠[])
 (h1:ws=[]->Q (.ref t) s) (h2:ws≠[]->Q 0e7 { s with heap:=s.heap.push { cls:=.type "tuple",data:=.seq (vs++ws).toArray } })
 (hsz:vs.length+ws.length<=Ù):ß 2e3 A (ŏ .Add (.ref t) (.ref b)) Q E s:=by
 obtain⟨⟨cls,X,data,sl⟩,Z,W,n,V⟩:=id ht;obtain⟨⟨P,U,data2,T⟩,Y,S,R,hd2⟩:=id hb;simp only at W V S hd2;subst W V S hd2;have e:vs.toArray++ws.toArray=(vs++ws).toArray:=by simp
 by_cases hw:ws=[]
 ·exact concat_meets ⟨_,Z,rfl⟩ ⟨_,Y,rfl⟩ noFill_tuple_add seq_tuple_add ad1 adL (adD _ _)
   (tuple_addW1 t b vs.toArray ws.toArray n R X U sl T (by simpa using hv) (by simp[hw])) ⟨Z,Y,h1 hw⟩
 ·refine concat_meets ⟨_,Z,rfl⟩ ⟨_,Y,rfl⟩ noFill_tuple_add seq_tuple_add ad1 adL (adD _ _)
   (tuple_addW2 t b vs.toArray ws.toArray n R X U sl T (by simpa using hv) (by simpa using hw) (by rw[Ý,Ý];exact hsz)) ⟨Z,Y,?_⟩
  rw[e];exact h2 hw
def aP (n d:Nat):Option Int->Nat
 |none=>d
 |some v=>if v<0 then (v+(n:Int)).toNat else min v.toNat n
def Dj (n d:Nat) (hd:d<=n) (o:Option Int):aP n d o<=n:=by
 cases o with
 |none=>exact hd
 |some v =>
  show (if v<0 then (v+(n:Int)).toNat else min v.toNat n)<=n
  by_cases Z:v<0
  ·rw[Ô Z];omega
  ·rw[Ö Z];exact Nat.min_le_right _ _
def KU (v:Int) (n d:Nat):(if v<0 then max (v+(n:Int)) 0 else min v (n:Int))=((aP n d (ϊ v):Nat):Int):=by
 show (if v<0 then max (v+(n:Int)) 0 else min v (n:Int))=(((if v<0 then (v+(n:Int)).toNat else min v.toNat n):Nat):Int)
 by_cases Z:v<0
 ·erw[Ô Z];omega
 ·erw[Ö Z];omega
def RF (lo hi:Option Int) (n:Nat):adm lo hi 1 (n:Int)=(((aP n 0 lo:Nat):Int),((aP n n hi:Nat):Int)):=by
 have Z:¬ ((1:Int)<0):=by omega
 delta adm;erw[Z,õ];refine Prod.ext ?_ ?_
 ·cases lo with
  |none=>rfl
  |some v=>exact KU v n 0
 ·cases hi with
  |none=>rfl
  |some v=>exact KU v n n
def RG (i j:Nat):ι (i:Int) (j:Int) 1=j-i:=by
 delta ι;have Z:(1:Int) > 0:=by omega
 erw[Z,ÿ,Int.ediv_one]
 split<;>omega
def IM (p:IsPart v o) (h:Q o s):ß 2e3 A (Builtin.Slice.slicePartIndex v) Q E s:=by
 cases p with
 |none=>exact slicePart_none h
 |int i t=>exact slicePart_int h
def H9 {lo hi:Option Int} {n:Nat} {Q:Int×Int×Nat->Æ->Prop} (hs:s.heap.IsSliceOf sl vl vu .none) (pl:IsPart vl lo) (pu:IsPart vu hi)
 (h:Q (((aP n 0 lo:Nat):Int),1,aP n n hi-aP n 0 lo) s):ß 2e3 A (aeH (.ref sl) (pure (n:Int))) Q E s:=by
 obtain⟨os,Z,X,Y⟩:=id hs;delta aeH Builtin.Slice.sliceFields;calc À (À (Ĺ Z Y (x:=vl) rfl (À (Ĺ Z Y (x:=vu) rfl (À (Ĺ Z Y (x:=.none) rfl (Â ?_)))))));refine À (slicePart_none ?_)
 show ß _ _ (if ((1:Int)==0)=ό then _ else _) _ _ s
 rw[Ö 0e0];refine À (IM pl (À (IM pu (À (Â ?_)))))
 show ß _ _ (match adm lo hi 1 (n:Int) with | (lo,hi)=>pure (lo,(1:Int),ι lo hi 1)) _ _ s
 rw[RF lo hi n];show ß _ _ (pure (((aP n 0 lo:Nat):Int),(1:Int),ι ((aP n 0 lo:Nat):Int) ((aP n n hi:Nat):Int) 1)) _ _ s;rw[RG];exact Â h
def Um (xs:Array È) (i k:Nat):((ö k).filterMap λ(m:Nat)=>xs[((i:Int)+(m:Int)*1).toNat]?).toArray=((xs.toList.drop i).take k).toArray:=by
 have e:(λ(m:Nat)=>xs[((i:Int)+(m:Int)*1).toNat]?)=λm=>xs[i+m]?:=by
  funext m;have:((i:Int)+(m:Int)*1).toNat=i+m:=by omega
  rw[this]
 rw[e];have:=pick_run xs i k;rw[List.filterMap_map] at this;have e2:((λx=>xs[x]?) ∘ λx=>i+x)=λm=>xs[i+m]?:=rfl;rw[e2] at this;rw[this]
def Qa {lo hi:Option Int} {Q:È->Æ->Prop} (ht:IsTup s.heap t items) (hs:s.heap.IsSliceOf sl vl vu .none) (pl:IsPart vl lo) (pu:IsPart vu hi)
 (hw:¬ (aP items.size 0 lo=0/\aP items.size items.size hi=items.size))
 (h:Q 0e7 { s with heap:=s.heap.push { cls:=.type "tuple",data:=.seq ((items.toList.drop (aP items.size 0 lo)).take 4e1).toArray } })
 (hsz:items.size<=Ù):ß 2e3 A (getItem (.ref t) (.ref sl)) Q E s:=by
 have Z:sizeOk (.seq ((items.toList.drop (aP items.size 0 lo)).take 4e1).toArray):=by
  show ((items.toList.drop (aP items.size 0 lo)).take 4e1).toArray.size<=Ù;rw[Ý,ĉ,Ŕ,ë];omega
 have U:aP items.size items.size hi<=items.size:=Dj _ _ 3e0 hi;obtain⟨os,Y,X,T⟩:=id hs;have W:s.TypeIs (.ref sl) "slice":=⟨os,Y,X⟩;delta getItem
 try with_reducible refine Ĉ ?_
 first|refine À (Â ?_)|skip
 calc À (wpAny_sequenceKey ht.typeIs 0e0 ?_);refine À (Ġ (name:=Ċ "__getitem__") ht.typeIs Ĭ
  (ě Ĭ ht.typeIs entry_tuple_getitem ?_ (args_tuple_getitem _ _)))
 show ß _ _ (Ŷ (.ref t) >>= _) _ _ s;calc À (tupleItemsOf_ ht ?_);calc À (adE W ?_);rw[Ô 0e0];calc À (H9 hs pl pu ?_);have V:¬ ((((aP items.size 0 lo:Nat):Int)==0&&(1:Int)==1&&4e1==items.size)=ό):=by
  intro q;rw[Å,Å] at q;have S:((aP items.size 0 lo:Nat):Int)=0:=eq_of_beq q.1.1;have R:aP items.size items.size hi-aP items.size 0 lo=items.size:=eq_of_beq q.2;exact hw ⟨by omega,by omega⟩
 show ß _ _ (if (((aP items.size 0 lo:Nat):Int)==0&&(1:Int)==1&&4e1==items.size)=ό then _ else _) _ _ s
 rw[Ö V,Um]
 first
  |exact À (m:=š _) (č (Â ⟨_,rfl,Â h⟩) Z)
  |exact À (m:=š _) (č (À (Â (Â ⟨_,rfl,Â h⟩))) Z)
  |exact À (À (m:=š _) (č (Â (Â ⟨_,rfl,Â h⟩)) Z))
  |exact À (À (m:=š _) (č (Â ⟨_,rfl,Â h⟩) Z))
end
end HT
namespace L2
open PySem PySem.Spec PyProof.Rows
abbrev TO:=St->Hp->(Option Int->Hp->Prop)->Prop
def PO (X:Cx) (e:Option ĳ) (t:TO):Prop :=
 ∀(Z:List (Þ×Obj)) (s:Æ) (σ:St) (H:Hp) (Q:Option Int->Hp->Prop),Inv X Z σ H s->t σ H Q ->
  ß 0e2 X.A (evalPart e X.env) (λu W=>∃o Y,Inv X Z σ Y W/\IsPart u o/\Q o Y) X.xe s
def Wg:TO:=λ_ H Q=>Q ϋ H
def aaa (t:TE):TO:=fun σ H Q=>t σ H λx Z=>∃i,x=.int i/\Q (ϊ i) Z
def intsAre_of:∀{us:List È},Vals (ns.map V.int) us->aek us ns:=by
 induction ns with
 |nil=>intro us r;rw[acA] at r;cases r;exact .nil
 |cons n ns ih =>
  intro us r;rw[ç] at r
  cases r with
  |cons Z Y =>
   obtain⟨t,e⟩:=Z;subst e;exact .cons n t (ih Y)
section
variable {X:Cx} {e:ĳ} {te:TE} {lo hi:Option ĳ} {tl th:TO} {pos p2:Pos}
def Wh:PO X ϋ Wg:=by
 intro Z s σ H Q I h;rw[evalPart_none];exact Â ⟨ϋ,H,I,.none,h⟩
def Wi (h:PE X e te):PO X (ϊ e) (aaa te):=by
 intro Z s σ H Q I hw;rw[evalPart_some];calc aJ (h Z s σ H _ I hw) λu T ⟨x,Y,W,V,U⟩=>?_;obtain⟨i,rfl,q⟩:=U;obtain⟨t,rfl⟩:=V;exact⟨ϊ i,Y,W,.int i t,q⟩
def rf (X:Cx) (r:V->Option Int->Option Int->Hp->VK->Prop):Prop :=
 ∀(Z:List (Þ×Obj)) (s:Æ) (σ:St) (H:Hp) (x:V) (v Y W:È) (lo hi:Option Int) (sl:Þ) (Q:VK),Inv X Z σ H s->RelV x v->s.heap.IsSliceOf sl Y W .none->IsPart Y lo->IsPart W hi->r x lo hi H Q ->
  ∃T id,typeLookup (.type T) "__getitem__"=pure (ϊ (.builtin id))/\s.TypeIs v T/\ß 0e2 X.A (getItem v (.ref sl)) (EP X Z σ Q) X.xe s
def tSl (r:V->Option Int->Option Int->Hp->VK->Prop) (te:TE) (tl th:TO):TE:=fun σ H Q=>te σ H λx Z=>tl σ Z λl Y=>th σ Y λu X=>r x l u X Q
def JS (hr:rf X r) (he:PE X e te) (hl:PO X lo tl) (hu:PO X hi th):PE X (.Subscript e (.Slice lo hi ϋ p2) pos) (tSl r te tl th):=by
 intro Y s σ H Q I h;calc Subscript_ (aJ (he Y s σ H _ I h) λv S ⟨x,R,P,O,N⟩=>?_);calc wpAny_Slice (aJ (hl Y S σ R _ P N) λW M ⟨l,L,K,J,G⟩=>aJ (hu Y M σ L _ K G) λV Z ⟨u,U,F,pu,E⟩=>?_);rw[evalPart_none];refine Â ?_
 have D:Inv X Y σ U { Z with heap:=Z.heap.push { cls:=.type "slice",data:=.fields #[W,V,.none] } }:=F.kept (t':=Z.toks) λb y q=>Á _ q
 obtain⟨T,id,C,B,z⟩:=hr Y { Z with heap:=Z.heap.push { cls:=.type "slice",data:=.fields #[W,V,.none] } } σ U x v W V l u Z.heap.objs.size Q D O (Heap.IsSliceOf.new ..) J pu E
 show ß 0e2 X.A (subscriptTail e (.Slice lo hi ϋ p2) v (.ref Z.heap.objs.size)) (EP X Y σ Q) X.xe { Z with heap:=Z.heap.push { cls:=.type "slice",data:=.fields #[W,V,.none] } }
 exact tail_any (ops:=[.ref Z.heap.objs.size,v]) B C z (by with_unfolding_all rfl)
def lq (xs:List V) (lo hi:Option Int):List V:=(xs.drop (HT.aP xs.length 0 lo)).take (HT.aP xs.length xs.length hi-HT.aP xs.length 0 lo)
def Iz (xs:List V) (lo hi:Option Int):(lq xs lo hi).length<=xs.length:=by
 delta lq;rw[ĉ,Ŕ];omega
def aby (K:İ):V->Option Int->Option Int->Hp->VK->Prop:=λx lo hi H Q=>∃a Z,x=.ref a/\bO K H a Z /\
 ¬ (HT.aP Z.length 0 lo=0/\HT.aP Z.length Z.length hi=Z.length)/\∀p,H p=ϋ->Q 7e3 (upd H p (.tup (lq Z lo hi)))
def Dl:rf X (aby X.K):=by
 intro R s σ H x v P O lo hi sl Q I U hs T pu h;obtain⟨a,Y,rfl,S,hw,q⟩:=h;cases U;obtain⟨its,r,W,V⟩:=I.tuple S;have Z:its.toArray.size=Y.length:=by rw[Ý];exact r.length.symm
 calc⟨"tuple",_,Ĭ.lookup,W.typeIs,?_⟩;calc HT.Qa W hs T pu (by rw[Z];exact hw) ?_ (by rw[Z];exact V);rw[Z];calc⟨.ref s.heap.objs.size,_,I.laid (t':=s.toks) (o:=.tup (lq Y lo hi)) (λb N q=>Á _ q) 3e0 ?_,rfl,q _ (I.az.fresh 3e0)⟩;exact⟨Ü (Iz Y lo hi) V,_,(r.drop (HT.aP Y.length 0 lo)).take (HT.aP Y.length Y.length hi-HT.aP Y.length 0 lo),IsTup.new _ _⟩
def aab (K:İ):R2:=λx y H Q=>∃a b Y Z,x=.ref a/\y=.ref b/\bO K H a Y/\bO K H b Z/\Y≠[]/\Y.length+Z.length<=Ù /\
 (Z=[]->Q 6e2 H)/\(Z≠[]->∀p,H p=ϋ->Q 7e3 (upd H p (.tup (Y++Z))))
def Vals.CC (r:Vals xs us):us=[]↔xs=[]:=by
 cases r with
 |nil=>simp
 |cons _ _=>simp
def Wj:bF X (ŏ .Add) (aab X.K):=by
 intro J s σ H x y v u Q I V U h;obtain⟨a,b,T,S,rfl,rfl,R,P,O,W,N,M⟩:=h;cases V;cases U;obtain⟨its,Y,L,_⟩:=I.tuple R;obtain⟨G,Z,p2,_⟩:=I.tuple P;calc HT.Wf L p2 (λz=>O (Y.CC.mp z)) (λz=>⟨.ref a,H,I,rfl,N (Z.CC.mp z)⟩) (λz=>?_) (by rw[<- Y.length,<- Z.length];exact W);calc⟨.ref s.heap.objs.size,_,I.laid (t':=s.toks) (o:=.tup (T++S)) (λb F q=>Á _ q) 3e0 ?_,rfl,M (λw=>z (Z.CC.mpr w)) _ (I.az.fresh 3e0)⟩;exact⟨by rw[à];exact W,_,Y.append Z,IsTup.new _ _⟩
end
def gX (n:Nat) (i:Int):Option Nat:=if 0<=i then (if i<n then ϊ i.toNat else ϋ) else if -(n:Int)<=i then ϊ (i+n).toNat else ϋ
def dw {α:Type} (xs:List α) (i:Int):Option α:=(gX xs.length i).bind λj=>xs[j]?
def KW (h:gX n i=ϊ j):seqIndex? i n=ϊ j/\j<n/\-(n:Int)<=i/\i<n:=by
 delta gX at h;by_cases Y:0<=i
 ·rw[Ô Y] at h
  by_cases Z:i<n
  ·rw[Ô Z] at h
   have e:i.toNat=j:=afo h;exact⟨by rw[seqIndex_of Y Z,e],by omega,by omega,Z⟩
  ·rw[Ö Z] at h;cases h
 ·rw[Ö Y] at h
  by_cases Z:-(n:Int)<=i
  ·rw[Ô Z] at h
   have e:(i+n).toNat=j:=afo h;exact⟨by rw[seqIndex_neg ⋯ Z,e],by omega,Z,by omega⟩
  ·rw[Ö Z] at h;cases h
def CD {α:Type} {xs:List α} {i:Int} {v:α} (h:dw xs i=ϊ v):∃j,seqIndex? i xs.length=ϊ j/\xs[j]?=ϊ v/\j<xs.length/\-(xs.length:Int)<=i/\i<xs.length:=by
 delta dw at h
 cases e:gX xs.length i with
 |none=>rw[e] at h;cases h
 |some j =>
  rw[e] at h;obtain⟨Z,Y,X,W⟩:=KW e;exact⟨j,Z,h,Y,X,W⟩
def Wk {α:Type} {xs:List α} {j:Nat} {v:α} (h:xs[j]?=ϊ v):dw xs (j:Int)=ϊ v:=by
 have Z:j<xs.length:=(Ñ.mp h).1;have e:gX xs.length (j:Int)=ϊ j:=by
  delta gX;rw[Ô ⋯,Ô ⋯];simp
 delta dw;rw[e];exact h
def Uo {α:Type} (xs:List α) (v:α):dw (xs++[v]) (-1)=ϊ v:=by
 have Z:(xs++[v]).length=xs.length+1:=by simp
 have e:gX (xs++[v]).length (-1)=ϊ xs.length:=by
  delta gX;rw[Z,Ö 0e0,Ô ⋯];congr 1;omega
 delta dw;rw[e];show (xs++[v])[xs.length]?=ϊ v;simp
def KY (b:ĳ):Prop:=∀o i,subscripted b ύ o i=operate [o,i] (getItem o i)
def xA (X:Cx) (r:R2):Prop :=
 ∀(value slice:ĳ) (Z:List (Þ×Obj)) (s:Æ) (σ:St) (H:Hp) (x y:V) (v u:È) (Q:VK),Inv X Z σ H s->RelV x v->RelV y u->r x y H Q ->
  subscripted slice ύ v u=operate [v,u] (getItem v u)->ß 0e2 X.A (subscriptTail value slice v u) (EP X Z σ Q) X.xe s
def uw (X:Cx) (id:String) (r:V->List V->Hp->VK->Prop):Prop :=
 ∀(Z:List (Þ×Obj)) (s:Æ) (σ:St) (H:Hp) (x:V) (Y:List V) (v:È) (W:List È) (Q:VK),Inv X Z σ H s->RelV x v->Vals Y W->r x Y H Q ->
  ß 0e2 X.A (call (.builtin id) (v::W)) (EP X Z σ Q) X.xe s
section
variable {X:Cx} {a b:ĳ} {ta tb:TE} {pos:Pos}
def aac (hr:xA X r) (ha:PE X a ta) (hb:PE X b tb) (hs:KY b):PE X (.Subscript a b pos) (xx r ta tb):=by
 intro Z s σ H Q I h;exact Subscript_ (ET ha hb I h λv u Y x y W V U T q=>hr a b Z Y σ W x y v u Q V U T q (hs _ _))
def abz (K:İ):R2:=λx y H Q=>∃p Z i v,x=.ref p/\y=.int i/\bN K H p Z/\dw Z i=ϊ v/\Q v H
def abA (K:İ):R2:=λx y H Q=>∃p Z i v,x=.ref p/\y=.int i/\bO K H p Z/\dw Z i=ϊ v/\Q v H
def abB:R2:=λx y H Q=>∃z i c,x=.str z/\y=.int i/\z.length<=Ù/\dw z.cps.toList i=ϊ c/\Q (.str 1e2) H
def KZ:xA X (abz X.K):=by
 intro value slice V s σ H x y v u Q I S R h hs;obtain⟨p,E,i,z,rfl,rfl,P,O,q⟩:=h;cases S;obtain⟨t,rfl⟩:=R;obtain⟨its,r,Y,D⟩:=I.list P;obtain⟨j,Z,N,C,M,L⟩:=CD O;obtain⟨w,U,J⟩:=r.get N;have G:=r.length;have B:=qj;have fin:EP X V σ Q w s:=⟨z,H,I,J,q⟩;by_cases T:0<=i
 ·have W:i.toNat=j:=by
   rw[seqIndex_of T L] at Z;exact afo Z
  exact item_listR Y.isList T ⋯ (by rw[W];simpa using U) fin hs
 ·have W:(i+(its.toArray.size:Int)).toNat=j:=by
   rw[seqIndex_neg ⋯ M] at Z;rw[Ý,<- G];exact afo Z
  exact subscriptTail_builtinR (x:=w) Y.isList.typeIs slot_list_getitem.lookup
   (wpAny_getItem_list_neg (Q:=λr F=>r=w/\EP X V σ Q r F) Y.isList ⋯ (by rw[Ý]<;>omega) ⋯ (by rw[W];simpa using U) ⟨rfl,fin⟩) hs
def Yk:xA X (abA X.K):=by
 intro value slice Z s σ H x y v u Q I W V h hs;obtain⟨p,L,i,z,rfl,rfl,U,T,q⟩:=h;cases W;obtain⟨t,rfl⟩:=V;obtain⟨its,r,Y,J⟩:=I.tuple U;obtain⟨j,S,R,G,F,E⟩:=CD T;obtain⟨w,P,O⟩:=r.get R;have N:=r.length;have D:=qj;have fin:EP X Z σ Q w s:=⟨z,H,I,O,q⟩;exact subscriptTail_builtinR (x:=w) Y.typeIs slot_tuple_getitem.lookup
  (getItem_tuple (j:=j) (Q:=λr M=>r=w/\EP X Z σ Q r M) Y ⋯ ⋯ (by rw[Ý,<- N];exact S) (by simpa using P) ⟨rfl,fin⟩) hs
def Dp:xA X abB:=by
 intro value slice P s σ H x y v u Q I Y W h hs;obtain⟨z,i,c,rfl,rfl,O,V,q⟩:=h;obtain⟨t,rfl⟩:=Y;obtain⟨N,rfl⟩:=W;obtain⟨j,Z,U,M,T,S⟩:=CD V;have R:z.cps.toList.length=z.length:=by simp[Str.length]
 rw[R] at Z T S;have L:=qj;exact tail_any (ad6 s z t) slot_str_getitem.lookup (getItem_str (c:=c) (by
  have e1:ώ (i < -(2 ^ 63:Int))=ύ:=Û ⋯;have e2:ώ (i ≥ 2 ^ 63)=ύ:=Û ⋯;rw[e1,e2,Bool.or_false]) (by rw[Z];simpa using U) ⟨.str 1e2,H,I.tok _,5e0,q⟩) hs
def RH (its:List È) (n j:Nat) (u:È):Ŭ (·.setIfInBounds j u) { cls:=.type "list",data:=.seq its.toArray n }={ cls:=.type "list",data:=.seq (its.set j u).toArray n }:=by
 simp[Ŭ]
theorem Inv.lst {π:List 2e7} {σ:St} {H:Hp} {s:Æ} {p:Þ} {xs:List V} (I:Inv X π σ H s) (h:H p=ϊ (.lst xs)) :
  ∃(its:List È) (n:Nat),Vals xs its/\s.heap.get? p=ϊ { cls:=.type "list",data:=.seq its.toArray n }/\xs.length<=Ù:=by
 obtain⟨z,its,n,r,e⟩:=I.az p _ h;exact⟨its,n,r,e,z⟩
def Inv.Yl {π:List 2e7} {σ:St} {H:Hp} {s:Æ} {p:Þ} {xs ys:List V} {its its':List È} {n n':Nat} {f:Obj->Obj} (I:Inv X π σ H s) (h:H p=ϊ (.lst xs))
  (ho:s.heap.get? p=ϊ { cls:=.type "list",data:=.seq its.toArray n }) (hf:f { cls:=.type "list",data:=.seq its.toArray n }={ cls:=.type "list",data:=.seq its'.toArray n' }) (r:Vals ys its') (hz:ys.length<=Ù) (t:Nat) :
  Inv X π σ (upd H p (.lst ys)) { s with heap:=s.heap.update p f,toks:=t }:=by
 have e:(s.heap.update p f).get? p=ϊ { cls:=.type "list",data:=.seq its'.toArray n' }:=by
  rw[ġ f ho (by rw[hf]<;>rfl),hf]
 calc I.write (x:=p) (e:=p) (by rw[h];trivial) 7e6 (λb u Z q=>(ŕ _ _ (ŵ Z)).trans q) ⟨_,e⟩ ?_;exact⟨hz,its',n',r,e⟩
def aad:V->V->V->Hp->(Hp->Prop)->Prop:=λo i v H Q=>∃p Z k j,o=.ref p/\i=.int k/\H p=ϊ (.lst Z)/\gX Z.length k=ϊ j/\Q (upd H p (.lst (Z.set j v)))
def set_list:N4 X aad:=by
 intro N s σ H o i v E D u Q I M L K h;obtain⟨p,J,k,j,rfl,rfl,T,G,q⟩:=h;cases M;obtain⟨t,rfl⟩:=L;obtain⟨its,n,r,Y,F⟩:=I.lst T;obtain⟨Z,C,S,R⟩:=KW G;have V:=r.length;have B:=qj
 have P:Inv X N σ (upd H p (.lst (J.set j v))) { s with heap:=s.heap.update p (Ŭ (·.setIfInBounds j u)) } :=
  I.Yl T Y (RH its n j u) (r.set K j) (by rw[ģ];exact F) s.toks
 by_cases O:0<=k
 ·have U:k.toNat=j:=by
   rw[seqIndex_of O R] at Z;exact afo Z
  exact PySem.W.ki_setAt Y O ⋯ (by rw[Ý,<- V];exact R) (by rw[U];exact⟨_,P,q⟩)
 ·have U:(k+(its.toArray.size:Int)).toNat=j:=by
   rw[seqIndex_neg ⋯ S] at Z;rw[Ý,<- V];exact afo Z
  exact PySem.W.ki_setBack Y ⋯ (by rw[Ý,<- V];exact S) ⋯ (by rw[U];exact⟨_,P,q⟩)
def QE (lo hi:Option Int) (n:Nat):(ad7 lo hi ϋ n).1=((HT.aP n 0 lo:Nat):Int)/\(ad7 lo hi ϋ n).2.1=((HT.aP n n hi:Nat):Int)/\(ad7 lo hi ϋ n).2.2=1:=by
 refine⟨?_,?_,rfl⟩
 ·cases lo with
  |none=>simp[ad7,HT.aP]
  |some i =>
   erw[ad7,HT.aP,Option.getD_none,show (1:Int) > 0 by decide,ÿ];by_cases h:i<0
   ·erw[h,ÿ]<;>omega
   ·erw[h,õ]<;>omega
 ·cases hi with
  |none=>simp[ad7,HT.aP]
  |some i =>
   erw[ad7,HT.aP,Option.getD_none,show (1:Int) > 0 by decide,ÿ];by_cases h:i<0
   ·erw[h,ÿ]<;>omega
   ·erw[h,õ]<;>omega
def Qu (its:List È) (lo hi:Option Int):slicePick its.toArray lo hi ϋ=((its.drop (HT.aP its.length 0 lo)).take (HT.aP its.length its.length hi-HT.aP its.length 0 lo)).toArray:=by
 obtain⟨Z,Y,X⟩:=QE lo hi its.toArray.size;delta slicePick;rw[Z,Y,X]
 erw[sliceRange_one,pick_run,Ý]<;>rfl
def abC (K:İ):V->Option Int->Option Int->Hp->VK->Prop:=λx lo hi H Q=>∃a Z,x=.ref a/\bN K H a Z/\∀p,H p=ϋ->Q 7e3 (upd H p (.lst (lq Z lo hi)))
def Wl:rf X (abC X.K):=by
 intro R s σ H x v P O lo hi sl Q I V hs U pu h;obtain⟨a,Z,rfl,T,q⟩:=h;cases V;obtain⟨its,r,W,S⟩:=I.list T;have Y:=r.length;refine⟨"list",_,slot_list_getitem.lookup,W.isList.typeIs,?_⟩
 refine wpAny_getItem_list_slice W.isList hs U pu .none ∅ ?_ (by rw[Ý]<;>omega)
 rw[Qu,<- Y];calc⟨.ref s.heap.objs.size,_,I.laid (t':=s.toks) (o:=.lst (lq Z lo hi)) (λb N q=>Á _ q) 3e0 ?_,rfl,q _ (I.az.fresh 3e0)⟩;exact⟨Ü (Iz Z lo hi) S,_,0,(r.drop (HT.aP Z.length 0 lo)).take (HT.aP Z.length Z.length hi-HT.aP Z.length 0 lo),Ò _ rfl⟩
def Bq:cC X (.builtin "len") (λxs H Q=>∃p ys,xs=[.ref p]/\(bN X.K H p ys\/bO X.K H p ys)/\Q (.int ys.length) H):=by
 intro T s σ H xs S Q I r h;obtain⟨p,ys,rfl,hq,q⟩:=h;obtain⟨u,rfl,V⟩:=vals1 r;cases V;have R:=qj
 rcases hq with hq|hq
 ·obtain⟨its,Y,W,U⟩:=I.list hq
  have Z:=Y.length
  exact Calls.call_len_list W.isList (by erw[Ý]<;>omega) ⟨.int ys.length,H,I.tok _,⟨s.toks+1,by rw[Ý,Z]⟩,q⟩
 ·obtain⟨its,Y,W,U⟩:=I.tuple hq
  have Z:=Y.length
  exact len_tuple W (by erw[Ý]<;>omega) ⟨.int ys.length,H,I.tok _,⟨s.toks+1,by rw[Ý,Z]⟩,q⟩
def QG:cC X (.builtin "len") (λxs H Q=>∃z,xs=[.str z]/\z.length<=Ù/\Q (.int z.length) H):=by
 intro Z s σ H xs Y Q I r h;obtain⟨z,rfl,W,q⟩:=h;obtain⟨u,rfl,t,rfl⟩:=vals1 r;have V:=qj;exact len_str ⋯ ⟨.int z.length,H,I.tok _,5e0,q⟩
def Ii:cC X (.type "list") (λxs H Q=>∃p ys,xs=[.ref p]/\(bN X.K H p ys\/bO X.K H p ys)/\∀l,H l=ϋ->Q (.ref l) (upd H l (.lst ys))):=by
 intro M s σ H xs J Q I r h;obtain⟨p,ys,rfl,hq,q⟩:=h;obtain⟨u,rfl,L⟩:=vals1 r;cases L;have fin:∀(its:List È),Vals ys its->ys.length<=Ù->∀(Z:Ŀ) (Y:Nat),(∀b N,s.heap.get? b=ϊ N->Z.get? b=ϊ N) ->
   Z.get? s.heap.objs.size=ϊ { cls:=.type "list",dict:=ϋ,data:=.seq its.toArray Y,slots:=#[] }->EP X M σ Q 0e7 { s with heap:=Z }:=λits W V Z Y U e =>
  ⟨.ref s.heap.objs.size,_,I.laid (t':=s.toks) U 3e0 (show dR X.prog X.w _ Z _ (.lst ys) from ⟨V,its,Y,W,e⟩),rfl,q _ (I.az.fresh 3e0)⟩
 rcases hq with hq|hq
 ·obtain⟨its,W,S,V⟩:=I.list hq
  have T:=W.length;obtain⟨o,R,P,n,O⟩:=S.isList
  exact call_list_seq p 7e6 R P O (λZ Y U e=>fin its W V Z Y U e) (by erw[Ý]<;>omega)
 ·obtain⟨its,W,S,V⟩:=I.tuple hq
  have T:=W.length;obtain⟨o,R,P,n,O⟩:=S
  exact call_list_seq p (.inr rfl) R P O (λZ Y U e=>fin its W V Z Y U e) (by erw[Ý]<;>omega)
def Ig:cC X (.type "tuple") (λxs H Q=>∃p ys,xs=[.ref p]/\((bN X.K H p ys/\∀l,H l=ϋ->Q (.ref l) (upd H l (.tup ys)))\/(bO X.K H p ys/\Q 7e3 H))):=by
 intro U s σ H xs M Q I r h;obtain⟨p,ys,rfl,h⟩:=h;obtain⟨u,rfl,P⟩:=vals1 r;cases P
 rcases h with ⟨Y,q⟩ | ⟨Y,q⟩
 ·obtain⟨its,W,V,T⟩:=I.list Y
  have S:=W.length
  refine call_tuple_list V.isList (λZ O=>?_) (by erw[Ý]<;>omega)
  have R:Inv X U σ H { s with heap:=Z }:=I.kept (t':=s.toks) O
  have N:Inv X U σ (upd H Z.objs.size (.tup ys)) { s with heap:=Z.push { cls:=.type "tuple",data:=.seq its.toArray } } :=
   R.laid (t':=s.toks) (λb o e=>Á _ e) (afn _) (show dR X.prog X.w _ _ _ (.tup ys) from ⟨T,its,W,IsTup.new _ _⟩)
  exact⟨.ref Z.objs.size,_,N,rfl,q _ (R.az.fresh (afn _))⟩
 ·obtain⟨its,W,V,T⟩:=I.tuple Y
  exact call_tuple_same V ⟨.ref p,H,I,rfl,q⟩
def OQ (K:İ) (T:String) (x:V) (H:Hp):Prop:=match x with
 | .str _=>T="str"
 | .int _=>T="int"
 | .ref p=>(T="list"/\∃Y,bN K H p Y)\/(T="tuple"/\∃o,K.lookup p=ϊ o/\o.cls=.type "tuple"/\o.dict=ϋ) \/
   (T="dict"/\((∃Z,H p=ϊ (.dK Z))\/∃Z,H p=ϊ (.dT Z)))\/(T="set"/\∃S n,H p=ϊ (.set S n))
 |_=>False
def Ym {π:List 2e7} {σ:St} {H:Hp} {s:Æ} {T:String} {x:V} {v:È} (I:Inv X π σ H s) (r:RelV x v) (ty:OQ X.K T x H) :
  s.TypeIs v T/\∀a,v=.ref a->∃ob,s.heap.get? a=ϊ ob/\ob.dict=ϋ:=by
 cases x with
 |str z =>
  obtain⟨t,rfl⟩:=r;cases (show T="str" from ty)
  exact⟨ad6 s z t,λ_ e=>nomatch e⟩
 |int i =>
  obtain⟨t,rfl⟩:=r;cases (show T="int" from ty)
  exact⟨typeIs_int s i t,λ_ e=>nomatch e⟩
 |ref p =>
  cases r
  rcases ty with ⟨rfl,P,U⟩ | ⟨rfl,o,Z,R,Y⟩ | ⟨rfl,Z⟩ | ⟨rfl,S,n,Z⟩
  ·obtain⟨its,_,W,_⟩:=I.list U
   calc⟨W.isList.typeIs,λa e=>?_⟩;cases e;obtain⟨o,n,e,c,Y,_⟩:=W;exact⟨o,e,Y⟩
  ·refine⟨⟨o,I.jr p o Z,R⟩,λa e=>?_⟩
   cases e;exact⟨o,I.jr _ o Z,Y⟩
  ·have z:∃o,s.heap.get? p=ϊ o/\o.ExactDict:=by
    rcases Z with ⟨Q,Z⟩ | ⟨Q,Z⟩
    ·obtain⟨_,_,_,_,o,_,_,e,ex,_⟩:=I.az p _ Z
     exact⟨o,e,ex⟩
    ·obtain⟨_,_,_,_,o,_,_,e,ex,_⟩:=I.az p _ Z
     exact⟨o,e,ex⟩
   obtain⟨o,e,ex⟩:=z;calc⟨⟨o,e,ex.1⟩,λa e2=>?_⟩;cases e2;exact⟨o,e,ex.2.1⟩
  ·obtain⟨o,_,_,_,e,ex,_⟩:=I.az p _ Z
   calc⟨⟨o,e,ex.1⟩,λa e2=>?_⟩;cases e2;exact⟨o,e,ex.2.1⟩
 |_=>exact Ī ty
def tBM (K:İ) (T:String) (r:V->List V->Hp->VK->Prop) (to:TE) (t:TA):TE:=fun σ H Q=>to σ H λx Z=>OQ K T x Z/\t σ Z λY X=>r x Y X Q
variable {o e:ĳ} {es:List ĳ} {to:TE} {t:TA} {name:Str} {apos ba:Pos} {T id:String} {r:V->List V->Hp->VK->Prop}
def sV (pa:PlainAttrs T) (slot:Slot T name id) (hty:typeOf (.builtin id)=pure (.type "method_descriptor")) (hm:uw X id r) (ho:PE X o to) (ha:PA X 8e7 t)
  (jD:ſ o name X.env (ŗ o X.env)=ŗ o X.env:=by rfl)
  (jK:((ŀ ba (Ð 8e7 X.env)).all (λx=>!x.1)&&(aeL ba (acW [] X.env)).all (λx=>x.1.isSome)
   && ώ ((e::es).length+([]:List acO).length+(if ([]:List acO).isEmpty then 0 else 1)<30))=ό:=by rfl)
  (jE:7e4=ό:=by rfl) (hs:Ð 8e7 X.env=5e5::Ð es X.env:=by rfl) (gZ:(ŀ ba (Ð es X.env)).any (·.1)=ύ:=by rfl) :
  PE X (.Call (.Attribute o name apos) 8e7 [] ba) (tBM X.K T r to t):=by
 intro Z s σ H Q I h;calc wpAny_Call_method_late jD jK jE rfl (aJ (ho Z s σ H _ I h) λv U ⟨x,S,Y,W,ty,R⟩=>?_);obtain⟨P,O⟩:=Ym Y W ty;calc⟨T,id,pa,slot,hty,P,O,?_⟩;have V:=ha ba Z U σ S _ Y R;rw[hs] at V |-
 refine Calls.callWith_builtin (by show (ύ||(ŀ ba (Ð es X.env)).any (·.1))=ύ;rw[gZ]<;>rfl) (Calls.evalArgs_plain ?_)
 exact aJ V λN M ⟨L,J,G,F,E⟩=>hm Z M σ J x L v N Q G W F E
end
def MtM (X:Cx) (id:String) (r:V->List V->Hp->VK->Prop):Prop :=
 ∀(Z:List (Þ×Obj)) (s:Æ) (σ:St) (H:Hp) (x:V) (Y:List V) (v:È) (W:List È) (Q:VK),Inv X Z σ H s->RelV x v->Vals Y W->r x Y H Q ->
  ß 0e2 X.A (call (.builtin id) (v::W)) (EP X Z σ Q) X.xe s
def Vals.one:∀{x:V} {us:List È},Vals [x] us->∃u,us=[u]/\RelV x u
 |_,_,.cons r .nil=>⟨_,rfl,r⟩
theorem Vals.rep (h:Vals xs us):∀k:Nat,Vals (Ø k xs).flatten (Ø k us).flatten
 |0=>.nil
 |k+1=>by
  rw[ř,ř,Ś,Ś];exact Vals.append h (Vals.rep h k)
theorem foldl_rep (its:List È):∀(k:Nat) (acc:List È),
  List.foldl (λx1 x2=>x1++x2) acc.toArray (Ø k its.toArray)=(acc++(Ø k its).flatten).toArray
 |0,acc=>by simp
 |k+1,acc=>by
  have e:acc.toArray++its.toArray=(acc++its).toArray:=by simp
  have e2:(acc++its)++(Ø k its).flatten=acc++(Ø (k+1) its).flatten:=by
   rw[ř,Ś,ś]
  rw[<- e2,<- foldl_rep its k (acc++its),<- e,ř,acX]
section
variable {X:Cx} {π:List (Þ×Obj)} {σ:St} {H:Hp} {s:Æ} {l b:Þ} {xs ys zs:List V}
def Inv.abD {its its':List È} {n:Nat} {f:Array È->Array È} {t':Nat} (I:Inv X π σ H s) (hH:H l=ϊ (.lst xs))
  (e:s.heap.get? l=ϊ { cls:=.type "list",data:=.seq its.toArray n }) (hf:f its.toArray=its'.toArray) (hv:Vals ys its') (hz:ys.length<=Ù) :
  Inv X π σ (upd H l (.lst ys)) { s with heap:=s.heap.update l (Ŭ f),toks:=t' }:=by
 have q:=PySem.IsL.update e f;rw[hf] at q;calc I.write (x:=l) (e:=l) (by rw[hH];exact trivial) 7e6 (λW u Z Y=>(ŕ s.heap (Ŭ f) (ŵ Z)).trans Y) ⟨_,q⟩ ?_;exact⟨hz,its',_,hv,q⟩
def Inv.N9 (I:Inv X π σ H s) (hv:Vals ys its) (hz:ys.length<=Ù) :
  Inv X π σ (upd H s.heap.objs.size (.lst ys)) { s with heap:=s.heap.push { cls:=.type "list",data:=.seq its.toArray },toks:=t' } :=
 I.laid (λ_ _ q=>Á _ q) 3e0 ⟨hz,its,0,hv,Ò _ rfl⟩
theorem Inv.fresh (I:Inv X π σ H s):H s.heap.objs.size=ϋ:=I.az.fresh 3e0
def Inv.Ak (I:Inv X π σ H s) (hH:H l=ϊ (.lst xs)):xs.length<=Ù/\∃(its:List È) (n:Nat),Vals xs its/\xs.length=its.length/\s.heap.get? l=ϊ { cls:=.type "list",data:=.seq its.toArray n }:=by
 obtain⟨z,its,n,r,e⟩:=I.az l _ hH;exact⟨z,its,n,r,r.length,e⟩
def Uq (h:n<=Ù):adF n=ύ:=by
 delta adF;exact Û ⋯
end
section
variable {X:Cx}
def Wm:V->List V->Hp->VK->Prop:=λx Y H Q=>∃l Z y,x=.ref l/\Y=[y]/\H l=ϊ (.lst Z)/\Z.length<Ù/\Q .ak (upd H l (.lst (Z++[y])))
def SH:MtM X "list.append" Wm:=by
 intro U s σ H x T v S Q I Y W h;obtain⟨l,R,y,rfl,rfl,Z,P,q⟩:=h;cases Y;obtain⟨u,rfl,V⟩:=W.one;obtain⟨z,its,n,r,O,e⟩:=I.Ak Z;calc ac8 F.slot_list_append ⟨_,e,rfl⟩ F.entry_list_append (F.args_list_append_2 _ _) (PySem.list_append l its.toArray n u (by rw[Ý];omega)) ⟨e,?_⟩;calc⟨.ak,_,I.abD (its':=its++[u]) Z e ∅ (r.append (.cons V .nil)) ?_,rfl,q⟩;rw[à,List.length_singleton];omega
def abE:R2:=λx y H Q=>∃l b Z zs,x=.ref l/\y=.ref b/\H l=ϊ (.lst Z)/\H b=ϊ (.lst zs)/\Z.length+zs.length<=Ù/\∀p,H p=ϋ->Q 7e3 (upd H p (.lst (Z++zs)))
def Yn:bF X (ŏ .Add) abE:=by
 intro R s σ H x y v u Q I Y W h;obtain⟨l,b,O,zs,rfl,rfl,V,U,N,q⟩:=h;cases Y;cases W;obtain⟨z,its,n,r,M,e⟩:=I.Ak V;obtain⟨L,Z,K,T,J,e2⟩:=I.Ak U;calc PySem.P.add_list e e2 ?_ (by rw[Ý,Ý];omega);have S:its.toArray++Z.toArray=(its++Z).toArray:=by simp
 rw[S];exact⟨.ref _,_,I.N9 (t':=s.toks) (r.append T) (by rw[à];omega),rfl,q _ I.fresh⟩
def abF:R2:=λx y H Q=>∃l k Z,x=.ref l/\y=.int k/\H l=ϊ (.lst Z)/\-(2 ^ 63)<=k/\k<2 ^ 63/\Z.length*k.toNat<=Ù /\
 ∀p,H p=ϋ->Q 7e3 (upd H p (.lst (Ø k.toNat Z).flatten))
def len_rep {α:Type} (xs:List α) (k:Nat):(Ø k xs).flatten.length=k*xs.length:=by
 induction k with
 |zero=>simp
 |succ k ih=>rw[ř,Ś,à,ih,Nat.succ_mul,Nat.add_comm]
def Yo:bF X (ŏ .Mult) abF:=by
 intro D s σ H x y v u Q I O N h;obtain⟨l,k,C,rfl,rfl,M,L,K,P,q⟩:=h;cases O;obtain⟨t,rfl⟩:=N;obtain⟨z,its,n,r,J,e⟩:=I.Ak M;have Z:its.toArray.size*k.toNat<=Ù:=by rw[Ý,<- J];exact P
 have Y:¬ its.toArray.size*k.toNat > (2 ^ 63-1) / 8:=by
  have:(Ù:Nat)<=(2 ^ 63-1) / 8:=by decide
  omega
 have W:¬ (!Builtin.List.listFitsIndex k)=ό:=by
  rw[fitsIndex_both L K];exact Ã
 have V:¬ adF (its.toArray.size*k.toNat)=ό:=by
  rw[Uq Z];exact Ã
 have G:List.foldl (λS R=>S++R) #[] (Ø (if its.toArray.isEmpty=ό then 0 else k.toNat) its.toArray)=(Ø k.toNat its).flatten.toArray:=by
  have f0:∀m:Nat,List.foldl (λS R=>S++R) #[] (Ø m its.toArray)=(Ø m its).flatten.toArray:=λm=>by
   have:=foldl_rep its m [];rw[ł] at this;exact this
  rw[f0]
  cases its with
  |nil=>simp
  |cons a B=>rw[Ö ∅]
 refine wpAny_binaryOp_repeat_ref (T:="list") (U:="int") 0e0 ⟨_,e,rfl⟩ (λE=>typeIs_int E k t) noFill_list_mul F.fills_int_mul aey repeat_list F.slot_int_index.lookup
  (ac8 aey (typeIs_int s k t) F.entry_int_rmul (F.args_int_rmul_2 _ _) (int___rmul___int_list k t l its.toArray n)
   ⟨e,rfl,⟨_,e,rfl⟩,ac8 F.slot_list_mul ⟨_,e,rfl⟩ F.entry_list_mul (F.args_list_mul_2 _ _) (AutoListH.list___mul___list_int_3 l its.toArray n k t W Y V) ⟨e,?_⟩⟩)
 rw[G];exact⟨.ref _,_,I.N9 (t':=s.toks) (r.rep k.toNat) (by rw[len_rep,Nat.mul_comm];exact P),rfl,q _ I.fresh⟩
end
section
variable {prog:ê} {w:Ď} {A:ó} {E:È->Æ->Prop} {s:Æ}
set_option maxRecDepth 100000 in
end
end L2
namespace OR
open PySem PySem.W PySem.Calls PyProof.Rows
def Qi:∀(ns:List Int) (vs:List È),WellAll P h vs (ns.map WData.int)->aek vs ns:=by
 intro ns
 induction ns with
 |nil =>
  intro vs w;rw[acA] at w;cases w;exact .nil
 |cons n ns ih =>
  intro vs w;rw[ç] at w
  cases w with
  |cons a b =>
   cases a;exact .cons _ _ (ih _ b)
def SI {l:OpenLaw} {n:Nat} (hn:l.most=ϊ n) {P:Params} {h:Ŀ} {args:List WData} {vals:List È}
  (Am:l.row.toRowW.claim.pre args=ό) (FF:WellAll P h vals args) :
  ∃a vs ns,vals=[Ŧ a]/\args=[WData.list (ns.map WData.int)]/\h.get? a=ϊ { cls:=.type "list",data:=.seq vs.toArray }/\aek vs ns/\ns.length<=n:=by
 have W:WShape.hasAll [] args [.list .int]=ό:=(pre_splitW Am).1;have V:l.pre.holds [] { args:=args }=ό:=(pre_splitW Am).2;obtain⟨d,r,rfl,U,T⟩:=hasAllW_cons W;obtain rfl:=hasAllW_nil T;obtain⟨L,rfl,S⟩:=hasW_list U;obtain⟨ns,rfl⟩:=items_int S;have Z:ns.length<=n:=by
  delta OpenLaw.pre at V;have Y:(WTm.not (.lt (.lit (.int (n:Int))) (.len (.arg 0)))).holds [] { args:=[.list (ns.map .int)] }=ό:=by
   have Y:=(holds_andW V).1;rw[hn] at Y;exact Y
  have X:=condW_of Y (w_not (w_lt w_lit (w_len_list (w_arg rfl))));rw[Ä] at X;calc acH λq=>?_;have R:(n:Int)<((ns.length:Nat):Int):=by omega
  first
   |(rw[Î R] at X;exact absurd X (by decide))
   |(simp at X;omega)
 cases FF with
 |cons Q O =>
  cases O
  cases Q with
  |list N M=>exact⟨_,_,ns,rfl,rfl,N,Qi ns _ M,Z⟩
def SJ (l:OpenLaw) (args:List WData):l.row.toRowW.claim.post args (.bool ό) args=ό :=
 postW_of (r:=l.row.toRowW) (X:=(ό==ό))
  (show WShape.has [] (.bool ό) .bool=ό by first|rfl|decide|simp[WShape.has,WShape.arms,WShape.armsAll])
  (show (WTm.eq .res (.lit (.bool ό))).value [] { args:=args,res:=ϊ (.bool ό),after:=args }=ϊ (.bool (ό==ό)) from w_eq_bool (w_res rfl) w_lit) rfl
def Q7 {l:OpenLaw} {n:Nat} {q:ê} {loose:List Str} {XP:(Str->Option È)->Ŀ->Prop} {YP:Ď->Ŀ->Prop} {d:DefRec}
  (hn:l.most=ϊ n) (xB:d.params.defaults=[])
  (call:∀(w:Ď) (c8 bG:Æ) (mg mb:Str->Option È) (fa:Þ) (o:Obj) (pm cd doc:È) (a:Þ) (vs:List È) (ns:List Int),
   Ground q loose [] XP w c8 mg mb bG.heap->YP w bG.heap ->
   bG.heap.get? fa=ϊ o->o.data=.func (docDef d.name d.params d.body d.scope pm cd doc)->bG.heap.CodeRec cd d.name->mg d.name=ϊ (.ref fa) ->
   bG.heap.get? a=ϊ { cls:=.type "list",data:=.seq vs.toArray }->aek vs ns->ns.length<=n->bG.gens=#[] ->
   acN (è l.prog w) callerA (.call (.ref fa) ⟨[.ref a],[]⟩) (λr s'=>r=.ok (.ret (.bool ό))/\OldK bG.heap s'.heap/\s'.os=bG.os/\ae4 s'.gens) bG) :
  WalkO q loose XP YP l.row.toRowW d [] (λf vs=>PySem.call f vs):=by
 intro w c8 bG mg mb G Y fa o pm cd doc W kV V U T X S R args vals as Q P O N F;obtain rfl:W=.none:=Dflts.none X xB;obtain rfl:kV=.none:=Dflts.noKw X;obtain⟨a,vs,ns,rfl,rfl,M,hints,Z⟩:=SI hn Q N;calc enter_call (Ŋ (call w c8 bG mg mb fa o pm cd doc a vs ns G Y V (fd_plain U) T S M hints Z R) λr s' L=>?_);obtain⟨rfl,K,J,I⟩:=L
 exact⟨.inl ⟨.bool ό,.bool ό,[],rfl,λ_=>rfl,.bool ό,SJ l _,λ_=>⟨List.Pairwise.nil,λ_ H=>(nomatch H)⟩⟩,K,J,I⟩
section
variable {prog:ê} {w:Ď} {A:ó} {E:È->Æ->Prop} {s:Æ} {K:İ}
def ledger (h:Ŀ) (L d:Þ):List (Þ×Obj):=(ö h.objs.size).filterMap λa=>if a=L\/a=d then ϋ else (h.get? a).map λo=>(a,o)
end
end OR
namespace L2
open PySem PySem.Spec PyProof.Rows
theorem Jk:∀{vs:List È} {ns:List Int},aek vs ns->Vals (ns.map V.int) vs
 |_,_,.nil=>.nil
 |_,_,.cons n t h=>.cons ⟨t,rfl⟩ (Jk h)
abbrev KOf {K:İ} {h:Ŀ} (_:K.In h):İ:=K
def qf (s:aeW):aeZ:=match s with
 | .FunctionDef _ a _ _ _ _ _ _ _ _=>a
 |_=>{ posonlyargs:=[],args:=[],vararg:=ϋ,kwonlyargs:=[],kw_defaults:=[],kwarg:=ϋ,defaults:=[] }
def jd (s:aeW):List aeW:=match s with
 | .FunctionDef _ _ b _ _ _ _ _ _ _=>b
 |_=>[]
def cY (s:aeW):acB:=match s with
 | .FunctionDef _ _ _ _ _ _ sc _ _ _=>sc
 |_=>{ kind:=.function,names:=[],isGenerator:=ύ,isCoroutine:=ύ }
abbrev dP:jW:=λ_ _ _ _ _ _=>False
abbrev E0:XK:=λ_ _ _=>False
def aaf:Passes dP X E0:=λ_ _ _ _ _ _ _ h=>h.elim
structure rg (K:İ) (x qual:Str) (st:aeW) (f:Þ) (fd:ĺ):Prop where
 ex:∃(oc:È) (od:Option Þ) (kV doc pm:È) (an:Option Þ) (bq ct:È) (jX:Array (Option È)),
  fd=ŧ x qual (qf st) (jd st) (cY st) .none kV doc pm an bq ct/\K.lookup f=ϊ ⟨oc,od,.func fd,jX⟩/\adl K bq qual=ό
 kp:θ K (.ref f)=ό
section
variable {P:ê} {w:Ď} {K:İ} {mg:Str->Option È} {base:Ŀ}
def rg.ok {x qual:Str} {st:aeW} {f:Þ} {fd:ĺ} {N ps:List Str} {k:Nat} {sp:Sp} (F:rg K x qual st f fd) (S:qe N ps (cY st)) (len:∀vs H Q E,sp vs H Q E->vs.length=ps.length)
  (k9:∀(bq:È) (A:ó) (outer:List Env) (s:Æ) (H:Hp) (vs:List V) (Q:VK) (E:XK),ck k (A.deeper (afa qual (cY st) s.heap.objs.size f bq))->sp vs H Q E ->
   ∃t,dq (iZ dP P w K mg base N qual (cY st) f bq A outer s H E).nL (jd st) t/\t { nx:=λ_ H'=>Q .ak H',rt:=Q } (start N vs) H):dG P w K mg base dP (k+1) f fd ps sp:=by
 obtain⟨W,U,kV,doc,pm,an,bq,T,R,rfl,lk,Z⟩:=F.ex;calc Ea lk Z S len λA outer s H vs Q E Y X=>?_;obtain⟨t,h,q⟩:=k9 bq A outer s H vs Q E Y X;exact⟨t,h.nL,q⟩
def rg.binds {x qual:Str} {st:aeW} {f:Þ} {fd:ĺ} {ps:List Str} (F:rg K x qual st f fd)
  (h:∀(kV doc pm:È) (an:Option Þ) (bq ct:È) (us:List È),us.length=ps.length->bindArgs (ŧ x qual (qf st) (jd st) (cY st) .none kV doc pm an bq ct) ⟨us,[]⟩=pure (ps.zip us)):Binds K fd ps []:=by
 obtain⟨Z,Y,kV,doc,pm,an,bq,ct,X,rfl,lk,W⟩:=F.ex;exact .all (h kV doc pm an bq ct)
def LZ {x qual:Str} {st:aeW} {f:Þ} {oc:È} {od an:Option Þ} {jX:Array (Option È)} {kV doc pm bq ct:È} (l:K.lookup f=ϊ ⟨oc,od,.func (ŧ x qual (qf st) (jd st) (cY st) .none kV doc pm an bq ct),jX⟩)
  (c:adl K bq qual=ό) (k:θ K (.ref f)=ό):rg K x qual st f (ŧ x qual (qf st) (jd st) (cY st) .none kV doc pm an bq ct):=⟨⟨oc,od,kV,doc,pm,an,bq,ct,jX,rfl,l,c⟩,k⟩
end
def lr (H H':Hp):Prop:=∀b o,H b=ϊ o->H' b=ϊ o
def lr.refl (H:Hp):lr H H:=λ_ _ h=>h
theorem B6 (env:Env):∀(l:List (Str×ξ)) (acc:List (Str×Þ)),(∀n,7e7∈l->∃c,env.cells.lookup n=ϊ c) ->
  ∃cl,(forIn l acc (λ(p:Str×ξ) (cs:List (Str×Þ))=>(do
   if (p.2==NameKind.free)=ό then do let c <- cellOf env p.1;pure (Ő ((p.1,c)::cs)) else pure (Ő cs):Sem (ForInStep (List (Str×Þ))))))=pure cl /\
   ∀n c,cl.lookup n=ϊ c↔((7e7∈l/\env.cells.lookup n=ϊ c)\/(7e7∉l/\acc.lookup n=ϊ c))
 | [],acc,_=>⟨acc,rfl,λn c=>by simp⟩
 |(x,k)::r,acc,h=>by
  rw[adM]
  cases Y:(k==NameKind.free) with
  |false =>
   have U:k≠.free:=by intro e;rw[e] at Y;cases Y
   obtain⟨cl,e,q⟩:=B6 env r acc λn X=>h n (Ì _ X);refine⟨cl,?_,λn c=>?_⟩
   ·erw[Ç,õ]
    exact e
   ·rw[q n c]
    have:7e7∈(x,k)::r↔7e7∈r:=by
     constructor
     ·intro Z
      rcases Ï.mp Z with z|z
      ·injection z with _ T
       exact absurd T.symm U
      ·exact z
     ·exact Ì _
    rw[this]
  |true =>
   have S:k=.free:=by cases k<;>first|rfl|cases Y
   subst S;obtain⟨R,W⟩:=h x Õ;obtain⟨cl,e,q⟩:=B6 env r ((x,R)::acc) λn X=>h n (Ì _ X);refine⟨cl,?_,λn c=>?_⟩
   ·erw[ÿ,cellOf,W]
    exact e
   ·rw[q n c]
    by_cases V:n=x
    ·subst V
     constructor
     ·rintro (⟨_,z⟩ | ⟨_,z⟩)
      ·exact .inl ⟨Õ,z⟩
      ·rw[Ĵ,Ĝ] at z
       exact .inl ⟨Õ,W.trans z⟩
     ·rintro (⟨_,z⟩ | ⟨z,_⟩)
      ·by_cases Z:7e7∈r
       ·exact .inl ⟨Z,z⟩
       ·refine .inr ⟨Z,?_⟩
        rw[Ĵ,Ĝ];exact W.symm.trans z
      ·exact absurd Õ z
    ·have:7e7∈6e0::r↔7e7∈r:=by
      constructor
      ·intro Z
       rcases Ï.mp Z with z|z
       ·injection z with Q _
        exact absurd Q V
       ·exact z
      ·exact Ì _
     rw[this,Ĵ,beq_false_of_ne V]
def L0 (h:∀n,7e7∈sc.names->∃c,env.cells.lookup n=ϊ c) :
  ∃cl,closureFor sc env=pure cl/\∀n c,cl.lookup n=ϊ c↔(7e7∈sc.names/\env.cells.lookup n=ϊ c):=by
 obtain⟨cl,e,q⟩:=B6 env sc.names [] h;refine⟨cl,?_,λn c=>?_⟩
 ·delta closureFor
  exact(ĵ (λz:Sem (List (Str×Þ))=>z >>= λr=>pure r) e)
 ·rw[q n c]
  simp
theorem JT (f:Str->ξ->ξ) (x:Str):∀l:List (Str×ξ),(l.map λp=>(p.1,f p.1 p.2)).lookup x=(l.lookup x).map (f x)
 | []=>rfl
 |(n,k)::r=>by
  rw[ç,Ĵ,Ĵ]
  cases h:x==n with
  |true =>
   have e:x=n:=by simpa using h
   subst e;rfl
  |false=>exact JT f x r
def yo (sc:acB) (env:Env) (x:Str):(ae5 sc env).names.lookup x=(sc.names.lookup x).map λk=>if (k==NameKind.free&&env.scope.kind==.function&&env.kindOf x==ϊ .cell)=ό then NameKind.cell else k:=by
 rw[<- JT (λx k=>if (k==NameKind.free&&env.scope.kind==.function&&env.kindOf x==ϊ .cell)=ό then NameKind.cell else k)]
 show List.lookup x (sc.names.map _)=_;congr 1;apply aez;rintro ⟨n,k⟩ _;dsimp only
 split<;>rfl
abbrev eU (X:Cx) (N:List Str) (sc:acB) (cl:List (Str×Þ)) (C:Þ) (s:Æ) (H:Hp) (ex:List Þ) (pn:List 2e7):Cx where
 prog:=X.prog
 w:=X.w
 K:=X.K
 mg:=X.mg
 base:=X.base
 A:=X.A
 N:=N
 c8:=s
 mx:=H
 env:=aeM sc cl C X.env
 outer:=X.stack
 stack:=X.stack
 ex:=ex
 fn:=λ_=>ύ
 calm:=X.calm
 pn:=pn
 xe:=λ_ _=>False
structure vJ (X:Cx) (sc:acB) (N:List Str) (nt:Nat) (cap:List Nat):Prop where
 kind:sc.kind=.function
 vK:∀x∈sc.names,x.2≠.cell
 names:∀x∈sc.names,x.2=.local->sc.names.lookup x.1=ϊ .local
 frees:∀x∈sc.names,x.2=.free->sc.names.lookup x.1=ϊ .free/\(X.env.scope.names.lookup x.1=ϊ .cell\/X.env.scope.names.lookup x.1=ϊ .free)
 len:N.length=nt+cap.length
 EX:∀(k:Nat) j,cap[k]?=ϊ j->∃x,X.N[j]?=ϊ x/\N[nt+k]?=ϊ x/\6e0∈sc.names
def l8 (nt:Nat) (cap:List Nat) (σ:St):St:=Ø nt ϋ++cap.map λj=>(σ[j]?).getD ϋ
def PF (X:Cx) (tests:List ĳ) (t:TT):Prop :=
 ∀(Z:List (Þ×Obj)) (s:Æ) (σ:St) (H:Hp) (Q:Bool->Hp->Prop),Inv X Z σ H s->t σ H Q ->
  ß 0e2 X.A (forIn tests ό λc r=>if r=ό then do let ok <- isTrue c X.env (ŗ c X.env);pure (Ő ok) else pure (Ő r)) (TP X Z σ Q) X.xe s
def abI:TT:=λ_ H Q=>Q ό H
def Yp:PF X [] abI:=λ_ _ _ H _ I h=>wpAny_tests_nil ⟨H,I,h⟩
def Yq (h:PT X c t):PF X [c] t:=λZ s σ H Q I hw=>wpAny_tests_one (h Z s σ H Q I hw)
def mJ (g:TG) (nt:Nat):Prop:=∀(x:V) (o Z:St) (H:Hp) (R:St->Hp->Prop),o.length=nt->g x (o++Z) H R->g x (o++Z) H fun Y W=>(∃X:St,X.length=nt/\Y=X++Z)/\R Y W
def nq (cap:List Nat) (σ:St):St:=cap.map λj=>(σ[j]?).getD ϋ
def OT (mk:Þ->List V->HO) (lJ:List V->Prop) (J:It) (nt:Nat) (caps:St) (g:TG) (tf:TT) (te:TE) (H:Hp) (Q:VK):Prop:=∃W:Nat->Nat->List V->Hp->Prop,(∃m,W 0 m [] H) /\
 ∀i m Z Y,W i m Z Y->(J.stop i Y/\lJ Z/\∀D,Y D=ϋ->Q 8e8 (upd Y D (mk D Z))) \/
  (J.go i Y/\lJ Z/\∃N:List V->Hp->Prop,(∀X U,N X U->∃T,T < m/\W (i+1) T X U) /\
   ∀o x S,o.length=nt->J.uq i Y x S->g x (o++caps) S fun R O=>tf R O λb P=>if b=ό then te R P λv M=>N (Z++[v]) M else N Z P)
def CW (J:It) (nt:Nat) (caps:St) (g:TG) (tf:TT) (te:TE) (H:Hp) (Q:VK):Prop:=OT (λ_ Z=>.lst Z) (λZ=>Z.length<=Ù) J nt caps g tf te H Q
def nr (wi:TI) (nt:Nat) (cap:List Nat) (g:TG) (tf:TT) (te:TE):TE:=fun σ H Q=>wi σ H λJ Z=>CW J nt (nq cap σ) g tf te Z Q
section
variable {fs ex:List Þ} {H H':Hp} {h h1 h2:Ŀ} {P:ê} {w:Ď}
def Un.adopt {D:Þ} {o:HO} (u:Un fs ex H H' h h1) (hp:h.objs.size<=D) (hn:H' D=ϋ):Un fs ex H (upd H' D o) h h1 where
 keep:=u.keep
 slot:=u.slot
 free:=λb Y q n X=>by rw[bx (á (Ë (Í q) hp))];exact u.free b Y q n X
 there:=u.there
 fz:=λb Z q=>by rw[bx (dC (u.fz b Z q) hn)];exact u.fz b Z q
 eR:=λb Y Z q=>by rw[bx (dC (u.eR b Y Z q) hn)];exact u.eR b Y Z q
 fB:=λb W q=>by
  obtain⟨more,e⟩:=u.fB b W q;exact⟨more,by rw[bx (dC e hn)];exact e⟩
def Un.but {C:Þ} (u:Un fs ex H H' h h1) (hp:h.objs.size<=C) (sb:ı C h1 h2):Un fs ex H H' h h2:=by
 have ne:∀b Z,h.get? b=ϊ Z->b≠C:=λb Z q=>á (Ë (Í q) hp);refine⟨λb Z q n X Y=>(sb.2 b (ne b Z q)).trans (u.keep b Z q n X Y),λb Z q n X Y=>?_,u.free,λb Z q Y=>?_,u.fz,u.eR,u.fB⟩
 ·obtain⟨sl,e⟩:=u.slot b Z q n X Y
  exact⟨sl,(sb.2 b (ne b Z q)).trans e⟩
 ·obtain⟨W,e⟩:=u.there b Z q Y
  exact⟨W,(sb.2 b (ne b Z q)).trans e⟩
def cN.but (x:cN P w H h1) (hn:H C=ϋ) (sb:ı C h1 h2):cN P w H h2:=λa o e =>
 (x a o e).gy (λb u Z q=>(sb.2 b (by
  rintro rfl
  rcases Z with z|z
  ·subst z;rw[hn] at e;cases e
  ·rw[hn] at z;cases z)).trans q) (λ_ q=>q) λ_ _ q=>q
def cN.adopt (x:cN P w H h) (hn:H D=ϋ) (new:dR P w (upd H D o) h D o):cN P w (upd H D o) h:=λb u e=>by
 by_cases Z:b=D
 ·subst Z;rw[cO] at e;cases e;exact new
 ·rw[bx Z] at e
  exact(x b u e).gy (λc v _ q=>q) (λc q=>by rw[bx (dC q hn)];exact q) λc Y q=>by rw[bx (dC q hn)];exact q
end
section
variable {X:Cx} {sc:acB} {N:List Str} {nt:Nat} {cap:List Nat} {cl:List (Str×Þ)} {s:Æ} {h1:Ŀ} {H:Hp} {σ:St} {π:List (Þ×Obj)} {fp:List Þ} {C:Þ} {t':Nat}
def Inv.block (I:Inv X π σ H s) (S:vJ X sc N nt cap) (di:∀n c,cl.lookup n=ϊ c↔(7e7∈sc.names/\X.env.cells.lookup n=ϊ c)) (hf:∀b∈fp,eZ X π H b) (gI:∀b∈fp,b<s.heap.objs.size)
  (hk:∀b o,s.heap.get? b=ϊ o->h1.get? b=ϊ o) (hC:s.heap.objs.size<=C) (pd:∃m,h1.Ns C m):Inv (eU X N sc cl C s H fp (X.pn++π)) [] (l8 nt cap σ) H { s with heap:=h1,toks:=t' }:=by
 have Q:∀b∈cm X.stack,b∈X.env.locals::X.fs:=I.ki;have f:C∉cm X.stack:=λz=>by
  rcases Ï.mp (I.ki C z) with e|e
  ·exact absurd (Ë I.lt hC) (by rw[e];exact ñ _)
  ·exact I.tG hC e
 have M:∀x,(ae5 sc X.env).names.lookup x=ϊ .cell\/(ae5 sc X.env).names.lookup x=ϊ .free->6e0∈sc.names:=λx Z=>by
  rw[yo] at Z
  cases e:sc.names.lookup x with
  |none=>rw[e] at Z;rcases Z with z|z<;>cases z
  |some k =>
   have Y:(x,k)∈sc.names:=by
    obtain⟨a,l2,e1,_⟩:=List.lookup_eq_some_iff.mp e;rw[e1];simp
   rw[e] at Z
   cases k with
   |free=>exact Y
   |cell=>exact absurd rfl (S.vK _ Y)
   |_=>exfalso;revert Z;simp
 have L:∀x,6e0∈sc.names->∃c,X.env.cells.lookup x=ϊ c:=λx Z=>I.ok.has x (S.frees _ Z rfl).2;have ok:Cx.Ok (eU X N sc cl C s H fp (X.pn++π)):=by
  refine⟨I.ok.mod,?_,I.ok.glob,I.ok.blt,hC,?_,?_,?_,I.ok.hd,I.ok.frames,.inl rfl,?_,I.bs,Ü I.ok.jq I.sz,?_,?_,I.stack,I.vB⟩
  ·exact S.kind
  ·intro x y c Z K
   exact I.ok.inj x y c ((di x c).mp Z).2 ((di y c).mp K).2
  ·intro x Z
   have Y:=M x Z;obtain⟨c,e⟩:=L x Y;exact⟨c,(di x c).mpr ⟨Y,e⟩⟩
  ·intro x c Z
   cases Z
  ·intro b W
   calc⟨á (Ë (gI b W) hC),λx c e=>?_⟩;exact(hf b W).2.2.2.2.1 x c ((di x c).mp e).2
  ·intro b o e W
   rcases(hf b W).2.2.2.1 with z|z
   ·exact I.ok.oK b o e z
   ·exact absurd (Ë (Í e) (Ü I.ok.jq z)) (ñ _)
  ·intro b W z
   rcases Ï.mp (Q b z) with e|e
   ·exact(hf b W).2.1 e
   ·exact(hf b W).2.2.1 e
 obtain⟨m,Y⟩:=pd;obtain⟨mX,J,G⟩:=I.loc;refine⟨ok,rfl,I.bare,Un.kept hk,⟨m,Y,λi x v e1 e2 e3=>?_⟩,λx c e=>?_,I.az.fresh hC,λx c e=>I.jf x c ((di x c).mp e).2,λp F=>?_,I.az.kept hk,?_⟩
 ·
  have hi:nt<=i:=by
   apply acH;intro P;have:(l8 nt cap σ)[i]?=ϊ ϋ:=by
    delta l8;rw[â (by simpa using P),ľ,Ô P]
   rw[this] at e2;cases e2
  have V:(cap.map λj=>(σ[j]?).getD ϋ)[i-nt]?=ϊ (ϊ v):=by
   have e:=e2;delta l8 at e;rw[í (by simpa using hi)] at e;simpa using e
  rw[é] at V
  cases U:cap[i-nt]? with
  |none=>rw[U] at V;cases V
  |some j =>
   rw[U] at V;have ev:(σ[j]?).getD ϋ=ϊ v:=afo V;have E:σ[j]?=ϊ (ϊ v):=by
    cases q:σ[j]? with
    |none=>rw[q] at ev;cases ev
    |some z=>rw[q] at ev;exact ĵ ϊ ev
   obtain⟨y,f1,f2,O⟩:=S.EX _ _ U;rw[Nat.add_sub_cancel' hi] at f2;have D:y=x:=afo (f2.symm.trans e1);subst D;obtain⟨g1,g2⟩:=S.frees _ O rfl;have B:qW X.env.scope y:=.inr g2;obtain⟨u,r,l⟩:=G j y v f1 E B;refine⟨u,r,.inr ⟨?_,?_⟩⟩
   ·show (ae5 sc X.env).names.lookup y=ϊ .cell\/(ae5 sc X.env).names.lookup y=ϊ .free
    rw[yo,g1];erw[acY];split
    ·exact .inl rfl
    ·exact .inr rfl
   ·rcases l with ⟨k,_⟩ | ⟨_,c,A,w⟩
    ·exfalso
     have t:X.env.scope.names.lookup y=ϊ .local:=k;dsimp only at g2;rw[t] at g2
     rcases g2 with z|z<;>cases z
    ·obtain⟨T,R,hd⟩:=w
     exact⟨c,(di y c).mpr ⟨O,A⟩,T,hk _ _ R,hd⟩
 ·obtain⟨v,T,R,hd⟩:=I.cell x c ((di x c).mp e).2
  exact⟨v,T,hk _ _ R,hd⟩
 ·have h:p∈X.pn++π:=by simpa using F
  obtain⟨e,n,ne,g,d⟩:=I.pin p h;refine⟨hk _ _ e,n,á (Ë (Í e) hC),λz=>?_,d⟩
  rcases Ï.mp (Q p.1 z) with q|q
  ·exact ne q
  ·exact g q
 ·delta l8
  rw[à,acV,Ä];exact S.len.symm
end
inductive Kn where
 |ak|bl|int|str|tup|lst|bU
 deriving DecidableEq
def pf (K:İ) (H:Hp):V->Kn->Prop
 | .ak,.ak=>True
 | .bl _,.bl=>True
 | .int _,.int=>True
 | .str _,.str=>True
 | .ref a,.tup=>∃Z,bO K H a Z
 | .ref a,.lst=>∃Z,bN K H a Z
 | .ref a,.bU=>∃Y,H a=ϊ (.dK Y)
 |_,_=>False
def tJ:Kn->String->Bool
 | .int,"int"=>ό
 | .bl,"int"=>ό
 | .bl,"bool"=>ό
 | .str,"str"=>ό
 | .tup,"tuple"=>ό
 | .lst,"list"=>ό
 |_,_=>ύ
section
variable {X:Cx}
def Inv.sH {π:List 2e7} {σ:St} {H:Hp} {s:Æ} {a:Þ} {xs:List V} (I:Inv X π σ H s) (h:bO X.K H a xs):∃o,s.heap.get? a=ϊ o/\o.cls=.type "tuple":=by
 obtain⟨its,r,⟨o,e,c,_⟩,_⟩:=I.tuple h;exact⟨o,e,c⟩
def Inv.sI {π:List 2e7} {σ:St} {H:Hp} {s:Æ} {a:Þ} {xs:List V} (I:Inv X π σ H s) (h:bN X.K H a xs):∃o,s.heap.get? a=ϊ o/\o.cls=.type "list":=by
 obtain⟨its,r,⟨o,n,e,c,_⟩,_⟩:=I.list h;exact⟨o,e,c⟩
def Inv.sJ {π:List 2e7} {σ:St} {H:Hp} {s:Æ} {a:Þ} {aR:List (Key×V)} (I:Inv X π σ H s) (h:H a=ϊ (.dK aR)):∃o,s.heap.get? a=ϊ o/\o.cls=.type "dict":=by
 obtain⟨_,_,W,_,p⟩:=(show dR X.prog X.w H s.heap a (.dK aR) from I.az a _ h);obtain⟨o,U,T,Z,Y,_⟩:=p;exact⟨o,Z,Y.1⟩
def QH:cC X 6e3 (λxs H Q=>∃x k,xs=[x,.ty "int"]/\pf X.K H x k/\Q (.bl (tJ k "int")) H):=by
 intro T s σ H xs S Q I r h;obtain⟨x,k,rfl,Z,q⟩:=h;obtain⟨u,c,rfl,Y,rc⟩:=vals2 r;cases rc
 cases k with
 |ak =>
  cases x with
  |ak =>
   cases Y;exact IsiPair.NoneType_int 0e1
  |_=>exact Z.elim
 |bl =>
  cases x with
  |bl b =>
   cases Y;exact IsiPair.bool_int ⟨.bl ό,H,I,rfl,q⟩
  |_=>exact Z.elim
 |int =>
  cases x with
  |int i =>
   obtain⟨t,rfl⟩:=Y;exact IsiPair.int_int ⟨.bl ό,H,I,rfl,q⟩
  |_=>exact Z.elim
 |str =>
  cases x with
  |str y =>
   obtain⟨t,rfl⟩:=Y;exact IsiPair.str_int 0e1
  |_=>exact Z.elim
 |tup =>
  cases x with
  |ref a =>
   cases Y;obtain⟨z,W⟩:=Z;obtain⟨o,V,U⟩:=I.sH W;exact IsiPair.tuple_int V U 0e1
  |_=>exact Z.elim
 |lst =>
  cases x with
  |ref a =>
   cases Y;obtain⟨z,W⟩:=Z;obtain⟨o,V,U⟩:=I.sI W;exact IsiPair.list_int V U 0e1
  |_=>exact Z.elim
 |bU =>
  cases x with
  |ref a =>
   cases Y;obtain⟨z,W⟩:=Z;obtain⟨o,V,U⟩:=I.sJ W;exact IsiPair.dict_int V U 0e1
  |_=>exact Z.elim
def Qv:cC X 6e3 (λxs H Q=>∃x k,xs=[x,.ty "bool"]/\pf X.K H x k/\Q (.bl (tJ k "bool")) H):=by
 intro T s σ H xs S Q I r h;obtain⟨x,k,rfl,Z,q⟩:=h;obtain⟨u,c,rfl,Y,rc⟩:=vals2 r;cases rc
 cases k with
 |ak =>
  cases x with
  |ak =>
   cases Y;exact IsiPair.NoneType_bool 0e1
  |_=>exact Z.elim
 |bl =>
  cases x with
  |bl b =>
   cases Y;exact IsiPair.bool_bool ⟨.bl ό,H,I,rfl,q⟩
  |_=>exact Z.elim
 |int =>
  cases x with
  |int i =>
   obtain⟨t,rfl⟩:=Y;exact IsiPair.int_bool 0e1
  |_=>exact Z.elim
 |str =>
  cases x with
  |str y =>
   obtain⟨t,rfl⟩:=Y;exact IsiPair.str_bool 0e1
  |_=>exact Z.elim
 |tup =>
  cases x with
  |ref a =>
   cases Y;obtain⟨z,W⟩:=Z;obtain⟨o,V,U⟩:=I.sH W;exact IsiPair.tuple_bool V U 0e1
  |_=>exact Z.elim
 |lst =>
  cases x with
  |ref a =>
   cases Y;obtain⟨z,W⟩:=Z;obtain⟨o,V,U⟩:=I.sI W;exact IsiPair.list_bool V U 0e1
  |_=>exact Z.elim
 |bU =>
  cases x with
  |ref a =>
   cases Y;obtain⟨z,W⟩:=Z;obtain⟨o,V,U⟩:=I.sJ W;exact IsiPair.dict_bool V U 0e1
  |_=>exact Z.elim
def QI:cC X 6e3 (λxs H Q=>∃x k,xs=[x,.ty "str"]/\pf X.K H x k/\Q (.bl (tJ k "str")) H):=by
 intro T s σ H xs S Q I r h;obtain⟨x,k,rfl,Z,q⟩:=h;obtain⟨u,c,rfl,Y,rc⟩:=vals2 r;cases rc
 cases k with
 |ak =>
  cases x with
  |ak =>
   cases Y;exact IsiPair.NoneType_str 0e1
  |_=>exact Z.elim
 |bl =>
  cases x with
  |bl b =>
   cases Y;exact IsiPair.bool_str 0e1
  |_=>exact Z.elim
 |int =>
  cases x with
  |int i =>
   obtain⟨t,rfl⟩:=Y;exact IsiPair.int_str 0e1
  |_=>exact Z.elim
 |str =>
  cases x with
  |str y =>
   obtain⟨t,rfl⟩:=Y;exact IsiPair.str_str ⟨.bl ό,H,I,rfl,q⟩
  |_=>exact Z.elim
 |tup =>
  cases x with
  |ref a =>
   cases Y;obtain⟨z,W⟩:=Z;obtain⟨o,V,U⟩:=I.sH W;exact IsiPair.tuple_str V U 0e1
  |_=>exact Z.elim
 |lst =>
  cases x with
  |ref a =>
   cases Y;obtain⟨z,W⟩:=Z;obtain⟨o,V,U⟩:=I.sI W;exact IsiPair.list_str V U 0e1
  |_=>exact Z.elim
 |bU =>
  cases x with
  |ref a =>
   cases Y;obtain⟨z,W⟩:=Z;obtain⟨o,V,U⟩:=I.sJ W;exact IsiPair.dict_str V U 0e1
  |_=>exact Z.elim
def Ql:cC X 6e3 (λxs H Q=>∃x k,xs=[x,.ty "tuple"]/\pf X.K H x k/\Q (.bl (tJ k "tuple")) H):=by
 intro T s σ H xs S Q I r h;obtain⟨x,k,rfl,Z,q⟩:=h;obtain⟨u,c,rfl,Y,rc⟩:=vals2 r;cases rc
 cases k with
 |ak =>
  cases x with
  |ak =>
   cases Y;exact IsiPair.NoneType_tuple 0e1
  |_=>exact Z.elim
 |bl =>
  cases x with
  |bl b =>
   cases Y;exact IsiPair.bool_tuple 0e1
  |_=>exact Z.elim
 |int =>
  cases x with
  |int i =>
   obtain⟨t,rfl⟩:=Y;exact IsiPair.int_tuple 0e1
  |_=>exact Z.elim
 |str =>
  cases x with
  |str y =>
   obtain⟨t,rfl⟩:=Y;exact IsiPair.str_tuple 0e1
  |_=>exact Z.elim
 |tup =>
  cases x with
  |ref a =>
   cases Y;obtain⟨z,W⟩:=Z;obtain⟨o,V,U⟩:=I.sH W;exact IsiPair.tuple_tuple V U ⟨.bl ό,H,I,rfl,q⟩
  |_=>exact Z.elim
 |lst =>
  cases x with
  |ref a =>
   cases Y;obtain⟨z,W⟩:=Z;obtain⟨o,V,U⟩:=I.sI W;exact IsiPair.list_tuple V U 0e1
  |_=>exact Z.elim
 |bU =>
  cases x with
  |ref a =>
   cases Y;obtain⟨z,W⟩:=Z;obtain⟨o,V,U⟩:=I.sJ W;exact IsiPair.dict_tuple V U 0e1
  |_=>exact Z.elim
def Qw:cC X 6e3 (λxs H Q=>∃x k,xs=[x,.ty "list"]/\pf X.K H x k/\Q (.bl (tJ k "list")) H):=by
 intro T s σ H xs S Q I r h;obtain⟨x,k,rfl,Z,q⟩:=h;obtain⟨u,c,rfl,Y,rc⟩:=vals2 r;cases rc
 cases k with
 |ak =>
  cases x with
  |ak =>
   cases Y;exact IsiPair.NoneType_list 0e1
  |_=>exact Z.elim
 |bl =>
  cases x with
  |bl b =>
   cases Y;exact IsiPair.bool_list 0e1
  |_=>exact Z.elim
 |int =>
  cases x with
  |int i =>
   obtain⟨t,rfl⟩:=Y;exact IsiPair.int_list 0e1
  |_=>exact Z.elim
 |str =>
  cases x with
  |str y =>
   obtain⟨t,rfl⟩:=Y;exact IsiPair.str_list 0e1
  |_=>exact Z.elim
 |tup =>
  cases x with
  |ref a =>
   cases Y;obtain⟨z,W⟩:=Z;obtain⟨o,V,U⟩:=I.sH W;exact IsiPair.tuple_list V U 0e1
  |_=>exact Z.elim
 |lst =>
  cases x with
  |ref a =>
   cases Y;obtain⟨z,W⟩:=Z;obtain⟨o,V,U⟩:=I.sI W;exact IsiPair.list_list V U ⟨.bl ό,H,I,rfl,q⟩
  |_=>exact Z.elim
 |bU =>
  cases x with
  |ref a =>
   cases Y;obtain⟨z,W⟩:=Z;obtain⟨o,V,U⟩:=I.sJ W;exact IsiPair.dict_list V U 0e1
  |_=>exact Z.elim
end
def sW (p:Þ) (Ts:List String):Ŀ->Prop:=λh=>h.get? p=ϊ { cls:=.type "tuple",data:=.seq (Ts.map ũ).toArray }
theorem K0:∀{Ts:List String} {us:List È},Vals (Ts.map V.ty) us->us=Ts.map ũ
 | [],_,.nil=>rfl
 |_::r,_,.cons h t=>by
  cases h;rw[K0 t];rfl
def Yr (t:TA):TE:=fun σ H Q=>t σ H λZ Y=>∃X:List String,Z=X.map V.ty/\Z.length<=Ù/\∀p,Y p=ϋ->Q 7e3 (upd Y p (.ext (sW p X)))
section
variable {X:Cx} {es:List ĳ} {t:TA} {pos:Pos}
def Ur {x1} (h:PA X es t):PE X (.Tuple es x1 pos) (Yr t):=by
 intro V s σ H Q I U;calc wpAny_Tuple_spliced (aJ (h pos V s σ H _ I U) λP Z ⟨O,Y,W,r,T,e,z,q⟩=>⟨by rw[<- r.length];exact z,?_⟩);subst e;have S:=K0 r;subst S;have R:Y Z.heap.objs.size=ϋ:=W.az.fresh 3e0;calc⟨.ref Z.heap.objs.size,upd Y Z.heap.objs.size (.ext (sW Z.heap.objs.size T)),W.laid (t':=Z.toks) (λb u e=>Á _ e) 3e0 ?_,rfl,q _ R⟩;refine⟨Ò _ rfl,⟨_,Ò _ rfl⟩,λN M e k=>k _ e⟩
def Ys {K:İ} {π:List 2e7} {σ:St} {H:Hp} {s:Æ} {x:V} {u:È} {k:Kn} (I:Inv X π σ H s) (hk:pf X.K H x k) (r:RelV x u) :
  ∃Tx vs,AnswersAll (λs=>s.TypeIs u Tx) u [.type "tuple",.type "list"] vs/\s.TypeIs u Tx/\vs.any id=(ώ (k=.tup)||ώ (k=.lst)):=by
 cases k with
 |ak =>
  cases x with
  |ak=>cases r;exact⟨"NoneType",[ύ,ύ],.cons (.of_false_none nofun Ż F.sub_NoneType_tuple) (.cons (.of_false_none nofun ς F.sub_NoneType_list) .nil),rfl,rfl⟩
  |_=>exact hk.elim
 |bl =>
  cases x with
  |bl b=>cases r;exact⟨"bool",[ύ,ύ],.cons (.of_false_bool nofun Ż F.sub_bool_tuple) (.cons (.of_false_bool nofun ς F.sub_bool_list) .nil),rfl,rfl⟩
  |_=>exact hk.elim
 |int =>
  cases x with
  |int b=>obtain⟨t,rfl⟩:=r;exact⟨"int",[ύ,ύ],.cons (.of_false_int nofun Ż F.sub_int_tuple) (.cons (.of_false_int nofun ς F.sub_int_list) .nil),rfl,rfl⟩
  |_=>exact hk.elim
 |str =>
  cases x with
  |str b=>obtain⟨t,rfl⟩:=r;exact⟨"str",[ύ,ύ],.cons (.of_false_str nofun Ż F.sub_str_tuple) (.cons (.of_false_str nofun ς F.sub_str_list) .nil),rfl,rfl⟩
  |_=>exact hk.elim
 |tup =>
  cases x with
  |ref a =>
   cases r;obtain⟨z,Z⟩:=hk;exact⟨"tuple",[ό,ύ],.cons (.of_true Ż F.sub_tuple_tuple) (.cons (.of_false_tuple nofun ς F.sub_tuple_list) .nil),I.sH Z,rfl⟩
  |_=>exact hk.elim
 |lst =>
  cases x with
  |ref a =>
   cases r;obtain⟨z,Z⟩:=hk;exact⟨"list",[ύ,ό],.cons (.of_false_list nofun Ż F.sub_list_tuple) (.cons (.of_true ς F.sub_list_list) .nil),I.sI Z,rfl⟩
  |_=>exact hk.elim
 |bU =>
  cases x with
  |ref a =>
   cases r;obtain⟨z,Z⟩:=hk;exact⟨"dict",[ύ,ύ],.cons (.of_false_dict nofun Ż F.sub_dict_tuple) (.cons (.of_false_dict nofun ς F.sub_dict_list) .nil),I.sJ Z,rfl⟩
  |_=>exact hk.elim
def JU {bs:List Bool} (r:Vals (bs.map V.bl) its):TruthOf X.prog X.w A (λi v=>its.toArray[i]?=ϊ v) (λi=>bs.getD i ύ):=by
 intro i v s Q E T S;have Z:its[i]?=ϊ v:=by simpa using T
 have hi:i<its.length:=(Ñ.mp Z).1;have Y:i<bs.length:=by
  have e:=r.length;rw[Ä] at e;omega
 have R:(bs.map V.bl)[i]?=ϊ (.bl (bs[i])):=by rw[é,Ê Y];rfl
 obtain⟨u,W,P⟩:=Vals.get r R;rw[Z] at W;cases W;cases P;have e:bs.getD i ύ=bs[i]:=by simp[ű,Ê Y]
 have U:Q (bs.getD i ύ) s:=S;rw[e] at U;exact Ū U
def range_all (bs:List Bool):(ö bs.length).all (λi=>bs.getD i ύ)=bs.all id:=by
 rw[ĝ,ä,ä];constructor
 ·intro h b Z
  obtain⟨i,hi,e⟩:=Ų Z;have:=h i (ø.mpr hi);simpa [ű,Ê hi,e] using this
 ·intro h i hi
  have hi:=ø.mp hi;have:=h _ (adt hi);simpa [ű,Ê hi] using this
def range_any (bs:List Bool):(ö bs.length).any (λi=>bs.getD i ύ)=bs.any id:=by
 rw[ĝ,Ť,Ť];constructor
 ·rintro ⟨i,hi,h⟩
  have hi:=ø.mp hi;exact⟨bs[i],adt hi,by simpa [ű,Ê hi] using h⟩
 ·rintro ⟨b,Z,h⟩
  obtain⟨i,hi,e⟩:=Ų Z;exact⟨i,ø.mpr hi,by simpa [ű,Ê hi,e] using h⟩
def Us (hc:X.calm=ό):cC X (.builtin "all") (λxs H Q=>∃(p:Þ) (bs:List Bool),xs=[.ref p]/\bN X.K H p (bs.map V.bl)/\Q (.bl (bs.all id)) H):=by
 intro O s σ H xs N Q I r h;obtain⟨p,bs,rfl,W,q⟩:=h;obtain⟨u,rfl,U⟩:=vals1 r;cases U;obtain⟨its,Y,Z,M⟩:=I.list W;have T:its.toArray.size=bs.length:=by
  have e:=Y.length;rw[Ä] at e;simpa using e.symm
 have S:X.A.in1.handled=ϋ:=I.ok.hd hc;calc call_all_walk (ū Z.isList ?_);have old:p≠s.heap.objs.size:=á (by obtain⟨o,n,e,_⟩:=Z;exact Í e);calc⟨s.heap.objs.size,[s.heap.objs.size,p],[s.heap.objs.size],its.toArray.size,_,_,λi=>bs.getD i ύ,rfl,Walks.list S s.heap.objs.size p old its.toArray,⟨3e1,Z.isList.at λo e=>Á _ e⟩,JU Y,λL R P=>?_⟩;rw[T,range_all];exact⟨.bl _,H,I.kept (t':=R) λb o e=>P b o (by simpa using á (Í e)) (Á _ e),rfl,q⟩
def Ut (hc:X.calm=ό):cC X (.builtin "any") (λxs H Q=>∃(p:Þ) (bs:List Bool),xs=[.ref p]/\bN X.K H p (bs.map V.bl)/\Q (.bl (bs.any id)) H):=by
 intro O s σ H xs N Q I r h;obtain⟨p,bs,rfl,W,q⟩:=h;obtain⟨u,rfl,U⟩:=vals1 r;cases U;obtain⟨its,Y,Z,M⟩:=I.list W;have T:its.toArray.size=bs.length:=by
  have e:=Y.length;rw[Ä] at e;simpa using e.symm
 have S:X.A.in1.handled=ϋ:=I.ok.hd hc;calc call_any_walk (ū Z.isList ?_);have old:p≠s.heap.objs.size:=á (by obtain⟨o,n,e,_⟩:=Z;exact Í e);calc⟨s.heap.objs.size,[s.heap.objs.size,p],[s.heap.objs.size],its.toArray.size,_,_,λi=>bs.getD i ύ,rfl,Walks.list S s.heap.objs.size p old its.toArray,⟨3e1,Z.isList.at λo e=>Á _ e⟩,JU Y,λL R P=>?_⟩;rw[T,range_any];exact⟨.bl _,H,I.kept (t':=R) λb o e=>P b o (by simpa using á (Í e)) (Á _ e),rfl,q⟩
end
def wU:Key->PyData
 | .inl i=>.int i
 | .inr x=>.str x
mutual
def DV (K:İ) (Z:Þ->Prop) (H:Hp):PyData->V->Prop
 | .none,v=>v=.ak
 | .bool b,v=>v=.bl b
 | .int i,v=>v=.int i
 | .str x,v=>v=.str x
 | .tuple X,v=>∃a Y,v=.ref a/\bO K H a Y/\aq K Z H X Y
 | .list X,v=>∃a Y,v=.ref a/\¬ Z a/\H a=ϊ (.lst Y)/\aq K Z H X Y
 | .dict U,v=>∃a W,v=.ref a/\¬ Z a/\H a=ϊ (.dK W)/\∃l:List (Key×Int),W=l.map (λp=>(p.1,V.int p.2))/\U=l.map λp=>(wU p.1,PyData.int p.2)
def aq (K:İ) (Z:Þ->Prop) (H:Hp):List PyData->List V->Prop
 | [],Y=>Y=[]
 |d::X,Y=>∃v r,Y=v::r/\DV K Z H d v/\aq K Z H X r
end
section
variable {X:Cx} {π:List (Þ×Obj)} {σ:St} {H:Hp} {s:Æ} {Z:Þ->Prop}
theorem IA:∀{l:List (Key×Int)} {vs:List (Key×È)} {es:List DictEntry},KV (l.map λp=>(p.1,V.int p.2)) vs->Pairs (yX P w) es vs ->
  ReadsAll h (es.map (·.key)) ((l.map λp=>(wU p.1,PyData.int p.2)).map (·.1)) []/\ReadsAll h (es.map (·.val)) ((l.map λp=>(wU p.1,PyData.int p.2)).map (·.2)) []
 | [],_,_,.nil,.nil=>⟨.nil,.nil⟩
 |(k,i)::l,_,_,.cons (b:=q) r t,.cons (e:=e) U T S=>by
  obtain⟨a1,a2⟩:=IA (h:=h) t S;obtain⟨Z,X,Y⟩:=r;have Z:k=q.1:=Z;have Y:q.2=aeX i X:=Y;refine⟨?_,?_⟩
  ·have W:D7 q.1 e.key=ό:=U
   rw[<- Z] at W;have:Reads h e.key (wU k) []:=by
    rcases lX W with ⟨j,u,e1,e2⟩ | ⟨x,u,e1,e2⟩
    ·rw[e1,e2];exact .int j u
    ·rw[e1,e2];exact .str x u
   exact ReadsAll.cons (as:=[]) (bs:=[]) this a1
  ·have:Reads h e.val (.int i) []:=by rw[T,Y];exact .int i X
   exact ReadsAll.cons (as:=[]) (bs:=[]) this a2
mutual
theorem DV.reads (I:Inv X π σ H s):∀{d:PyData} {v:V} {u:È},DV X.K Z H d v->RelV v u->∃as,Reads s.heap u d as
 | .none,v,u,h,r=>by
  have e:v=.ak:=h;subst e;cases r;exact⟨[],.none⟩
 | .bool b,v,u,h,r=>by
  have e:v=.bl b:=h;subst e;cases r;exact⟨[],.bool b⟩
 | .int i,v,u,h,r=>by
  have e:v=.int i:=h;subst e;obtain⟨t,rfl⟩:=r;exact⟨[],.int i t⟩
 | .str x,v,u,h,r=>by
  have e:v=.str x:=h;subst e;obtain⟨t,rfl⟩:=r;exact⟨[],.str x t⟩
 | .tuple R,v,u,h,r=>by
  erw[DV] at h;obtain⟨a,Q,e,Y,W⟩:=h;subst e;cases r;obtain⟨its,U,⟨o,e,c,n,T⟩,_⟩:=I.tuple Y;obtain⟨as,S⟩:=aq.reads I W U;exact⟨as,.tuple e c T (by simpa using S)⟩
 | .list R,v,u,h,r=>by
  erw[DV] at h;obtain⟨a,Q,e,_,Y,W⟩:=h;subst e;cases r;obtain⟨its,U,⟨o,n,e,c,_,T⟩,_⟩:=I.list (bN.of Y);obtain⟨as,S⟩:=aq.reads I W U;exact⟨a::as,.list e c T (by simpa using S)⟩
 | .dict J,v,u,h,r=>by
  erw[DV] at h;obtain⟨a,G,e,_,Y,l,e1,e2⟩:=h;subst e e1 e2;cases r;obtain⟨_,_,F,P,o,O,E,g1,g2,g3,_,N,_⟩:=(show dR X.prog X.w H s.heap a (.dK _) from I.az a _ Y);obtain⟨M,L⟩:=IA (h:=s.heap) P N;exact⟨a::[]++[],.dict g1 g2.1 g3 M L⟩
theorem aq.reads (I:Inv X π σ H s):∀{ds:List PyData} {vs:List V} {us:List È},aq X.K Z H ds vs->Vals vs us->∃as,ReadsAll s.heap us ds as
 | [],vs,us,h,r=>by
  have e:vs=[]:=h;subst e;cases r;exact⟨[],.nil⟩
 |d::ds,vs,us,h,r=>by
  obtain⟨v,S,e,Y,W⟩:=h;subst e
  cases r with
  |cons U T =>
   obtain⟨as,a1⟩:=DV.reads I Y U;obtain⟨bs,a2⟩:=aq.reads I W T;exact⟨as++bs,.cons a1 a2⟩
end
def Oa (K:İ) (neg:Bool):R2:=λx y H Q=>∃(d e:PyData) (Z:Þ->Prop),DV K Z H d x/\DV K Z H e y/\d.canLay0=ό/\e.canLay0=ό/\min d.depth e.depth<=100/\Q (.bl (if neg then !PyData.eqv d e else Ķ d e)) H
def Yt (hr:ck k X.A):bF X (Ğ .Eq) (Oa X.K ύ):=by
 intro O s σ H x y v u Q I Y W h;obtain⟨d,e,Z,V,U,T,S,N,q⟩:=h;obtain⟨as,R⟩:=V.reads I Y;obtain⟨bs,P⟩:=U.reads I W;exact SeqAt.eqOverData _ _ _ _ _ _ _ _ _ _ _ _ R P T S (by have:=hr.un;omega) ⟨.bl _,H,I,rfl,q⟩
def Yu (hr:ck k X.A):bF X (Ğ .NotEq) (Oa X.K ό):=by
 intro O s σ H x y v u Q I Y W h;obtain⟨d,e,Z,V,U,T,S,N,q⟩:=h;obtain⟨as,R⟩:=V.reads I Y;obtain⟨bs,P⟩:=U.reads I W;exact SeqAt.neOverData _ _ _ _ _ _ _ _ _ _ _ _ R P T S (by have:=hr.un;omega) ⟨.bl _,H,I,rfl,q⟩
end
end L2
namespace HT
open PySem PySem.Spec PyProof.Rows
section
variable {prog:ê} {w:Ď} {A:ó} {E:È->Æ->Prop} {s:Æ}
def Jl (ht:IsTup s.heap t items) (h:Q ό s):ß 2e3 A (adg (.ref t)) Q E s:=by
 delta adg;exact À (adE ht.typeIs (Â h))
def Qm {lo hi:Option Int} {Q:È->Æ->Prop} (ht:IsTup s.heap t items) (hs:s.heap.IsSliceOf sl vl vu .none) (pl:IsPart vl lo) (pu:IsPart vu hi)
 (hw:aP items.size 0 lo=0/\aP items.size items.size hi=items.size) (h:Q (.ref t) s):ß 2e3 A (getItem (.ref t) (.ref sl)) Q E s:=by
 obtain⟨os,Z,Y,U⟩:=id hs;have X:s.TypeIs (.ref sl) "slice":=⟨os,Z,Y⟩;delta getItem
 try with_reducible refine Ĉ ?_
 first|refine À (Â ?_)|skip
 calc À (wpAny_sequenceKey ht.typeIs 0e0 ?_);refine À (Ġ (name:=Ċ "__getitem__") ht.typeIs Ĭ
  (ě Ĭ ht.typeIs entry_tuple_getitem ?_ (args_tuple_getitem _ _)))
 show ß _ _ (Ŷ (.ref t) >>= _) _ _ s;calc À (tupleItemsOf_ ht ?_);calc À (adE X ?_);rw[Ô 0e0];calc À (H9 hs pl pu ?_);obtain⟨W,V⟩:=hw
 show ß _ _ (if (((aP items.size 0 lo:Nat):Int)==0&&(1:Int)==1&&4e1==items.size)=ό then _ else _) _ _ s
 rw[W,V,Ô ∅]
 first
  |exact À (Jl ht (by erw[ÿ];exact À (ź (Â ⟨_,rfl,Â h⟩))))
  |exact À (Jl ht (by erw[ÿ];exact À (ź (À (Â (Â ⟨_,rfl,Â h⟩))))))
end
end HT
namespace L2
open PySem PySem.Spec PyProof.Rows
def lr.sqT {K:İ} {H H':Hp} {a:Þ} {xs:List V} (e:lr H H') (h:bO K H a xs):bO K H' a xs:=by
 rcases h with (h | ⟨o,h⟩)|h
 ·exact .inl (.inl (e _ _ h))
 ·exact .inl (.inr ⟨o,e _ _ h⟩)
 ·exact .inr h
theorem lr.upd (hn:H p=ϋ):lr H (upd H p o):=λb u e=>by rw[bx (dC e hn)];exact e
def oO (K:İ) (H:Hp) (ys:List V) (Q:VK):Prop:=∀a Z,lr H Z->bO K Z a ys->Q 6e2 Z
def oO.here {K:İ} {H:Hp} {ys:List V} {Q:VK} {a:Þ} (h:oO K H ys Q) (hs:bO K H a ys):Q 6e2 H:=h a H (lr.refl H) hs
def oO.new {K:İ} {H:Hp} {ys:List V} {Q:VK} {p:Þ} (h:oO K H ys Q) (hn:H p=ϋ):Q 7e3 (L2.upd H p (.tup ys)):=h p _ (lr.upd hn) (bO.of cO)
section
variable {X:Cx} {e:ĳ} {te:TE} {pos p2 p3 p4:Pos}
def Uu {lo hi:Option Int} (h:HT.aP xs.length 0 lo=0/\HT.aP xs.length xs.length hi=xs.length):lq xs lo hi=xs:=by
 delta lq;rw[h.1,h.2];simp
def abJ (K:İ):V->Option Int->Option Int->Hp->VK->Prop:=λx lo hi H Q=>∃a Z,x=.ref a/\bO K H a Z/\oO K H (lq Z lo hi) Q
def Wn:rf X (abJ X.K):=by
 intro S s σ H x v R P lo hi sl Q I V hs U pu h;obtain⟨a,Z,rfl,W,q⟩:=h;by_cases hw:HT.aP Z.length 0 lo=0/\HT.aP Z.length Z.length hi=Z.length
 ·cases V
  obtain⟨its,r,T,N⟩:=I.tuple W;have Y:its.toArray.size=Z.length:=by rw[Ý];exact r.length.symm
  rw[Uu hw] at q;exact⟨"tuple",_,Ĭ.lookup,T.typeIs,HT.Qm T hs U pu (by rw[Y];exact hw) ⟨.ref a,H,I,rfl,q.here W⟩⟩
 ·exact Dl S s σ H _ v R P lo hi sl Q I V hs U pu ⟨a,Z,rfl,W,hw,λp O=>q.new O⟩
def aag (K:İ):R2:=λx y H Q=>∃a b Z Y,x=.ref a/\y=.ref b/\bO K H a Z/\bO K H b Y/\Z.length+Y.length<=Ù/\oO K H (Z++Y) Q
def Wo:bF X (ŏ .Add) (aag X.K):=by
 intro M s σ H x y v u Q I W V h;obtain⟨a,b,U,L,rfl,rfl,Z,Y,J,q⟩:=h;by_cases T:U=[]
 ·subst T
  cases W;cases V;obtain⟨its,G,F,_⟩:=I.tuple Z;obtain⟨E,w,p2,_⟩:=I.tuple Y;cases G;obtain⟨⟨cls,D,data,sl⟩,S,R,n,P⟩:=id F;obtain⟨⟨t,C,data2,B⟩,O,N,A,hd2⟩:=id p2;simp only at R P N hd2;subst R P N hd2;exact concat_meets ⟨_,S,rfl⟩ ⟨_,O,rfl⟩ noFill_tuple_add seq_tuple_add ad1 adL (adD _ _)
   (tuple_addW0 a b _ E.toArray n A D C sl B ∅) ⟨S,O,⟨.ref b,H,I,rfl,q.here Y⟩⟩
 ·refine Wj M s σ H _ _ v u Q I W V ⟨a,b,U,L,rfl,rfl,Z,Y,T,J,λe=>?_,λ_ p z=>q.new z⟩
  subst e;rw[ć] at q;exact q.here Z
end
end L2
namespace HZ
open PySem PySem.Spec PyProof.Rows
structure lL (P:ê) (w:Ď) (A:ó) (i l:Þ) (tn:Nat->Ŀ->Prop) (val:Nat->Option È):Prop where
 keep:∀k h h',tn k h->(∀o,h.get? i=ϊ o->h'.get? i=ϊ o)->(∀o,h.get? l=ϊ o->h'.get? l=ϊ o)->tn k h'
 item:∀k (s:Æ) (Q:È->Æ->Prop) (E:È->Æ->Prop) x,tn k s.heap->val k=ϊ x->(∀h',tn (k+1) h'->ı i s.heap h'->Q x { s with heap:=h' })->ß 2e0 A (Ĕ (.ref i)) Q E s
 stop:∀k (s:Æ) (Q:È->Æ->Prop) (E:È->Æ->Prop),tn k s.heap->val k=ϋ->(∀h' e,adw i s.heap h'->(∃o,h'.get? e=ϊ o/\o.cls=.type "StopIteration")->E (.ref e) { s with heap:=h' })->ß 2e0 A (Ĕ (.ref i)) Q E s
 obj:∀k h,tn k h->∃o,h.get? i=ϊ o/\∀v,o.data≠.cell v
section
variable {P:ê} {w:Ď} {A:ó} {E:È->Æ->Prop} {s:Æ}
def RI (g:s.heap.IsTupleIter it t k) (gt:s.heap.IsTuple t its) (gx:its[k]?=ϊ x)
 (q:∀h',h'.IsTupleIter it t (k+1)->ı it s.heap h'->Q x { s with heap:=h' }):ß 2e0 A (Ĕ 4e2) Q E s:=by
 obtain⟨o,go,Y,Z⟩:=id g;obtain⟨ol,X,_,nl,W⟩:=gt;delta Ĕ;refine À (Ġ (name:=Ċ "__next__") g.typeIs ŷ
  (ě ŷ g.typeIs F.entry_tuple_iterator_next ?_ (F.args_tuple_iterator_next_1 _)))
 show ß _ _ (field 4e2 0 >>= _) _ _ _;refine À (Ĺ go Z (x:=.ref t) rfl ?_)
 show ß _ _ (if (Ŧ t==Value.none)=ό then _ else _) _ _ _
 rw[Ö (λz:(Ŧ t==Value.none)=ό=>Ã z)];show ß _ _ (field 4e2 1 >>= _) _ _ _;calc À (Ĺ go Z (x:=.int k 0) rfl ?_);show ß _ _ (seqItems? (.ref t) >>= _) _ _ _;calc À (ķ X W ?_);erw[Ŝ,gx];calc À (Ũ go Z ∅ (Â ⟨x,rfl,Â (q _ ?_ (Ĥ ..))⟩));exact⟨_,ġ _ go (ŋ (đ Z _)),(ad8 ..).trans Y,by rw[đ Z];simp[acz]⟩
def Qn (gh:A.handled=ϋ) (g:s.heap.IsTupleIter it t k) (gt:s.heap.IsTuple t its) (gx:its[k]?=ϋ)
 (q:∀h' e,adw it s.heap h'->(∃o,h'.get? e=ϊ o/\o.cls=.type "StopIteration")->E (.ref e) { s with heap:=h' }):ß 2e0 A (Ĕ 4e2) Q E s:=by
 obtain⟨o,go,W,Z⟩:=id g;obtain⟨ol,Y,_,nl,X⟩:=gt;delta Ĕ;refine À (Ġ (name:=Ċ "__next__") g.typeIs ŷ
  (ě ŷ g.typeIs F.entry_tuple_iterator_next ?_ (F.args_tuple_iterator_next_1 _)))
 show ß _ _ (field 4e2 0 >>= _) _ _ _;refine À (Ĺ go Z (x:=.ref t) rfl ?_)
 show ß _ _ (if (Ŧ t==Value.none)=ό then _ else _) _ _ _
 rw[Ö (λz:(Ŧ t==Value.none)=ό=>Ã z)];show ß _ _ (field 4e2 1 >>= _) _ _ _;calc À (Ĺ go Z (x:=.int k 0) rfl ?_);show ß _ _ (seqItems? (.ref t) >>= _) _ _ _;calc À (ķ Y X ?_);erw[Ŝ,gx];calc À (ź (À (Ũ go Z ∅ ?_)));show ß _ _ (newExc (.type "StopIteration") [] >>= _) _ _ (_:Æ);calc À ?_;erw[newExc,newTuple];refine À (č ?_ (by size_fits))
 refine À (m:=firstArgMember _ _) (wpAny_of_eq (a:=Value.none) (by first|rfl | (delta firstArgMember;rfl)) ?_)
 calc č ?_ (by size_fits);erw[raiseNew];refine À (wpAny_handled ?_)
 first|rw[gh]|rw[show A.in1.handled=ϋ from gh]
 calc À (Â (wpAny_throw ?_));exact q _ _ (((Ĥ ..).extBut.push _).push _) ⟨_,Ò _ rfl,rfl⟩
def Wq (gh:A.handled=ϋ) (i l:Þ) (its:Array È):lL P w A i l (λk h=>h.IsTupleIter i l k/\h.IsTuple l its) (λk=>its[k]?) where
 keep:=λk h Y Z U T=>⟨Z.1.at U,by obtain⟨o,e,r⟩:=Z.2;exact⟨o,T o e,r⟩⟩
 item:=λk s Q E x Z e q=>RI Z.1 Z.2 e λY g X=>by
  by_cases W:l=i
  ·exfalso
   subst W;obtain⟨o,e1,S,_⟩:=Z.1;obtain⟨R,e2,V,_⟩:=Z.2;rw[e1] at e2;cases e2;rw[S] at V;simp at V
  ·obtain⟨o,e2,r⟩:=Z.2
   exact q Y ⟨g,o,(X.2 l W).trans e2,r⟩ X
 stop:=λk s Q E Z e q=>Qn gh Z.1 Z.2 e q
 obj:=λk h Z=>by
  obtain⟨o,e,_,d⟩:=Z.1;exact⟨o,e,λv z=>by rw[d] at z;cases z⟩
def Wr (gh:A.handled=ϋ) (i l:Þ) (its:Array È):lL P w A i l (λk h=>h.IsListIter i l k/\h.IsList l its) (λk=>its[k]?) where
 keep:=λk h Y Z U T=>⟨Z.1.at U,Z.2.at T⟩
 item:=λk s Q E x Z e q=>wpAny_nextOf_list_item Z.1 Z.2 e λY g X=>by
  by_cases W:l=i
  ·exfalso
   subst W;obtain⟨o,e1,S,_⟩:=Z.1;obtain⟨R,e2,V,_⟩:=Z.2;rw[e1] at e2;cases e2;rw[S] at V;simp at V
  ·exact q Y ⟨g,Z.2.at λo e2=>(X.2 l W).trans e2⟩ X
 stop:=λk s Q E Z e q=>wpAny_nextOf_list_end gh Z.1 Z.2 e q
 obj:=λk h Z=>by
  obtain⟨o,e,_,d⟩:=Z.1;exact⟨o,e,λv z=>by rw[d] at z;cases z⟩
structure Apart (z ti to j1 j2 m1 m2:Þ):Prop where
 a1:ti≠z
 a2:to≠z
 a3:j1≠z
 a4:j2≠z
 a5:ti≠to
 a6:ti≠j1
 a7:ti≠j2
 a8:to≠j1
 a9:to≠j2
 b0:j1≠j2
 b1:m1≠z
 b2:m1≠to
 b3:m1≠j1
 b4:m1≠j2
 b5:m2≠z
 b6:m2≠to
 b7:m2≠j1
 b8:m2≠j2
def Uv {t1 t2:Nat->Ŀ->Prop} {v1 v2:Nat->Option È} {k:Nat} {Q:È->Æ->Prop} (D:Apart z ti to j1 j2 m1 m2) (S1:lL P w A j1 m1 t1 v1) (S2:lL P w A j2 m2 t2 v2)
 (gz:IsZip s.heap z ti to .none) (gi:adn s.heap ti (.ref j1) (.ref j2)) (go:adn s.heap to a b) (h1:t1 k s.heap) (h2:t2 k s.heap) (hx:v1 k=ϊ x) (hy:v2 k=ϊ y)
 (q:∀h',IsZip h' z ti to (acz s.heap.objs.size)->adn h' to x y->t1 (k+1) h'->t2 (k+1) h'->adn h' s.heap.objs.size x y->h'.objs.size=s.heap.objs.size+1 ->
 (∀c o,c≠z->c≠to->c≠j1->c≠j2->s.heap.get? c=ϊ o->h'.get? c=ϊ o)->Q 0e7 { s with heap:=h' }) :
  ß 2e0 A (Ÿ.«zip.__next__» ⟨[.ref z],[]⟩) (λfin s'=>∃v,fin=.done (.ret v)/\Q v s') E s:=by
 show ß _ _ (field (.ref z) 2 >>= _) _ _ (_:Æ);calc À (Ĺ gz rfl (x:=.bool ύ) rfl ?_);show ß _ _ (field (.ref z) 3 >>= _) _ _ (_:Æ);calc À (Ĺ gz rfl (x:=.ref ti) rfl ?_);calc À (ķ gi rfl ?_);show ß _ _ (Ň (.ref z) >>= _) _ _ (_:Æ);calc À ?_;delta Ň;calc À (Ĺ gz rfl (x:=.none) rfl (Â ?_));erw[ÿ];calc À (ź ?_);calc À (Ĺ gz rfl (x:=.ref to) rfl ?_);refine À (δ gz ∅ λn N Y=>?_)
 replace N:IsZip n z ti to .ellipsis:=N
 calc À ?_;erw[List.zipIdx_cons,List.zipIdx_nil,adM,List.forIn_nil];calc À (À (wpAny_onRaise ?_));show ß _ _ (Ĕ (.ref j1) >>= _) _ _ (_:Æ);calc À (S1.item k _ _ _ x (S1.keep k _ _ h1 (λo e=>Y.extBut _ _ D.a3 e) (λo e=>Y.extBut _ _ D.b1 e)) hx λm l V=>Â ?_);have F:adn m to a b:=V.extBut _ _ D.a8 (Y.extBut _ _ D.a2 go);calc À (ķ F rfl ?_);refine À (wpAny_updateSeq_pair F λj M X=>?_)
 replace M:adn j to x b:=M
 calc À (wpAny_letGo (Â ?_));calc À (À (wpAny_onRaise ?_));show ß _ _ (Ĕ (.ref j2) >>= _) _ _ (_:Æ);calc À (S2.item k _ _ _ y (S2.keep k _ _ h2 (λo e=>X.extBut _ _ D.a9.symm (V.extBut _ _ D.b0.symm (Y.extBut _ _ D.a4 e))) (λo e=>X.extBut _ _ D.b6 (V.extBut _ _ D.b7 (Y.extBut _ _ D.b5 e)))) hy λi h U=>Â ?_);have C:adn i to x b:=U.extBut _ _ D.a9 M;calc À (ķ C rfl ?_);refine À (wpAny_updateSeq_pair C λZ S s5=>?_)
 replace S:adn Z to x y:=S
 calc À (wpAny_letGo (Â (Â ?_)));calc À (ķ S rfl ?_);calc À (wpAny_newTuple ?_);have B:Z.objs.size=s.heap.objs.size:=by rw[s5.1,U.1,X.1,V.1,Y.1]
 have u:IsZip Z z ti to .ellipsis:=s5.extBut _ _ D.a2.symm (U.extBut _ _ D.a4.symm (X.extBut _ _ D.a2.symm (V.extBut _ _ D.a3.symm N)));have g:∀c o,c≠z->c≠to->c≠j1->c≠j2->s.heap.get? c=ϊ o->Z.get? c=ϊ o:=λc o W R L K e=>s5.extBut _ _ R (U.extBut _ _ K (X.extBut _ _ R (V.extBut _ _ L (Y.extBut _ _ W e))));have f:t1 (k+1) Z:=S1.keep _ _ _ l (λo e=>s5.extBut _ _ D.a8.symm (U.extBut _ _ D.b0 (X.extBut _ _ D.a8.symm e))) (λo e=>s5.extBut _ _ D.b2 (U.extBut _ _ D.b4 (X.extBut _ _ D.b2 e)));have J:t2 (k+1) Z:=S2.keep _ _ _ h (λo e=>s5.extBut _ _ D.a9.symm e) (λo e=>s5.extBut _ _ D.b6 e);have t:z<Z.objs.size:=Í u;show ß _ _ (ado (.ref z) (.ref Z.objs.size) >>= _) _ _ (_:Æ);calc À ?_;delta ado;have d:IsZip (Z.push { cls:=.type "tuple",data:=.seq #[x,y] }) z ti to .ellipsis:=Á _ u;refine À (δ d ∅ λp7 I H=>?_)
 replace I:IsZip p7 z ti to (acz Z.objs.size):=I
 refine δ I ∅ λT O G=>?_
 replace O:IsZip T z ti to (acz Z.objs.size):=O
 have up:∀c o,c≠z->Z.get? c=ϊ o->T.get? c=ϊ o:=λc o W e=>G.extBut _ _ W (H.extBut _ _ W (Á _ e));have r:adn T Z.objs.size x y:=G.extBut _ _ (Ş t) (H.extBut _ _ (Ş t) (Ò _ rfl));have p:T.objs.size=Z.objs.size+1:=by rw[G.1,H.1,ý]
 rw[B] at O r p;calc Â ⟨_,rfl,?_⟩;show Q (.ref Z.objs.size) _;rw[B];exact q T O (up _ _ D.a2 S) (S1.keep _ _ _ f (λo e=>up _ o D.a3 e) (λo e=>up _ o D.b1 e)) (S2.keep _ _ _ J (λo e=>up _ o D.a4 e) (λo e=>up _ o D.b5 e)) r p λc o W R L K e=>up c o W (g c o W R L K e)
def Ws (D:Apart z ti to j1 j2 m1 m2) (S1:lL P w A j1 m1 t1 v1) (S2:lL P w A j2 m2 t2 v2)
 (gz:IsZip s.heap z ti to .none) (gi:adn s.heap ti (.ref j1) (.ref j2)) (go:adn s.heap to a b) (h1:t1 k s.heap) (h2:t2 k s.heap) (EY:v1 k=ϋ\/v2 k=ϋ)
 (q:∀h' e,(∀c o,c≠z->c≠to->c≠j1->c≠j2->s.heap.get? c=ϊ o->h'.get? c=ϊ o)->(∃o,h'.get? e=ϊ o/\o.cls=.type "StopIteration")->E (.ref e) { s with heap:=h' }) :
  ß 2e0 A (Ÿ.«zip.__next__» ⟨[.ref z],[]⟩) Q E s:=by
 show ß _ _ (field (.ref z) 2 >>= _) _ _ (_:Æ);calc À (Ĺ gz rfl (x:=.bool ύ) rfl ?_);show ß _ _ (field (.ref z) 3 >>= _) _ _ (_:Æ);calc À (Ĺ gz rfl (x:=.ref ti) rfl ?_);calc À (ķ gi rfl ?_);show ß _ _ (Ň (.ref z) >>= _) _ _ (_:Æ);calc À ?_;delta Ň;calc À (Ĺ gz rfl (x:=.none) rfl (Â ?_));erw[ÿ];calc À (ź ?_);calc À (Ĺ gz rfl (x:=.ref to) rfl ?_);refine À (δ gz ∅ λN V Y=>?_)
 replace V:IsZip N z ti to .ellipsis:=V
 calc À ?_;erw[List.zipIdx_cons,List.zipIdx_nil,adM,List.forIn_nil];calc À (À (wpAny_onRaise ?_));show ß _ _ (Ĕ (.ref j1) >>= _) _ _ (_:Æ);have M:t1 k N:=S1.keep k _ _ h1 (λo e=>Y.extBut _ _ D.a3 e) (λo e=>Y.extBut _ _ D.b1 e)
 cases U:v1 k with
 |none =>
  calc À (S1.stop k _ _ _ M U λT e Z S=>?_);obtain⟨R,g1,g2⟩:=S;have L:IsZip T z ti to .ellipsis:=Z _ _ D.a3.symm V;have ne:e≠z:=λu=>by subst u;rw[L] at g1;cases g1;simp at g2
  refine δ L ∅ λK _ X=>q K e (λc o W _ O _ u=>X.extBut _ _ W (Z _ _ O (Y.extBut _ _ W u))) ⟨R,X.extBut _ _ ne g1,g2⟩
 |some x =>
  have G:v2 k=ϋ:=by
   rcases EY with h|h
   ·rw[U] at h;cases h
   ·exact h
  calc À (S1.item k _ _ _ x M U λT v Z=>Â ?_);have J:adn T to a b:=Z.extBut _ _ D.a8 (Y.extBut _ _ D.a2 go);calc À (ķ J rfl ?_);calc À (wpAny_updateSeq_pair J λK t X=>?_);calc À (wpAny_letGo (Â ?_));calc À (À (wpAny_onRaise ?_));show ß _ _ (Ĕ (.ref j2) >>= _) _ _ (_:Æ);calc À (S2.stop k _ _ _ (S2.keep k _ _ h2 (λo e=>X.extBut _ _ D.a9.symm (Z.extBut _ _ D.b0.symm (Y.extBut _ _ D.a4 e))) (λo e=>X.extBut _ _ D.b6 (Z.extBut _ _ D.b7 (Y.extBut _ _ D.b5 e)))) G λF e I S=>?_);obtain⟨R,g1,g2⟩:=S;have H:IsZip F z ti to .ellipsis:=I _ _ D.a4.symm (X.extBut _ _ D.a2.symm (Z.extBut _ _ D.a3.symm V));have ne:e≠z:=λu=>by subst u;rw[H] at g1;cases g1;simp at g2
  refine δ H ∅ λC _ s5=>q C e (λc o W B O y u=>s5.extBut _ _ W (I _ _ y (X.extBut _ _ B (Z.extBut _ _ O (Y.extBut _ _ W u))))) ⟨R,s5.extBut _ _ ne g1,g2⟩
def next_item (D:Apart z ti to j1 j2 m1 m2) (S1:lL P w A.in1 j1 m1 t1 v1) (S2:lL P w A.in1 j2 m2 t2 v2)
 (gz:IsZip s.heap z ti to .none) (gi:adn s.heap ti (.ref j1) (.ref j2)) (go:adn s.heap to a b) (h1:t1 k s.heap) (h2:t2 k s.heap) (hx:v1 k=ϊ x) (hy:v2 k=ϊ y)
 (q:∀h',IsZip h' z ti to (acz s.heap.objs.size)->adn h' to x y->t1 (k+1) h'->t2 (k+1) h'->adn h' s.heap.objs.size x y->h'.objs.size=s.heap.objs.size+1 ->
 (∀c o,c≠z->c≠to->c≠j1->c≠j2->s.heap.get? c=ϊ o->h'.get? c=ϊ o)->Q (ϊ 0e7) { s with heap:=h' }):ß 2e0 A (acU (.ref z)) Q E s:=by
 have Z:s.TypeIs (.ref z) "zip":=⟨_,gz,rfl⟩;delta acU;exact À (acC (Ġ (name:=Ċ "__next__") Z aeA
  (ě aeA Z F.entry_zip_next (Uv D S1 S2 gz gi go h1 h2 hx hy λh' a1 a2 Y X W V U=>Â (q h' a1 a2 Y X W V U)) (F.args_zip_next_1 _))))
def next_end (D:Apart z ti to j1 j2 m1 m2) (S1:lL P w A.in1 j1 m1 t1 v1) (S2:lL P w A.in1 j2 m2 t2 v2)
 (gz:IsZip s.heap z ti to .none) (gi:adn s.heap ti (.ref j1) (.ref j2)) (go:adn s.heap to a b) (h1:t1 k s.heap) (h2:t2 k s.heap) (EY:v1 k=ϋ\/v2 k=ϋ)
 (q:∀h',(∀c o,c≠z->c≠to->c≠j1->c≠j2->s.heap.get? c=ϊ o->h'.get? c=ϊ o)->Q ϋ { s with heap:=h' }):ß 2e0 A (acU (.ref z)) Q E s:=by
 have Z:s.TypeIs (.ref z) "zip":=⟨_,gz,rfl⟩;delta acU;refine À (acC (Ġ (name:=Ċ "__next__") Z aeA
  (ě aeA Z F.entry_zip_next (Ws D S1 S2 gz gi go h1 h2 EY λh' e Y X=>?_) (F.args_zip_next_1 _))))
 obtain⟨o,W,V⟩:=X;exact À (ael (T:="StopIteration") (b:=ό) ⟨o,W,V⟩ isSubtype_stop (Â (q _ Y)))
end
end HZ
namespace L2
open PySem PySem.Spec PyProof.Rows
def Yv {X:Cx} {π:List 2e7} {σ:St} {H:Hp} {s:Æ} {a b:Þ} {xs:List V} (I:Inv X π σ H s) (h:bO X.K H a xs) (f:eZ X π H b):a≠b:=by
 rintro rfl;obtain⟨f0,_,_,Y,_⟩:=f
 rcases h with (h | ⟨o,h⟩) | ⟨o,its,n,W,_⟩
 ·rw[f0] at h;cases h
 ·rw[f0] at h;cases h
 ·have Z:=I.mod.lE a o W
  rcases Y with z|z
  ·exact I.ok.oK a o Z z
  ·exact absurd (Ë (Í Z) (Ü I.ok.jq z)) (ñ _)
def Yw {X:Cx} {π:List 2e7} {σ:St} {H:Hp} {s:Æ} {a b:Þ} {xs:List V} (I:Inv X π σ H s) (h:bN X.K H a xs) (f:eZ X π H b):a≠b:=by
 rintro rfl;obtain⟨f0,_,_,Y,_⟩:=f
 rcases h with (h | ⟨o,h⟩) | ⟨o,its,n,W,_⟩
 ·rw[f0] at h;cases h
 ·rw[f0] at h;cases h
 ·have Z:=I.mod.lE a o W
  rcases Y with z|z
  ·exact I.ok.oK a o Z z
  ·exact absurd (Ë (Í Z) (Ü I.ok.jq z)) (ñ _)
def Inv.Jm {X:Cx} {π:List 2e7} {σ:St} {H:Hp} {s:Æ} {h':Ŀ} {t':Nat} {ch:List Þ} (I:Inv X π σ H s) (k:∀b o,b∉ch->s.heap.get? b=ϊ o->h'.get? b=ϊ o) (hf:∀b∈ch,eZ X π H b) :
  Inv X π σ H { s with heap:=h',toks:=t' }:=by
 have Y:∀b u,H b=ϊ u->b∉ch:=λb u e z=>by rw[(hf b z).1] at e;cases e
 refine I.step (g':=s.gens) (d':=s.drawn) (ch:=ch) (λb W=>?_) (λb o _ _ Z e _=>k b o Z e) (λb o _ _ Z e _=>⟨o.slots,k b o Z e⟩) (λ_ _ _ _ n=>n) (λb o Z e=>⟨o,k b o Z e⟩) (λ_ _ e=>e) (λ_ _ _ e=>e)
  (λb P e=>⟨#[],by rw[e];simp⟩) (λm V=>?_) (λb u e=>?_) I.bare
 ·obtain⟨_,f1,_,U,f4,T⟩:=hf b W
  exact⟨U,f1,f4,T⟩
 ·obtain⟨o,S,R,Q,r⟩:=V
  exact⟨o,S,R,k _ o (λz=>(hf _ z).2.1 rfl) Q,r⟩
 ·refine(I.az b u e).gy (λc v Z q=>k c v ?_ q) (λ_ q=>q) λ_ _ q=>q
  rcases Z with z|z
  ·rw[z];exact Y b u e
  ·exact Y c _ z
def Inv.SK {X:Cx} {π:List 2e7} {σ:St} {H:Hp} {s:Æ} {h':Ŀ} {t':Nat} {ch:List Þ} {p:Þ} {u:HO} (I:Inv X π σ H s) (k:∀b o,b∉ch->s.heap.get? b=ϊ o->h'.get? b=ϊ o) (hf:∀b∈ch,eZ X π H b)
  (hp:s.heap.objs.size<=p) (new:dR X.prog X.w (upd H p u) h' p u):Inv X π σ (upd H p u) { s with heap:=h',toks:=t' }:=by
 have Y:H p=ϋ:=I.az.fresh hp;have az:cN X.prog X.w (upd H p u) h':=(I.Jm (t':=t') k hf).az.adopt Y new;refine I.step (g':=s.gens) (d':=s.drawn) (ch:=ch) (λb W=>?_) (λb o _ _ Z e _=>k b o Z e) (λb o _ _ Z e _=>⟨o.slots,k b o Z e⟩) (λb o _ e n=>?_) (λb o Z e=>⟨o,k b o Z e⟩) (λc P e=>by rw[bx (dC e Y)];exact e) (λc o v e=>by rw[bx (dC e Y)];exact e)
  (λc O e=>⟨#[],by rw[bx (dC e Y),e];simp⟩) (λm V=>?_) az I.bare
 ·obtain⟨_,f1,_,U,f4,T⟩:=hf b W
  exact⟨U,f1,f4,T⟩
 ·rw[bx (á (Ë (Í e) hp))]
  exact n
 ·obtain⟨o,S,R,Q,r⟩:=V
  exact⟨o,S,R,k _ o (λz=>(hf _ z).2.1 rfl) Q,r⟩
@[reducible] def jZ:Bool->İ->Hp->Þ->List V->Prop
 |true=>bO
 |false=>bN
@[reducible] def lM:Bool->Ŀ->Þ->Array È->Prop
 |true=>Heap.IsTuple
 |false=>Heap.IsList
@[reducible] def nN:Bool->Ŀ->Þ->Þ->Nat->Prop
 |true=>Heap.IsTupleIter
 |false=>Heap.IsListIter
def Inv.tK {X:Cx} {π:List 2e7} {σ:St} {H:Hp} {s:Æ} {a:Þ} {xs:List V} (I:Inv X π σ H s):∀{k},jZ k X.K H a xs->∃its,Vals xs its/\lM k s.heap a its.toArray
 |true,h=>by obtain⟨i,r,p,_⟩:=I.tuple h;exact⟨i,r,p⟩
 |false,h=>by obtain⟨i,r,p,_⟩:=I.list h;exact⟨i,r,p.isList⟩
def Inv.JV {X:Cx} {π:List 2e7} {σ:St} {H:Hp} {s:Æ} {a:Þ} {xs ys:List V} (I:Inv X π σ H s):∀{k},jZ k X.K H a xs->jZ k X.K H a ys->xs=ys
 |true,h,g=>I.Jd h g
 |false,h,g=>I.JO h g
def zy {X:Cx} {π:List 2e7} {σ:St} {H:Hp} {s:Æ} {a b:Þ} {xs:List V} (I:Inv X π σ H s):∀{k},jZ k X.K H a xs->eZ X π H b->a≠b
 |true,h,f=>Yv I h f
 |false,h,f=>Yw I h f
def An (gh:A.handled=ϋ) (i l:Þ) (its:Array È):∀k,HZ.lL P w A i l (λn h=>nN k h i l n/\lM k h l its) (λn=>its[n]?)
 |true=>HZ.Wq gh i l its
 |false=>HZ.Wr gh i l its
def zz (k:∀o,h.get? i=ϊ o->h'.get? i=ϊ o):∀{b},nN b h i l n->nN b h' i l n
 |true,x=>x.at k
 |false,x=>x.at k
def za:∀{b},nN b h i l n->∃o,h.get? i=ϊ o/\∀v,o.data≠.cell v
 |true,x=>by obtain⟨o,e,_,d⟩:=x;exact⟨o,e,λv q=>by rw[d] at q;cases q⟩
 |false,x=>by obtain⟨o,e,_,d⟩:=x;exact⟨o,e,λv q=>by rw[d] at q;cases q⟩
def Ao (k l:Bool) (K:İ) (a b:Þ):It :=
 ⟨λi H=>∃Z Y x y,jZ k K H a Z/\jZ l K H b Y/\Z[i]?=ϊ x/\Y[i]?=ϊ y,λi H v X=>∃p x y,H p=ϋ/\v=.ref p/\X=upd H p (.tup [x,y])/\∀Z Y,jZ k K H a Z->jZ l K H b Y->Z[i]?=ϊ x/\Y[i]?=ϊ y,
  λi H=>∃Z Y,jZ k K H a Z/\jZ l K H b Y/\(Z.length<=i\/Y.length<=i)⟩
abbrev abK:=Ao ό ό
structure aah (it:Nat->Ŀ->Prop) (j4:Nat->Ŀ->Prop) (z ti to j1 j2:Þ) (i:Nat) (h:Ŀ):Prop where
 z:IsZip h z ti to .none
 ti:adn h ti (.ref j1) (.ref j2)
 to:∃u v,adn h to u v
 h1:it i h
 h2:j4 i h
structure Ob (z ti to j1 j2:Þ):Prop where
 a1:ti≠z
 a2:to≠z
 a3:j1≠z
 a4:j2≠z
 a5:ti≠to
 a6:ti≠j1
 a7:ti≠j2
 a8:to≠j1
 a9:to≠j2
 b0:j1≠j2
def SM {k1 k2:Bool} {P:ê} {w:Ď} {K:İ} {elts:List ĳ} {kk:Nat} {pos:Pos} (a b z ti to j1 j2:Þ) (F:Ob z ti to j1 j2) :
  Turn P w K (.Tuple elts kk pos) (Ao k1 k2 K a b) [z,ti,to,j1,j2] z (aah (λi h=>nN k1 h j1 a i) (λi h=>nN k2 h j2 b i) z ti to j1 j2) where
 mem:=by simp
 obj:=λi h Z c S=>by
  have M:c=z\/c=ti\/c=to\/c=j1\/c=j2:=by simpa using S
  rcases M with rfl|rfl|rfl|rfl|rfl
  ·exact⟨_,Z.z,λv q=>nomatch q⟩
  ·exact⟨_,Z.ti,λv q=>nomatch q⟩
  ·obtain⟨u,v,q⟩:=Z.to;exact⟨_,q,λv q=>nomatch q⟩
  ·exact za Z.h1
  ·exact za Z.h2
 keep:=λi h j Z k=>⟨k z ∅ _ Z.z,k ti ∅ _ Z.ti,by obtain⟨u,v,q⟩:=Z.to;exact⟨u,v,k to ∅ _ q⟩,zz (λo e=>k j1 ∅ o e) Z.h1,zz (λo e=>k j2 ∅ o e) Z.h2⟩
 item:=by
  intro X L hw J S i g s σ H E I Y Z G;subst L hw J;obtain⟨d,ys,x,y,V,U,ex,f⟩:=G;obtain⟨C,B,t⟩:=I.tK V;obtain⟨r,p,n⟩:=I.tK U;obtain⟨u,eu,ru⟩:=B.get ex;obtain⟨v,ev,rv⟩:=p.get f;have ne:∀c∈[z,ti,to,j1,j2],a≠c/\b≠c:=λc W=>⟨zy I V (Y c W),zy I U (Y c W)⟩;have D:HZ.Apart z ti to j1 j2 a b:=⟨F.a1,F.a2,F.a3,F.a4,F.a5,F.a6,F.a7,F.a8,F.a9,F.b0,(ne z ∅).1,(ne to ∅).1,(ne j1 ∅).1,(ne j2 ∅).1,(ne z ∅).2,(ne to ∅).2,(ne j1 ∅).2,(ne j2 ∅).2⟩;obtain⟨w1,w2,O⟩:=Z.to;have R:X.A.in1.handled=ϋ:=I.ok.hd S;calc HZ.next_item D (An R j1 a C.toArray k1) (An R j2 b r.toArray k2) Z.z Z.ti O ⟨Z.h1,t⟩ ⟨Z.h2,n⟩ (by simpa using eu) (by simpa using ev) λj c1 c2 c3 c4 c5 c6 N=>⟨_,rfl,?_⟩;calc wpAny_letOwnedTupleGo_zip c1 λh2 d1 T=>?_;have hn:H s.heap.objs.size=ϋ:=I.az.fresh 3e0;have m:z<s.heap.objs.size:=Í Z.z;have wV:IsTup h2 s.heap.objs.size #[u,v]:=⟨_,T.extBut _ _ (Ş m) c5,rfl,_,rfl⟩
  have I2:Inv X g σ (upd H s.heap.objs.size (.tup [x,y])) { s with heap:=h2,toks:=s.toks }:=I.SK (ch:=[z,ti,to,j1,j2]) (λc o l e=>by
   have q:c≠z/\c≠ti/\c≠to/\c≠j1/\c≠j2:=by simpa using l
   exact T.extBut c o q.1 (N c o q.1 q.2.2.1 q.2.2.2.1 q.2.2.2.2 e)) Y 3e0 ⟨by show 2<=Ù;decide,[u,v],.cons ru (.cons rv .nil),wV⟩
  refine⟨.ref s.heap.objs.size,_,I2,rfl,⟨_,x,y,hn,rfl,rfl,λdA ys' q1 q2=>?_⟩,?_,λc W=>?_⟩
  ·rw[I.JV q1 V,I.JV q2 U];exact⟨ex,f⟩
  ·refine⟨d1,T.extBut _ _ F.a1 (N _ _ F.a1 F.a5 F.a6 F.a7 Z.ti),⟨_,_,T.extBut _ _ F.a2 c2⟩,zz (λo e=>T.extBut _ _ F.a3 e) c3.1,zz (λo e=>T.extBut _ _ F.a4 e) c4.1⟩
  ·rw[bx]
   ·exact(Y c W).1
   ·intro e
    obtain⟨o,eo⟩:∃o,s.heap.get? c=ϊ o:=by
     have M:c=z\/c=ti\/c=to\/c=j1\/c=j2:=by simpa using W
     rcases M with q|q|q|q|q
     ·rw[q];exact⟨_,Z.z⟩
     ·rw[q];exact⟨_,Z.ti⟩
     ·rw[q];exact⟨_,O⟩
     ·rw[q];obtain⟨o,e,_⟩:=za Z.h1;exact⟨o,e⟩
     ·rw[q];obtain⟨o,e,_⟩:=za Z.h2;exact⟨o,e⟩
    exact absurd (Í eo) (by rw[e];exact ñ _)
 done:=by
  intro X L hw J S i g s σ H E I Y Z G;subst L hw J;obtain⟨d,ys,V,U,hle⟩:=G;obtain⟨C,B,t⟩:=I.tK V;obtain⟨r,p,n⟩:=I.tK U;have ne:∀c∈[z,ti,to,j1,j2],a≠c/\b≠c:=λc W=>⟨zy I V (Y c W),zy I U (Y c W)⟩;have D:HZ.Apart z ti to j1 j2 a b:=⟨F.a1,F.a2,F.a3,F.a4,F.a5,F.a6,F.a7,F.a8,F.a9,F.b0,(ne z ∅).1,(ne to ∅).1,(ne j1 ∅).1,(ne j2 ∅).1,(ne z ∅).2,(ne to ∅).2,(ne j1 ∅).2,(ne j2 ∅).2⟩;obtain⟨w1,w2,O⟩:=Z.to;have R:X.A.in1.handled=ϋ:=I.ok.hd S;have l1:=B.length;have l2:=p.length;refine HZ.next_end D (An R j1 a C.toArray k1) (An R j2 b r.toArray k2) Z.z Z.ti O ⟨Z.h1,t⟩ ⟨Z.h2,n⟩ ?_ λj N=>⟨rfl,I.Jm (t':=s.toks) (ch:=[z,ti,to,j1,j2]) (λc o l e=>by
   have q:c≠z/\c≠ti/\c≠to/\c≠j1/\c≠j2:=by simpa using l
   exact N c o q.1 q.2.2.1 q.2.2.2.1 q.2.2.2.2 e) Y⟩
  rcases hle with q|q
  ·left;simp;omega
  ·right;simp;omega
 self:=λA i s Q E Z h=>wpAny_pyIter_zip Z.z h
end L2
namespace HZ
open PySem PySem.Spec PyProof.Rows L2
@[reducible] noncomputable def xE:Bool->String
 |true=>"tuple_iterator"
 |false=>"list_iterator"
abbrev y1 (k:Bool) (h:Ŀ) (m1:Þ):Ŀ:=h.push { cls:=.type (xE k),data:=.fields #[.ref m1,.int 0 0] }
abbrev y2 (k l:Bool) (h:Ŀ) (m1 m2:Þ):Ŀ:=(y1 k h m1).push { cls:=.type (xE l),data:=.fields #[.ref m2,.int 0 0] }
abbrev y3 (k l:Bool) (h:Ŀ) (m1 m2:Þ):Ŀ:=(y2 k l h m1 m2).push { cls:=.type "tuple",data:=.seq #[.ref h.objs.size,.ref (y1 k h m1).objs.size] }
abbrev y4 (k l:Bool) (h:Ŀ) (m1 m2:Þ):Ŀ:=(y3 k l h m1 m2).push { cls:=.type "tuple",data:=.seq #[.none,.none] }
abbrev y5 (k l:Bool) (h:Ŀ) (m1 m2:Þ):Ŀ:=(y4 k l h m1 m2).push { cls:=.type "zip",data:=.fields #[.none,.bool ύ,.bool ύ,.ref (y2 k l h m1 m2).objs.size,.ref (y3 k l h m1 m2).objs.size] }
def MX:∀{k},lM k s.heap m xs->Q 0e7 { s with heap:=s.heap.push { cls:=.type (xE k),data:=.fields #[.ref m,.int 0 0] } }->ß 2e0 A (ae9 (.ref m)) Q E s
 |true,h,q=>wpAny_pyIter_tuple h q
 |false,h,q=>ū h q
def Uw (o:Obj):∀{k},lM k h m xs->lM k (h.push o) m xs
 |true,x=>Heap.IsTuple.push x o
 |false,x=>Heap.IsList.push x o
def Wt (k l:Bool) (m1 m2:Þ) (xs ys:Array È) :
  Meets (Ÿ.«zip.__new__» ⟨[.type "zip",.ref m1,.ref m2],[]⟩) (λ_ R s=>lM k s.heap m1 xs/\lM l s.heap m2 ys/\R (.ok (.ret (.ref (y4 k l s.heap m1 m2).objs.size))) { s with heap:=y5 k l s.heap m1 m2 }) :=
 .of_wp λprog w A R s h=>by
  obtain⟨Z,g,d,Y,os⟩:=s;obtain⟨X,W,h⟩:=h;have V:=sub_zip;have U:lM k (Shared.heap ⟨Z,g,d,Y,os⟩) m1 xs:=X;have L2:lM l (Shared.heap ⟨Z.push { cls:=.type (xE k),data:=.fields #[.ref m1,.int 0 0] },g,d,Y,os⟩) m2 ys:=Uw _ W
  wp_walk using MX U,MX L2
  exact⟨_,rfl,h⟩
section
variable {P:ê} {w:Ď} {A:ó} {E:È->Æ->Prop} {s:Æ}
def K1:∀{k},h.get? i=ϊ { cls:=.type (xE k),data:=.fields #[.ref m,.int 0 0] }->nN k h i m 0
 |true,e=>⟨_,e,rfl,rfl⟩
 |false,e=>⟨_,e,rfl,rfl⟩
def SN (h1:lM k s.heap m1 xs) (h2:lM l s.heap m2 ys)
 (h:∀h',IsZip h' (s.heap.objs.size+4) (s.heap.objs.size+2) (s.heap.objs.size+3) .none->adn h' (s.heap.objs.size+2) 0e7 (.ref (s.heap.objs.size+1)) ->
   adn h' (s.heap.objs.size+3) .none .none->nN k h' s.heap.objs.size m1 0->nN l h' (s.heap.objs.size+1) m2 0->h'.objs.size=s.heap.objs.size+5 ->
 (∀c o,s.heap.get? c=ϊ o->h'.get? c=ϊ o)->Q (.ref (s.heap.objs.size+4)) { s with heap:=h' }):ß 2e0 A (call (.type "zip") [.ref m1,.ref m2]) Q E s:=by
 calc callType_new F.called_zip 0e0 (F.typeCall_zip_2 _ _) (F.newCall_zip_2 _ _) (λobj=>F.args_object_init_3 obj _ _) F.entry_zip_new (Wt k l m1 m2 xs ys) ⟨h1,h2,?_⟩;have e1:(y1 k s.heap m1).objs.size=s.heap.objs.size+1:=ý ..;have e2:(y2 k l s.heap m1 m2).objs.size=s.heap.objs.size+2:=by rw[ý,e1]
 have Z:(y3 k l s.heap m1 m2).objs.size=s.heap.objs.size+3:=by rw[ý,e2]
 have Y:(y4 k l s.heap m1 m2).objs.size=s.heap.objs.size+4:=by rw[ý,Z]
 have V:(y5 k l s.heap m1 m2).objs.size=s.heap.objs.size+5:=by rw[ý,Y]
 have X:(y5 k l s.heap m1 m2).get? (y4 k l s.heap m1 m2).objs.size=ϊ _:=Ò _ rfl;have W:(y5 k l s.heap m1 m2).get? (y3 k l s.heap m1 m2).objs.size=ϊ _:=Á _ (Ò _ rfl);have g3:(y5 k l s.heap m1 m2).get? (y2 k l s.heap m1 m2).objs.size=ϊ _:=Á _ (Á _ (Ò _ rfl));have g2:(y5 k l s.heap m1 m2).get? (y1 k s.heap m1).objs.size=ϊ _:=Á _ (Á _ (Á _ (Ò _ rfl)));have g1:(y5 k l s.heap m1 m2).get? s.heap.objs.size=ϊ _:=Á _ (Á _ (Á _ (Á _ (Ò _ rfl))));show _/\_;rw[e2,Z,Y] at X;rw[e1,e2] at g3;rw[Z] at W;rw[e1] at g2;rw[Y];exact⟨⟨_,X,rfl⟩,h _ X g3 W (K1 g1) (K1 g2) V λc o q=>Á _ (Á _ (Á _ (Á _ (Á _ q))))⟩
end
end HZ
namespace L2
open PySem PySem.Spec PyProof.Rows
def Ux (n:Nat):Ob (n+4) (n+2) (n+3) n (n+1):=by constructor<;>(show (_:Nat)≠_)<;>omega
section
variable {X:Cx} {elts:List ĳ} {kk:Nat} {tp:Pos}
def MY (k l:Bool) (K:İ) (ta:TA):TI:=fun σ H R=>ta σ H λY Z=>∃a b X W,Y=[.ref a,.ref b]/\jZ k K Z a X/\jZ l K Z b W/\R (Ao k l K a b) Z
abbrev aai:=MY ό ό
def SO:ü "zip"=ϊ (.type "zip"):=nofun
def Yx {π:List 2e7} {σ:St} {H:Hp} {s:Æ} (I:Inv X π σ H s):∀b∈[s.heap.objs.size+4,s.heap.objs.size+2,s.heap.objs.size+3,s.heap.objs.size,s.heap.objs.size+1],eZ X π H b:=λb Y=>by
 have Z:s.heap.objs.size<=b:=by
  have q:b=s.heap.objs.size+4\/b=s.heap.objs.size+2\/b=s.heap.objs.size+3\/b=s.heap.objs.size\/b=s.heap.objs.size+1:=by simpa using Y
  omega
 exact I.wQ Z (I.az.fresh Z)
def Wu {k l:Bool} {a b:ĳ} {ta:TA} {p pos:Pos} (hg:Gl X "zip") (hm:X.mg "zip"=ϋ) (ha:PA X [a,b] ta) (hs:Ð [a,b] X.env=[3e3,(ύ,ŗ b X.env)]:=by rfl) (fE:Ð [b] X.env=[(ύ,ŗ b X.env)]:=by rfl) :
  PI X (.Tuple elts kk tp) (.Call (.Name "zip" p) [a,b] [] pos) (MY k l X.K ta):=by
 intro V s σ H R I h;calc Call_ (sG I hg hm SO (ů (aJ (ha pos V s σ H _ I h) λz Z ⟨y,U,Y,T,S⟩=>?_) (by rw[hs,fE]) (by rw[fE];rfl)));obtain⟨a,b,xs,ys,e,Q,P,q⟩:=S;subst e;obtain⟨u,v,rfl,O,N⟩:=vals2 T;cases O;cases N;obtain⟨M,_,L⟩:=Y.tK Q;obtain⟨J,_,G⟩:=Y.tK P;refine HZ.SN (xs:=M.toArray) (ys:=J.toArray) L G λF W E D C B x A=>?_
 refine wpAny_pyIter_zip (s:={ Z with heap:=F }) W ?_
 exact⟨_,[Z.heap.objs.size+4,Z.heap.objs.size+2,Z.heap.objs.size+3,Z.heap.objs.size,Z.heap.objs.size+1],_,_,U,rfl,Y.kept (t':=Z.toks) A,SM a b _ _ _ _ _ (Ux _),⟨W,E,⟨_,_,D⟩,C,B⟩,Yx Y,q⟩
def Wv {a b:ĳ} {ta:TA} {p pos:Pos} (hg:Gl X "zip") (hm:X.mg "zip"=ϋ) (ha:PA X [a,b] ta) (hs:Ð [a,b] X.env=[3e3,(ύ,ŗ b X.env)]:=by rfl) (fE:Ð [b] X.env=[(ύ,ŗ b X.env)]:=by rfl) :
  PI X (.Tuple elts kk tp) (.Call (.Name "zip" p) [a,b] [] pos) (aai X.K ta):=Wu hg hm ha hs fE
end
end L2
namespace PySem
end PySem
namespace L2
open PySem PySem.Spec PyProof.Rows
def map_getD (ns:List Int):(ö ns.length).map (λi=>ns.getD i 0)=ns:=by
 apply υ;intro i;rw[é];by_cases h:i<ns.length
 ·rw[acD h,Ê h]
  simp[ű,Ê h]
 ·rw[Ō (by simpa using h),Ō ⋯]
  rfl
section
variable {κ:Type} [DecidableEq κ]
def putK (aR:List (κ×V)) (k:κ) (v:V):List (κ×V) :=
 if (aR.any λZ=>ώ (Z.1=k))=ό then aR.map (λZ=>if Z.1=k then (Z.1,v) else Z) else aR++[(k,v)]
end
section
variable {X:Cx} {π:List (Þ×Obj)} {σ:St} {H:Hp} {s:Æ} {a:Þ} {y v:V} {u r:È} {o:Option V} {A:ó} {E:È->Æ->Prop}
def Inv.big (I:Inv X π σ H s):sysModules<s.heap.objs.size:=by
 have h:Ú<s.heap.objs.size:=(I.mod.glob.keeps I.bk).lt;exact Nat.lt_trans 0e0 h
end
def Uy (h:Ŀ) (hb:sysModules<h.objs.size):dR P w H (h.push { cls:=.type "dict",data:=.dict #[] }) h.objs.size (.dK []) :=
 ⟨ą _,beq_eq_false_iff_ne.mpr (ŵ (á hb)),[],.nil,Heap.DictOf.new h⟩
def Yy:TE:=λ_ H Q=>∀p,H p=ϋ->Q 7e3 (upd H p (.dK []))
section
variable {X:Cx} {pos:Pos}
def Uz:PE X (.Dict [] [] pos) Yy:=λZ s σ H Q I h =>
 wpAny_Dict_empty ⟨.ref s.heap.objs.size,_,I.laid (a:=s.heap.objs.size) (o:=.dK []) (t':=s.toks) (λ_ _ q=>Á _ q) 3e0 (Uy s.heap I.big),rfl,h _ (I.az.fresh 3e0)⟩
end
structure M1 (X:Cx) (o:ĳ) (m:Str) (apos:Pos) (e:ĳ) (ba:Pos):Prop where
 base:ſ o m X.env (ŗ o X.env)=ŗ o X.env
 mL:((ŀ ba (Ð [e] X.env)).all (λx=>!x.1)&&(aeL ba (acW [] X.env)).all (λx=>x.1.isSome)
  && ώ (([e]:List ĳ).length+([]:List acO).length+(if ([]:List acO).isEmpty then 0 else 1)<30))=ό
 line:7e4=ό
 trees:ŀ ba (Ð [e] X.env)=[5e5]
structure M2 (X:Cx) (o:ĳ) (m:Str) (apos:Pos) (e f:ĳ) (ba:Pos):Prop where
 base:ſ o m X.env (ŗ o X.env)=ŗ o X.env
 mL:((ŀ ba (Ð [e,f] X.env)).all (λx=>!x.1)&&(aeL ba (acW [] X.env)).all (λx=>x.1.isSome)
  && ώ (([e,f]:List ĳ).length+([]:List acO).length+(if ([]:List acO).isEmpty then 0 else 1)<30))=ό
 line:7e4=ό
 trees:ŀ ba (Ð [e,f] X.env)=[5e5,(ύ,ŗ f X.env)]
def L3 (sc:acB) (on:List (Str×ξ)) (oN N:List Str) (nt:Nat) (cap:List Nat):Bool :=
 ώ (sc.kind=.function)&&sc.names.all (λx=>ώ (x.2≠.cell))&&sc.names.all (λx=>ώ (x.2=.local->sc.names.lookup x.1=ϊ .local)) &&
 sc.names.all (λx=>ώ (x.2=.free->sc.names.lookup x.1=ϊ .free/\(on.lookup x.1=ϊ .cell\/on.lookup x.1=ϊ .free)))&&ώ (N.length=nt+cap.length) &&
 (ö cap.length).all (λk=>match cap[k]? with
  |some j=>match oN[j]? with
   |some x=>ώ (N[nt+k]?=ϊ x)&&ώ (6e0∈sc.names)
   |none=>ύ
  |none=>ό)
def MZ (h:L3 sc X.env.scope.names X.N N nt cap=ό):vJ X sc N nt cap:=by
 delta L3 at h;erw[Å,ä,É] at h;obtain⟨⟨⟨⟨⟨Z,Y⟩,W⟩,V⟩,U⟩,T⟩:=h;calc⟨Z,Y,W,λx S e=>V x S e,U,λk j e=>?_⟩;have R:k<cap.length:=(Ñ.mp e).1;have:=T k (ø.mpr R);rw[e] at this;dsimp only at this
 cases ex:X.N[j]? with
 |none=>rw[ex] at this;cases this
 |some x =>
  rw[ex] at this;erw[Å,É] at this;exact⟨x,rfl,this.1,this.2⟩
end L2
namespace TS
open PySem
abbrev hX (l:List Nat):Prop:=l.Pairwise (· < ·)
def UA (xs:Array Nat) (k d:Nat):xs.getD k d=xs.toList.getD k d:=by
 cases xs with
 |mk l =>
  by_cases h:k<l.length
  ·simp[ae0,ű,h]
  ·simp[ae0,ű,h]
def qg (h:hX l) (rj:a<b) (hb:b<l.length):l.getD a 0<l.getD b 0:=by
 have:=List.pairwise_iff_getElem.mp h a b ⋯ hb rj;simpa [ű,Ê hb,Ê (show a<l.length by omega)] using this
def UB (l:List Nat) (hk:k<l.length) (d e:Nat):l.getD k d=l.getD k e:=by
 simp[ű,Ê hk]
theorem CG (xs:Array Nat) (j:Nat) (hr:hX xs.toList):∀(fuel lo hi:Nat),hi-lo<=fuel->lo<=hi->hi<=xs.toList.length->(∀k,k<lo->xs.toList.getD k 0<j)->(∀k,hi<=k->k<xs.toList.length->j<=xs.toList.getD k 0) ->
  SetTable.below.go xs j fuel lo hi<=xs.toList.length/\(∀k,k<SetTable.below.go xs j fuel lo hi->xs.toList.getD k 0<j)/\(∀k,SetTable.below.go xs j fuel lo hi<=k->k<xs.toList.length->j<=xs.toList.getD k 0)
 |0,lo,hi,S,R,Z,Y,X=>by
  have e:lo=hi:=by omega
  subst e;exact⟨Z,Y,X⟩
 |fuel+1,lo,hi,S,R,Z,Y,X=>by
  delta SetTable.below.go;by_cases U:lo<hi
  ·rw[Ô U]
   dsimp only;have T:(lo+hi) / 2<xs.toList.length:=by omega
   rw[UA,UB _ T j 0];by_cases W:xs.toList.getD ((lo+hi) / 2) 0<j
   ·rw[Ô W]
    calc CG xs j hr fuel _ _ ⋯ ⋯ Z (λk Q=>?_) X;by_cases V:k=(lo+hi) / 2
    ·rw[V];exact W
    ·exact Nat.lt_trans (qg hr ⋯ T) W
   ·rw[Ö W]
    calc CG xs j hr fuel _ _ ⋯ ⋯ ⋯ Y (λk Q V=>?_);by_cases P:k=(lo+hi) / 2
    ·rw[P];omega
    ·have:=qg hr (show (lo+hi) / 2<k by omega) V
     omega
  ·rw[Ö U]
   have e:lo=hi:=by omega
   subst e;exact⟨Z,Y,X⟩
def yw (xs:Array Nat) (j:Nat) (hr:hX xs.toList):ú xs j<=xs.toList.length/\(∀k,k<ú xs j->xs.toList.getD k 0<j)/\(∀k,ú xs j<=k->k<xs.toList.length->j<=xs.toList.getD k 0):=by
 delta ú;exact CG xs j hr xs.size 0 xs.size ⋯ (ą _) ∅ (λk Z=>by omega) (λk Z Y=>by simp at Y;omega)
def Q8 {l:List Nat} {p j:Nat} (h:∀k,k<p->l.getD k 0<j):∀x∈l.take p,x<j:=by
 intro x Y;obtain⟨k,X,e⟩:=Ų Y;have Z:k<p/\k<l.length:=by rw[ĉ] at X;omega
 have:=h k Z.1;rw[List.getElem_take] at e;rw[<- e];simpa [ű,Ê Z.2] using this
def Q9 {l:List Nat} {p j:Nat} (h:∀k,p<=k->k<l.length->j<=l.getD k 0):∀x∈l.drop p,j<=x:=by
 intro x Y;obtain⟨k,X,e⟩:=Ų Y;have Z:p+k<l.length:=by rw[Ŕ] at X;omega
 have:=h (p+k) ⋯ Z;rw[List.getElem_drop] at e;rw[<- e];simpa [ű,Ê Z] using this
def JW {xs:Array Nat} {j:Nat} (hr:hX xs.toList) (hn:xs[ú xs j]?≠ϊ j):hX (χ xs (ú xs j) j).toList:=by
 obtain⟨T,V,U⟩:=yw xs j hr;rw[SetTable.toList_insertAt];have a1:=Q8 V;have a2:∀x∈xs.toList.drop (ú xs j),j<x:=by
  intro x hx;have Y:=Q9 U;have X:hX (xs.toList.drop (ú xs j)):=aee (ad9 _ _) hr
  cases Z:xs.toList.drop (ú xs j) with
  |nil=>rw[Z] at hx;cases hx
  |cons y r =>
   rw[Z] at X hx Y;have hy:j≠y:=by
    intro e;apply hn;have:(xs.toList.drop (ú xs j))[0]?=ϊ y:=by rw[Z];rfl
    rw[List.getElem?_drop] at this;have e2:xs.toList[ú xs j]?=ϊ y:=by simpa using this
    rw[<- ù,e2,e]
   have W:j<y:=Nat.lt_of_le_of_ne (Y y Õ) hy
   rcases Ï.mp hx with e|hx
   ·rw[e];exact W
   ·exact Nat.lt_trans W ((þ.mp X).1 x hx)
 first
  |(refine List.pairwise_append.mpr ⟨aee (ad5 _ _) hr,þ.mpr ⟨a2,aee (ad9 _ _) hr⟩,λx hx y hy=>?_⟩
    rcases Ï.mp hy with e|hy
    ·rw[e];exact a1 x hx
    ·exact Nat.lt_trans (a1 x hx) (a2 y hy))
  |trace_state
theorem CH (t:ő) (h:Int):∀(fuel:Nat) (p:SetTable.Probe) (j:Nat) (dm:Option Nat),(∀d,p.dummy=ϊ d->t.slot d=.dummy)->SetTable.probe.go t (λ_=>h+1) h fuel p=ϊ (.empty j dm)->t.slot j=.empty/\∀d,dm=ϊ d->t.slot d=.dummy
 |0,p,j,dm,Y,e=>by simp[SetTable.probe.go] at e
 |fuel+1,p,j,dm,Y,e=>by
  delta SetTable.probe.go at e
  cases hs:t.slot p.j with
  |empty =>
   rw[hs] at e;simp at e;rw[<- e.1,<- e.2];exact⟨hs,Y⟩
  |dummy =>
   rw[hs] at e;calc CH t h fuel _ j dm (λd Z=>?_) e;delta SetTable.advance at Z;split at Z
   ·simp at Z;rw[<- Z];exact hs
   ·simp at Z;rw[<- Z];exact hs
  |live i =>
   rw[hs] at e;have X:(h+1==h)=ύ:=by simp;omega
   erw[X,Ç,õ] at e;calc CH t h fuel _ j dm (λd Z=>?_) e;delta SetTable.advance at Z;split at Z
   ·exact Y d Z
   ·exact Y d Z
def BL {t:ő} {j:Nat} (h:t.slot j=.empty\/t.slot j=.dummy):t.place[ú t.place j]?≠ϊ j:=by
 intro e;have:t.slot j=.live (ú t.place j):=by
  delta aes;simp[e]
 rw[this] at h
 rcases h with h|h<;>cases h
def SQ {t:ő} {h:Int} {j:Nat} {b:Bool} (e:t.freeSlot h=ϊ (j,b)):t.place[ú t.place j]?≠ϊ j:=by
 delta SetTable.freeSlot SetTable.probe at e;split at e
 ·rename_i Y Z X
  have k:=CH t h _ _ Y Z (λd W=>by simp[SetTable.probeStart] at W) X;simp at e;rw[<- e.1]
  cases Z with
  |none=>exact BL (.inl k.1)
  |some d=>exact BL (.inr (k.2 d rfl))
 ·cases e
structure iX (led:Bool) (t:ő):Prop where
 led:t.led=led
 rise:t.plain=ό->hX t.place.toList
def yq (h:iX led t) (n:Nat):iX led (t.standIn n):=⟨h.led,λz=>by simp[SetTable.standIn] at z⟩
def RJ {led:Bool} {t:ő} (h:iX led t) (es:Array (Int×È)) (hs:Int) (x:È):iX led (layNew t es hs x).2.1:=by
 delta layNew;split
 ·rename_i slot Y e
  dsimp only;delta SetTable.orStandIn;have Z:iX led (t.put slot).1:=⟨h.led,λz=>JW (h.rise z) (SQ e)⟩;split
  ·exact Z
  ·exact yq Z _
 ·exact yq h _
def UC {mask finger moves:Nat} {led plain:Bool} {hs:Array Int} {o:Array Nat} (e:SetTable.laid mask finger moves led plain hs=ϊ (t,o)):iX led t/\t.plain=plain:=by
 delta SetTable.laid at e
 cases X:ae1 mask hs with
 |none=>rw[X] at e;simp at e
 |some owner =>
  rw[X] at e;simp at e;obtain⟨e1,e2⟩:=e;subst e1;calc⟨⟨rfl,λ_=>?_⟩,rfl⟩;show hX (aef _).toList;erw[adN];calc List.pairwise_filterMap.mpr ?_;calc List.Pairwise.imp (R:=(· < ·)) ?_ (ad2);intro a b U x Z y Y
  cases W:(owner[a]?.getD ϋ) with
  |none=>rw[W] at Z;simp at Z
  |some q =>
   cases V:(owner[b]?.getD ϋ) with
   |none=>rw[V] at Y;simp at Y
   |some r =>
    rw[W] at Z;rw[V] at Y;simp at Z Y;omega
def SR (h:iX led t) (es:Array (Int×È)) (n:Nat):iX led (relayAll t es n).2.1:=by
 delta relayAll;split
 ·rename_i Z o e
  dsimp only;split
  ·delta SetTable.relaid at e
   have k:=UC e;exact⟨k.1.led.trans h.led,k.1.rise⟩
  ·exact yq h _
 ·exact yq h _
def BM (led:Bool):iX led (.fresh 0 0 led):=⟨rfl,λ_=>List.Pairwise.nil⟩
open PySem.Spec PyProof.Rows
section
variable {P:ê} {w:Ď} {A:ó} {E:È->Æ->Prop} {s:Æ} {led:Bool}
def gC (P:ê) (w:Ď) (led:Bool) (h:Ŀ) (a:Þ) (S:Int->Bool) (n:Nat):Prop :=
 ∃o Z Y t,h.get? a=ϊ o/\o.ExactSet/\o.data=.set Z Y t/\ElemsOf (Ŵ P w) Z.toList/\(∀k,S k=ό↔∃e∈Z.toList,(Ŵ P w).is k e.2=ό)/\Z.size<acI/\t.fits Z.size=ό/\Z.size=n/\iX led t
def gC.at (x:gC P w led h a S n) (k:∀o,h.get? a=ϊ o->h'.get? a=ϊ o):gC P w led h' a S n:=by
 obtain⟨o,Z,Y,t,X,r⟩:=x;exact⟨o,Z,Y,t,k o X,r⟩
def gC.congr (x:gC P w led h a S n) (e:∀k,S k=S' k) (en:n=n'):gC P w led h a S' n':=by
 obtain rfl:S=S':=funext e;subst en;exact x
def CI {a:Þ} {u:Obj} {es es':Array (Int×È)} {ep:Nat} {t t':ő} {h:Ŀ} (hu:h.get? a=ϊ u) (hx:u.ExactSet) (hd:u.data=.set es ep t) {S:Int->Bool}
  (c1:ElemsOf (Ŵ P w) es'.toList) (c2:∀k,S k=ό↔∃e∈es'.toList,(Ŵ P w).is k e.2=ό) (c3:es'.size<acI) (c4:t'.fits es'.size=ό) (c5:iX led t') :
  (h.update a (adG es' t')).get? a=ϊ { u with data:=.set es' (ep+1) t' }/\gC P w led (h.update a (adG es' t')) a S es'.size:=by
 have g:=(SetOf_store (knd:=Ŵ P w) hu hx hd c1 c2 c3 c4).1;exact⟨g,_,es',ep+1,t',g,hx,rfl,c1,c2,c3,c4,rfl,c5⟩
def Ww {a:Þ} {S:Int->Bool} {n:Nat} {k:Int} {tk:Tok} {Q:Bool->Æ->Prop} (hS:gC P w led s.heap a S n) (M0:n+1<acI)
  (h:∀h',ı a s.heap h'->gC P w led h' a (λj=>S j||ώ (j=k)) (if S k then n else n+1)->Q (!S k) { s with heap:=h' }) :
  ß 2e0 A (setAddHashed a (.int k tk) ((Ŵ P w).hash k)) Q E s:=by
 obtain⟨u,W,c,t,R,H,O,G,F,i,B,y,g⟩:=hS;have ky:(Ŵ P w).is k (.int k tk)=ό:=intKind_is _ _ _ _;have sc:(aeX k tk).scannable=ό:=rfl;have FP:W.size+1<acI:=by rw[y];exact M0
 delta setAddHashed setAddHashedIn;calc Ĉ ?_;calc À (ĸ R O B ?_);dsimp only;rw[byScan_of sc i G,Ô rfl];delta setAddByScan;calc À (À (ź ?_));refine À (wpAny_setScan_of ky R O B G ?_)
 cases f:W.toList.findIdx? (λe=>(Ŵ P w).is k e.2) with
 |some j =>
  dsimp only;obtain⟨hj,pj,_⟩:=List.findIdx?_eq_some_iff_getElem.mp f;have K:S k=ό:=(F k).mpr ⟨W.toList[j],adt hj,pj⟩;have q:=h s.heap (Heap.SameBut.refl a s.heap) ⟨u,W,c,t,R,H,O,G,λj'=>by
   rw[ψ,É,<- F j'];exact⟨λz=>z.elim id λe=>by rw[e];exact K,adh⟩,i,B,by rw[K];exact y,g⟩
  rw[K] at q;exact Â (Â q)
 |none =>
  dsimp only;have K:S k=ύ:=by
   rw[<- ē,F k];rintro ⟨e,X,pe⟩;have z:=List.findIdx?_eq_none_iff.mp f e X;rw[pe] at z;cases z
  have way:∀(b:Bool) {x:Æ} {v:Unit->Æ->Prop},v () x->ß 2e0 A (match b with|true=>rule "set.scan.the-table-gave-way"|false=>pure ()) v E x :=
   λb x v q=>by cases b<;>first|exact Â q|exact ź q
  have pm:=layNew_perm t W ((Ŵ P w).hash k) (.int k tk);have r:=layNew_fits t W ((Ŵ P w).hash k) (.int k tk);have D:=RJ g W ((Ŵ P w).hash k) (.int k tk);generalize layNew t W ((Ŵ P w).hash k) (.int k tk)=L at pm r D |-;obtain⟨Z,t1,afc,aff⟩:=L;dsimp only at pm r D |-;rw[ac9] at pm;have p:ElemsOf (Ŵ P w) Z.toList:=(G.push ky sc).perm pm;have o:∀j,(S j||ώ (j=k))=ό↔∃e∈Z.toList,(Ŵ P w).is j e.2=ό:=mem_push_iff ky F pm;have z1:Z.size=n+1:=by
   have l:=pm.length_eq;rw[à,ë,ë,y] at l;exact l
  have V:Z.size<acI:=by omega
  calc À (way _ ?_);obtain⟨g1,d⟩:=CI (S:=λj=>S j||ώ (j=k)) R H O p o V r D;have C:=Ĥ s.heap a (adG Z t1)
  have fin:∀h',ı a s.heap h'->gC P w led h' a (λj=>S j||ώ (j=k)) Z.size->Q ό { s with heap:=h' }:=λh' sb T=>by
   have q:=h h' sb;rw[K] at q;rw[z1] at T;exact q T
  have Y:=relayAll_perm t1 Z (μ Z.size);have N:=relayAll_fits t1 Z (μ Z.size);have M:=SR D Z (μ Z.size);have hv:hashByValue 8 (aeX k tk)=pure ό:=rfl;split
  ·refine À ?_
   rw[hv];calc Â ?_;erw[ÿ];calc À (ω R O ?_ (ada V));split
   ·generalize relayAll t1 Z (μ Z.size)=L2 at Y N M |-
    obtain⟨J,t2,m⟩:=L2;dsimp only at Y N M |-;have U:J.size=Z.size:=by
     have l:=Y.length_eq;rwa [ë,ë] at l
    have f2:∀j,(S j||ώ (j=k))=ό↔∃e∈J.toList,(Ŵ P w).is j e.2=ό:=λj=>(o j).trans ⟨λ⟨e,X,q⟩=>⟨e,Y.mem_iff.mpr X,q⟩,λ⟨e,X,q⟩=>⟨e,Y.mem_iff.mp X,q⟩⟩;calc À (way _ ?_);calc À (ω g1 rfl ?_ (ada (by rw[U];exact V)));obtain⟨g2,I⟩:=CI (S:=λj=>S j||ώ (j=k)) (led:=led) g1 H rfl (p.perm Y) f2 (by rw[U];exact V) N M;rw[U] at I;exact Â (Â (fin _ (C.trans (Ĥ _ a _)) I))
   ·exact Â (Â (fin _ C d))
  ·refine À (Â ?_)
   erw[ÿ];calc À (ω R O ?_ (ada V));split
   ·generalize relayAll t1 Z (μ Z.size)=L2 at Y N M |-
    obtain⟨J,t2,m⟩:=L2;dsimp only at Y N M |-;have U:J.size=Z.size:=by
     have l:=Y.length_eq;rwa [ë,ë] at l
    have f2:∀j,(S j||ώ (j=k))=ό↔∃e∈J.toList,(Ŵ P w).is j e.2=ό:=λj=>(o j).trans ⟨λ⟨e,X,q⟩=>⟨e,Y.mem_iff.mpr X,q⟩,λ⟨e,X,q⟩=>⟨e,Y.mem_iff.mp X,q⟩⟩;calc À (way _ ?_);calc À (ω g1 rfl ?_ (ada (by rw[U];exact V)));obtain⟨g2,I⟩:=CI (S:=λj=>S j||ώ (j=k)) (led:=led) g1 H rfl (p.perm Y) f2 (by rw[U];exact V) N M;rw[U] at I;exact Â (Â (fin _ (C.trans (Ĥ _ a _)) I))
   ·exact Â (Â (fin _ C d))
end
def Qo:entryFor table "set.__iter__"=ϊ Ÿ.«frozenset.__iter__»:=entryFor_alias (id':="frozenset.__iter__") 0e3 rfl nofun 0e3
def kO:Slot "set_iterator" "__next__" "set_iterator.__next__" :=
 .of (owner:="set_iterator") (n:="__next__") (by rw[typeLookup_type,builtinLookup_eq_fast];kernel_rfl) nofun nofun nofun
  (by first|exact .inl nofun|exact .inr nofun) (by rw[isSubtype_type];kernel_rfl)
def yl:entryFor table "set_iterator.__next__"=ϊ Ÿ.«set_iterator.__next__»:=entryFor_of_tree 0e3
def yp (a:È):argsOk "set_iterator.__next__" ⟨[a],[]⟩:=by delta argsOk;kernel_rfl
def Ij:Slot "set_iterator" "__iter__" "set_iterator.__iter__" :=
 .of (owner:="set_iterator") (n:="__iter__") (by rw[typeLookup_type,builtinLookup_eq_fast];kernel_rfl) nofun nofun nofun
  (by first|exact .inl nofun|exact .inr nofun) (by rw[isSubtype_type];kernel_rfl)
def jM (h:Ŀ) (I a:Þ) (first:È) (i n ep:Nat):Prop:=∃o,h.get? I=ϊ o/\o.cls=.type "set_iterator"/\o.data=.fields #[first,.int i 0,.ref a,.int n 0,.int ep 0]
section
variable {P:ê} {w:Ď} {A:ó} {E:È->Æ->Prop} {s:Æ}
def K2 {slot i n ep nx:Nat} {es:Array (Int×È)} {Q:Option È->Æ->Prop} (hit:jM s.heap I a (.int slot 0) i n ep)
 (hu:s.heap.get? a=ϊ u) (hd:u.data=.set es ep t) (hf:t.fits es.size=ό) (hn:es.size=n)
 (hs:∀(A':ó) (Q':Option (È×Nat)->Æ->Prop) (E':È->Æ->Prop),Q' (ϊ (x,nx)) s->ß 2e0 A' (setNext a slot i ep) Q' E' s)
 (hQ:∀h',jM h' I a (.int nx 0) (i+1) n ep->ı I s.heap h'->Q (ϊ x) { s with heap:=h' }):ß 2e0 A (acU (.ref I)) Q E s:=by
 obtain⟨o,Y,X,Z⟩:=id hit;have W:s.TypeIs (.ref I) "set_iterator":=⟨o,Y,X⟩;delta acU;refine À (acC (Ġ (name:=Ċ "__next__") W kO
  (ě kO W yl ?_ (yp _))))
 delta Ÿ.«set_iterator.__next__» slotArgs;simp only[adu,ò,Ç,↓reduceIte,bind_assoc,ĥ,Ĩ];calc À (Â ?_);calc À (wpAny_fieldsOf Y Z ?_);dsimp only;calc À (acE hu hd hf ?_);rw[hn];simp only[Ĩ,Ç,↓reduceIte,Ŝ];calc À (hs _ _ _ ?_);dsimp only;calc À (Ũ Y Z ∅ ?_);calc À (Ũ (ġ _ Y (ŋ (đ Z _))) (đ Z _) ∅ ?_);calc Â ⟨x,rfl,Â (hQ _ ⟨_,ġ _ (ġ _ Y (ŋ (đ Z _))) (ŋ (đ (đ Z _) _)),(ad8 ..).trans ((ad8 ..).trans X),?_⟩ ((Ĥ ..).trans (Ĥ ..)))⟩;rw[đ (đ Z _)];simp[acz]
def RK (hm:m≠0) (h:Q (w.draws src (s.drawn.get src) % m) { s with drawn:=s.drawn.bump src }):ß 2e0 A (choose src m) Q E s:=fun Y p Z=>by
 delta choose;rw[Sem.wp_choose];exact⟨hm,h⟩
def Jn (hh:A.handled=ϋ) (ho:s.heap.get? I=ϊ o) (fg:o.data=.fields vs) (h2:2<vs.size)
 (hQ:∀h',adw I s.heap h'->Q ϋ { s with heap:=h' }) :
  ß 2e0 A.in1 (setField (.ref I) 2 .none >>= λ_=>newExc (.type "StopIteration") [] >>= λe=>(raiseNew e:Sem Fin)) (λfin s'=>∃v,fin=Fin.done (Flow.ret v)/\ß 2e0 A (pure (ϊ v)) Q E s')
   (λe s'=>ß 2e0 A (isInstance e (ũ "StopIteration") >>= λb=>if b=ό then pure ϋ else throw e) Q E s') s:=by
 calc À (Ũ ho fg h2 ?_);calc À ?_;erw[newExc,newTuple];refine À (č ?_ (by size_fits))
 refine À (m:=firstArgMember _ _) (wpAny_of_eq (a:=Value.none) (by first|rfl | (erw[firstArgMember];rfl)) ?_)
 calc č ?_ (by size_fits);erw[raiseNew];refine À (wpAny_handled ?_)
 first|rw[show A.in1.handled=ϋ from hh]|rw[hh]
 calc À (Â (wpAny_throw ?_));calc À (ael (T:="StopIteration") (b:=ό) ⟨_,Ò _ rfl,rfl⟩ isSubtype_stop ?_);exact Â (hQ _ (((Ĥ ..).extBut.push _).push _))
def L4 {slot i n ep:Nat} {es:Array (Int×È)} {Q:Option È->Æ->Prop} (hh:A.handled=ϋ) (hit:jM s.heap I a (.int slot 0) i n ep)
 (hu:s.heap.get? a=ϊ u) (hd:u.data=.set es ep t) (hf:t.fits es.size=ό) (hn:es.size=n)
 (hs:∀(A':ó) (Q':Option (È×Nat)->Æ->Prop) (E':È->Æ->Prop),Q' ϋ s->ß 2e0 A' (setNext a slot i ep) Q' E' s)
 (hQ:∀h',adw I s.heap h'->Q ϋ { s with heap:=h' }):ß 2e0 A (acU (.ref I)) Q E s:=by
 obtain⟨o,Z,W,Y⟩:=id hit;have X:s.TypeIs (.ref I) "set_iterator":=⟨o,Z,W⟩;delta acU;refine À (acC (Ġ (name:=Ċ "__next__") X kO
  (ě kO X yl ?_ (yp _))))
 delta Ÿ.«set_iterator.__next__» slotArgs;simp only[adu,ò,Ç,↓reduceIte,bind_assoc,ĥ,Ĩ];calc À (Â ?_);calc À (wpAny_fieldsOf Z Y ?_);dsimp only;calc À (acE hu hd hf ?_);rw[hn];simp only[Ĩ,Ç,↓reduceIte,Ŝ];calc À (hs _ _ _ ?_);dsimp only;exact Jn hh Z Y ∅ hQ
def UD {i n ep pl:Nat} {es:Array (Int×È)} {x:Int×È} {Q:Option È->Æ->Prop} (hit:jM s.heap I a (.ref tp) i n ep)
 (hu:s.heap.get? a=ϊ u) (hd:u.data=.set es ep t) (hf:t.fits es.size=ό) (hn:es.size=n) (xG:s.heap.IsTuple tp places) (bP:places[i]?=ϊ (.int pl tk)) (hx:es[pl]?=ϊ x)
 (hQ:∀h',jM h' I a (.ref tp) (i+1) n ep->ı I s.heap h'->Q (ϊ x.2) { s with heap:=h' }):ß 2e0 A (acU (.ref I)) Q E s:=by
 obtain⟨o,Z,X,Y⟩:=id hit;obtain⟨op,V,U,np,T⟩:=xG;have W:s.TypeIs (.ref I) "set_iterator":=⟨o,Z,X⟩;delta acU;refine À (acC (Ġ (name:=Ċ "__next__") W kO
  (ě kO W yl ?_ (yp _))))
 delta Ÿ.«set_iterator.__next__» slotArgs;simp only[adu,ò,Ç,↓reduceIte,bind_assoc,ĥ,Ĩ];calc À (Â ?_);calc À (wpAny_fieldsOf Z Y ?_);dsimp only;calc À (acE hu hd hf ?_);rw[hn];simp only[Ĩ,Ç,↓reduceIte,Ŝ];calc À (ķ V T ?_);dsimp only;rw[bP];dsimp only;delta setNextDrawn;calc À (À (ĸ hu hd hf ?_));dsimp only;simp only[Ĩ,Ç,↓reduceIte,Ŝ];rw[hx];dsimp only;calc Â ?_;calc À (Ũ Z Y ∅ ?_);calc Â ⟨x.2,rfl,Â (hQ _ ⟨_,ġ _ Z (ŋ (đ Y _)),(ad8 ..).trans X,?_⟩ (Ĥ ..))⟩;rw[đ Y];simp[acz]
def Wx (hh:A.handled=ϋ) (hit:jM s.heap I a (.ref tp) i n ep)
 (hu:s.heap.get? a=ϊ u) (hd:u.data=.set es ep t) (hf:t.fits es.size=ό) (hn:es.size=n) (xG:s.heap.IsTuple tp places) (bP:places[i]?=ϋ)
 (hQ:∀h',adw I s.heap h'->Q ϋ { s with heap:=h' }):ß 2e0 A (acU (.ref I)) Q E s:=by
 obtain⟨o,Z,W,Y⟩:=id hit;obtain⟨op,V,U,np,T⟩:=xG;have X:s.TypeIs (.ref I) "set_iterator":=⟨o,Z,W⟩;delta acU;refine À (acC (Ġ (name:=Ċ "__next__") X kO
  (ě kO X yl ?_ (yp _))))
 delta Ÿ.«set_iterator.__next__» slotArgs;simp only[adu,ò,Ç,↓reduceIte,bind_assoc,ĥ,Ĩ];calc À (Â ?_);calc À (wpAny_fieldsOf Z Y ?_);dsimp only;calc À (acE hu hd hf ?_);rw[hn];simp only[Ĩ,Ç,↓reduceIte,Ŝ];calc À (ķ V T ?_);dsimp only;rw[bP];dsimp only;refine À (Ũ Z Y ∅ ?_)
 exact Jn (s:={ s with heap:=_ }) hh (ġ _ Z (ŋ (đ Y _))) (đ Y _) ∅ λh' e=>hQ h' (Heap.ExtBut.trans (Ĥ ..).extBut e)
end
def Qx:entryFor table "set_iterator.__iter__"=ϊ Ÿ.«dict_keyiterator.__iter__»:=entryFor_alias (id':="dict_keyiterator.__iter__") 0e3 rfl nofun 0e3
def QJ (a:È):argsOk "set_iterator.__iter__" ⟨[a],[]⟩:=by delta argsOk;kernel_rfl
section
variable {P:ê} {w:Ď} {A:ó} {E:È->Æ->Prop} {s:Æ}
def CJ (hit:jM s.heap I a f i n ep) (h:Q (.ref I) s):ß 2e0 A (ae9 (.ref I)) Q E s:=by
 obtain⟨o,Y,X,W⟩:=id hit;have Z:s.TypeIs (.ref I) "set_iterator":=⟨o,Y,X⟩;calc wpAny_pyIter_slot Z Ij (ě Ij Z Qx ?_ (QJ _));show ß _ _ (ret (.ref I)) _ _ s;exact Â ⟨_,rfl,"set_iterator",_,Z,kO.lookup,h⟩
def jM.at (x:jM h I a f i n ep) (k:∀o,h.get? I=ϊ o->h'.get? I=ϊ o):jM h' I a f i n ep:=by
 obtain⟨o,Z,r⟩:=x;exact⟨o,k o Z,r⟩
def Jo (i9:w.params.followText "set-order"=ό) (hu:s.heap.get? a=ϊ u) (hd:u.data=.set es ep t) (hf:t.fits es.size=ό)
 (h:Q' (((acJ 3e7 es)[i]?).map λe=>(e.2,slot)) s):ß 2e0 A (setNext a slot i ep) Q' E s:=by
 delta setNext;calc À (ĸ hu hd hf ?_);dsimp only;delta setsByText;refine À (À (ż (Â ?_)))
 show ß _ _ (if w.params.followText "set-order"=ό then _ else _) _ _ _
 rw[Ô i9];simp only[Ĩ,Ç,↓reduceIte];delta setWalk;calc À (À (ĸ hu hd hf ?_));dsimp only;delta setsByText;refine À (À (ż (Â ?_)))
 show ß _ _ (if w.params.followText "set-order"=ό then _ else _) _ _ _
 rw[Ô i9];calc À (ż (Â ?_));exact Â h
def rX (hr:hX xs.toList) (hi:i<=xs.toList.length) (h1:∀k,k<i->xs.toList.getD k 0<slot) (h2:∀k,i<=k->k<xs.toList.length->slot<=xs.toList.getD k 0):ú xs slot=i:=by
 obtain⟨V,a1,a2⟩:=yw xs slot hr;by_cases Y:ú xs slot<i
 ·have X:=a2 _ 3e0 ⋯
  have W:=h1 _ Y;omega
 ·by_cases Z:i<ú xs slot
  ·have X:=a1 i Z
   have W:=h2 i 3e0 ⋯;omega
  ·omega
def IQ (i9:w.params.followText "set-order"=ύ) (hu:s.heap.get? a=ϊ u) (hd:u.data=.set es ep t) (hf:t.fits es.size=ό)
 (hl:t.led=ό) (hp:t.plain=ό\/es.size<=1) (hb:ú t.place slot=i)
 (h:Q' (match es[i]?,t.place[i]? with|some (_,x),ϊ j=>ϊ (x,j+1) | _,_=>ϋ) s):ß 2e0 A (setNext a slot i ep) Q' E s:=by
 delta setNext;calc À (ĸ hu hd hf ?_);dsimp only;delta setsByText;refine À (À (ż (Â ?_)))
 show ß _ _ (if w.params.followText "set-order"=ό then _ else _) _ _ _
 rw[Ö (by rw[i9];decide)];split
 ·rename_i Z
  have Y:(!t.plain&&ώ (es.size > 1))=ό:=Z
  rcases hp with hp|hp
  ·rw[hp] at Y;cases Y
  ·simp at Y;omega
 ·refine À ?_
  show ß _ _ (if (!t.led&&!es.isEmpty)=ό then _ else _) _ _ _
  rw[hl];simp only[ò,η,Ç,↓reduceIte];calc Â ?_;rw[hb];exact Â h
def Bz (sb:ı I s.heap h'):Moved [I] (λa b=>b=a) s { s with heap:=h' }:=⟨λb o Z e=>by rw[sb.2 b (λz=>Z (by simp[z]))];exact e,rfl,rfl,rfl,afn _⟩
def BN (sb:adw I s.heap h'):Moved [I] (λa b=>b=a) s { s with heap:=h' }:=⟨λb o Z e=>sb b o (λz=>Z (by simp[z])) e,rfl,rfl,rfl,afn _⟩
end
def RL (hh:A.handled=ϋ) (fZ:a≠I) (i9:w.params.followText "set-order"=ό) (hd:u.data=.set es ep t) (hf:t.fits es.size=ό) (hsz:(acJ 3e7 es).size=es.size) :
  WalksS P w A I [I,a] [I] (λa b=>b=a) es.size (λi v=>((acJ 3e7 es).map (·.2))[i]?=ϊ v) (λi s=>jM s.heap I a (.int 0 0) i es.size ep/\s.heap.get? a=ϊ u) where
 sub:=λb W=>by simp at W;simp[W]
 grefl:=λ_=>rfl
 gtrans:=λ_ _ _ T S=>S.trans T
 frame:=λi s V L Z _ U=>⟨Z.1.at λo e=>U I ∅ o e,U a ∅ _ Z.2⟩
 item:=λi s Q E hi Z Y=>by
  have R:i<(acJ 3e7 es).size:=by rw[hsz];exact hi
  have ex:(acJ 3e7 es)[i]?=ϊ (acJ 3e7 es)[i]:=by simp[R]
  calc K2 (nx:=0) (x:=(acJ 3e7 es)[i].2) (slot:=0) Z.1 Z.2 hd hf rfl (λO N M q=>Jo i9 Z.2 hd hf (by rw[ex];exact q)) λV it X=>?_;exact Y _ _ (by simp[ex]) ⟨it,by rw[X.2 a fZ];exact Z.2⟩ (Bz X)
 done:=λs Q E Z Y=>by
  refine L4 (slot:=0) hh Z.1 Z.2 hd hf rfl (λO N M q=>Jo i9 Z.2 hd hf (by
   rw[show (acJ 3e7 es)[es.size]?=ϋ by simp[hsz]];exact q)) λV X=>Y _ (BN X)
 self:=λi s Q E Z Y=>CJ Z.1 Y
def Ra (hh:A.handled=ϋ) (fZ:a≠I) (i9:w.params.followText "set-order"=ύ) (hd:u.data=.set es ep t) (hf:t.fits es.size=ό) (hl:t.led=ό) (hp:t.plain=ό\/es.size<=1) (hr:hX t.place.toList) :
  WalksS P w A I [I,a] [I] (λa b=>b=a) es.size (λi v=>(es.map (·.2))[i]?=ϊ v) (λi s=>∃slot:Nat,jM s.heap I a (.int slot 0) i es.size ep/\s.heap.get? a=ϊ u/\i<=es.size/\(∀k,k<i->t.place.toList.getD k 0<slot)/\∀k,i<=k->k<t.place.toList.length->slot<=t.place.toList.getD k 0) where
 sub:=λb N=>by simp at N;simp[N]
 grefl:=λ_=>rfl
 gtrans:=λ_ _ _ L K=>K.trans L
 frame:=λi s M B Y _ V=>by
  obtain⟨slot,X,Z,T⟩:=Y;exact⟨slot,X.at λo e=>V I ∅ o e,V a ∅ _ Z,T⟩
 item:=λi s Q E hi Y W=>by
  obtain⟨slot,X,Z,T,S,R⟩:=Y;have J:t.place.toList.length=es.size:=by
   erw[SetTable.fits,Å,beq_iff_eq,É] at hf;simpa using hf.1
  have O:i<t.place.toList.length:=by omega
  have e1:es[i]?=ϊ es[i]:=by simp[hi]
  have e2:t.place[i]?=ϊ (t.place.toList.getD i 0):=by
   rw[<- ù,Ê O];simp[ű,Ê O]
  calc K2 (nx:=t.place.toList.getD i 0+1) (x:=es[i].2) (slot:=slot) X Z hd hf rfl (λH G F q=>IQ i9 Z hd hf hl hp (rX hr ⋯ S R) (by rw[e1,e2];exact q)) λM it U=>?_;refine W _ _ (by simp[e1]) ⟨_,it,by rw[U.2 a fZ];exact Z,hi,λk V=>?_,λk V D=>?_⟩ (Bz U)
  ·by_cases C:k=i
   ·rw[C];omega
   ·have:=qg hr (show k<i by omega) O
    omega
  ·have:=qg hr (show i<k by omega) D
   omega
 done:=λs Q E Y W=>by
  obtain⟨slot,X,Z,T,S,R⟩:=Y;have J:t.place.toList.length=es.size:=by
   erw[SetTable.fits,Å,beq_iff_eq,É] at hf;simpa using hf.1
  refine L4 (slot:=slot) hh X Z hd hf rfl (λH G F q=>IQ i9 Z hd hf hl hp (rX hr ⋯ S R) (by
   rw[show es[es.size]?=ϋ by simp];exact q)) λM U=>W _ (BN U)
 self:=λi s Q E Y W=>by
  obtain⟨slot,X,_⟩:=Y;exact CJ X W
def Rb (hh:A.handled=ϋ) (fZ:a≠I) (hnt:tp≠I) (hd:u.data=.set es ep t) (hf:t.fits es.size=ό) (pl:List Nat) (bP:pl.length=es.size) (mM:∀x∈pl,x<es.size) :
  WalksS P w A I [I,a,tp] [I] (λa b=>b=a) es.size (λi v=>(pl.map λk=>(es.getD k (0,Value.none)).2)[i]?=ϊ v) (λi s=>jM s.heap I a (.ref tp) i es.size ep/\s.heap.get? a=ϊ u/\s.heap.IsTuple tp (pl.map λ(k:Nat)=>acz k).toArray) where
 sub:=λb U=>by simp at U;simp[U]
 grefl:=λ_=>rfl
 gtrans:=λ_ _ _ R O=>O.trans R
 frame:=λi s T tk Z _ Y=>⟨Z.1.at λo e=>Y I ∅ o e,Y a ∅ _ Z.2.1,let ⟨o,V,r⟩:=Z.2.2;⟨o,Y tp ∅ o V,r⟩⟩
 item:=λi s Q E hi Z X=>by
  have S:i<pl.length:=by omega
  have e1:pl[i]?=ϊ pl[i]:=Ê S;have Y:=mM _ (adt S);refine UD (pl:=pl[i]) (x:=es.getD pl[i] (0,Value.none)) (tk:=0) Z.1 Z.2.1 hd hf rfl Z.2.2 (by simp[e1,acz]) (by simp[Y,ae0]) λT it W=>?_
  refine X _ _ (by simp[e1]) ⟨it,by rw[W.2 a fZ];exact Z.2.1,let ⟨o,V,r⟩:=Z.2.2;⟨o,by rw[W.2 tp hnt];exact V,r⟩⟩ (Bz W)
 done:=λs Q E Z X=>Wx hh Z.1 Z.2.1 hd hf rfl Z.2.2 (by simp[bP]) λT W=>X _ (BN W)
 self:=λi s Q E Z X=>CJ Z.1 X
def bH (w:Ď):Bool:=!(w.params.followText "set-order")
section
variable {P:ê} {w:Ď} {A:ó} {E:È->Æ->Prop} {s:Æ}
def B7 (a:È)
 (hq:Q₁ 0e7 { s with heap:=s.heap.push { cls:=.type "set",dict:=ϋ,data:=.set #[] 0 0e5 } }) :
  acN 2e0 A (.call (.builtin "set.__new__") ⟨[.type "set",a],[]⟩) (wants Q₁ E) s:=by
 calc adO ?_;show ß _ A.in1 (checkBuiltinCall "set.__new__" ⟨[.type "set",a],[]⟩ >>= λ_=>again (.builtin "set.__new__" ⟨[.type "set",a],[]⟩)) _ _ s;calc À ?_;calc wpAny_of_eq (F.newCall_set_1 a) ?_;calc Â ⟨aet F.plain_set_new _,Ń F.entry_set_new ?_⟩;rw[œ F.plain_set_new _];delta Ÿ.«set.__new__» Builtin.Frozenset.newClass;have ss:=sub_set_self;obtain⟨Z,Y,X,W,V⟩:=s;dsimp only
 wp_walk
 calc ż (Â ?_);dsimp only;erw[newObj];calc À (wpAny_alloc ?_);exact Â (Â hq)
end
section
variable {P:ê} {w:Ď} {A:ó} {R:Result->Æ->Prop} {I:Þ} {fp wr:List Þ} {G:Array GenState->Array GenState->Prop} {n:Nat} {Pv:Nat->È->Prop} {St:Nat->Æ->Prop} {led:Bool}
def UE (val:Nat->Int) {i n:Nat} (h:i<=n):(ō val i).length<=(ō val n).length:=by
 induction h with
 |refl=>exact afn _
 |step _ ih =>
  calc Ü ih ?_;rw[firstMet_succ,step_length]
  split<;>omega
def JX (W:WalksS P w A.in1 I fp wr G n Pv St) (S:Þ) (pC:S∉fp)
  (val:Nat->Int) (E1:∀i v,Pv i v->∃t,v=.int (val i) t) (hb:(ō val n).length+1<acI) :
  ∀(k i:Nat) (s:Æ),n-i=k->i<=n->St i s ->
   gC P w led s.heap S (λj=>(ō val i).any (·==j)) (ō val i).length ->
   (∀s',Moved (S::wr) G s s'->gC P w led s'.heap S (λj=>(ō val n).any (·==j)) (ō val n).length->R (.ok (.ret .none)) s') ->
   acN 2e0 A (.builtin "set.update.loop" ⟨[.ref S,.ref I],[]⟩) R s:=by
 have nw:S∉wr:=λz=>pC (W.sub _ z);have sw:∀b∈wr,b∈S::wr:=λb z=>Ì _ z;intro k
 induction k with
 |zero =>
  intro i s U hi Z T Y;obtain rfl:i=n:=by omega
  calc Ń acF ?_;rw[œ Œ _];show ß _ A.in1 (acU (.ref I) >>= _) _ _ s;calc À (W.done s _ _ Z λs' m=>?_);show ß _ A.in1 (ret Value.none) _ _ s';exact Â (Y s' (m.mono sw) (T.at λo e=>m.heap S o nw e))
 |succ k ih =>
  intro i s U hi Z T Y;have lt:i<n:=by omega
  calc Ń acF ?_;rw[œ Œ _];show ß _ A.in1 (acU (.ref I) >>= _) _ _ s;calc À (W.item i s _ _ lt Z λv s' pv Q m=>?_);obtain⟨t,rfl⟩:=E1 i v pv;have O:=T.at (h':=s'.heap) λo e=>m.heap S o nw e;show ß _ A.in1 (aej [aeX (val i) t] (setAdd S (.int (val i) t)) >>= _) _ _ s';calc À (Ĉ ?_);delta setAdd;calc Ĉ ?_;calc À ((Ŵ P w).pyHash (k:=val i) (intKind_is _ _ _ _) ?_);have room:(ō val i).length+1<acI:=by have:=UE val hi;omega
  refine Ww (s:={ s' with toks:=s'.toks+1 }) O room λh' V N=>?_
  have M:gC P w led h' S (λj=>(ō val (i+1)).any (·==j)) (ō val (i+1)).length:=N.congr (λj=>by rw[firstMet_succ,step_any]) (by rw[firstMet_succ,step_length]);refine Â ⟨aet Œ _,ih (i+1) _ ⋯ lt (W.frame _ s' _ _ Q (adx _) λb X o e=>?_) M λL K J=>?_⟩
  ·rw[V.2 b λz:b=S=>pC (z ▸ X)];exact e
  ·refine Y L (Moved.trans W.gtrans ((m.mono sw).then_heap (adx _) λb o X e=>?_) K) J
   rw[V.2 b λz:b=S=>X (by rw[z];exact Õ)];exact e
end
section
variable {P:ê} {w:Ď} {A:ó} {E:È->Æ->Prop} {s:Æ}
def RM   
 (hh:A.handled=ϋ) (hl:s.heap.IsTuple l its) (hi:aek its.toList ns) (hb:(ō (λi=>ns.getD i 0) its.size).length+1<acI)
 (h:∀(h':Ŀ) (tk:Nat),gC P w (bH w) h' s.heap.objs.size (λk'=>(ō (λi=>ns.getD i 0) its.size).any (·==k')) (ō (λi=>ns.getD i 0) its.size).length ->
 (∀b o,b<s.heap.objs.size->s.heap.get? b=ϊ o->h'.get? b=ϊ o)->Q 0e7 { s with heap:=h',toks:=tk }) :
  ß 2e0 A (call (.type "set") [.ref l]) Q E s:=by
 obtain⟨c,tl,ur⟩:=ė.mro;have um:=ė.made;have ub:=ė.sub;calc adA (adO ?_);show ß _ _ (callAny (.type "set") _) _ _ _;calc Â ⟨adP _ nofun,Ń F.entry_type_call ?_⟩;rw[aeN (aeg "set" [.ref l] []) rfl];have h1:=ė.notType;have h2:=ė.canCreate;have OX:=F.typeCall_set_1 (.ref l)
 repeat (any_goals (first|assumption|wp_step))
 refine Ŋ (B7 (.ref l) (E:=E) (Q₁:=λobj V=>obj=.ref s.heap.objs.size/\V={ s with heap:=s.heap.push { cls:=.type "set",dict:=ϋ,data:=.set #[] 0 0e5 } }) 1e4) λr V Y=>?_
 cases r with
 |error e=>exact Y
 |ok M =>
  cases M with
  |ret obj =>
   obtain⟨rfl,rfl⟩:=Y;have v:(s.heap.push { cls:=.type "set",dict:=ϋ,data:=.set #[] 0 0e5 }).get? s.heap.objs.size=ϊ { cls:=.type "set",dict:=ϋ,data:=.set #[] 0 0e5 }:=Ò _ rfl
   have L:ae6 { s with heap:=s.heap.push { cls:=.type "set",dict:=ϋ,data:=.set #[] 0 0e5 } } 0e7 "set":=⟨_,v,rfl⟩
   have vl:=ė.init.lookup;have vb:=ė.init.bind 0e7
   repeat (any_goals (first|assumption|wp_step))
   refine Ŋ (ο (R:=wants (λr U=>r=.none/\∃h' tk,U={ s with heap:=h',toks:=tk } /\
     gC P w (bH w) h' s.heap.objs.size (λk'=>(ō (λi=>ns.getD i 0) its.size).any (·==k')) (ō (λi=>ns.getD i 0) its.size).length /\
     (∀b o,b<s.heap.objs.size->s.heap.get? b=ϊ o->h'.get? b=ϊ o)) E) ė.init.plain F.entry_set_init (check_set_init_1 L ?_)) λK U X=>?_
   ·obtain⟨ol,T,S,nn,O⟩:=hl
    obtain⟨oc,J,oa,I⟩:=ol;simp only at S O;subst S;subst O;have H:(s.heap.push { cls:=.type "set",dict:=ϋ,data:=.set #[] 0 0e5 }).get? l=ϊ { cls:=.type "tuple",dict:=J,data:=.seq its nn,slots:=I }:=Á _ T;have u1:=F.sub_tuple_set;have u2:=F.sub_tuple_frozenset;have fZ:(ũ "tuple"==ũ "dict")=ύ:=by decide
    have ul:(s.heap.push { cls:=.type "set",dict:=ϋ,data:=.set #[] 0 0e5 }).IsTuple l its:=⟨_,H,rfl,nn,rfl⟩;delta Ÿ.«set.__init__» noKeywords acS;generalize G:ae9=PI
    wp_walk
    subst G;calc wpAny_pyIter_tuple ul ?_;calc À (wpAny_runValue ?_);have N:l<s.heap.objs.size:=Í T;have D:A.in1.in1.in1.handled=ϋ:=by simp[hh]
    have C:l≠(s.heap.push { cls:=.type "set",dict:=ϋ,data:=.set #[] 0 0e5 }).objs.size:=by
     rw[ý];exact á (Ě N)
    have B:s.heap.objs.size∉[(s.heap.push { cls:=.type "set",dict:=ϋ,data:=.set #[] 0 0e5 }).objs.size,l]:=by
     rw[ý];erw[Ï,ċ,ì,or_false,not_or];exact⟨á (ť _),Ş N⟩
    have z:∀(i:Nat) (v:È),its[i]?=ϊ v->∃t,v=.int ((λi=>ns.getD i 0) i) t:=λi v y =>
     IntsAre.int_at hi i v (by rw[ù];exact y)
    refine JX (led:=bH w) ((Walks.tuple D _ l C its).toS) s.heap.objs.size
     B (λi=>ns.getD i 0) z hb (its.size-0) 0 _ ⋯ (ą _)
     ⟨3e1,(ul.push _)⟩ ?v0 ?vR
    case v0 =>
     have x:((s.heap.push { cls:=.type "set",dict:=ϋ,data:=.set #[] 0 0e5 }).push { cls:=.type "tuple_iterator",data:=.fields #[.ref l,.int 0 0] }).get? s.heap.objs.size
       = ϊ { cls:=.type "set",dict:=ϋ,data:=.set #[] 0 0e5 }:=Á _ v
     exact⟨_,#[],0,_,x,⟨rfl,rfl,rfl⟩,rfl,λe u=>by simp at u,λk=>by simp[firstMet_zero],by delta acI;simp,by rfl,rfl,BM _⟩
    case vR =>
     intro q Z W;obtain⟨h',p,n,m,j⟩:=q;have g:p=s.gens:=Z.gens;have f:n=s.drawn:=Z.drawn;have d:j=s.os:=Z.os;subst g;subst f;subst d;show ß _ _ _ _ _ _;calc Â ?_;show ß _ _ (ret Value.none) _ _ _;calc Â ⟨rfl,h',m,rfl,W,λb o hb e=>?_⟩;have v1:b≠s.heap.objs.size:=á hb;have v2:b≠(s.heap.push { cls:=.type "set",dict:=ϋ,data:=.set #[] 0 0e5 }).objs.size:=by
      rw[ý];exact á (Ě hb)
     exact Z.heap b o (by erw[Ï,ċ,ì,or_false,not_or];exact⟨v1,v2⟩) (Á _ (Á _ e))
   ·cases K with
    |error e=>exact X
    |ok a =>
     cases a with
     |ret r =>
      obtain⟨rfl,h',tk,rfl,W,vk⟩:=X
      repeat (any_goals (first|assumption|wp_step))
      exact h _ _ W vk
     |_=>exact X.elim
  |_=>exact Y.elim
def RN   
 (hh:A.handled=ϋ) (hl:s.heap.IsList l its) (hi:aek its.toList ns) (hb:(ō (λi=>ns.getD i 0) its.size).length+1<acI)
 (h:∀(h':Ŀ) (tk:Nat),gC P w (bH w) h' s.heap.objs.size (λk'=>(ō (λi=>ns.getD i 0) its.size).any (·==k')) (ō (λi=>ns.getD i 0) its.size).length ->
 (∀b o,b<s.heap.objs.size->s.heap.get? b=ϊ o->h'.get? b=ϊ o)->Q 0e7 { s with heap:=h',toks:=tk }) :
  ß 2e0 A (call (.type "set") [.ref l]) Q E s:=by
 obtain⟨c,tl,ur⟩:=ė.mro;have um:=ė.made;have ub:=ė.sub;calc adA (adO ?_);show ß _ _ (callAny (.type "set") _) _ _ _;calc Â ⟨adP _ nofun,Ń F.entry_type_call ?_⟩;rw[aeN (aeg "set" [.ref l] []) rfl];have h1:=ė.notType;have h2:=ė.canCreate;have OX:=F.typeCall_set_1 (.ref l)
 repeat (any_goals (first|assumption|wp_step))
 refine Ŋ (B7 (.ref l) (E:=E) (Q₁:=λobj V=>obj=.ref s.heap.objs.size/\V={ s with heap:=s.heap.push { cls:=.type "set",dict:=ϋ,data:=.set #[] 0 0e5 } }) 1e4) λr V Y=>?_
 cases r with
 |error e=>exact Y
 |ok M =>
  cases M with
  |ret obj =>
   obtain⟨rfl,rfl⟩:=Y;have v:(s.heap.push { cls:=.type "set",dict:=ϋ,data:=.set #[] 0 0e5 }).get? s.heap.objs.size=ϊ { cls:=.type "set",dict:=ϋ,data:=.set #[] 0 0e5 }:=Ò _ rfl
   have L:ae6 { s with heap:=s.heap.push { cls:=.type "set",dict:=ϋ,data:=.set #[] 0 0e5 } } 0e7 "set":=⟨_,v,rfl⟩
   have vl:=ė.init.lookup;have vb:=ė.init.bind 0e7
   repeat (any_goals (first|assumption|wp_step))
   refine Ŋ (ο (R:=wants (λr U=>r=.none/\∃h' tk,U={ s with heap:=h',toks:=tk } /\
     gC P w (bH w) h' s.heap.objs.size (λk'=>(ō (λi=>ns.getD i 0) its.size).any (·==k')) (ō (λi=>ns.getD i 0) its.size).length /\
     (∀b o,b<s.heap.objs.size->s.heap.get? b=ϊ o->h'.get? b=ϊ o)) E) ė.init.plain F.entry_set_init (check_set_init_1 L ?_)) λK U X=>?_
   ·obtain⟨ol,T,S,nn,O⟩:=hl
    obtain⟨oc,J,oa,I⟩:=ol;simp only at S O;subst S;subst O;have H:(s.heap.push { cls:=.type "set",dict:=ϋ,data:=.set #[] 0 0e5 }).get? l=ϊ { cls:=.type "list",dict:=J,data:=.seq its nn,slots:=I }:=Á _ T;have u1:=F.sub_list_set;have u2:=F.sub_list_frozenset;have fZ:(ũ "list"==ũ "dict")=ύ:=by decide
    have ul:(s.heap.push { cls:=.type "set",dict:=ϋ,data:=.set #[] 0 0e5 }).IsList l its:=⟨_,H,rfl,nn,rfl⟩;delta Ÿ.«set.__init__» noKeywords acS;generalize G:ae9=PI
    wp_walk
    subst G;calc ū ul ?_;calc À (wpAny_runValue ?_);have N:l<s.heap.objs.size:=Í T;have D:A.in1.in1.in1.handled=ϋ:=by simp[hh]
    have C:l≠(s.heap.push { cls:=.type "set",dict:=ϋ,data:=.set #[] 0 0e5 }).objs.size:=by
     rw[ý];exact á (Ě N)
    have B:s.heap.objs.size∉[(s.heap.push { cls:=.type "set",dict:=ϋ,data:=.set #[] 0 0e5 }).objs.size,l]:=by
     rw[ý];erw[Ï,ċ,ì,or_false,not_or];exact⟨á (ť _),Ş N⟩
    have z:∀(i:Nat) (v:È),its[i]?=ϊ v->∃t,v=.int ((λi=>ns.getD i 0) i) t:=λi v y =>
     IntsAre.int_at hi i v (by rw[ù];exact y)
    refine JX (led:=bH w) ((Walks.list D _ l C its).toS) s.heap.objs.size
     B (λi=>ns.getD i 0) z hb (its.size-0) 0 _ ⋯ (ą _)
     ⟨3e1,(ul.push _)⟩ ?v0 ?vR
    case v0 =>
     have x:((s.heap.push { cls:=.type "set",dict:=ϋ,data:=.set #[] 0 0e5 }).push { cls:=.type "list_iterator",data:=.fields #[.ref l,.int 0 0] }).get? s.heap.objs.size
       = ϊ { cls:=.type "set",dict:=ϋ,data:=.set #[] 0 0e5 }:=Á _ v
     exact⟨_,#[],0,_,x,⟨rfl,rfl,rfl⟩,rfl,λe u=>by simp at u,λk=>by simp[firstMet_zero],by delta acI;simp,by rfl,rfl,BM _⟩
    case vR =>
     intro q Z W;obtain⟨h',p,n,m,j⟩:=q;have g:p=s.gens:=Z.gens;have f:n=s.drawn:=Z.drawn;have d:j=s.os:=Z.os;subst g;subst f;subst d;show ß _ _ _ _ _ _;calc Â ?_;show ß _ _ (ret Value.none) _ _ _;calc Â ⟨rfl,h',m,rfl,W,λb o hb e=>?_⟩;have v1:b≠s.heap.objs.size:=á hb;have v2:b≠(s.heap.push { cls:=.type "set",dict:=ϋ,data:=.set #[] 0 0e5 }).objs.size:=by
      rw[ý];exact á (Ě hb)
     exact Z.heap b o (by erw[Ï,ċ,ì,or_false,not_or];exact⟨v1,v2⟩) (Á _ (Á _ e))
   ·cases K with
    |error e=>exact X
    |ok a =>
     cases a with
     |ret r =>
      obtain⟨rfl,h',tk,rfl,W,vk⟩:=X
      repeat (any_goals (first|assumption|wp_step))
      exact h _ _ W vk
     |_=>exact X.elim
  |_=>exact Y.elim
end
theorem BA {α:Type}:∀{l:List α} {i:Nat} {x:α},l[i]?=ϊ x->(x::l.eraseIdx i).Perm l
 | [],i,x,h=>by simp at h
 |y::l,0,x,h=>by
  have:y=x:=by simpa using h
  subst this;exact List.Perm.refl _
 |y::l,i+1,x,h=>by
  have ih:=BA (l:=l) (i:=i) (x:=x) (by simpa using h);rw[List.eraseIdx_cons_succ];exact(List.Perm.swap y x _).trans (List.Perm.cons y ih)
theorem K3 {α:Type} (next:Nat->Nat):∀(fuel k:Nat) (left:List α) (out:Array α),left.length=fuel->(pickOrder.go next fuel k left out).toList.Perm (out.toList++left)
 |0,k,left,out,h=>by
  have:left=[]:=adQ.mp h;subst this;delta pickOrder.go;simp
 |fuel+1,k,left,out,h=>by
  delta pickOrder.go
  have Z:next k % left.length<left.length:=aew _ ⋯
  rw[Ê Z];dsimp only;have Y:=BA (Ê Z)
  have ih:=K3 next fuel (k+1) (left.eraseIdx (next k % left.length)) (out.push left[next k % left.length]) (by rw[List.length_eraseIdx_of_lt Z];omega)
  calc ih.trans ?_;rw[ac9,ś];exact List.Perm.append_left _ Y
def Jp {α:Type} (next:Nat->Nat) (xs:Array α):(acJ next xs).toList.Perm xs.toList:=by
 delta acJ
 have:=K3 next xs.size 0 xs.toList #[] ∅
 simpa using this
section
variable {P:ê} {w:Ď} {A:ó} {E:È->Æ->Prop}
def RO {α:Type} (n:Nat):∀(xs:List α) (s:Æ) (Q:List α->Æ->Prop),xs.length=n->(∀ys d,ys.Perm xs->Q ys { s with drawn:=d })->ß 2e0 A (drawOrder n xs) Q E s:=by
 induction n with
 |zero =>
  intro xs s Q h Z;have:xs=[]:=adQ.mp h;subst this;delta drawOrder;exact Â (Z [] s.drawn (List.Perm.refl _))
 |succ n ih =>
  intro xs s Q h Z
  cases xs with
  |nil=>simp at h
  |cons x xs =>
   delta drawOrder;calc À (RK ∅ ?_);have Y:w.draws .order (s.drawn.get .order) % (x::xs).length<(x::xs).length:=aew _ ∅;rw[Ê Y];dsimp only;calc À (ih _ _ _ (by rw[List.length_eraseIdx_of_lt Y];omega) λys d X=>?_);calc Â (Z _ d ?_);exact(List.Perm.cons _ X).trans (BA (Ê Y))
def UG {s:Æ} {a:Þ} {u:Obj} {es:Array (Int×È)} {ep:Nat} {t:ő} {Q:È->Æ->Prop} (hu:s.heap.get? a=ϊ u) (hx:u.ExactSet) (hd:u.data=.set es ep t) (hf:t.fits es.size=ό) (ht:iX (bH w) t)
  (hsz:es.size<=Ù)
  (hQ:∀(h':Ŀ) (d':Drawn) (I:Þ) (fp:List Þ) (St:Nat->Æ->Prop) (order:List È),(∀b o,s.heap.get? b=ϊ o->h'.get? b=ϊ o)->(∀b∈fp,b<h'.objs.size)->(∀b∈fp,b=a\/s.heap.objs.size<=b)->I∈fp->s.heap.objs.size<=I->order.Perm (es.toList.map (·.2)) ->
   (∀A':ó,A'.handled=ϋ->WalksS P w A' I fp [I] (λa b=>b=a) es.size (λi v=>order[i]?=ϊ v) St)->St 0 { s with heap:=h',drawn:=d' }->Q (.ref I) { s with heap:=h',drawn:=d' }) :
  ß 2e0 A (ae9 6e2) Q E s:=by
 have O:s.TypeIs 6e2 "set":=⟨u,hu,hx.1⟩;have X:a<s.heap.objs.size:=Í hu;calc wpAny_pyIter_slot O F.slot_set_iter (ě F.slot_set_iter O Qo ?_ (F.args_set_iter_1 _));delta Ÿ.«frozenset.__iter__» Builtin.Frozenset.slot0 slotArgs;simp only[adu,ò,Ç,↓reduceIte,bind_assoc,ĥ,Ĩ];delta Builtin.Frozenset.addrOf Builtin.Frozenset.sizeOf;refine À (Â ?_)
 try dsimp only
 calc À (Â ?_);calc À (À (acE hu hd hf (Â ?_)));delta setDrawn;calc À (À (ĸ hu hd hf ?_));dsimp only;delta setsByText;calc À (À (ż (Â ?_)));refine Â ?_
 show ß _ _ (if (!(w.params.followText "set-order")&&(!t.plain&&ώ (es.size > 1)))=ό then _ else _) _ _ _
 have H:∀(W:Obj) b o,s.heap.get? b=ϊ o->(s.heap.push W).get? b=ϊ o:=λW b o e=>Á _ e;by_cases V:(!w.params.followText "set-order"&&(!t.plain&&ώ (es.size > 1)))=ό
 ·rw[Ô V]
  calc À (RO _ _ _ _ ∅ λU d hp=>?_);calc À ?_;erw[newTuple];calc č ?_ (by have:=hp.length_eq;rw[adb] at this;show (aef _).size<=Ù;rw[Ý,Ä,this];exact hsz);have M:∀x∈U,x<es.size:=λx hx=>by simpa using hp.mem_iff.mp hx
  have R:U.length=es.size:=by simpa using hp.length_eq
  calc À (wpAny_setEpoch_of (Á _ hu) hd hf ?_);calc À (č ?_);calc Â ⟨_,rfl,"set_iterator",_,⟨_,Ò _ rfl,rfl⟩,kO.lookup,?_⟩;have Y:(s.heap.push { cls:=.type "tuple",data:=.seq (U.map λ(i:Nat)=>acz i).toArray }).objs.size=s.heap.objs.size+1:=by simp[ý]
  refine hQ _ d _ [_,a,s.heap.objs.size] _ (U.map λk=>(es.getD k (0,Value.none)).2) (λb o e=>Á _ (Á _ e)) ?_ ?_ ∅ (by rw[Y];exact adx _) ?_ (λA' T=>Rb (u:=u) (t:=t) (ep:=ep) T (I:=_) (a:=a) (tp:=s.heap.objs.size) (by rw[Y];exact á (Ě X)) (by rw[Y];exact á (ť _)) hd hf U R M) ⟨3e1,Á _ (Á _ hu),⟨_,Á _ (Ò _ rfl),rfl,_,rfl⟩⟩
  ·intro b Z
   erw[Ï,ì,or_false] at Z;rw[ý]
   rcases Z with e|e|e
   ·rw[e];exact ť _
   ·rw[e,Y];exact Ě (Ě X)
   ·rw[e,Y];exact Ě (ť _)
  ·intro b Z
   erw[Ï,ì,or_false] at Z
   rcases Z with e|e|e
   ·right;rw[e,Y];exact adx _
   ·exact .inl e
   ·right;rw[e];exact afn _
  ·refine(List.Perm.map _ hp).trans ?_
   have:(ö es.size).map (λk=>(es.getD k (0,Value.none)).2)=es.toList.map (·.2):=by
    apply υ;intro i;rw[é,é];by_cases hi:i<es.size
    ·rw[acD hi,ù]
     simp[ae0,hi]
    ·rw[Ō (by simpa using hi),Ō (by simpa using hi)]
     rfl
   rw[this]
 ·rw[Ö V]
  calc À (Â ?_);calc À (wpAny_setEpoch_of hu hd hf ?_);calc À (č ?_);calc Â ⟨_,rfl,"set_iterator",_,⟨_,Ò _ rfl,rfl⟩,kO.lookup,?_⟩;have aj:∀(W:Obj),∀b∈[s.heap.objs.size,a],b<(s.heap.push W).objs.size:=λW b Z=>by
   erw[Ï,ì,or_false] at Z;rw[ý]
   rcases Z with e|e
   ·rw[e];exact ť _
   ·rw[e];exact Ě X
  have N:∀b∈[s.heap.objs.size,a],b=a\/s.heap.objs.size<=b:=λb Z=>by
   erw[Ï,ì,or_false] at Z
   rcases Z with e|e
   ·right;rw[e];exact afn _
   ·exact .inl e
  cases S:w.params.followText "set-order" with
  |true =>
   have L:(acJ 3e7 es).size=es.size:=by
    have:=(Jp 3e7 es).length_eq;simpa using this
   have hw:∀A':ó,A'.handled=ϋ->WalksS P w A' s.heap.objs.size [s.heap.objs.size,a] [s.heap.objs.size] (λa b=>b=a) es.size (λi v=>((acJ 3e7 es).toList.map (·.2))[i]?=ϊ v) _:=λA' T=>by
    have:=RL (P:=P) (u:=u) (t:=t) T (I:=s.heap.objs.size) (a:=a) (á X) S hd hf L;simpa using this
   exact hQ _ s.drawn _ [_,a] _ ((acJ 3e7 es).toList.map (·.2)) (λb o e=>Á _ e) (aj _) N ∅ 3e0 (List.Perm.map _ (Jp _ _)) hw ⟨3e1,Á _ hu⟩
  |false =>
   have hp:t.plain=ό\/es.size<=1:=by
    rw[S] at V;simp at V
    cases K:t.plain with
    |true=>exact .inl rfl
    |false=>exact .inr (V K)
   have R:t.led=ό:=by rw[ht.led];delta bH;rw[S];rfl
   have J:hX t.place.toList:=by
    rcases hp with hp|hp
    ·exact ht.rise hp
    ·erw[SetTable.fits,Å,beq_iff_eq,É] at hf
     have hle:t.place.toList.length<=1:=by simp[hf.1];exact hp
     match t.place.toList,hle with
     | [],_=>exact List.Pairwise.nil
     | [x],_=>exact List.pairwise_singleton _ _
   have hw:∀A':ó,A'.handled=ϋ->WalksS P w A' s.heap.objs.size [s.heap.objs.size,a] [s.heap.objs.size] (λa b=>b=a) es.size (λi v=>(es.toList.map (·.2))[i]?=ϊ v) _:=λA' T=>by
    have:=Ra (P:=P) (u:=u) (t:=t) (ep:=ep) T (I:=s.heap.objs.size) (a:=a) (á X) S hd hf R hp J;simpa using this
   exact hQ _ s.drawn _ [_,a] _ (es.toList.map (·.2)) (λb o e=>Á _ e) (aj _) N ∅ 3e0 (List.Perm.refl _) hw ⟨0,3e1,Á _ hu,ą _,λk G=>by omega,λk _ _=>ą _⟩
end
section
variable {P:ê} {w:Ď} {A:ó} {E:È->Æ->Prop} {s:Æ}
def split_len:splitId "set.__len__"=ϊ ("set","__len__"):=nofun
def ints_of (h:ElemsOf (Ŵ P w) es) (hp:vs.Perm (es.map (·.2))):∃ns,aek vs ns:=by
 have Z:∀v∈vs,∃k t,v=.int k t:=λv Z=>by
  obtain⟨e,W,rfl⟩:=å.mp (hp.mem_iff.mp Z);obtain⟨⟨k,X,_⟩,_⟩:=h e W
  cases Y:e.2 with
  |int i t=>exact⟨i,t,rfl⟩
  |_=>rw[Y] at X;simp[Ŵ,Value.isInt] at X
 clear hp
 induction vs with
 |nil=>exact⟨[],.nil⟩
 |cons v vs ih =>
  obtain⟨k,t,rfl⟩:=Z v Õ;obtain⟨ns,V⟩:=ih λx Y=>Z x (Ì _ Y);exact⟨k::ns,.cons k t V⟩
def L5 {α:Type} {c:Bool} {x y:Sem α} {Q:α->Æ->Prop} (hc:c=ό) (h:ß 2e0 A x Q E s):ß 2e0 A (if c=ό then x else y) Q E s:=by
 rw[Ô hc];exact h
def Rc {a:Þ} {u:Obj} {es:Array (Int×È)} {ep:Nat} {t:ő} {Q:List È->Æ->Prop} (hh:A.handled=ϋ) (hu:s.heap.get? a=ϊ u) (hx:u.ExactSet) (hd:u.data=.set es ep t) (hf:t.fits es.size=ό) (ht:iX (bH w) t) (hsz:es.size<acI)
  (hQ:∀(h':Ŀ) (d':Drawn) (tk:Nat) (vs:List È),s.heap.objs.size<=h'.objs.size->(∀b o,s.heap.get? b=ϊ o->h'.get? b=ϊ o)->vs.Perm (es.toList.map (·.2))->Q vs { s with heap:=h',drawn:=d',toks:=tk }):ß 2e0 A (collect 6e2) Q E s:=by
 have K:es.size<=Ù:=ada hsz;have J:a<s.heap.objs.size:=Í hu;delta collect;calc À (wpAny_runValue (Ń F.entry_proto_collect ?_));rw[œ F.plain_proto_collect _];show ß _ A.in1 (newList [] >>= λl=>again (.builtin "list.__iadd__" ⟨[l,.ref a],[]⟩)) _ _ s;calc À (č ?_);calc Â ⟨aet F.plain_list_iadd _,Ń F.entry_list_iadd ?_⟩;rw[œ F.plain_list_iadd _];show ß _ A.in1 (aeB 0e7 6e2 0e7) _ _ _
 generalize U:({ s with heap:=s.heap.push { cls:=.type "list",data:=.seq ([]:List È).toArray } }:Æ)=Y
 have H:Y.heap.objs.size=s.heap.objs.size+1:=by rw[<- U];simp[ý]
 have i:∀b o,s.heap.get? b=ϊ o->Y.heap.get? b=ϊ o:=λb o e=>by rw[<- U];exact Á _ e
 have T:Y.heap.get? a=ϊ u:=by rw[<- U];exact Á _ hu
 have h:Y.TypeIs 6e2 "set":=⟨u,T,hx.1⟩;have S:Y.heap.get? s.heap.objs.size=ϊ { cls:=.type "list",data:=.seq ([]:List È).toArray }:=by rw[<- U];exact Ò _ rfl
 delta aeB;calc À (adE h ?_);have g:Builtin.List.listSameRef 0e7 6e2=ύ:=by
  simp[Builtin.List.listSameRef];exact Ş J
 have f:(ũ "set"==ũ "list")=ύ:=by decide
 have d:(ũ "set"==ũ "tuple")=ύ:=by decide
 erw[g,f,d,Bool.or_false,Ç,õ];refine À (UG T hx hd hf ht K λh' d' I fp St order R k2 k6 k3 G D W st=>?_)
 have O:ae6 { Y with heap:=h',drawn:=d' } 6e2 "set":=⟨u,R _ _ T,hx.1⟩
 have C:=R _ _ S;calc À (Ĉ ?_);delta Builtin.List.listLengthHint;calc À (acZ O F.slot_set_len.lookup ?_);dsimp only;rw[split_len];dsimp only;calc À (ael O sub_set_self ?_);rw[Ö 0e0];calc L5 nofun ?_;calc À (adE O ?_);dsimp only;calc Â ?_;refine L5 nofun ?_
 ··refine À (ź ?_)
   calc À ?_;show ß _ A.in1 (updateSeq s.heap.objs.size (·.push .none) >>= λ_=>updateSeq s.heap.objs.size (·.pop)) _ _ _;calc À (wpAny_updateSeq C rfl ?_);have B:=ġ (Ŭ (·.push Value.none)) C rfl;calc wpAny_updateSeq B rfl ?_;have N:=ġ (Ŭ (·.pop)) B rfl;have y:s.heap.objs.size∉fp:=λhm=>by
    rcases k6 _ hm with e|e
    ·exact Ş J e
    ·rw[H] at e;exact Nat.not_succ_le_self _ e
   have x:∀b o,b≠s.heap.objs.size->h'.get? b=ϊ o->((h'.update s.heap.objs.size (Ŭ (·.push Value.none))).update s.heap.objs.size (Ŭ (·.pop))).get? b=ϊ o :=
    λb o X e=>(ŕ _ _ (ŵ X)).trans ((ŕ _ _ (ŵ X)).trans e)
   refine Â ⟨aet F.plain_extend_loop _,codeAny_extend_loopS (W A.in1 (by simp[hh])) K _ y _ es.size 0 _ _ _ rfl (ą _) ((W A.in1 (by simp[hh])).frame 0 ({ Y with heap:=h',drawn:=d' }:Æ) _ Y.toks st 3e0 λb X o e=>x b o (λz=>y (z ▸ X)) e) N (ItemsOf.nil _) λv Z c m r p=>?_⟩
   show ß _ A (load s.heap.objs.size >>= _) _ _ v;calc À (wpAny_load r ?_);calc Â ?_;have M:order.length=es.size:=by simpa using D.length_eq
   have L:Z.toList=order:=by
    apply υ;intro j;by_cases n:j<Z.size
    ·have e1:Z[j]?=ϊ Z[j]:=by simp[n]
     rw[ù,e1,p.2 j _ e1]
    ·rw[Ō (by simpa using n),Ō (by rw[M,<- p.1];omega)]
   obtain⟨h2,g2,k,t2,o2⟩:=v;have eg:g2=Y.gens:=m.gens;have ed:k=d':=m.drawn;have eo:o2=Y.os:=m.os;subst eg ed eo;have q:=hQ h2 k t2 Z.toList (Nat.le_of_lt (Í r)) (λb o e=>m.heap b o (λX=>by
    erw[Ï,ì,or_false] at X;have V:=Í e
    rcases X with z|z
    ·rw[z] at V;exact ñ _ V
    ·rw[H] at G;rw[z] at V;exact ñ _ (Ë V (Nat.le_of_succ_le G))) (x b o (λz=>by
     have V:=Í e;rw[z] at V;exact ñ _ V) (R b o (i b o e)))) (by rw[L];exact D)
   rw[<- U];exact q
def RP (hh:A.handled=ϋ) (hu:s.heap.get? a=ϊ u) (hx:u.ExactSet) (hd:u.data=.set es ep t) (hf:t.fits es.size=ό) (ht:iX (bH w) t) (FZ:ElemsOf (Ŵ P w) es.toList) (h64:es.size<64)
 (h:∀(h':Ŀ) (d':Drawn) (tk:Nat) (p:Þ) (vs:List È) (ns:List Int) (out:List È) (ms:List Int) (e:Nat),(∀b o,s.heap.get? b=ϊ o->h'.get? b=ϊ o)->s.heap.objs.size<=p->vs.Perm (es.toList.map (·.2))->aek vs ns->h'.get? p=ϊ { cls:=.type "list",data:=.seq out.toArray e }->aek out ms->ms.Perm ns->ms.Pairwise (·<=·)->Q 7e3 { s with heap:=h',drawn:=d',toks:=tk }) :
  ß 2e0 A (call (.builtin "sorted") [.ref a]) Q E s:=by
 calc Calls.call_function_entry kind_sorted plain_sorted entry_sorted (args_sorted1 _) ?_;delta Ÿ.«sorted»;calc À (m:=checkCount "sorted" 1 1 _) (Â ?_);calc À (Rc (by simp[hh]) hu hx hd hf ht (by delta acI;omega) λh' d' tk vs U T Z=>?_);obtain⟨ns,X⟩:=ints_of FZ Z;have S:vs.length<64:=by have:=Z.length_eq;simp at this;omega
 calc À (wpAny_newList ?_);have Y:(h'.push (aeO "list" vs.toArray 0)).get? h'.objs.size=ϊ (aeO "list" vs.toArray 0):=Ò _ rfl;calc À (Ĉ (ě slot_list_sort ⟨_,Y,rfl⟩ entry_list_sort (list_sort_tree Y X S λout ms a1 a2 R=>⟨_,rfl,?_⟩) (args_list_sort _)));obtain⟨e,O⟩:=sortedHeap_at (out:=out) Y;refine Â ⟨_,rfl,h _ d' tk h'.objs.size vs ns out.toList ms e (λb o N=>?_) ?_ Z X (by simpa [aeO] using O) a1 a2 R⟩
 ·have W:=T b o N
  have V:=Í W;rw[sortedHeap_old (á V) (by rw[size_push'];exact Ě V)];exact Á _ W
 ·exact U
end
end TS
namespace L2
open PySem PySem.Spec PyProof.Rows
def i3 (P:ê) (w:Ď) (p:Þ) (ns:List Int):Ŀ->Prop:=λh=>∃(S:Int->Bool) (n:Nat),TS.gC P w (TS.bH w) h p S n/\(∀k,S k=ό↔k∈ns)/\n<=ns.length/\n=(ns.foldl step_dedup []).length
section
variable {X:Cx}
def zb (l:List Int) (k:Int):(l.any (·==k))=ό↔k∈l:=by
 rw[Ť];exact⟨λ⟨x,Z,Y⟩=>by rw[<- beq_iff_eq.mp Y];exact Z,λh=>⟨k,h,by simp⟩⟩
def K4 (hm:m=ns.length) (hS:TS.gC X.prog X.w (TS.bH X.w) h p (λk'=>(ō (λi=>ns.getD i 0) m).any (·==k')) (ō (λi=>ns.getD i 0) m).length):i3 X.prog X.w p ns h:=by
 subst hm;refine⟨_,_,hS,λk=>?_,firstMet_length_le _ _,?_⟩
 ·rw[firstMet_any,map_getD]
  exact zb ns k
 ·delta ō
  rw[map_getD]
def K5 (hx:i3 X.prog X.w p ns h):dR X.prog X.w (upd H p (.ext (i3 X.prog X.w p ns))) h p (.ext (i3 X.prog X.w p ns)):=by
 refine⟨hx,?_,λY W q k=>?_⟩
 ·obtain⟨_,_,⟨o,_,_,_,Z,_⟩,_⟩:=hx
  exact⟨o,Z⟩
 ·obtain⟨S,n,T,r⟩:=q
  exact⟨S,n,T.at k,r⟩
def RQ (hc:X.calm=ό):cC X (.type "set") (λxs H Q=>∃(a:Þ) (ns:List Int),xs=[.ref a]/\bN X.K H a (ns.map V.int)/\(ns.foldl step_dedup []).length<4000/\∀p,H p=ϋ->Q 7e3 (upd H p (.ext (i3 X.prog X.w p ns)))):=by
 intro P s σ H xs O Q I r h;obtain⟨a,ns,rfl,W,N,q⟩:=h;obtain⟨u,rfl,U⟩:=vals1 r;cases U;obtain⟨its,Z,p,_⟩:=I.list W;have Y:its.toArray.size=ns.length:=by
  have e:=Z.length;rw[Ä] at e;simpa using e.symm
 calc TS.RN (its:=its.toArray) (ns:=ns) (I.ok.hd hc) p.isList (by simpa using intsAre_of Z) (by rw[Y];delta ō;rw[map_getD];show _ + 1<4096;omega) λM T S R=>?_;exact⟨.ref _,_,I.laid (t':=T) (λb o e=>R b o (Í e) e) 3e0 (K5 (K4 Y S)),rfl,q _ (I.az.fresh 3e0)⟩
def RR (hc:X.calm=ό):cC X (.type "set") (λxs H Q=>∃(a:Þ) (ns:List Int),xs=[.ref a]/\bO X.K H a (ns.map V.int)/\ns.length<4000/\∀p,H p=ϋ->Q 7e3 (upd H p (.ext (i3 X.prog X.w p ns)))):=by
 intro P s σ H xs O Q I r h;obtain⟨a,ns,rfl,W,N,q⟩:=h;obtain⟨u,rfl,U⟩:=vals1 r;cases U;obtain⟨its,Z,p,_⟩:=I.tuple W;have Y:its.toArray.size=ns.length:=by
  have e:=Z.length;rw[Ä] at e;simpa using e.symm
 calc TS.RM (its:=its.toArray) (ns:=ns) (I.ok.hd hc) p (by simpa using intsAre_of Z) (by rw[Y];have:=firstMet_length_le (λi=>ns.getD i 0) ns.length;show _ + 1<4096;omega) λM T S R=>?_;exact⟨.ref _,_,I.laid (t':=T) (λb o e=>R b o (Í e) e) 3e0 (K5 (K4 Y S)),rfl,q _ (I.az.fresh 3e0)⟩
theorem Ik:∀{out:List È} {ms:List Int},aek out ms->Vals (ms.map V.int) out
 |_,_,.nil=>.nil
 |_,_,.cons n t h=>.cons ⟨t,rfl⟩ (Ik h)
theorem Bt:∀(ns acc:List Int),acc.Nodup->(ns.foldl step_dedup acc).Nodup
 | [],acc,h=>h
 |n::ns,acc,h=>by
  calc Bt ns _ ?_;delta step_dedup;split
  ·exact h
  ·rename_i Z
   rw[ē] at Z;calc aea.mpr ⟨h,by simp,λa Y b X=>?_⟩;have:b=n:=by simpa using X
   subst this;intro e;subst e;rw[(zb acc a).mpr Y] at Z;cases Z
theorem JY:∀{vs:List È} {ns:List Int},aek vs ns->∀k,k∈ns↔∃t,aeX k t∈vs
 |_,_,.nil,k=>by simp
 |_,_,.cons n t h,k=>by
  rw[Ï,JY h k];constructor
  ·rintro (e | ⟨Z,h'⟩)
   ·subst e;exact⟨t,Õ⟩
   ·exact⟨Z,Ì _ h'⟩
  ·rintro ⟨Z,h'⟩
   rcases Ï.mp h' with e|h'
   ·injection e with e _;exact .inl e
   ·exact .inr ⟨Z,h'⟩
theorem sub_len:∀{m l:List Int},m.Nodup->(∀k,k∈m->k∈l)->m.length<=l.length
 | [],l,_,_=>ą _
 |x::m,l,h,Z=>by
  obtain⟨W,V⟩:=Ű.mp h;have Y:=Z x Õ;have ih:=sub_len (m:=m) (l:=l.erase x) V λk X=>(List.mem_erase_of_ne (λ(e:k=x)=>W (by rw[<- e];exact X))).mpr (Z k (Ì _ X));rw[List.length_erase_of_mem Y] at ih;have:=List.length_pos_of_mem Y;rw[æ];omega
theorem Il:∀{l m:List Int},m.Nodup->(∀k,k∈m↔k∈l)->l.length<=m.length->l.Nodup
 | [],m,_,_,_=>adp
 |a::r,m,Z,Y,W=>by
  have V:a∉r:=λh=>by
   have:=sub_len Z λk U=>(Ï.mp ((Y k).mp U)).elim (λe=>e ▸ h) id;rw[æ] at W;omega
  have X:a∈m:=(Y a).mpr Õ;refine Ű.mpr ⟨V,Il (m:=m.erase a) (Z.erase a) (λk=>?_) ?_⟩
  ·rw[Z.mem_erase_iff,Y k,Ï]
   constructor
   ·rintro ⟨T,h2|h2⟩
    ·exact absurd h2 T
    ·exact h2
   ·intro h
    exact⟨λe=>V (e ▸ h),.inr h⟩
  ·rw[List.length_erase_of_mem X]
   rw[æ] at W;omega
def Jq (ns:List Int) (k:Int):k∈ns.foldl step_dedup []↔k∈ns:=by
 have:=firstMet_any (λi=>ns.getD i 0) ns.length k;delta ō at this;rw[map_getD] at this;rw[<- zb,<- zb,this]
def Im (hc:X.calm=ό):cC X (.builtin "sorted") (λxs H Q=>∃(p:Þ) (ns:List Int),xs=[.ref p]/\H p=ϊ (.ext (i3 X.prog X.w p ns))/\(ns.foldl step_dedup []).length<64 /\
  ∀(l:Þ) (ms:List Int),H l=ϋ->ms.Pairwise (· < ·)->(∀k,k∈ms↔k∈ns)->Q (.ref l) (upd H l (.lst (ms.map V.int)))):=by
 intro π s σ H xs us Q I r h;obtain⟨p,ns,rfl,F,hl,q⟩:=h;obtain⟨v,rfl,E⟩:=vals1 r;cases E;obtain⟨⟨S,n,⟨u,es,ep,t,D,C,hd,B,W,N,A,z,y⟩,m,F0,j⟩,_⟩:=I.az p _ F;calc TS.RP (I.ok.hd hc) D C hd A y B ⋯ λg f M l vs ks out ms e d L Y U c k6 T k8=>?_;have K:∀k,k∈ms↔k∈ns:=λk=>by
  rw[T.mem_iff,JY U k,<- m k,W k];constructor
  ·rintro ⟨t',F2⟩
   obtain⟨x,R,Z⟩:=å.mp (Y.mem_iff.mp F2);exact⟨x,R,by rw[Z];exact intKind_is _ _ _ _⟩
  ·rintro ⟨x,R,Z⟩
   obtain⟨i,t',G⟩:∃i t',x.2=.int i t':=by
    cases hv:x.2 with
    |int i t'=>exact⟨i,t',rfl⟩
    |_=>rw[hv] at Z;simp[Ŵ,Value.isInt] at Z
   have rp:k=i:=(Ŵ X.prog X.w).inj (.int i t') k i (by rw[<- G];exact Z) (intKind_is _ _ _ _);subst rp;exact⟨t',Y.mem_iff.mpr (å.mpr ⟨x,R,G⟩)⟩
 have P:ms.Nodup:=by
  have O1:=Bt ns [] adp;refine Il O1 (λk=>?_) ?_
  ·rw[K k,Jq]
  ·rw[<- j,<- z]
   have e1:=T.length_eq;have e2:=U.length;have O:=Y.length_eq;simp at O;omega
 have bj:ms.Pairwise (· < ·):=by
  have:=List.pairwise_and_iff.mpr ⟨k8,P⟩;exact this.imp λ⟨a,b⟩=>by omega
 have J:=I.laid (t':=M) (a:=l) (o:=.lst (ms.map V.int)) d L ⟨by
  rw[Ä,ţ];have e1:=T.length_eq;have e2:=U.length;have O:=Y.length_eq;simp at O;omega,out,e,Ik k6,c⟩
 exact⟨.ref l,_,J.sU (s':={ s with heap:=g,drawn:=f,toks:=M }) (ch:=[]) rfl Un.refl J.az J.bare (λb N=>by cases N),rfl,q l ms (I.az.fresh L) bj K⟩
end
end L2
namespace HZ
open PySem PySem.Spec PyProof.Rows
open AutoSeq1 (wpAny_loadPart')
end HZ
namespace L2
open PySem PySem.Spec PyProof.Rows
end L2
namespace HZ
open PySem PySem.Spec PyProof.Rows
def Qd:fillsNumberSlot (.type "tuple") "mul"=pure ύ:=by
 first|rfl | (delta fillsNumberSlot;kernel_rfl)|kernel_rfl
def QK:seqRepeat? (.type "tuple")=pure (ϊ (.builtin "tuple.__mul__")):=by
 first|rfl|kernel_rfl
def RS (a:Int) (t:Tok) (l:Þ) (items:Array È) (n:Nat) (d:Option Þ) (sl:Array (Option È)) :
  Meets (Ÿ.«int.__rmul__» ⟨[.int a t,.ref l],[]⟩) (λ_ R s=>s.heap.get? l=ϊ { cls:=.type "tuple",dict:=d,data:=.seq items n,slots:=sl }/\R (.ok (.ret Value.notImplemented)) s) :=
 .of_wp λprog w A R s h=>by
  obtain⟨Z,Y,X,W,V⟩:=s;obtain⟨U,h⟩:=h;wp_walk;exact⟨_,rfl,h⟩
section
variable {P:ê} {w:Ď} {A:ó} {E:È->Æ->Prop} {s:Æ}
def Wy (ht:IsTup s.heap t vs.toArray) (hv:vs≠[]) (hk:1<=k) (hz:vs.length*k.toNat<=Ù)
 (h1:k=1->Q (.ref t) s) (h2:k≠1->Q 0e7 { s with heap:=s.heap.push { cls:=.type "tuple",data:=.seq (Ø k.toNat vs).flatten.toArray } }) :
  ß 2e0 A (ŏ .Mult (.ref t) (.int k tk)) Q E s:=by
 obtain⟨⟨cls,V,data,sl⟩,Z,Y,n,X⟩:=id ht;simp only at Y X;subst Y X;have L:k<=16777216:=by
  have S:1<=vs.length:=by
   cases vs with
   |nil=>exact absurd rfl hv
   |cons a r=>simp
  have K:vs.length*k.toNat<=16777216:=by rw[<- ţ];exact hz
  have:1*k.toNat<=vs.length*k.toNat:=Nat.mul_le_mul_right _ S;omega
 refine wpAny_binaryOp_repeat_ref (T:="tuple") (U:="int") 0e0 ⟨_,Z,rfl⟩ (λR=>typeIs_int R k tk) Qd F.fills_int_mul aey QK F.slot_int_index.lookup
  (ac8 aey (typeIs_int s k tk) F.entry_int_rmul (F.args_int_rmul_2 _ _) (RS k tk t vs.toArray n V sl) ⟨Z,rfl,⟨_,Z,rfl⟩,?_⟩)
 calc ě F.slot_tuple_mul ⟨_,Z,rfl⟩ F.entry_tuple_mul ?_ (F.args_tuple_mul_2 _ _);show ß _ _ (asIndex (.int k tk) >>= _) _ _ _;refine À ?_
 refine wpAny_of_eq (a:=k) (by first|rfl | (delta asIndex;rfl)) ?_
 dsimp only;rw[Ö (by simp;omega)];delta Ŷ;calc À (À (ķ Z rfl ?_));calc Â ?_;have ne:vs.toArray.isEmpty=ύ:=by
  cases vs with
  |nil=>exact absurd rfl hv
  |cons a r=>simp
 by_cases h:k=1
 ·rw[Ô (by rw[h];simp)]
  delta adg;calc À (À (adE (T:="tuple") ⟨_,Z,rfl⟩ (Â ?_)));rw[Ô 0e0];exact À (ź (Â ⟨_,rfl,h1 h⟩))
 ·rw[Ö (by rw[ne];simp[h])]
  rw[Ö (by rw[ne];simp;omega)];have W:(vs.toArray.size:Int)*k=((vs.length*k.toNat:Nat):Int):=by
   rw[Ý,Int.natCast_mul];congr 1;omega
  have O:vs.length*k.toNat<=16777216:=by rw[<- ţ];exact hz
  rw[Ö (by rw[W];omega)];rw[Ö (by
   delta Builtin.Tuple.tupleTooMany;rw[W,ţ,É];generalize vs.length*k.toNat=q at O;omega)]
  delta š;have e:List.foldl (λN M=>N++M) #[] (Ø k.toNat vs.toArray)=(Ø k.toNat vs).flatten.toArray:=by
   have:=L2.foldl_rep vs k.toNat [];rw[ł] at this;exact this
  rw[e];refine À (č ?_ (by
   show (aef _).size<=Ù;rw[Ý,L2.len_rep,Nat.mul_comm];exact hz))
  exact Â ⟨_,rfl,h2 h⟩
end
end HZ
namespace L2
open PySem PySem.Spec PyProof.Rows
section
variable {X:Cx}
def aak (K:İ):R2:=λx y H Q=>∃a Z k,x=.ref a/\y=.int k/\bO K H a Z/\Z≠[]/\1<=k/\Z.length*k.toNat<=Ù/\oO K H (Ø k.toNat Z).flatten Q
def Wz:bF X (ŏ .Mult) (aak X.K):=by
 intro P s σ H x y v u Q I V U h;obtain⟨a,Z,k,rfl,rfl,hs,T,S,W,q⟩:=h;cases V;obtain⟨t,rfl⟩:=U;obtain⟨its,r,p,z⟩:=I.tuple hs;have Y:=r.length;refine HZ.Wy p (λe=>T (by rw[e] at Y;exact adQ.mp Y)) S (by rw[<- Y];exact W) (λe=>?_) (λ_=>?_)
 ·have e1:(Ø k.toNat Z).flatten=Z:=by rw[e];simp
  rw[e1] at q;exact⟨.ref a,H,I,rfl,q.here hs⟩
 ·have R:(Ø k.toNat Z).flatten.length<=Ù:=by rw[len_rep,Nat.mul_comm];exact W
  exact⟨.ref _,_,I.laid (t':=s.toks) (o:=.tup (Ø k.toNat Z).flatten) (λb o e=>Á _ e) 3e0 ⟨R,_,r.rep k.toNat,⟨_,Ò _ rfl,rfl,_,rfl⟩⟩,rfl,q.new (I.az.fresh 3e0)⟩
end
end L2
namespace HZ
open PySem PySem.Spec PyProof.Rows
end HZ
namespace L2
open PySem PySem.Spec PyProof.Rows
end L2
namespace HZ
open PySem PySem.Spec PyProof.Rows
end HZ
namespace L2
open PySem PySem.Spec PyProof.Rows
end L2
namespace DI
open PySem L2
set_option genInjectivity true in
inductive D where
 |ak|bl (b:Bool)|int (i:Int)|str (x:Str)|tup (ds:List D)|lst (ds:List D)|bU (aR:List (Key×Int))|aK (k:Nat)|ty (n:String)|bV (ns:List Int)|exc (c:Str) (m:Option Int)|cR (a:Þ) (vs:List V) (ds:List D)
set_option genInjectivity true in
inductive Cell where
 |dead|lst (ds:List D)|dK (aR:List (Key×D))|dT (aR:List (D×Int))|tb (x:Str)|ins (c:Str) (fs:List (Str×D))
abbrev ae:=List Cell
abbrev Env:=List (Option D)
structure bb where
 c:Str
 many:Option Int
abbrev Res (α:Type):=Option (Except bb α×ae)
abbrev afb (α:Type):=Env->ae->Res α
abbrev ok {α:Type} (a:α) (s:ae):Res α:=ϊ (.ok a,s)
def aj {α β:Type} (r:Res α) (k:α->ae->Res β):Res β:=match r with
 |some (.ok a,s)=>k a s
 |some (.error x,s)=>ϊ (.error x,s)
 |none=>ϋ
@[simp] theorem cL {α β:Type} {a:α} {s:ae} {k:α->ae->Res β}:aj (ϊ (.ok a,s)) k=k a s:=rfl
structure Wd where
 ρ:List Þ
 aG:ae
 H:Hp
def Wd.Z (w:Wd) (a:Þ):Prop:=∃(k:Nat) (c:Cell),w.ρ[k]?=ϊ a/\w.aG[k]?=ϊ c/\c≠.dead
def LstAt (w:Wd) (a:Þ) (xs:List V):Prop:=¬ w.Z a/\w.H a=ϊ (.lst xs)
def LstAt.sq (h:LstAt w a xs):bN K w.H a xs:=bN.of h.2
def wj (K:İ) (w:Wd) (a:Þ) (xs:List V):Prop:=(¬ w.Z a/\Rd w.H a (.lst xs)) \/
 ∃(o:Obj) (its:Array È) (n:Nat),K.lookup a=ϊ o/\o.cls=.type "list"/\o.dict=ϋ/\o.data=.seq its n/\its.size<=Ù/\Vals xs its.toList
def wj.sq (h:wj K w a xs):bN K w.H a xs:=by
 rcases h with ⟨_,h⟩|h
 ·exact .inl h
 ·exact .inr h
mutual
def DV (K:İ) (w:Wd):D->V->Prop
 | .ak,v=>v=.ak
 | .bl b,v=>v=.bl b
 | .int i,v=>v=.int i
 | .str x,v=>v=.str x
 | .tup Y,v=>∃a X,v=.ref a/\bO K w.H a X/\aq K w Y X
 | .lst Y,v=>∃a X,v=.ref a/\LstAt w a X/\aq K w Y X
 | .bU S,v=>∃a,v=.ref a/\¬ w.Z a/\w.H a=ϊ (.dK (S.map λp=>(p.1,V.int p.2)))
 | .aK k,v=>∃a,w.ρ[k]?=ϊ a/\v=.ref a
 | .ty n,v=>v=.ty n
 | .bV R,v=>∃a,v=.ref a/\wj K w a (R.map V.int)
 | .exc c m,v=>∃a o C,v=.ref a/\(¬ w.Z a/\w.H a=ϊ (.bz o (.own a)))/\(o.cls=.ref C/\ð K Ú c=ϊ (ϊ 5e3))/\∀i,m=ϊ i->PySem.W.notCls o=ό/\∃U T t,o.dict=ϊ U/\(¬ w.Z U/\w.H U=ϊ (.bz T (.own U)))/\PySem.W.lookIn "many" T=ϊ (ϊ (.int i t))
 | .cR a Q Y,v=>v=.ref a/\aq K w Y Q
def aq (K:İ) (w:Wd):List D->List V->Prop
 | [],Z=>Z=[]
 |d::Y,Z=>∃v r,Z=v::r/\DV K w d v/\aq K w Y r
end
structure Fw (K:İ) (w w':Wd):Prop where
 F5:∀(k:Nat) a,w.ρ[k]?=ϊ a->w'.ρ[k]?=ϊ a
 tup:∀a xs,bO K w.H a xs->bO K w'.H a xs
 lst:∀a xs,¬ w.Z a->w.H a=ϊ (.lst xs)->¬ w'.Z a/\w'.H a=ϊ (.lst xs)
 bz:∀a o u,¬ w.Z a->w.H a=ϊ (.bz o u)->¬ w'.Z a/\w'.H a=ϊ (.bz o u)
 bU:∀a es,¬ w.Z a->w.H a=ϊ (.dK es)->¬ w'.Z a/\w'.H a=ϊ (.dK es)
def Fw.M7 (S:Fw K w w') (h:LstAt w a xs):LstAt w' a xs:=S.lst a xs h.1 h.2
def Fw.aal (S:Fw K w w') (h:wj K w a xs):wj K w' a xs:=by
 rcases h with ⟨Y,Z | ⟨o,Z⟩⟩|h
 ·have q:=S.lst a xs Y Z
  exact .inl ⟨q.1,.inl q.2⟩
 ·have q:=S.bz a o _ Y Z
  exact .inl ⟨q.1,.inr ⟨o,q.2⟩⟩
 ·exact .inr h
mutual
theorem DV.fw (S:Fw K w w'):∀{d:D} {v:V},DV K w d v->DV K w' d v
 | .ak,_,h=>h
 | .bl _,_,h=>h
 | .int _,_,h=>h
 | .str _,_,h=>h
 | .tup X,v,h=>by
  erw[DV] at h |-;obtain⟨a,Y,e,Z,r⟩:=h;exact⟨a,Y,e,S.tup a Y Z,aq.fw S r⟩
 | .lst X,v,h=>by
  erw[DV] at h |-;obtain⟨a,Y,e,Z,r⟩:=h;exact⟨a,Y,e,S.M7 Z,aq.fw S r⟩
 | .bU L,v,h=>by
  erw[DV] at h |-;obtain⟨a,e,R,Z⟩:=h;obtain⟨Q,P⟩:=S.bU a _ R Z;exact⟨a,e,Q,P⟩
 | .aK k,v,h=>by
  erw[DV] at h |-;obtain⟨a,e,e2⟩:=h;exact⟨a,S.F5 k a e,e2⟩
 | .ty _,_,h=>h
 | .bV J,v,h=>by
  erw[DV] at h |-;obtain⟨a,e,Z⟩:=h;exact⟨a,e,S.aal Z⟩
 | .exc c m,v,h=>by
  erw[DV] at h |-;obtain⟨a,o,C,e,Z,r,k⟩:=h;calc⟨a,o,C,e,S.bz a o _ Z.1 Z.2,r,λi hi=>?_⟩;obtain⟨O,W,U,t,N,T,M⟩:=k i hi;exact⟨O,W,U,t,N,S.bz W U _ T.1 T.2,M⟩
 | .cR a I X,v,h=>by
  erw[DV] at h |-;exact⟨h.1,aq.fw S h.2⟩
theorem aq.fw (S:Fw K w w'):∀{ds:List D} {vs:List V},aq K w ds vs->aq K w' ds vs
 | [],_,h=>h
 |d::ds,vs,h=>by
  erw[aq] at h |-;obtain⟨v,r,e,Z,Y⟩:=h;exact⟨v,r,e,DV.fw S Z,aq.fw S Y⟩
end
structure Le (K:İ) (w w':Wd):Prop where
 dv:∀d v,DV K w d v->DV K w' d v
 lst:∀a xs,LstAt w a xs->LstAt w' a xs
 tup:∀a xs,bO K w.H a xs->bO K w'.H a xs
 bz:∀a o u,¬ w.Z a->w.H a=ϊ (.bz o u)->¬ w'.Z a/\w'.H a=ϊ (.bz o u)
instance {K:İ} {w w':Wd}:CoeFun (Le K w w') (λ_=>∀d v,DV K w d v->DV K w' d v):=⟨Le.dv⟩
def Le.refl (w:Wd):Le K w w:=⟨λ_ _ h=>h,λ_ _ h=>h,λ_ _ h=>h,λ_ _ _ h g=>⟨h,g⟩⟩
def Le.trans (h:Le K a b) (g:Le K b c):Le K a c:=⟨λd v x=>g.dv d v (h.dv d v x),λp Z x=>g.lst p Z (h.lst p Z x),λp Z x=>g.tup p Z (h.tup p Z x),λp o u z x=>let q:=h.bz p o u z x;g.bz p o u q.1 q.2⟩
def Fw.le (S:Fw K w w'):Le K w w':=⟨λ_ _ h=>h.fw S,λ_ _ h=>S.M7 h,S.tup,S.bz⟩
theorem Le.all (h:Le K w w'):∀{ds:List D} {vs:List V},aq K w ds vs->aq K w' ds vs
 | [],_,x=>x
 |d::ds,vs,x=>by
  erw[aq] at x |-;obtain⟨v,r,e,Z,Y⟩:=x;exact⟨v,r,e,h d v Z,Le.all h Y⟩
theorem aq.length:∀{ds:List D} {vs:List V},aq K w ds vs->ds.length=vs.length
 | [],vs,h=>by
  have e:vs=[]:=h;subst e;rfl
 |d::ds,vs,h=>by
  obtain⟨v,r,e,_,Z⟩:=h;subst e;simp[aq.length Z]
theorem aq.get':∀{ds:List D} {vs:List V},aq K w ds vs->∀(i:Nat) d,ds[i]?=ϊ d->∃v,vs[i]?=ϊ v/\DV K w d v
 | [],vs,h,i,d,e=>by simp at e
 |d::ds,vs,h,i,Z,e=>by
  obtain⟨u,r,Y,X,W⟩:=h;subst Y
  cases i with
  |zero =>
   have:d=Z:=by simpa using e
   subst this;exact⟨u,rfl,X⟩
  |succ i=>exact aq.get' W i Z (by simpa using e)
theorem aq.append:∀{ds es:List D} {vs ws:List V},aq K w ds vs->aq K w es ws->aq K w (ds++es) (vs++ws)
 | [],es,vs,ws,h,Z=>by
  have e:vs=[]:=h;subst e;exact Z
 |d::ds,es,vs,ws,h,Z=>by
  obtain⟨v,r,e,Y,X⟩:=h;subst e;exact⟨v,r++ws,rfl,Y,aq.append X Z⟩
theorem aq.take:∀{ds:List D} {vs:List V} (n:Nat),aq K w ds vs->aq K w (ds.take n) (vs.take n)
 | [],vs,n,h=>by
  have e:vs=[]:=h;subst e;simp[aq]
 |d::ds,vs,0,h=>by simp[aq]
 |d::ds,vs,n+1,h=>by
  obtain⟨v,r,e,Z,Y⟩:=h;subst e;exact⟨v,r.take n,rfl,Z,aq.take n Y⟩
theorem aq.drop:∀{ds:List D} {vs:List V} (n:Nat),aq K w ds vs->aq K w (ds.drop n) (vs.drop n)
 | [],vs,n,h=>by
  have e:vs=[]:=h;subst e;simp[aq]
 |d::ds,vs,0,h=>h
 |d::ds,vs,n+1,h=>by
  obtain⟨v,r,e,Y,Z⟩:=h;subst e;exact aq.drop n Z
theorem aq.set (hd:DV K w d v):∀{ds:List D} {vs:List V} (i:Nat),aq K w ds vs->aq K w (ds.set i d) (vs.set i v)
 | [],vs,i,h=>by
  have e:vs=[]:=h;subst e;simp[aq]
 |d'::ds,vs,0,h=>by
  obtain⟨u,r,e,Y,Z⟩:=h;subst e;exact⟨v,r,rfl,hd,Z⟩
 |d'::ds,vs,i+1,h=>by
  obtain⟨u,r,e,Y,Z⟩:=h;subst e;exact⟨u,r.set i v,rfl,Y,aq.set hd i Z⟩
def aq.one (h:DV K w d v):aq K w [d] [v]:=⟨v,[],rfl,h,rfl⟩
def aq.two (h:DV K w d v) (h':DV K w d' v'):aq K w [d,d'] [v,v']:=⟨v,_,rfl,h,aq.one h'⟩
theorem aq.ints:∀(ns:List Int),aq K w 2e8 (ns.map V.int)
 | []=>rfl
 |n::ns=>⟨.int n,_,rfl,rfl,aq.ints ns⟩
theorem aq.B9:∀{ns:List Int} {vs:List V},aq K w 2e8 vs->vs=ns.map V.int
 | [],_,h=>h
 |n::ns,vs,h=>by
  obtain⟨v,r,e,Z,Y⟩:=h;have e1:v=.int n:=Z;rw[e,e1,aq.B9 Y];rfl
theorem aq.vC:∀{bs:List Bool} {vs:List V},aq K w (bs.map D.bl) vs->vs=bs.map V.bl
 | [],_,h=>h
 |n::X,vs,h=>by
  obtain⟨v,r,e,Z,Y⟩:=h;have e1:v=.bl n:=Z;rw[e,e1,aq.vC Y];rfl
def DX (a:Þ) (es:List (Int×Þ)) (h:Ŀ):Prop:=(a==sysModules)=ύ/\∃(o:Obj) (Z:Array DictEntry) (Y:Nat),h.get? a=ϊ o/\o.ExactDict/\o.data=.dict Z Y/\Z.toList=es.map λp=>(⟨p.1,.ref p.2,.bool ό⟩:DictEntry)
def aam (w:Wd) (q:Str) (cv:È):Prop:=∃Y X W t,cv=.ref Y/\(¬ w.Z Y/\w.H Y=ϊ (.bz X (.own Y)))/\X.data=.fields W/\W[1]?=ϊ (.str q t)
def abO (K:İ) (w:Wd) (a:Þ) (x:Str):Prop:=∃c Z,ae7 K x=ϊ (c,a)/\w.H a=ϊ (.eD Z)/\PySem.TriplesOk Z.toList/\∀pos Y,PySem.codeAmong pos Z.toList=ϊ Y->aam w (x++".<locals>."++"<lambda>") Y
def sL (K:İ) (w:Wd) (a:Þ):Cell->Prop
 | .dead=>True
 | .lst U=>∃W,w.H a=ϊ (.lst W)/\aq K w U W
 | .dK Z=>∃Y:List (Key×V),w.H a=ϊ (.dK Y)/\Y.map (·.1)=Z.map (·.1)/\aq K w (Z.map (·.2)) (Y.map (·.2))
 | .dT Z=>∃as:List Þ,w.H a=ϊ (.ext (DX a ((Z.map (·.2)).zip as)))/\aq K w (Z.map (·.1)) (as.map V.ref)/\(Z.map (·.1)).Nodup
 | .tb x=>abO K w a x
 | .ins c fs=>∃(C T:Þ) (X:List (Str×V)),ð K Ú c=ϊ (ϊ 5e3)/\w.H a=ϊ (.ins C T X)/\X.map (·.1)=fs.map (·.1)/\aq K w (fs.map (·.2)) (X.map (·.2))
structure aS (K:İ) (w:Wd):Prop where
 len:w.ρ.length=w.aG.length
 nd:w.ρ.Nodup
 there:∀(k:Nat) a,w.ρ[k]?=ϊ a->w.H a≠ϋ
 cell:∀(k:Nat) a c,w.ρ[k]?=ϊ a->w.aG[k]?=ϊ c->sL K w a c
theorem sL.le (h:sL K w a c) (le:Le K w w') (e:c≠.dead->w'.H a=w.H a):sL K w' a c:=by
 cases c with
 |dead=>trivial
 |lst I =>
  obtain⟨R,Z,Y⟩:=h;exact⟨R,(e (by intro z;cases z)).trans Z,le.all Y⟩
 |dK Q =>
  obtain⟨P,Z,Y,X⟩:=h;exact⟨P,(e (by intro z;cases z)).trans Z,Y,le.all X⟩
 |dT Q =>
  obtain⟨as,Z,Y,X⟩:=h;exact⟨as,(e (by intro z;cases z)).trans Z,le.all Y,X⟩
 |tb x =>
  obtain⟨c,O,Z,Y,X,W⟩:=h
  exact⟨c,O,Z,(e (by intro z;cases z)).trans Y,X,λpos N q=>let ⟨U,T,V,t,M,S,L⟩:=W pos N q;⟨U,T,V,t,M,le.bz U T _ S.1 S.2,L⟩⟩
 |ins c fs =>
  obtain⟨C,J,V,Z,Y,X,W⟩:=h;exact⟨C,J,V,Z,(e (by intro z;cases z)).trans Y,X,le.all W⟩
section
variable {K:İ} {w:Wd}
def Wd.grow (w:Wd) (p:Þ) (o:HO):Wd:={ w with H:=upd w.H p o }
def Rd.grow (hp:H p=ϋ) (h:Rd H a u):Rd (upd H p o) a u:=by
 rcases h with h | ⟨Z,h⟩
 ·exact .inl (by rw[bx (dC h hp)];exact h)
 ·exact .inr ⟨Z,by rw[bx (dC h hp)];exact h⟩
theorem bO.grow (hp:H p=ϋ) (h:bO K H a xs):bO K (upd H p o) a xs:=by
 rcases h with h|h
 ·exact .inl (Rd.grow hp h)
 ·exact .inr h
theorem Fw.grow (hp:w.H p=ϋ):Fw K w (w.grow p o) where
 F5:=λ_ _ e=>e
 tup:=λa Y h=>bO.grow hp h
 lst:=λa Y Z h=>⟨Z,by show upd w.H p o a=_;rw[bx (dC h hp)];exact h⟩
 bz:=λa X Y Z h=>⟨Z,by show upd w.H p o a=_;rw[bx (dC h hp)];exact h⟩
 bU:=λa W Z h=>⟨Z,by show upd w.H p o a=_;rw[bx (dC h hp)];exact h⟩
theorem aS.grow (S:aS K w) (hp:w.H p=ϋ):aS K (w.grow p o) where
 len:=S.len
 nd:=S.nd
 there:=λk a e=>by
  have h:=S.there k a e;show upd w.H p o a≠ϋ;delta upd;split
  ·intro z;cases z
  ·exact h
 cell:=λk a c e1 e2=>(S.cell k a c e1 e2).le (Fw.grow hp).le λ_=>by
  have h:=S.there k a e1;show upd w.H p o a=w.H a;rw[bx];intro z;rw[z] at h;exact h hp
def Wd.cell (w:Wd) (p:Þ) (o:HO) (c:Cell):Wd:=⟨w.ρ++[p],w.aG++[c],upd w.H p o⟩
def Wd.Dq (S:aS K w) (h:(w.cell p o c).Z a):w.Z a\/a=p:=by
 obtain⟨k,Y,e1,e2,V⟩:=h;have e1:(w.ρ++[p])[k]?=ϊ a:=e1;have e2:(w.aG++[c])[k]?=ϊ Y:=e2;by_cases X:k<w.ρ.length
 ·rw[â X] at e1
  rw[â (by rw[<- S.len];exact X)] at e2;exact .inl ⟨k,Y,e1,e2,V⟩
 ·rw[í ⋯] at e1
  right
  cases W:k-w.ρ.length with
  |zero=>rw[W] at e1;exact(afo e1).symm
  |succ j=>rw[W] at e1;cases e1
theorem Fw.cell (S:aS K w) (hp:w.H p=ϋ):Fw K w (w.cell p o c) where
 F5:=λk a e=>by
  show (w.ρ++[p])[k]?=ϊ a;rw[â (Ñ.mp e).1];exact e
 tup:=λa Y h=>bO.grow hp h
 lst:=λa Y Z h=>⟨λz=>(Wd.Dq S z).elim Z (λe=>by (subst e;rw[hp] at h;cases h)),by show upd w.H p o a=_;rw[bx (dC h hp)];exact h⟩
 bz:=λa X Y Z h=>⟨λz=>(Wd.Dq S z).elim Z (λe=>by (subst e;rw[hp] at h;cases h)),by show upd w.H p o a=_;rw[bx (dC h hp)];exact h⟩
 bU:=λa W Z h=>⟨λz=>(Wd.Dq S z).elim Z (λe=>by (subst e;rw[hp] at h;cases h)),by show upd w.H p o a=_;rw[bx (dC h hp)];exact h⟩
def aS.aan (S:aS K w) (hp:w.H p=ϋ) (hc:sL K (w.cell p o c) p c):aS K (w.cell p o c) where
 len:=by show (w.ρ++[p]).length=(w.aG++[c]).length;simp[S.len]
 nd:=by
  show (w.ρ++[p]).Nodup;rw[aea];calc⟨S.nd,by simp,λa W b V=>?_⟩;obtain⟨k,e⟩:=List.getElem?_of_mem W;have h:=S.there k a e;have U:b=p:=by simpa using V
  rw[U];intro z;rw[z] at h;exact h hp
 there:=λk a e=>by
  have e:(w.ρ++[p])[k]?=ϊ a:=e;show upd w.H p o a≠ϋ;delta upd;split
  ·intro z;cases z
  ·rename_i T
   by_cases Y:k<w.ρ.length
   ·rw[â Y] at e
    exact S.there k a e
   ·rw[í ⋯] at e
    cases Z:k-w.ρ.length with
    |zero=>rw[Z] at e;exact absurd (afo e).symm T
    |succ j=>rw[Z] at e;cases e
 cell:=λk a X e1 e2=>by
  have e1:(w.ρ++[p])[k]?=ϊ a:=e1;have e2:(w.aG++[c])[k]?=ϊ X:=e2;by_cases Y:k<w.ρ.length
  ·rw[â Y] at e1
   rw[â (by rw[<- S.len];exact Y)] at e2;refine(S.cell k a X e1 e2).le (Fw.cell S hp).le λ_=>?_;have h:=S.there k a e1;show upd w.H p o a=w.H a;rw[bx];intro z;rw[z] at h;exact h hp
  ·rw[í ⋯] at e1
   rw[í (by rw[<- S.len];omega)] at e2;rw[<- S.len] at e2
   cases Z:k-w.ρ.length with
   |zero =>
    rw[Z] at e1 e2;have e1:p=a:=afo e1;have e2:c=X:=afo e2;subst e1 e2;exact hc
   |succ j=>rw[Z] at e1;cases e1
def Wd.same (w:Wd) (H':Hp):Wd:={ w with H:=H' }
theorem Fw.same (e:lr w.H H'):Fw K w (w.same H') :=
 ⟨λ_ _ e=>e,λa Y h=>e.sqT h,λa Y Z h=>⟨Z,e _ _ h⟩,λa o Y Z h=>⟨Z,e _ _ h⟩,λa X Z h=>⟨Z,e _ _ h⟩⟩
theorem aS.same (S:aS K w) (e:lr w.H H'):aS K (w.same H') where
 len:=S.len
 nd:=S.nd
 there:=λk a q=>by
  have h:=S.there k a q;show H' a≠ϋ
  cases Z:w.H a with
  |none=>exact absurd Z h
  |some o=>rw[e _ _ Z];intro z;cases z
 cell:=λk a c e1 e2=>(S.cell k a c e1 e2).le (Fw.same e).le λ_=>by
  have h:=S.there k a e1;show H' a=w.H a
  cases Z:w.H a with
  |none=>exact absurd Z h
  |some o=>exact e _ _ Z
def Wd.put (w:Wd) (k:Nat) (a:Þ) (o:HO) (c:Cell):Wd:=⟨w.ρ,w.aG.set k c,upd w.H a o⟩
def QM {α:Type} {l:List α} (nd:l.Nodup) {i j:Nat} {a:α} (h1:l[i]?=ϊ a) (h2:l[j]?=ϊ a):i=j:=by
 exact(List.getElem?_inj (Ñ.mp h1).1 nd).mp (h1.trans h2.symm)
def Wd.Ec (h0:w.ρ[k]?=ϊ a) (h1:w.aG[k]?=ϊ c0) (h2:c0≠.dead) (h:(w.put k a o c).Z b):w.Z b:=by
 obtain⟨j,Y,e1,e2,W⟩:=h;have e1:w.ρ[j]?=ϊ b:=e1;have e2:(w.aG.set k c)[j]?=ϊ Y:=e2;by_cases X:k=j
 ·subst X
  exact⟨k,c0,e1,h1,h2⟩
 ·rw[ā X] at e2
  exact⟨j,Y,e1,e2,W⟩
theorem Fw.put (S:aS K w) (h0:w.ρ[k]?=ϊ a) (h1:w.aG[k]?=ϊ c0) (h2:c0≠.dead):Fw K w (w.put k a o c):=by
 have W:w.Z a:=⟨k,c0,h0,h1,h2⟩;have T:∀X,¬ Rd w.H a (.tup X):=λX h=>by
  have q:=S.cell k a c0 h0 h1
  cases c0 with
  |dead=>exact h2 rfl
  |lst Q=>obtain⟨V,e,_⟩:=q;rcases h with h | ⟨_,h⟩<;>(rw[e] at h;cases h)
  |dK R=>obtain⟨V,e,_⟩:=q;rcases h with h | ⟨_,h⟩<;>(rw[e] at h;cases h)
  |dT R=>obtain⟨V,e,_⟩:=q;rcases h with h | ⟨_,h⟩<;>(rw[e] at h;cases h)
  |tb x=>obtain⟨_,V,_,e,_⟩:=q;rcases h with h | ⟨_,h⟩<;>(rw[e] at h;cases h)
  |ins c fs=>obtain⟨_,_,_,_,e,_⟩:=q;rcases h with h | ⟨_,h⟩<;>(rw[e] at h;cases h)
 refine⟨λ_ _ e=>e,λb X h=>?_,λb X Y h=>⟨λz=>Y (Wd.Ec h0 h1 h2 z),?_⟩,λb U X Y h=>⟨λz=>Y (Wd.Ec h0 h1 h2 z),?_⟩,λb P Y h=>⟨λz=>Y (Wd.Ec h0 h1 h2 z),?_⟩⟩
 ·rcases h with h|h
  ·have ne:b≠a:=λe=>by subst e;exact T X h
   refine .inl ?_
   rcases h with h | ⟨U,h⟩
   ·exact .inl (by show upd w.H a o b=_;rw[bx ne];exact h)
   ·exact .inr ⟨U,by show upd w.H a o b=_;rw[bx ne];exact h⟩
  ·exact .inr h
 ·have ne:b≠a:=λe=>by subst e;exact Y W
  show upd w.H a o b=_;rw[bx ne];exact h
 ·have ne:b≠a:=λe=>by subst e;exact Y W
  show upd w.H a o b=_;rw[bx ne];exact h
 ·have ne:b≠a:=λe=>by subst e;exact Y W
  show upd w.H a o b=_;rw[bx ne];exact h
def aS.E3 {k:Nat} {a:Þ} {o:HO} {c c0:Cell} (S:aS K w) (h0:w.ρ[k]?=ϊ a) (h1:w.aG[k]?=ϊ c0) (h2:c0≠.dead) (hc:sL K (w.put k a o c) a c):aS K (w.put k a o c) where
 len:=by show w.ρ.length=(w.aG.set k c).length;rw[ģ];exact S.len
 nd:=S.nd
 there:=λj b e=>by
  show upd w.H a o b≠ϋ;delta upd;split
  ·intro z;cases z
  ·exact S.there j b e
 cell:=λj b Z e1 e2=>by
  have e1:w.ρ[j]?=ϊ b:=e1;have e2:(w.aG.set k c)[j]?=ϊ Z:=e2;by_cases Y:k=j
  ·subst Y
   rw[h0] at e1;have e1:a=b:=afo e1;rw[Đ (Ñ.mp h1).1] at e2;have e2:c=Z:=afo e2;subst e1 e2;exact hc
  ·rw[ā Y] at e2
   refine(S.cell j b Z e1 e2).le (Fw.put S h0 h1 h2).le λ_=>?_;show upd w.H a o b=w.H b;rw[bx];intro z;subst z;exact Y (QM S.nd h0 e1)
end
structure cj (K:İ) (w:Wd) (env:Env) (σ:St):Prop where
 len:env.length=σ.length
 val:∀(i:Nat) d,env[i]?=ϊ (ϊ d)->∃v,σ[i]?=ϊ (ϊ v)/\DV K w d v
theorem cj.le (h:cj K w env σ) (le:Le K w w'):cj K w' env σ :=
 ⟨h.len,λi d e=>by obtain⟨v,e1,e2⟩:=h.val i d e;exact⟨v,e1,le d v e2⟩⟩
theorem cj.set (h:cj K w env σ) (hd:DV K w d v) (i:Nat):cj K w (env.set i (ϊ d)) (σ.set i (ϊ v)):=by
 calc⟨by rw[ģ,ģ];exact h.len,λj X e=>?_⟩;by_cases Z:i=j
 ·subst Z
  have Y:=(Ñ.mp e).1;rw[ģ] at Y;rw[Đ Y] at e;have e:d=X:=afo (afo e);subst e;exact⟨v,by rw[Đ (by rw[<- h.len];exact Y)],hd⟩
 ·rw[ā Z] at e
  rw[ā Z];exact h.val j X e
def Out (K:İ) (Ξ:Wd->bb->Prop) (w:Wd) {α:Type} (r:Res α) (k:Wd->α->Prop):Prop:=match r with
 |none=>False
 |some (.ok a,s)=>∀Z,Le K w Z->aS K Z->Z.aG=s->k Z a
 |some (.error x,s)=>∀Z,Le K w Z->aS K Z->Z.aG=s->Ξ Z x
section
variable {K:İ} {Ξ:Wd->bb->Prop} {w w':Wd} {α β:Type} {r:Res α} {k k':Wd->α->Prop}
def Out.from (h:Out K Ξ w r k) (le:Le K w w'):Out K Ξ w' r k:=by
 delta Out at h |-
 split<;>simp only at h
 ·exact λZ Y X e2=>h Z (le.trans Y) X e2
 ·exact λZ Y X e2=>h Z (le.trans Y) X e2
def Out.mono (h:Out K Ξ w r k) (hk:∀w2 a,Le K w w2->aS K w2->k w2 a->k' w2 a):Out K Ξ w r k':=by
 delta Out at h |-
 split<;>simp only at h
 ·exact λw2 Z Y e2=>hk w2 _ Z Y (h w2 Z Y e2)
 ·exact h
theorem Out.aj {q:Wd->β->Prop} (h:Out K Ξ w (DI.aj r g) q):Out K Ξ w r (λw2 a=>Out K Ξ w2 (g a w2.aG) q):=by
 match r,h with
 |some (.ok a,s),h =>
  intro w2 Z Y e2;rw[e2];exact Out.from h Z
 |some (.error x,s),h=>exact h
end
end DI
namespace DI
open PySem L2
def tE (K:İ) (Ξ:Wd->bb->Prop) (f:afb D):TE:=fun σ H Q=>∃w env,w.H=H/\aS K w/\cj K w env σ/\Out K Ξ w (f env w.aG) λZ d=>∀v,DV K Z d v->Q v Z.H
def tT (K:İ) (Ξ:Wd->bb->Prop) (f:afb Bool):TT:=fun σ H Q=>∃w env,w.H=H/\aS K w/\cj K w env σ/\Out K Ξ w (f env w.aG) λZ b=>Q b Z.H
def tA (K:İ) (Ξ:Wd->bb->Prop) (f:afb 4e7):TA:=fun σ H Q=>∃w env,w.H=H/\aS K w/\cj K w env σ/\Out K Ξ w (f env w.aG) λZ X=>∀Y,aq K Z X Y->Q Y Z.H
def rO (K:İ) (Ξ:Wd->bb->Prop) (o:D->D->ae->Res D):R2:=λx y H Q=>∃w Z Y,w.H=H/\aS K w/\DV K w Z x/\DV K w Y y/\Out K Ξ w (o Z Y w.aG) λX d=>∀v,DV K X d v->Q v X.H
def rU (K:İ) (Ξ:Wd->bb->Prop) (o:D->ae->Res D):V->Hp->VK->Prop:=λx H Q=>∃w Z,w.H=H/\aS K w/\DV K w Z x/\Out K Ξ w (o Z w.aG) λY d=>∀v,DV K Y d v->Q v Y.H
def rC (K:İ) (Ξ:Wd->bb->Prop) (o:List D->ae->Res D):List V->Hp->VK->Prop:=λX H Q=>∃w Z,w.H=H/\aS K w/\aq K w Z X/\Out K Ξ w (o Z w.aG) λY d=>∀v,DV K Y d v->Q v Y.H
def aa (i:Nat):afb D:=λenv s=>match env[i]? with
 |some (ϊ d)=>ok d s
 |_=>ϋ
def eC (d:D):afb D:=λ_ s=>ok d s
def e1 (o:D->ae->Res D) (f:afb D):afb D:=λenv s=>aj 2e2 λx s=>o x s
def e2 (o:D->D->ae->Res D) (f g:afb D):afb D:=λenv s=>aj 2e2 λx s=>aj (g env s) λy s=>o x y s
def ah:afb (List D):=λ_ s=>ok [] s
def af (f:afb D) (g:afb 4e7):afb (List D):=λenv s=>aj 2e2 λx s=>aj (g env s) λZ s=>ok (x::Z) s
def eB (o:List D->ae->Res D) (f:afb 4e7):afb D:=λenv s=>aj 2e2 λZ s=>o Z s
def jg {α:Type} (ds:List D) (r:Res α):Res α:=if ds.length<=Ù then r else ϋ
def cU (f:afb 4e7):afb D:=λenv s=>aj 2e2 λZ s=>jg Z (ok (.tup Z) s)
def cz (f:afb 4e7):afb D:=λenv s=>aj 2e2 λZ s=>jg Z (ok (.lst Z) s)
def eNew (f:afb 4e7):afb D:=λenv s=>aj 2e2 λZ s=>jg Z (ok (.aK s.length) (s++[.lst Z]))
def bz:D->ae->Res D:=λd s=>match d with
 | .aK k=>match s[k]? with
  |some (.lst Z)=>ok (.lst Z) (s.set k .dead)
  |_=>ϋ
 |_=>ϋ
def Od (f:afb D):afb D:=λenv s=>aj 2e2 bz
def i4 (d:D) (s:ae):Res Bool:=match d with
 | .bl b=>ok b s
 |_=>ϋ
def aF (f:afb D):afb Bool:=λenv s=>aj 2e2 i4
def truth (d:D) (s:ae):Res Bool:=match d with
 | .ak=>ok ύ s
 | .bl b=>ok b s
 | .int i=>ok (i != 0) s
 | .str x=>if x.length<=Ù then ok ((x.length:Int) != 0) s else ϋ
 | .tup Z=>ok (!Z.isEmpty) s
 | .lst Z=>ok (!Z.isEmpty) s
 | .bU Y=>ok (!Y.isEmpty) s
 | .aK k=>match s[k]? with
  |some (.lst Z)=>ok (!Z.isEmpty) s
  |some (.dK Y)=>ok (!Y.isEmpty) s
  |_=>ϋ
 | .ty _=>ϋ
 | .bV _=>ϋ
 | .exc _ _=>ϋ
 | .cR _ _ _=>ϋ
def dO (f:afb D):afb Bool:=λenv s=>aj 2e2 truth
def fL (f g:afb Bool):afb Bool:=λenv s=>aj 2e2 λb s=>if b=ό then g env s else ok ύ s
def gU (f g:afb Bool):afb Bool:=λenv s=>aj 2e2 λb s=>if b=ό then ok ό s else g env s
def fM (f:afb Bool):afb Bool:=λenv s=>aj 2e2 λb s=>ok (!b) s
def eT (f g:afb D):afb D:=λenv s=>aj 2e2 λx s=>aj (i4 x s) λb s=>if b=ό then g env s else ok 3e8 s
def pE (f g:afb D):afb D:=λenv s=>aj 2e2 λx s=>aj (i4 x s) λb s=>if b=ό then ok 6e1 s else g env s
def wX (f:afb D):afb D:=λenv s=>aj 2e2 λx s=>aj (i4 x s) λb s=>ok (.bl (!b)) s
def jt (c:afb Bool) (f g:afb D):afb D:=λenv s=>aj (c env s) λb s=>if b=ό then f env s else g env s
def uD (o o':D->D->ae->Res D) (f g h:afb D):afb D:=λenv s=>aj 2e2 λx s=>aj (g env s) λy s=>aj (o x y s) λz s=>aj (i4 z s) λb s =>
 if b=ό then aj (h env s) λu s=>o' y u s else ok 3e8 s
section
variable {X:Cx} {Ξ:Wd->bb->Prop} {e a b c:ĳ} {es rest:List ĳ} {pos:Pos} {f g h:afb D} {fa:afb (List D)} {ft gt:afb Bool}
def cB {t t':TE} (h:PE X e t) (i:∀ σ H Q,t' σ H Q->t σ H Q):PE X e t':=λZ s σ H Q I Y=>h Z s σ H Q I (i σ H Q Y)
def Dr {t t':TT} (h:PT X e t) (i:∀ σ H Q,t' σ H Q->t σ H Q):PT X e t':=λZ s σ H Q I Y=>h Z s σ H Q I (i σ H Q Y)
def L6 {t t':TT} (h:PW X e t) (i:∀ σ H Q,t' σ H Q->t σ H Q):PW X e t':=λZ Y s σ H Q I W=>h Z Y s σ H Q I (i σ H Q W)
def L7 {t t':TA} (h:PA X es t) (i:∀ σ H Q,t' σ H Q->t σ H Q):PA X es t':=λp Z s σ H Q I Y=>h p Z s σ H Q I (i σ H Q Y)
def kQ (h:PS X st t) (i:∀D σ H,t' D σ H->t D σ H):PS X st t':=λZ s σ H D I Y=>h Z s σ H D I (i D σ H Y)
def K6 (h:dq X st t) (i:∀D σ H,t' D σ H->t D σ H):dq X st t':=λZ s σ H D I Y=>h Z s σ H D I (i D σ H Y)
def ax {α:Type} {K:İ} {w:Wd} {a:α} {k:Wd->α->Prop} (S:aS K w) (h:Out K Ξ w (ok a w.aG) k):k w a:=h w (Le.refl w) S rfl
def ag (i:Nat) {x:Str} (hN:X.N[i]?=ϊ x:=by rfl) (hv:qW X.env.scope x:=by first|exact adh rfl|exact Or.inr (adh rfl)|exact Or.inr (Or.inr rfl)) (hd:0e8=ύ:=by decide)
  (fc:(x==("__classdict__":Str))=ύ:=by decide):PE X (.Name x pos) (tE X.K Ξ (aa i)):=cB (LQ hN hv hd fc) fun σ H Q Z=>by
 obtain⟨w,env,Y,S,W,h⟩:=Z;delta aa at h;split at h
 ·rename_i d V
  obtain⟨v,e1,e2⟩:=W.val i d V;subst Y;exact⟨v,e1,ax S h v e2⟩
 ·exact h.elim
def qw {d:D} {v:V} (h:PE X e (tC v)) (hd:∀w,DV X.K w d v):PE X e (tE X.K Ξ (eC d)):=cB h fun σ H Q Z=>by
 obtain⟨w,env,Y,S,W,h⟩:=Z;subst Y;exact ax S h v (hd w)
def ao {i j}:PE X (.Constant 4e5 j pos) (tE X.K Ξ (eC 4e5)):=qw LR λ_=>rfl
def fN {b j}:PE X (.Constant (.bool b) j pos) (tE X.K Ξ (eC (.bl b))):=qw D8 λ_=>rfl
def iY {j}:PE X (.Constant .none j pos) (tE X.K Ξ (eC .ak)):=qw XS λ_=>rfl
def aO {x j}:PE X (.Constant 1e3 j pos) (tE X.K Ξ (eC 1e3)):=qw XU λ_=>rfl
def zc (σ:St) (H:Hp) (Q:VK):tE K Ξ (e2 o f g) σ H Q->xx (rO K Ξ o) (tE K Ξ f) (tE K Ξ g) σ H Q:=by
 intro zzz;obtain⟨w,env,rfl,S,Z,h⟩:=zzz;exact⟨w,env,rfl,S,Z,(Out.aj h).mono λY x X W V v1 U=>⟨Y,env,rfl,W,Z.le X,(Out.aj V).mono λT y R P O v2 N=>⟨T,x,y,rfl,P,R _ _ U,N,O⟩⟩⟩
def aX (ho:bF X (ŏ op) (rO X.K Ξ o)) (ha:PE X a 1e0) (hb:PE X b (tE X.K Ξ g)):PE X (.BinOp a op b pos) (tE X.K Ξ (e2 o f g)):=cB (Z3 ho ha hb) zc
def gv (ho:bF X (Ğ op) (rO X.K Ξ o)) (ha:PE X a 1e0) (hb:PE X b (tE X.K Ξ g)) (hm:adJ op b=ύ):PE X (.Compare a [op] [b] pos) (tE X.K Ξ (e2 o f g)):=cB (Wc ho ha hb hm) zc
def Yz {K:İ} (σ:St) (H:Hp) (Q:Bool->Hp->Prop):tT K Ξ (aF f) σ H Q->zV (tE K Ξ f) σ H Q:=by
 intro zzz;obtain⟨w,env,rfl,S,Y,h⟩:=zzz;refine⟨w,env,rfl,S,Y,(Out.aj h).mono λV x U X Z v1 W=>?_⟩
 cases x with
 |bl b =>
  have e:v1=.bl b:=W;exact⟨b,e,ax X Z⟩
 |_=>exact Z.elim
def RT (i:∀ σ H Q,t' σ H Q->t σ H Q) (σ:St) (H:Hp) (Q:Bool->Hp->Prop):zV t' σ H Q->zV t σ H Q:=λh=>i _ _ _ h
def bh (ho:bF X (Ğ op) (rO X.K Ξ o)) (ha:PE X a 1e0) (hb:PE X b (tE X.K Ξ g)) (hm:adJ op b=ύ):PT X (.Compare a [op] [b] pos) (tT X.K Ξ (aF (e2 o f g))) :=
 Dr (We ho ha hb hm) fun σ H Q h=>RT zc σ H Q (Yz σ H Q h)
def YA {K:İ} {o o':D->D->ae->Res D} (σ:St) (H:Hp) (Q:VK):tE K Ξ (uD o o' f g h) σ H Q->LW (rO K Ξ o) (rO K Ξ o') (tE K Ξ f) (tE K Ξ g) (tE K Ξ h) σ H Q:=by
 intro zzz;obtain⟨w,env,rfl,S,Y,h⟩:=zzz;calc⟨w,env,rfl,S,Y,(Out.aj h).mono λO x V N M v1 L=>⟨O,env,rfl,N,Y.le V,(Out.aj M).mono λJ y U I G v2 T=>⟨J,x,y,rfl,I,U _ _ L,T,(Out.aj G).mono λF z R X E C W=>?_⟩⟩⟩;have P:=Out.aj E
 cases z with
 |bl b =>
  have e:C=.bl b:=W;have Z:=ax X P;refine⟨b,e,?_⟩
  cases b with
  |true =>
   rw[Ô rfl] at Z |-;exact⟨F,env,rfl,X,Y.le (V.trans (U.trans R)),(Out.aj Z).mono λB u A v t v4 s=>⟨B,y,u,rfl,v,(R.trans A) _ _ T,s,t⟩⟩
  |false =>
   rw[Ö Ã] at Z |-;exact ax X Z _ rfl
 |_=>exact P.elim
def K7 (ho:bF X (Ğ op) (rO X.K Ξ o)) (ie:bF X (Ğ uu) (rO X.K Ξ o')) (ha:PE X a 1e0) (hb:PE X b (tE X.K Ξ g)) (hc:PE X c (tE X.K Ξ h))
 (hm:lastMarks [op,uu] [b,c]=ύ:=by with_unfolding_all rfl):PE X (.Compare a [op,uu] [b,c] pos) (tE X.K Ξ (uD o o' f g h)):=cB (Uk ho ie ha hb hc hm) YA
def wY (ho:xw X (unaryOp op) (rU X.K Ξ o)) (ha:PE X a 1e0):PE X (.UnaryOp op a pos) (tE X.K Ξ (e1 o f)):=cB (MU ho ha) fun σ H Q Z=>by
 obtain⟨w,env,Y,S,W,h⟩:=Z;subst Y;exact⟨w,env,rfl,S,W,(Out.aj h).mono λV x P U T v1 R=>⟨V,x,rfl,U,R,T⟩⟩
def dF:PA X [] (tA X.K Ξ ah):=L7 iD fun σ H Q Z=>by
 obtain⟨w,env,Y,S,W,h⟩:=Z;subst Y;exact ax S h _ rfl
def bE (ha:PE X e 1e0) (hr:PA X es 7e8) (hs:Ð 8e7 X.env=5e5::Ð es X.env:=by rfl):PA X 8e7 (tA X.K Ξ (af f fa)):=L7 (gn ha hr hs) fun σ H Q Y=>by
 obtain⟨w,env,W,S,Z,h⟩:=Y;subst W;exact⟨w,env,rfl,S,Z,(Out.aj h).mono λV x U T R v1 P=>⟨V,env,rfl,T,Z.le U,(Out.aj R).mono λI G O N M L J=>ax N M _ ⟨v1,L,rfl,O _ _ P,J⟩⟩⟩
def rY {α:Type} {K:İ} {w:Wd} {ds:List D} {r:Res α} {k:Wd->α->Prop} (h:Out K Ξ w (jg ds r) k):ds.length<=Ù/\Out K Ξ w r k:=by
 delta jg at h;split at h
 ·exact⟨by assumption,h⟩
 ·exact h.elim
def fv {x1} (ha:PA X es 7e8):PE X (.Tuple es x1 pos) (tE X.K Ξ (cU fa)):=cB (Yh ha) fun σ H Q V=>by
 obtain⟨w,env,U,S,T,h⟩:=V;subst U;calc⟨w,env,rfl,S,T,(Out.aj h).mono λR L J P O Y W=>?_⟩;obtain⟨N,M⟩:=rY O;calc⟨by rw[<- W.length];exact N,λp Z=>?_⟩;exact M (R.grow p (.tup Y)) (Fw.grow Z).le (P.grow Z) rfl 7e3 ⟨p,Y,rfl,bO.of cO,(Fw.grow Z).le.all W⟩
def kj {K:İ} {w:Wd} {p:Þ} (S:aS K w) (hp:w.H p=ϋ):¬ w.Z p:=λ⟨k,c,e1,_,_⟩=>S.there k p e1 hp
def eJ (ha:PA X es 7e8):PE X (.List es pos) (tE X.K Ξ (cz fa)):=cB (LY ha) fun σ H Q R=>by
 obtain⟨w,env,P,S,O,h⟩:=R;subst P;calc⟨w,env,rfl,S,O,(Out.aj h).mono λW J I V N U T=>?_⟩;obtain⟨M,L⟩:=rY N;calc⟨by rw[<- T.length];exact M,λp Y=>?_⟩;exact L (W.grow p (.lst U)) (Fw.grow Y).le (V.grow Y) rfl 7e3 ⟨p,U,rfl,⟨(show ¬ W.Z p from kj V Y),cO⟩,(Fw.grow Y).le.all T⟩
def zX (ha:PA X es 7e8):PE X (.List es pos) (tE X.K Ξ (eNew fa)):=cB (LY ha) fun σ H Q R=>by
 obtain⟨w,env,P,S,O,h⟩:=R;subst P;calc⟨w,env,rfl,S,O,(Out.aj h).mono λZ V J Y N W U=>?_⟩;obtain⟨M,L⟩:=rY N;calc⟨by rw[<- U.length];exact M,λp T=>?_⟩;have le:=(Fw.cell (o:=.lst W) (c:=.lst V) Y T).le;calc L (Z.cell p (.lst W) (.lst V)) le (Y.aan T ⟨W,cO,le.all U⟩) rfl 7e3 ⟨p,?_,rfl⟩;show (Z.ρ++[p])[Z.aG.length]?=ϊ p;rw[<- Y.len];simp
theorem qG.of {K:İ} {w:Wd} {d:D} {v:V} {k:Wd->Bool->Prop} (S:aS K w) (hd:DV K w d v) (h:Out K Ξ w (truth d w.aG) k):∃b,qG K v w.H b/\k w b:=by
 cases d with
 |ak=>have e:v=.ak:=hd;subst e;exact⟨_,rfl,ax S h⟩
 |bl b=>have e:v=.bl b:=hd;subst e;exact⟨_,rfl,ax S h⟩
 |int i=>have e:v=.int i:=hd;subst e;exact⟨_,rfl,ax S h⟩
 |str x =>
  have e:v=.str x:=hd;subst e;delta truth at h
  split at h<;>first|contradiction|skip
  all_goals (rename_i e;cases e)
  split at h
  ·exact⟨_,⟨by assumption,rfl⟩,ax S h⟩
  ·exact h.elim
 |tup Y =>
  erw[DV] at hd;obtain⟨a,Z,rfl,X,r⟩:=hd;calc⟨_,.inr (.inl ⟨Z,X,?_⟩),ax S h⟩;have e:=r.length
  cases Y<;>cases Z<;>first|rfl|cases e
 |lst Y =>
  erw[DV] at hd;obtain⟨a,Z,rfl,X,r⟩:=hd;calc⟨_,.inl ⟨Z,X.sq,?_⟩,ax S h⟩;have e:=r.length
  cases Y<;>cases Z<;>first|rfl|cases e
 |bU W =>
  erw[DV] at hd;obtain⟨a,rfl,_,X⟩:=hd;refine⟨_,.inr (.inr ⟨_,X,?_⟩),ax S h⟩
  cases W<;>rfl
 |aK j =>
  erw[DV] at hd;obtain⟨a,e1,rfl⟩:=hd;erw[truth] at h;split at h
  ·rename_i Y U
   obtain⟨Z,T,R⟩:=S.cell j a _ e1 U;calc⟨_,.inl ⟨Z,bN.of T,?_⟩,ax S h⟩;have e:=R.length
   cases Y<;>cases Z<;>first|rfl|cases e
  ·rename_i W U
   obtain⟨es,T,R,Q⟩:=S.cell j a _ e1 U;calc⟨_,.inr (.inr ⟨es,T,?_⟩),ax S h⟩;have e:=ĵ List.length R
   cases W<;>cases es<;>first|rfl|simp at e
  ·exact h.elim
 |ty n=>exact h.elim
 |bV P=>exact h.elim
 |exc o _=>exact h.elim
 |cR o _ _=>exact h.elim
def fV (ha:PE X a 1e0) (he:∀whole,isTrue a X.env whole=(do let v <- whole;aeU a.pos;aej [v] (truthy v)):=by intro _;rfl):PT X a (tT X.K Ξ (dO f)):=Dr (Ul ha he) fun σ H Q Z=>by
 obtain⟨w,env,Y,S,W,h⟩:=Z;subst Y;exact⟨w,env,rfl,S,W,(Out.aj h).mono λR x P V U v1 T=>qG.of V T U⟩
def jh (ha:PT X a (tT X.K Ξ ft)):PT X (.UnaryOp .Not a pos) (tT X.K Ξ (fM ft)):=Dr (XY ha) fun σ H Q Z=>by
 obtain⟨w,env,Y,S,W,h⟩:=Z;subst Y;exact⟨w,env,rfl,S,W,(Out.aj h).mono λT b R V U=>ax V U⟩
def kR (ha:PT X a (tT X.K Ξ ft)):PW X (.BoolOp .And [a] pos) (tT X.K Ξ ft):=V5 ha
def mj (ha:PT X a (tT X.K Ξ ft)):PW X (.BoolOp .Or [a] pos) (tT X.K Ξ ft):=XW ha
def w_and (ha:PT X a (tT X.K Ξ ft)) (hb:PW X (.BoolOp .And (b::rest) pos) (tT X.K Ξ gt)):PW X (.BoolOp .And (a::b::rest) pos) (tT X.K Ξ (fL ft gt)):=L6 (XX ha hb) fun σ H Q V=>by
 obtain⟨w,env,U,S,Z,h⟩:=V;subst U;refine⟨w,env,rfl,S,Z,(Out.aj h).mono λT b R Y W=>?_⟩
 cases b with
 |true=>exact⟨T,env,rfl,Y,Z.le R,W⟩
 |false=>exact ax Y W
def w_or (ha:PT X a (tT X.K Ξ ft)) (hb:PW X (.BoolOp .Or (b::rest) pos) (tT X.K Ξ gt)):PW X (.BoolOp .Or (a::b::rest) pos) (tT X.K Ξ (gU ft gt)):=L6 (ZU ha hb) fun σ H Q V=>by
 obtain⟨w,env,U,S,Z,h⟩:=V;subst U;refine⟨w,env,rfl,S,Z,(Out.aj h).mono λT b R Y W=>?_⟩
 cases b with
 |false=>exact⟨T,env,rfl,Y,Z.le R,W⟩
 |true=>exact ax Y W
def iH {op} (ha:PE X a 1e0):PE X (.BoolOp op [a] pos) (tE X.K Ξ f):=XZ ha
def CK {K:İ} {w:Wd} {d:D} {v:V} {k:Wd->Bool->Prop} (S:aS K w) (hd:DV K w d v) (h:Out K Ξ w (i4 d w.aG) k):∃b,v=.bl b/\k w b:=by
 cases d with
 |bl b=>exact⟨b,hd,ax S h⟩
 |_=>exact h.elim
def gP (ha:PE X a 1e0) (hb:PE X (.BoolOp .And (b::rest) pos) (tE X.K Ξ g)):PE X (.BoolOp .And (a::b::rest) pos) (tE X.K Ξ (eT f g)):=cB (X0 ha hb) fun σ H Q V=>by
 obtain⟨w,env,U,S,Y,h⟩:=V;subst U;calc⟨w,env,rfl,S,Y,(Out.aj h).mono λT x R Z P v1 O=>?_⟩;obtain⟨b,e,W⟩:=CK Z O (Out.aj P);refine⟨b,e,?_⟩
 cases b with
 |true=>exact⟨T,env,rfl,Z,Y.le R,W⟩
 |false=>exact ax Z W _ rfl
def E4 (ha:PE X a 1e0) (hb:PE X (.BoolOp .Or (b::rest) pos) (tE X.K Ξ g)):PE X (.BoolOp .Or (a::b::rest) pos) (tE X.K Ξ (pE f g)):=cB (ZX ha hb) fun σ H Q V=>by
 obtain⟨w,env,U,S,Y,h⟩:=V;subst U;calc⟨w,env,rfl,S,Y,(Out.aj h).mono λT x R Z P v1 O=>?_⟩;obtain⟨b,e,W⟩:=CK Z O (Out.aj P);refine⟨b,e,?_⟩
 cases b with
 |false=>exact⟨T,env,rfl,Z,Y.le R,W⟩
 |true=>exact ax Z W _ rfl
def M8 (ha:PE X a 1e0):PE X (.UnaryOp .Not a pos) (tE X.K Ξ (wX f)):=cB (X1 ha) fun σ H Q Y=>by
 obtain⟨w,env,W,S,V,h⟩:=Y;subst W;calc⟨w,env,rfl,S,V,(Out.aj h).mono λP x O Z U v1 T=>?_⟩;obtain⟨b,e,R⟩:=CK Z T (Out.aj U);exact⟨b,e,ax Z R _ rfl⟩
def oQ (hc:PT X c (tT X.K Ξ ft)) (ha:PE X a 1e0) (hb:PE X b (tE X.K Ξ g)):PE X (.IfExp c a b pos) (tE X.K Ξ (jt ft f g)):=cB (Ui hc ha hb) fun σ H Q T=>by
 obtain⟨w,env,R,S,Z,h⟩:=T;subst R;refine⟨w,env,rfl,S,Z,(Out.aj h).mono λY b W V U=>?_⟩
 cases b with
 |true=>exact⟨Y,env,rfl,V,Z.le W,U⟩
 |false=>exact⟨Y,env,rfl,V,Z.le W,U⟩
def L8 (σ:St) (H:Hp) (Q:VK):tE K Ξ (eB o fa) σ H Q->FD (rC K Ξ o) (tA K Ξ fa) σ H Q:=by
 intro zzz;obtain⟨w,env,rfl,S,Z,h⟩:=zzz;exact⟨w,env,rfl,S,Z,(Out.aj h).mono λY X T W V R U=>⟨Y,X,rfl,W,U,V⟩⟩
def cf {x:Str} {p:Pos} {id:String} {o:List D->ae->Res D} (hc:cC X (.builtin id) (rC X.K Ξ o)) (hg:Gl X x) (hm:X.mg x=ϋ) (hv:ü x=ϊ (.builtin id)) (ha:PA X 8e7 7e8) (hn:x≠"__name__":=by decide) (fe:0e8=ύ:=by decide)
  (he:Ð 8e7 X.env=5e5::Ð es X.env:=by rfl) (bP:(ŀ pos (Ð es X.env)).any (·.1)=ύ:=by rfl):PE X 2e1 (tE X.K Ξ (eB o fa)):=cB (rW hc hg hm hv ha hn fe he bP) L8
def fU {x:Str} {p:Pos} {T:String} {o:List D->ae->Res D} (hc:cC X (.type T) (rC X.K Ξ o)) (hg:Gl X x) (hm:X.mg x=ϋ) (hv:ü x=ϊ (.type T)) (ha:PA X 8e7 7e8) (hn:x≠"__name__":=by decide) (fe:0e8=ύ:=by decide)
  (he:Ð 8e7 X.env=5e5::Ð es X.env:=by rfl) (bP:(ŀ pos (Ð es X.env)).any (·.1)=ύ:=by rfl):PE X 2e1 (tE X.K Ξ (eB o fa)):=cB (yD hc hg hm hv ha hn fe he bP) L8
end
set_option genInjectivity true in
inductive Fl where
 |nx (env:Env)|rt (d:D)|bk (env:Env)|ct (env:Env)
def Ap (K:İ) (D:Ends) (w:Wd):Fl->Prop
 | .nx env=>∀ σ,cj K w env σ->D.nx σ w.H
 | .rt d=>∀v,DV K w d v->D.rt v w.H
 | .bk env=>∀ σ,cj K w env σ->D.bk σ w.H
 | .ct env=>∀ σ,cj K w env σ->D.ct σ w.H
def tS (K:İ) (Ξ:Wd->bb->Prop) (f:afb Fl):TS:=λD σ H=>∃w env,w.H=H/\aS K w/\cj K w env σ/\Out K Ξ w (f env w.aG) (Ap K D)
def bJ:afb Fl:=λenv s=>ok (.nx env) s
def aw (f g:afb Fl):afb Fl:=λenv s=>aj 2e2 λfl s=>match fl with
 | .nx env=>g env s
 |fl=>ok fl s
def aD (f:afb D):afb Fl:=λenv s=>aj 2e2 λd s=>ok (.rt d) s
def wo (f:afb D):afb Fl:=λenv s=>aj 2e2 λ_ s=>ok (.nx env) s
def bc (c:afb Bool) (f g:afb Fl):afb Fl:=λenv s=>aj (c env s) λb s=>if b=ό then f env s else g env s
def M9:afb Fl:=λenv s=>ok (.ct env) s
def aQ (f:afb D) (g:D->Env->Option Env):afb Fl:=λenv s=>aj 2e2 λd s=>match g d env with
 |some Z=>ok (.nx Z) s
 |none=>ϋ
def gN (i:Nat):D->Env->Option Env:=λd env=>ϊ (env.set i (ϊ d))
def gR:List (D->Env->Option Env)->List D->Env->Option Env
 | [],[],env=>ϊ env
 |g::Y,d::X,env=>match g d env with
  |some Z=>gR Y X Z
  |none=>ϋ
 |_,_,_=>ϋ
def gT (gs:List (D->Env->Option Env)):D->Env->Option Env:=λd env=>match d with
 | .tup Z=>gR gs Z env
 |_=>ϋ
def ml (g:D->Env->Option Env) (b:afb Fl):List D->afb Fl
 | [],env,s=>ok (.nx env) s
 |d::Y,env,s=>match g d env with
  |none=>ϋ
  |some Z=>aj (b Z s) λX s=>match X with
   | .nx e=>ml g b Y e s
   | .ct e=>ml g b Y e s
   | .bk e=>ok (.nx e) s
   | .rt d=>ok (.rt d) s
def lu (it:afb 4e7) (g:D->Env->Option Env) (b:afb Fl):afb Fl:=λenv s=>aj (it env s) λZ s=>ml g b Z env s
def ne {α:Type} (r:Res α):Res α:=match r with
 |some (.ok a,s)=>ϊ (.ok a,s)
 |_=>ϋ
@[simp] theorem sX {α:Type} {a:α} {s:ae}:ne (ϊ (.ok a,s))=ϊ (.ok a,s):=rfl
def kA (cap:List Nat) (env:Env):Env:=cap.map λj=>(env[j]?).getD ϋ
def hU (nt:Nat) (caps:Env) (g:D->Env->Option Env) (t:afb Bool) (f:afb D):List D->ae->Res 4e7
 | [],s=>ok [] s
 |d::Z,s=>match g d (Ø nt ϋ++caps) with
  |none=>ϋ
  |some env=>aj (ne (t env s)) λb s=>if b=ό then aj (ne 2e2) λx s=>aj (hU nt caps g t f Z s) λY s=>ok (x::Y) s
   else hU nt caps g t f Z s
def cT (nt:Nat) (cap:List Nat) (it:afb 4e7) (g:D->Env->Option Env) (t:afb Bool) (f:afb D):afb D:=λenv s =>
 aj (it env s) λZ s=>jg Z (aj (hU nt (kA cap env) g t f Z s) λY s=>ok (.lst Y) s)
def eG:afb Bool:=λ_ s=>ok ό s
def aU (np ns:Nat) (b:afb Fl):List D->ae->Res D:=λZ s=>if Z.length=np then aj (b (Z.map ϊ++Ø (ns-np) ϋ) s) λY s=>match Y with
 | .rt d=>ok d s
 | .nx _=>ok .ak s
 |_=>ϋ else ϋ
abbrev cA:Wd->bb->Prop:=λ_ _=>False
def j5 (K:İ) (f:List D->ae->Res D):Sp:=λX H Q _=>∃w Z,w.H=H/\aS K w/\aq K w Z X/\Out K cA w (f Z w.aG) λY d=>∀v,DV K Y d v->Q v Y.H
section
variable {X:Cx} {Ξ:Wd->bb->Prop} {e a b c tg:ĳ} {es rest:List ĳ} {pos:Pos} {f g h:afb D} {fa:afb (List D)} {ft gt:afb Bool} {st:aeW} {rq E5:List aeW} {fs gs:afb Fl}
def cb:dq X [] (tS X.K Ξ bJ):=K6 V6 λD σ H Z=>by
 obtain⟨w,env,Y,S,W,h⟩:=Z;subst Y;exact ax S h σ W
def aA (h1:PS X st (tS X.K Ξ fs)) (h2:dq X rq (tS X.K Ξ gs)):dq X (st::rq) (tS X.K Ξ (aw fs gs)):=K6 (Uj h1 h2) λD σ H W=>by
 obtain⟨w,env,V,S,U,h⟩:=W;subst V;refine⟨w,env,rfl,S,U,(Out.aj h).mono λT R P Y h1=>?_⟩
 cases R with
 |nx Z=>exact fun O Q=>⟨T,Z,rfl,Y,Q,h1⟩
 |rt d=>have q:=ax Y h1;exact q
 |bk Z=>have q:=ax Y h1;exact q
 |ct Z=>have q:=ax Y h1;exact q
def aB (h1:PS X st (tS X.K Ξ fs)):dq X [st] (tS X.K Ξ fs):=V7 h1
def aM (he:PE X e 1e0):PS X (.Return (ϊ e) pos) (tS X.K Ξ (aD f)):=kQ (X2 he) λD σ H Z=>by
 obtain⟨w,env,Y,S,W,h⟩:=Z;subst Y;exact⟨w,env,rfl,S,W,(Out.aj h).mono λT d R V U=>ax V U⟩
def L9 (he:PE X e 1e0) (hs:swapsWith e ϋ pos.line X.env=pure ύ:=by rfl):PS X (.Expr e pos) (tS X.K Ξ (wo f)):=kQ (V8 he hs) λD σ H Y=>by
 obtain⟨w,env,W,S,Z,h⟩:=Y;subst W;exact⟨w,env,rfl,S,Z,(Out.aj h).mono λR d V U T _ _=>ax U T σ (Z.le V)⟩
def b9 (hc:PT X c (tT X.K Ξ ft)) (ha:dq X rq (tS X.K Ξ fs)) (hb:dq X E5 (tS X.K Ξ gs)):PS X (.If c rq E5 pos) (tS X.K Ξ (bc ft fs gs)):=kQ (Z0 hc ha hb) λD σ H T=>by
 obtain⟨w,env,R,S,Z,h⟩:=T;subst R;refine⟨w,env,rfl,S,Z,(Out.aj h).mono λY b W V U=>?_⟩
 cases b with
 |true=>exact⟨Y,env,rfl,V,Z.le W,U⟩
 |false=>exact⟨Y,env,rfl,V,Z.le W,U⟩
def gD (K:İ) (g:D->Env->Option Env):TG:=λv σ H Q=>∃w env d Z,w.H=H/\aS K w/\cj K w env σ/\DV K w d v/\g d env=ϊ Z/\∀ Y,cj K w Z Y->Q Y H
def uE (K:İ) (g:List D->Env->Option Env):jV:=λW σ H Q=>∃w env Y Z,w.H=H/\aS K w/\cj K w env σ/\aq K w Y W/\g Y env=ϊ Z/\∀ X,cj K w Z X->Q X H
def Ds {t t':TG} (h:PG X e t) (i:∀v σ H Q,t' v σ H Q->t v σ H Q):PG X e t':=λZ s σ H v u Q I r Y=>h Z s σ H v u Q I r (i v σ H Q Y)
def K8 {t t':jV} (h:kJ X es t) (i:∀v σ H Q,t' v σ H Q->t v σ H Q):kJ X es t':=λZ s σ H v u Q I r Y=>h Z s σ H v u Q I r (i v σ H Q Y)
def eX (i:Nat) {x:Str} (hN:X.N.Nodup) (hi:X.N[i]?=ϊ x:=by rfl) (hx:Loc X.env.scope x:=by first|exact adh rfl|exact Or.inr rfl) (hf:X.fn x=ό\/X.env.scope.names.lookup x=ϊ .local:=by first|exact .inl rfl|exact .inr rfl):PG X (.Name x pos) (gD X.K (gN i)) :=
 Ds (iA hN hi hx hf) λv σ H Q Y=>by
  obtain⟨w,env,d,Z,T,S,W,V,U,k⟩:=Y;have e:env.set i (ϊ d)=Z:=afo U;subst e;exact k _ (W.set V i)
def vL:kJ X [] (uE X.K (gR [])):=K8 yZ λR σ H Q V=>by
 obtain⟨w,env,Y,Z,P,S,U,T,W,k⟩:=V
 cases Y with
 |nil =>
  have e:env=Z:=afo W;subst e;exact⟨T,k _ U⟩
 |cons d Y=>cases W
def iB {g:D->Env->Option Env} {gl:List (D->Env->Option Env)} (h1:PG X e (gD X.K g)) (h2:kJ X es (uE X.K (gR gl)))
  (hs:(Ř 8e7 X.env).map (·.2)=aeJ e X.env::(Ř es X.env).map (·.2):=by rfl):kJ X 8e7 (uE X.K (gR (g::gl))):=K8 (p9 h1 h2 hs) λL σ H Q P=>by
 obtain⟨w,env,W,Y,T,S,O,N,Z,k⟩:=P
 cases W with
 |nil=>cases Z
 |cons d W =>
  obtain⟨v,r,rfl,M,dr⟩:=N;erw[gR] at Z
  cases V:g d env with
  |none=>rw[V] at Z;cases Z
  |some R =>
   rw[V] at Z;refine⟨v,r,rfl,w,env,d,R,T,S,O,M,V,fun J U=>⟨w,R,W,Y,T,S,U,dr,Z,k⟩⟩
theorem yL:∀{gl:List (D->Env->Option Env)} {ds:List D} {env env':Env},gR gl ds env=ϊ env'->ds.length=gl.length
 | [],[],_,_,_=>rfl
 |g::gl,d::ds,env,env',h=>by
  erw[gR] at h
  cases Z:g d env with
  |none=>rw[Z] at h;cases h
  |some e1=>rw[Z] at h;simp[yL h]
 | [],_::_,_,_,h=>by cases h
 |_::_,[],_,_,h=>by cases h
def Na {gl:List (D->Env->Option Env)} {k:Nat} (hc:X.calm=ό) (h:kJ X es (uE X.K (gR gl))) (hn:(Ř es X.env).length=gl.length:=by rfl) (gG:(Ř es X.env).findIdx? (·.1)=ϋ:=by rfl):PG X (.Tuple es k pos) (gD X.K (gT gl)) :=
 Ds (zx hc h hn gG) λv σ H Q U=>by
  obtain⟨w,env,d,Z,T,S,R,W,Y,k⟩:=U
  cases d with
  |tup P =>
   erw[DV] at W;obtain⟨p,O,e1,N,V⟩:=W;subst T;exact⟨p,O,e1,N,by rw[<- V.length];exact yL Y,w,env,P,Z,rfl,S,R,V,Y,k⟩
  |_=>cases Y
def CL {K:İ} {g:D->Env->Option Env} (D:Ends) (σ:St) (H:Hp):tS K Ξ (aQ f g) D σ H->tH (tE K Ξ f) (gD K g) D σ H:=by
 intro zzz;obtain⟨w,env,rfl,S,W,h⟩:=zzz;refine⟨w,env,rfl,S,W,(Out.aj h).mono λU d T V Y v R=>?_⟩
 cases X:g d env with
 |none=>rw[X] at Y;exact Y.elim
 |some Z =>
  rw[X] at Y;exact⟨U,env,d,Z,rfl,V,W.le T,R,X,ax V Y⟩
def wq {g:D->Env->Option Env} (he:PE X e 1e0) (hg:PG X tg (gD X.K g)) (hs:ac6 [tg] e pos.line X.env=pure ύ:=by rfl) (hw:ac7 [tg] e X.env=pure ϋ:=by rfl)
  (h1:(Ř [tg] X.env).map (·.2)=[aeJ tg X.env]:=by rfl):PS X (.Assign [tg] e pos) (tS X.K Ξ (aQ f g)):=kQ (LS he hg hs hw h1) CL
def Jr {K:İ} {te:TE} {i:Nat} (D:Ends) (σ:St) (H:Hp):tH (tE K Ξ f) (gD K (gN i)) D σ H->tH (tE K Ξ f) (nk i) D σ H:=by
 intro zzz;obtain⟨w,env,rfl,S,Y,h⟩:=zzz;calc⟨w,env,rfl,S,Y,h.mono λP d O N X v W=>?_⟩;obtain⟨M,V,U,Z,L,J,T,R,Q,k⟩:=X v W;have e:V.set i (ϊ U)=Z:=afo Q;subst e;exact k _ (T.set R i)
def bY (i:Nat) {x:Str} {pos':Pos} (hN:X.N.Nodup) (he:PE X e 1e0) (hi:X.N[i]?=ϊ x:=by rfl) (hx:Loc X.env.scope x:=by first|exact adh rfl|exact Or.inr rfl) (hs:swapsWith e (ϊ (.Name x pos')) pos.line X.env=pure ύ:=by rfl) (hf:X.fn x=ό\/X.env.scope.names.lookup x=ϊ .local:=by first|exact .inl rfl|exact .inr rfl) :
  PS X (.Assign [.Name x pos'] e pos) (tS X.K Ξ (aQ f (gN i))):=kQ (X7 hN hi hx he hs hf) λD σ H h=>Jr (te:=tE X.K Ξ f) D σ H (CL D σ H h)
def rz (K:İ) (w:Wd) (J:It) (ds:List D):Prop:=∀Z,Le K w Z->aS K Z->∀i,
 (∀d,ds[i]?=ϊ d->J.go i Z.H/\∀x X,J.uq i Z.H x X->∃Y,Y.H=X/\Le K Z Y/\aS K Y/\Y.aG=Z.aG/\DV K Y d x)/\(ds.length<=i->J.stop i Z.H)
def fk (K:İ) (Ξ:Wd->bb->Prop) (f:afb 4e7):TI:=fun σ H R=>∃w env,w.H=H/\aS K w/\cj K w env σ/\Out K Ξ w (f env w.aG) λZ Y=>∀J,rz K Z J Y->R J Z.H
def vM {t t':TI} (h:PI X tg e t) (i:∀ σ H R,t' σ H R->t σ H R):PI X tg e t':=λZ s σ H R I Y=>h Z s σ H R I (i σ H R Y)
def WA {K:İ} {it:afb 4e7} {g:D->Env->Option Env} (D0:Ends) (σ:St) (H:Hp):tS K Ξ (lu it g fs) D0 σ H->N6 (fk K Ξ it) (gD K g) (tS K Ξ fs) D0 σ H:=by
 intro zzz;obtain⟨w,env,rfl,S,B,h⟩:=zzz;calc⟨w,env,rfl,S,B,(Out.aj h).mono λM X p o n J A=>?_⟩;refine⟨λi m L z=>m=X.length-i/\i<=X.length/\∃W Z,W.H=z/\Le K M W/\aS K W/\cj K W Z L/\Out K Ξ W (ml g fs (X.drop i) Z W.aG) (Ap K D0),
  ⟨X.length,rfl,ą _,M,env,rfl,Le.refl _,o,B.le p,n⟩,?_⟩
 intro i m L z zzz;obtain⟨rfl,hi,W,Z,rfl,U,I,v,V⟩:=zzz;by_cases G:i<X.length
 ·right
  obtain⟨l,k⟩:=(A W U I i).1 _ (Ê G);rw[ń G] at V;erw[ml] at V
  cases F:g X[i] Z with
  |none=>rw[F] at V;exact V.elim
  |some u =>
   rw[F] at V;calc⟨l,fun E T=>∃Y R,Y.H=T/\Le K M Y/\aS K Y/\cj K Y R E/\Out K Ξ Y (ml g fs (X.drop (i+1)) R Y.aG) (Ap K D0),fun E T ⟨Y,R,q⟩=>⟨X.length-(i+1),by omega,rfl,G,Y,R,q⟩,λx T y=>?_⟩;obtain⟨Y,rfl,Q,t,es,j⟩:=k x T y;calc⟨Y,Z,X[i],u,rfl,t,v.le Q,j,F,fun E f=>⟨Y,u,rfl,t,f,?_⟩⟩;rw[<- es] at V;refine(Out.aj (V.from Q)).mono λs c r P O=>?_
   cases c with
   |nx N=>exact fun b C=>⟨s,N,rfl,U.trans (Q.trans r),P,C,O⟩
   |ct N=>exact fun b C=>⟨s,N,rfl,U.trans (Q.trans r),P,C,O⟩
   |bk N=>have q:=ax P O;exact q
   |rt d=>have q:=ax P O;exact q
 ·left
  have e:i=X.length:=by omega
  subst e;rw[aem] at V;exact⟨(A W U I _).2 3e0,ax I V L v⟩
def qx {iter:ĳ} {it:afb 4e7} {g:D->Env->Option Env} (hp:PassesOwn 0e2 X.A X.env X.xe) (hc:X.calm=ό) (hi:PI X tg iter (fk X.K Ξ it)) (hg:PG X tg (gD X.K g)) (hb:dq X rq (tS X.K Ξ fs))
  (hs:∀x,ă iter X.env x=pure x:=by intro _;rfl):PS X (.For tg iter rq [] pos) (tS X.K Ξ (lu it g fs)):=kQ (Ya hp hc hi hg hb hs) WA
theorem Out.ne {α:Type} {K:İ} {w:Wd} {r:Res α} {k:Wd->α->Prop} (h:Out K Ξ w (DI.ne r) k):Out K cA w r k:=by
 match r,h with
 |some (.ok a,s),h=>exact h
def cj.block {K:İ} {w:Wd} {env:Env} {σ:St} (h:cj K w env σ) (nt:Nat) (cap:List Nat) (o:St) (ho:o.length=nt):cj K w (Ø nt ϋ++kA cap env) (o++nq cap σ):=by
 calc⟨by simp[kA,nq,ho],λi d e=>?_⟩;by_cases hi:i<nt
 ·rw[â (by simpa using hi),ľ,Ô hi] at e
  cases e
 ·rw[í (by simpa using acH hi)] at e
  rw[í ⋯,ho];erw[acV] at e;delta kA at e;delta nq;rw[é] at e |-
  cases Z:cap[i-nt]? with
  |none=>rw[Z] at e;cases e
  |some j =>
   rw[Z] at e;have ev:(env[j]?).getD ϋ=ϊ d:=afo e;have Y:env[j]?=ϊ (ϊ d):=by
    cases q:env[j]? with
    |none=>rw[q] at ev;cases ev
    |some z=>rw[q] at ev;exact ĵ ϊ ev
   obtain⟨v,e1,e2⟩:=h.val j d Y;exact⟨v,by rw[acY,e1];rfl,e2⟩
def SS {K:İ} {nt:Nat} {cap:List Nat} {it:afb 4e7} {g:D->Env->Option Env} {fin:List D->ae->Res D} (σ:St) (H:Hp) (Q:VK)
  (E6:∀(w2:Wd) (xs:List D) (vs:List V),aS K w2->aq K w2 xs vs->Out K Ξ w2 (fin xs w2.aG) (λw' d=>∀v,DV K w' d v->Q v w'.H)->∀p,w2.H p=ϋ->Q 7e3 (upd w2.H p (.lst vs))) :
  tE K Ξ (λenv s=>aj (it env s) λds s=>jg ds (aj (hU nt (kA cap env) g ft f ds s) fin)) σ H Q->nr (fk K Ξ it) nt cap (gD K g) (tT K cA ft) (tE K cA f) σ H Q:=by
 intro zzz;obtain⟨w,env,rfl,S,A,h⟩:=zzz;calc⟨w,env,rfl,S,A,(Out.aj h).mono λN ds c a M J z=>?_⟩;obtain⟨hz,M⟩:=rY M;refine⟨λi m Y u=>m=ds.length-i/\i<=ds.length/\Y.length<=i/\∃w' Z,w'.H=u/\Le K N w'/\aS K w'/\aq K w' Z Y/\Out K Ξ w' (hU nt (kA cap env) g ft f (ds.drop i) w'.aG) λw2 xs=>∀vs,aq K w2 (Z++xs) vs->∀p,w2.H p=ϋ->Q 7e3 (upd w2.H p (.lst vs)),
  ⟨ds.length,rfl,ą _,ą _,N,[],rfl,Le.refl _,a,rfl,(Out.aj M).mono λw2 xs W P h2 vs O p U=>?_⟩,?_⟩
 ·exact E6 w2 xs vs P O h2 p U
 intro i m Y u zzz;obtain⟨rfl,hi,ha,w',Z,rfl,T,L,I,X⟩:=zzz;by_cases G:i<ds.length
 ·right
  obtain⟨fP,hy⟩:=(z w' T L i).1 _ (Ê G);rw[ń G] at X;erw[hU] at X
  cases F:g ds[i] (Ø nt ϋ++kA cap env) with
  |none=>rw[F] at X;exact X.elim
  |some E =>
   rw[F] at X;refine⟨fP,by omega,λC t=>C.length<=i+1/\∃w' Z,w'.H=t/\Le K N w'/\aS K w'/\aq K w' Z C/\Out K Ξ w' (hU nt (kA cap env) g ft f (ds.drop (i+1)) w'.aG) λw2 xs=>∀vs,aq K w2 (Z++xs) vs->∀p,w2.H p=ϋ->Q 7e3 (upd w2.H p (.lst vs)),
    λC t ⟨B,q⟩=>⟨ds.length-(i+1),by omega,rfl,G,B,q⟩,λo x H3 ho y=>?_⟩
   obtain⟨w2,rfl,W,P,es,dv⟩:=hy x H3 y;calc⟨w2,_,ds[i],E,rfl,P,(A.le (c.trans (T.trans W))).block nt cap o ho,dv,F,fun mG r=>?_⟩;rw[<- es] at X;refine⟨w2,E,rfl,P,r,(Out.aj (X.from W)).ne.mono λn b R l k=>?_⟩
   cases b with
   |true =>
    calc⟨n,E,rfl,l,r.le R,(Out.aj k).ne.mono λw4 d j S4 h4 v xJ=>⟨by rw[à];simp;omega,w4,Z++[d],rfl,T.trans (W.trans (R.trans j)),S4,aq.append ((W.trans (R.trans j)).all I) (aq.one xJ),(Out.aj h4).mono λw5 xs l5 S5 h5 vs O p U=>?_⟩⟩;exact ax S5 h5 vs (by rw[ś] at O;exact O) p U
   |false =>
    exact⟨by omega,n,Z,rfl,T.trans (W.trans R),l,(W.trans R).all I,k⟩
 ·left
  have e:i=ds.length:=by omega
  subst e;rw[aem] at X;refine⟨(z w' T L _).2 3e0,by omega,λp U=>ax L X Y (by rw[ć];exact I) p U⟩
def JZ {K:İ} {nt:Nat} {cap:List Nat} {it:afb 4e7} {g:D->Env->Option Env} (σ:St) (H:Hp) (Q:VK) :
  tE K Ξ (cT nt cap it g ft f) σ H Q->nr (fk K Ξ it) nt cap (gD K g) (tT K cA ft) (tE K cA f) σ H Q :=
 SS σ H Q λX S W V U T p Y=>T (X.grow p (.lst W)) (Fw.grow Y).le (V.grow Y) rfl 7e3 ⟨p,W,rfl,⟨(show ¬ X.Z p from kj V Y),cO⟩,(Fw.grow Y).le.all U⟩
end
def K9 {o caps:St} {v:V} {i nt:Nat} (ho:o.length=nt) (hi:i<nt):(o++caps).set i (ϊ v)=o.set i (ϊ v)++caps:=by
 rw[List.set_append_left _ _ ⋯]
def SU {i nt:Nat} (hi:i<nt):mJ (nk i) nt:=by
 intro x o Z H R Y h;exact⟨⟨o.set i (ϊ x),by rw[ģ];exact Y,K9 Y hi⟩,h⟩
def wZ (g:jV) (nt:Nat):Prop:=∀(Y:List V) (o Z:St) (H:Hp) (R:St->Hp->Prop),o.length=nt->g Y (o++Z) H R->g Y (o++Z) H fun X U=>(∃W:St,W.length=nt/\X=W++Z)/\R X U
def UH:wZ ER nt:=λX o Z H R Y h=>⟨h.1,⟨o,Y,rfl⟩,h.2⟩
def SV {i nt:Nat} {g:jV} (hi:i<nt) (hg:wZ g nt):wZ (D9 (nk i) g) nt:=by
 intro X o Z H R Y zzz;obtain⟨v,r,e,h⟩:=zzz;calc⟨v,r,e,?_⟩;have h:g r ((o++Z).set i (ϊ v)) H R:=h;show g r ((o++Z).set i (ϊ v)) H _;rw[K9 Y hi] at h |-;exact hg r _ Z H R (by rw[ģ];exact Y) h
def UI (hg:wZ g nt):mJ (ES K n g) nt:=by
 intro x o Z H R X zzz;obtain⟨a,Y,e,W,V,h⟩:=zzz;exact⟨a,Y,e,W,V,hg Y o Z H R X h⟩
structure Tg (K:İ) (g0:TG) (g:D->Env->Option Env) (nt:Nat):Prop where
 lQ:mJ g0 nt
 imp:∀v σ H Q,gD K g v σ H Q->g0 v σ H Q
structure AO (K:İ) (g0:jV) (g:List (D->Env->Option Env)) (nt:Nat):Prop where
 lQ:wZ g0 nt
 imp:∀v σ H Q,uE K (gR g) v σ H Q->g0 v σ H Q
def lZ (i:Nat) (hi:i<nt:=by decide):Tg K (nk i) (gN i) nt:=⟨SU hi,λv σ H Q Y=>by
 obtain⟨w,env,d,Z,U,S,X,W,V,k⟩:=Y;have e:env.set i (ϊ d)=Z:=afo V;subst e;exact k _ (X.set W i)⟩
def CN:AO K ER [] nt:=⟨UH,λT σ H Q W=>by
 obtain⟨w,env,Y,Z,R,S,V,U,X,k⟩:=W
 cases Y with
 |nil =>
  have e:env=Z:=afo X;subst e;exact⟨U,k _ V⟩
 |cons d Y=>cases X⟩
def rZ (i:Nat) (h:AO K g0 gl nt) (hi:i<nt:=by decide):AO K (D9 (nk i) g0) (gN i::gl) nt:=⟨SV hi h.lQ,λP σ H Q W=>by
 obtain⟨w,env,Y,Z,V,S,U,T,X,k⟩:=W
 cases Y with
 |nil=>cases X
 |cons d Y =>
  obtain⟨v,r,rfl,R,dr⟩:=T;exact⟨v,r,rfl,h.imp _ _ _ _ ⟨w,_,Y,Z,V,S,U.set R i,dr,X,k⟩⟩⟩
def Dt (h:AO K g0 gl nt) (hn:gl.length=n:=by rfl):Tg K (ES K n g0) (gT gl) nt:=⟨UI h.lQ,λv σ H Q V=>by
 obtain⟨w,env,d,Z,U,S,T,X,Y,k⟩:=V
 cases d with
 |tup R =>
  erw[DV] at X;obtain⟨p,P,e1,O,W⟩:=X;subst U;exact⟨p,P,e1,O,by rw[<- W.length,yL Y];exact hn,h.imp _ _ _ _ ⟨w,env,R,Z,rfl,S,T,W,Y,k⟩⟩
 |_=>cases Y⟩
section
variable {X:Cx} {Ξ:Wd->bb->Prop} {e a b c tg el src:ĳ} {es rest tests:List ĳ} {pos:Pos} {f g h:afb D} {fa:afb (List D)} {ft gt:afb Bool} {st:aeW} {rq E5:List aeW} {fs gs:afb Fl}
def YB (h:PF X tests t) (i:∀ σ H Q,t' σ H Q->t σ H Q):PF X tests t':=λZ s σ H Q I Y=>h Z s σ H Q I (i σ H Q Y)
def fW:PF X [] (tT K Ξ eG):=YB Yp fun σ H Q Z=>by
 obtain⟨w,env,Y,S,W,h⟩:=Z;subst Y;exact ax S h
def ox (h:PT X c (tT K Ξ ft)):PF X [c] (tT K Ξ ft):=Yq h
def BB (i_:∀v σ H Q,g1 v σ H Q->g0 v σ H Q) (wm:∀R R':It->Hp->Prop,(∀J H',R J H'->R' J H')->wi σ H R->wi σ H R') (h:nr wi nt cap g1 tf te σ H Q):nr wi nt cap g0 tf te σ H Q:=by
 calc wm _ _ (λJ H' Y=>?_) h;obtain⟨W,X,step⟩:=Y;refine⟨W,X,λi m Z V hw=>?_⟩
 rcases step i m Z V hw with q | ⟨U,T,N,S,P⟩
 ·exact .inl q
 ·exact .inr ⟨U,T,N,S,λo x O M y=>i_ _ _ _ _ (P o x O M y)⟩
def Ca (R R':It->Hp->Prop) (i:∀J H',R J H'->R' J H') (h:fk K Ξ it σ H R):fk K Ξ it σ H R':=by
 obtain⟨w,env,Z,S,Y,h⟩:=h;exact⟨w,env,Z,S,Y,h.mono λV U _ _ X J W=>i J _ (X J W)⟩
def cV (f:afb D):afb (List D):=λenv s=>aj 2e2 λd s=>match d with
 | .lst Z=>ok Z s
 | .tup Z=>ok Z s
 |_=>ϋ
def UJ {K:İ} {w:Wd} {a:Þ} {ds:List D} (h:DV K w (.lst ds) 6e2):rz K w (FA K a) ds:=λV U T i=>by
 have X:=U _ _ h;erw[DV] at X;obtain⟨p,Z,e,Y,W⟩:=X;cases e;calc⟨λd S=>?_,λR=>⟨Z,Y.sq,by rw[<- W.length];exact R⟩⟩;obtain⟨v,ev,Q⟩:=W.get' i d S;exact⟨⟨Z,v,Y.sq,ev⟩,λx P ⟨e1,e2⟩=>⟨V,e1.symm,Le.refl _,T,rfl,by
  have q:=e2 Z Y.sq;rw[ev] at q;cases q;exact Q⟩⟩
def WB {K:İ} {w:Wd} {a:Þ} {ds:List D} (h:DV K w (.tup ds) 6e2):rz K w (FC K a) ds:=λV U T i=>by
 have X:=U _ _ h;erw[DV] at X;obtain⟨p,Z,e,Y,W⟩:=X;cases e;calc⟨λd S=>?_,λR=>⟨Z,Y,by rw[<- W.length];exact R⟩⟩;obtain⟨v,ev,Q⟩:=W.get' i d S;exact⟨⟨Z,v,Y,ev⟩,λx P ⟨e1,e2⟩=>⟨V,e1.symm,Le.refl _,T,rfl,by
  have q:=e2 Z Y;rw[ev] at q;cases q;exact Q⟩⟩
def iI (hl:PE X a 1e0):PI X tg a (fk X.K Ξ (cV f)):=by
 have both:PI X tg a (fun σ H R=>MT X.K 1e0 σ H R\/N5 X.K 1e0 σ H R):=λN s σ H R I h=>h.elim (V9 hl N s σ H R I) (X9 hl N s σ H R I);calc vM both fun σ H R ⟨w,env,M,S,W,h⟩=>?_;subst M;erw[cV] at h
 cases Y:f env w.aG with
 |none=>rw[Y] at h;exact h.elim
 |some r =>
  obtain⟨r,s⟩:=r;rw[Y] at h
  cases r with
  |error x=>exact .inl ⟨w,env,rfl,S,W,by rw[Y];exact h⟩
  |ok d =>
   rw[cL] at h
   cases d with
   |lst L =>
    calc .inl ⟨w,env,rfl,S,W,?_⟩;rw[Y];intro V U T e1 v Z;have Q:=Z;erw[DV] at Z;obtain⟨p,P,rfl,O,J⟩:=Z;exact⟨p,rfl,⟨P,O.sq⟩,h V U T e1 _ (UJ Q)⟩
   |tup L =>
    calc .inr ⟨w,env,rfl,S,W,?_⟩;rw[Y];intro V U T e1 v Z;have Q:=Z;erw[DV] at Z;obtain⟨p,P,rfl,O,J⟩:=Z;exact⟨p,rfl,⟨P,O⟩,h V U T e1 _ (WB Q)⟩
   |_=>exact h.elim
def ei (lo:Int) (n:Nat):List D:=(ö n).map λ(i:Nat)=>D.int (lo+(i:Int))
def qh:(ei lo n)[i]?=if i<n then ϊ (.int (lo+i)) else ϋ:=by
 delta ei;rw[é];by_cases h:i<n
 ·rw[acD h,Ô h];rfl
 ·rw[Ō (by simp;omega),Ö h];rfl
def l0:(ei lo n).length=n:=by simp[ei]
def La:rz K w (xr lo n) (ei lo n):=λX V W i=>by
 calc⟨λd Z=>?_,λY=>by rw[l0] at Y;exact Y⟩;rw[qh] at Z;split at Z
 ·cases Z
  exact⟨by assumption,λx U ⟨e1,e2⟩=>⟨X,e1.symm,Le.refl _,W,rfl,e2⟩⟩
 ·cases Z
def mq (j:Int):Bool:=ώ (-(2 ^ 62)<=j)&&ώ (j<2 ^ 62)
def ik (fa:afb 4e7):afb (List D):=λenv s=>aj (fa env s) λZ s=>match Z with
 | [.int j]=>if mq j=ό then ok (ei 0 j.toNat) s else ϋ
 |_=>ϋ
def AQ (fa:afb 4e7):afb (List D):=λenv s=>aj (fa env s) λZ s=>match Z with
 | [.int i,.int j]=>if (mq i&&mq j)=ό then ok (ei i (j-i).toNat) s else ϋ
 |_=>ϋ
def kl (hg:Gl X "range") (hm:X.mg "range"=ϋ) (ha:PA X [a] 7e8) (hs:Ð [a] X.env=[3e3]:=by rfl):PI X tg (.Call (.Name "range" p) [a] [] pos) (fk X.K Ξ (ik fa)) :=
 vM (Sz hg hm ha hs) fun σ H R W=>by
  obtain⟨w,env,V,S,U,h⟩:=W;subst V;calc⟨w,env,rfl,S,U,(Out.aj h).mono λO N M T Z L Q=>?_⟩;split at Z
  ·rename_i j
   split at Z
   ·rename_i Y
    erw[mq,Å,É] at Y;obtain⟨v,r,rfl,P,dr⟩:=Q;have e1:v=.int j:=P;have e2:r=[]:=dr;subst e1 e2;exact⟨j,rfl,Y.1,Y.2,ax T Z _ La⟩
   ·exact Z.elim
  ·exact Z.elim
def YC {p:Pos} (hg:Gl X "range") (hm:X.mg "range"=ϋ) (ha:PA X [a,b] 7e8) (hs:Ð [a,b] X.env=[3e3,(ύ,ŗ b X.env)]:=by rfl) (fE:Ð [b] X.env=[(ύ,ŗ b X.env)]:=by rfl):PI X tg (.Call (.Name "range" p) [a,b] [] pos) (fk X.K Ξ (AQ fa)) :=
 vM (SA hg hm ha hs fE) fun σ H R W=>by
  obtain⟨w,env,V,S,U,h⟩:=W;subst V;calc⟨w,env,rfl,S,U,(Out.aj h).mono λL J I T Z G Q=>?_⟩;split at Z
  ·rename_i i j
   split at Z
   ·rename_i Y
    erw[mq,Å,É] at Y;obtain⟨v,r,rfl,P,v2,O,rfl,N,dr⟩:=Q;have e1:v=.int i:=P;have e2:v2=.int j:=N;have M:O=[]:=dr;subst e1 e2 M;exact⟨i,j,rfl,⟨Y.1.1,Y.1.2,Y.2.1,Y.2.2⟩,ax T Z _ La⟩
   ·exact Z.elim
  ·exact Z.elim
def iL (xs ys:List D):List D:=(xs.zip ys).map λp=>.tup [p.1,p.2]
def UK {i:Nat} (h:(iL xs ys)[i]?=ϊ d):∃x y,xs[i]?=ϊ x/\ys[i]?=ϊ y/\d=.tup [x,y]:=by
 delta iL at h;rw[é] at h
 cases Z:(xs.zip ys)[i]? with
 |none=>rw[Z] at h;cases h
 |some p =>
  rw[Z] at h;obtain⟨Y,X⟩:=List.getElem?_zip_eq_some.mp Z;exact⟨p.1,p.2,Y,X,(afo h).symm⟩
def yM:(iL xs ys).length=min xs.length ys.length:=by simp[iL]
def SW (S':aS K w') (hp:w'.H p=ϋ) (h1:DV K w' d x) (h2:DV K w' d2 y) :
  ∃w2,w2.H=upd w'.H p (.tup [x,y])/\Le K w' w2/\aS K w2/\w2.aG=w'.aG/\DV K w2 (.tup [d,d2]) 7e3 :=
 ⟨w'.grow p (.tup [x,y]),rfl,(Fw.grow hp).le,S'.grow hp,rfl,p,[x,y],rfl,bO.of cO,(Fw.grow hp).le.all (aq.two h1 h2)⟩
@[reducible] noncomputable def F7:Bool->List D->D
 |true=>.tup
 |false=>.lst
def Nb {K:İ} {w:Wd} {a:Þ} {ds:List D}:∀{k},DV K w (F7 k ds) 6e2->∃xs,jZ k K w.H a xs/\aq K w ds xs
 |true,h=>by
  erw[DV] at h;obtain⟨p,xs,e,Z,Y⟩:=h;cases e;exact⟨xs,Z,Y⟩
 |false,h=>by
  erw[DV] at h;obtain⟨p,xs,e,Z,Y⟩:=h;cases e;exact⟨xs,Z.sq,Y⟩
def UL {k l:Bool} {K:İ} {w:Wd} {a b:Þ} {ds es:List D} (h:DV K w (F7 k ds) 6e2) (g:DV K w (F7 l es) (.ref b)):rz K w (Ao k l K a b) (iL ds es):=λF U O i=>by
 obtain⟨Z,Y,T⟩:=Nb (U _ _ h);obtain⟨X,W,S⟩:=Nb (U _ _ g);refine⟨λd N=>?_,λM=>⟨Z,X,Y,W,?_⟩⟩
 ·obtain⟨x,y,e1,e2,rfl⟩:=UK N
  obtain⟨v,ev,L⟩:=T.get' i x e1;obtain⟨u,R,J⟩:=S.get' i y e2;calc⟨⟨Z,X,v,u,Y,W,ev,R⟩,λz E ⟨r,C,y1,I,H,G,V⟩=>?_⟩;obtain⟨Q,P⟩:=V Z X Y W;rw[ev] at Q;rw[R] at P;cases Q;cases P;subst H G;exact SW O I L J
 ·rw[yM] at M
  have:=T.length;have:=S.length;omega
def UM {K:İ} {w:Wd} {a b:Þ} {ds es:List D} (h:DV K w (.tup ds) 6e2) (g:DV K w (.tup es) (.ref b)):rz K w (abK K a b) (iL ds es):=UL (k:=ό) (l:=ό) h g
def qI (fa:afb 4e7):afb (List D):=λenv s=>aj (fa env s) λZ s=>match Z with
 | [.tup Y,.tup X]=>ok (iL Y X) s
 |_=>ϋ
def Nc {p:Pos} {elts:List ĳ} {kk:Nat} {wR:Pos} (hg:Gl X "zip") (hm:X.mg "zip"=ϋ) (ha:PA X [a,b] 7e8) (hs:Ð [a,b] X.env=[3e3,(ύ,ŗ b X.env)]:=by rfl) (fE:Ð [b] X.env=[(ύ,ŗ b X.env)]:=by rfl) :
  PI X (.Tuple elts kk wR) (.Call (.Name "zip" p) [a,b] [] pos) (fk X.K Ξ (qI fa)):=by
 calc vM (Wv hg hm ha hs fE) fun σ H R U=>?_;obtain⟨w,env,T,S,Q,h⟩:=U;subst T;calc⟨w,env,rfl,S,Q,(Out.aj h).mono λF E D P h C O=>?_⟩;split at h
 ·obtain⟨v,r,rfl,Z,v2,N,rfl,Y,dr⟩:=O
  have M:N=[]:=dr;subst M;have W:=Z;have V:=Y;erw[DV] at W V;obtain⟨p,L,rfl,J,_⟩:=W;obtain⟨q,I,rfl,G,_⟩:=V;exact⟨p,q,L,I,rfl,J,G,ax P h _ (UM Z Y)⟩
 ·exact h.elim
def aE (fn:List D->ae->Res D) (fa:afb 4e7):afb D:=λenv s=>aj (fa env s) λZ s=>ne (fn Z s)
def Du {k:Nat} {fA:Þ} {fd:ĺ} {xK:List Str} {fn:List D->ae->Res D} {x:Str} {p:Pos} (F:dG X.prog X.w X.K X.mg X.base dP k fA fd xK (j5 X.K fn)) (hr:ck k X.A) (hg:Gl X x) (hm:X.mg x=ϊ (.ref fA)) (hk:θ X.K (.ref fA)=ό) (hb:Binds X.K fd xK [])
  (ha:PA X 8e7 7e8) (fe:0e8=ύ:=by decide) (he:Ð 8e7 X.env=5e5::Ð es X.env:=by rfl) (bP:(ŀ pos (Ð es X.env)).any (·.1)=ύ:=by rfl) :
  PE X 2e1 (tE X.K Ξ (aE fn fa)):=cB (KS F hr hg hm hk hb .nil aaf ha fe he bP) fun σ H Q Y=>by
 obtain⟨w,env,W,S,V,h⟩:=Y;subst W;calc⟨w,env,rfl,S,V,(Out.aj h).mono λZ U N T R P O=>?_⟩;show j5 X.K fn (P++[]) Z.H Q E0;rw[ć];exact⟨Z,U,rfl,T,O,R.ne⟩
def aq.env (h:aq K w ds vs) (n:Nat):cj K w (ds.map ϊ++Ø (n-ds.length) ϋ) (vs.map ϊ++Ø (n-vs.length) ϋ):=by
 have Y:=h.length;calc⟨by simp[Y],λi d e=>?_⟩;by_cases hi:i<ds.length
 ·rw[â (by simpa using hi),é] at e
  rw[â (by simp;omega),é]
  cases Z:ds[i]? with
  |none=>rw[Z] at e;cases e
  |some W =>
   rw[Z] at e;cases e;obtain⟨v,ev,X⟩:=h.get' i d Z;exact⟨v,by rw[ev];rfl,X⟩
 ·rw[í (by simpa using acH hi),ľ] at e
  split at e<;>cases e
end
def Nd (F:rg K x qual st f fd) (S:qe N ps (cY st))
 (hb:∀(bq:È) (A:ó) (outer:List PySem.Env) (s:Æ) (H:Hp) (E:XK),ck k (A.deeper (ŝ qual (cY st) s.heap.objs.size f bq))->dq (iZ dP P w K mg base N qual (cY st) f bq A outer s H E).nL (jd st) (tS K cA b)) :
  dG P w K mg base dP (k+1) f fd ps (j5 K (aU ps.length N.length b)):=by
 refine F.ok S (λW H Q E h=>?_) (λbq A outer s H W Q E V h=>?_)
 ·obtain⟨w,U,rfl,S,Y,h⟩:=h
  rw[<- Y.length];delta aU at h;split at h
  ·assumption
  ·exact h.elim
 ·obtain⟨w,U,rfl,S,Y,h⟩:=h
  calc⟨_,hb bq A outer s w.H E V,?_⟩;delta aU at h;split at h
  ·rename_i T
   rw[<- T] at h;refine⟨w,_,rfl,S,Y.env N.length,(Out.aj h).mono λO R M X Z=>?_⟩
   cases R with
   |nx env=>intro L _;exact ax X Z _ rfl
   |rt d=>have q:=ax X Z;exact q
   |bk env=>exact Z.elim
   |ct env=>exact Z.elim
  ·exact h.elim
mutual
noncomputable def py:D->PyData
 | .ak=>.none
 | .bl b=>.bool b
 | .int i=>.int i
 | .str x=>.str x
 | .tup Z=>.tuple (fQ Z)
 | .lst Z=>.list (fQ Z)
 | .bU Y=>.dict (Y.map λp=>(wU p.1,PyData.int p.2))
 | .aK _=>.none
 | .ty _=>.none
 | .bV _=>.none
 | .exc _ _=>.none
 | .cR _ _ _=>.none
noncomputable def fQ:List D->List PyData
 | []=>[]
 |d::Z=>py d::fQ Z
end
mutual
noncomputable def plain:D->Bool
 | .ak=>ό
 | .bl _=>ό
 | .int _=>ό
 | .str _=>ό
 | .tup Z=>qk Z
 | .lst Z=>qk Z
 | .bU _=>ό
 | .aK _=>ύ
 | .ty _=>ύ
 | .bV _=>ύ
 | .exc _ _=>ύ
 | .cR _ _ _=>ύ
noncomputable def qk:List D->Bool
 | []=>ό
 |d::Z=>plain d&&qk Z
end
mutual
noncomputable def lay:D->Bool
 | .ak=>ό
 | .bl _=>ό
 | .int _=>ό
 | .str x=>ã x
 | .tup Z=>cD Z
 | .lst Z=>cD Z
 | .bU _=>ύ
 | .aK _=>ύ
 | .ty _=>ύ
 | .bV _=>ύ
 | .exc _ _=>ύ
 | .cR _ _ _=>ύ
noncomputable def cD:List D->Bool
 | []=>ό
 |d::Z=>lay d&&cD Z
end
mutual
noncomputable def dep:D->Nat
 | .tup Z=>dY Z+1
 | .lst Z=>dY Z+1
 | .bU Y=>1
 | .ak=>0
 | .bl _=>0
 | .int _=>0
 | .str _=>0
 | .aK _=>0
 | .ty _=>0
 | .bV _=>0
 | .exc _ _=>0
 | .cR _ _ _=>0
noncomputable def dY:List D->Nat
 | []=>0
 |d::Z=>max (dep d) (dY Z)
end
mutual
noncomputable def beq:D->D->Bool
 | .ak,.ak=>ό
 | .bl a,.bl b=>a==b
 | .bl a,.int j=>(if a then 1 else 0)==j
 | .int i,.bl b=>i==(if b then 1 else 0)
 | .int i,.int j=>i==j
 | .str x,.str y=>x==y
 | .tup Z,.tup Y=>fO Z Y
 | .lst Z,.lst Y=>fO Z Y
 |_,_=>ύ
noncomputable def fO:List D->List D->Bool
 | [],[]=>ό
 |x::Z,y::Y=>beq x y&&fO Z Y
 |_,_=>ύ
end
mutual
theorem p6:∀(d:D),lay d=ό->plain d=ό
 | .ak,_=>rfl
 | .bl _,_=>rfl
 | .int _,_=>rfl
 | .str _,_=>rfl
 | .tup Z,h=>by erw[lay,plain] at h |-;exact pV Z h
 | .lst Z,h=>by erw[lay,plain] at h |-;exact pV Z h
 | .bU _,h=>by simp[lay] at h
 | .aK _,h=>by simp[lay] at h
 | .ty _,h=>by simp[lay] at h
 | .bV _,h=>by simp[lay] at h
 | .exc _ _,h=>by simp[lay] at h
 | .cR _ _ _,h=>by simp[lay] at h
theorem pV:∀(ds:List D),cD ds=ό->qk ds=ό
 | [],_=>rfl
 |d::ds,h=>by
  erw[cD,qk,Å] at h |-;exact⟨p6 d h.1,pV ds h.2⟩
end
mutual
theorem kS:∀(d:D),lay d=ό->(py d).canLay0=ό/\(py d).depth=dep d
 | .ak,_=>⟨rfl,by simp[py,dep,PyData.depth]⟩
 | .bl _,_=>⟨rfl,by simp[py,dep,PyData.depth]⟩
 | .int _,_=>⟨rfl,by simp[py,dep,PyData.depth]⟩
 | .str _,h=>⟨h,by simp[py,dep,PyData.depth]⟩
 | .tup Z,h=>by
  obtain⟨Y,X⟩:=vh Z (by simpa [lay] using h);erw[py,dep,PyData.depth,PyData.canLay0];exact⟨Y,by rw[X]⟩
 | .lst Z,h=>by
  obtain⟨Y,X⟩:=vh Z (by simpa [lay] using h);erw[py,dep,PyData.depth,PyData.canLay0];exact⟨Y,by rw[X]⟩
 | .bU _,h=>by simp[lay] at h
 | .aK _,h=>by simp[lay] at h
 | .ty _,h=>by simp[lay] at h
 | .bV _,h=>by simp[lay] at h
 | .exc _ _,h=>by simp[lay] at h
 | .cR _ _ _,h=>by simp[lay] at h
theorem vh:∀(ds:List D),cD ds=ό->PyData.canLayAll0 (fQ ds)=ό/\aeC (fQ ds)=dY ds
 | [],_=>1e4
 |d::ds,h=>by
  erw[cD,Å] at h;obtain⟨a1,a2⟩:=kS d h.1;obtain⟨Z,Y⟩:=vh ds h.2;erw[fQ,dY,PyData.canLayAll0,aeC,a1,Z,a2,Y,Ĳ,Ţ]
end
mutual
theorem sM:∀(d e:D),lay d=ό->lay e=ό->Ķ (py d) (py e)=beq d e
 | .tup Z,.tup Y,h,g=>by
  erw[py,beq,Ķ];exact Cb Z Y (by simpa [lay] using h) (by simpa [lay] using g)
 | .lst Z,.lst Y,h,g=>by
  erw[py,beq,Ķ];exact Cb Z Y (by simpa [lay] using h) (by simpa [lay] using g)
 | .ak,e,_,g=>by cases e<;>simp_all [py,beq,Ķ,lay]
 | .bl _,e,_,g=>by cases e<;>simp_all [py,beq,Ķ,lay]
 | .int _,e,_,g=>by cases e<;>simp_all [py,beq,Ķ,lay]
 | .str _,e,_,g=>by cases e<;>simp_all [py,beq,Ķ,lay]
 | .tup _,.ak,_,_=>by simp[py,beq,Ķ]
 | .tup _,.bl _,_,_=>by simp[py,beq,Ķ]
 | .tup _,.int _,_,_=>by simp[py,beq,Ķ]
 | .tup _,.str _,_,_=>by simp[py,beq,Ķ]
 | .tup _,.lst _,_,_=>by simp[py,beq,Ķ]
 | .lst _,.ak,_,_=>by simp[py,beq,Ķ]
 | .lst _,.bl _,_,_=>by simp[py,beq,Ķ]
 | .lst _,.int _,_,_=>by simp[py,beq,Ķ]
 | .lst _,.str _,_,_=>by simp[py,beq,Ķ]
 | .lst _,.tup _,_,_=>by simp[py,beq,Ķ]
 | .bU _,_,h,_=>by simp[lay] at h
 | .aK _,_,h,_=>by simp[lay] at h
 | .ty _,_,h,_=>by simp[lay] at h
 | .bV _,_,h,_=>by simp[lay] at h
 | .exc _ _,_,h,_=>by simp[lay] at h
 | .cR _ _ _,_,h,_=>by simp[lay] at h
 |_,.bU _,_,h=>by simp[lay] at h
 |_,.aK _,_,h=>by simp[lay] at h
 |_,.ty _,_,h=>by simp[lay] at h
 |_,.bV _,_,h=>by simp[lay] at h
 |_,.exc _ _,_,h=>by simp[lay] at h
 |_,.cR _ _ _,_,h=>by simp[lay] at h
theorem Cb:∀(ds es:List D),cD ds=ό->cD es=ό->PyData.eqvAll (fQ ds) (fQ es)=fO ds es
 | [],[],_,_=>rfl
 | [],_::_,_,_=>rfl
 |_::_,[],_,_=>rfl
 |d::ds,e::es,h,g=>by
  erw[cD,Å] at h g;erw[fQ,fO,PyData.eqvAll,sM d e h.1 g.1,Cb ds es h.2 g.2]
end
mutual
theorem DV.py:∀{d:D} {v:V},DV K w d v->plain d=ό->L2.DV K (λ_=>False) w.H (DI.py d) v
 | .ak,_,h,_=>h
 | .bl _,_,h,_=>h
 | .int _,_,h,_=>h
 | .str _,_,h,_=>h
 | .tup X,v,h,p=>by
  erw[DV] at h;obtain⟨a,Y,e,Z,r⟩:=h;erw[DI.py,L2.DV];exact⟨a,Y,e,Z,aq.py r (by simpa [plain] using p)⟩
 | .lst X,v,h,p=>by
  erw[DV] at h;obtain⟨a,Y,e,Z,r⟩:=h;erw[DI.py,L2.DV];exact⟨a,Y,e,not_false,Z.2,aq.py r (by simpa [plain] using p)⟩
 | .bU W,v,h,p=>by
  erw[DV] at h;obtain⟨a,e,U,Z⟩:=h;erw[DI.py,L2.DV];exact⟨a,_,e,not_false,Z,W,rfl,rfl⟩
 | .aK _,_,_,p=>by simp[plain] at p
 | .ty _,_,_,p=>by simp[plain] at p
 | .bV _,_,_,p=>by simp[plain] at p
 | .exc _ _,_,_,p=>by simp[plain] at p
 | .cR _ _ _,_,_,p=>by simp[plain] at p
theorem aq.py:∀{ds:List D} {vs:List V},aq K w ds vs->qk ds=ό->L2.aq K (λ_=>False) w.H (DI.fQ ds) vs
 | [],_,h,_=>h
 |d::ds,vs,h,p=>by
  erw[aq] at h;obtain⟨v,r,e,Z,Y⟩:=h;erw[qk,Å] at p;exact⟨v,r,e,DV.py Z p.1,aq.py Y p.2⟩
end
def res (d:D) (s:ae):D:=match d with
 | .aK k=>match s[k]? with
  |some (.lst Z)=>.lst Z
  |_=>d
 |_=>d
theorem DV.res (S:aS K w) (h:DV K w d v) (p:plain (DI.res d w.aG)=ό):L2.DV K (λ_=>False) w.H (DI.py (DI.res d w.aG)) v:=by
 cases d with
 |aK k =>
  delta DI.res at p |-;simp only at p |-
  split at p<;>rename_i Z
  ·rename_i V
   obtain⟨a,e1,rfl⟩:=h;obtain⟨Y,X,W⟩:=S.cell k a _ e1 Z;erw[DI.py,L2.DV];exact⟨a,Y,rfl,not_false,X,W.py (by simpa [plain] using p)⟩
  ·simp[plain] at p
 |_=>exact h.py p
def kL:D->Bool
 | .str _=>ό
 |_=>ύ
def YD (h:kL d=ό):∃x,d=.str x:=by cases d<;>first|exact⟨_,rfl⟩|cases h
def fx (x y:D):Option Bool:=if (kL x&&kL y)=ό then ϊ (beq x y) else if (lay x&&lay y&&ώ (min (dep x) (dep y)<=100))=ό then ϊ (beq x y) else ϋ
def aZ (x y:D) (s:ae):Res D:=match fx (res x s) (res y s) with
 |some b=>ok (.bl b) s
 |none=>ϋ
def cG (x y:D) (s:ae):Res D:=match fx (res x s) (res y s) with
 |some b=>ok (.bl (!b)) s
 |none=>ϋ
def Lb (S:aS K w) (hx:DV K w x v) (hy:DV K w y u) (h:fx (res x w.aG) (res y w.aG)=ϊ b) :
  (EV v u=ό/\ώ (v=u)=b)\/∃(d e:PyData),L2.DV K (λ_=>False) w.H d v/\L2.DV K (λ_=>False) w.H e u/\d.canLay0=ό/\e.canLay0=ό/\min d.depth e.depth<=100/\Ķ d e=b:=by
 have str:∀{d:D} {v:V},kL (res d w.aG)=ό->DV K w d v->∃x,res d w.aG=.str x/\v=.str x:=λ{d v} hs W=>by
  obtain⟨x,e⟩:=YD hs
  cases d with
  |str y=>cases e;exact⟨x,rfl,W⟩
  |aK k =>
   delta res at e;simp only at e
   split at e<;>cases e
  |_=>cases e
 delta fx at h;split at h
 ·rename_i hs
  rw[Å] at hs;obtain⟨a,U,rfl⟩:=str hs.1 hx;obtain⟨c,T,rfl⟩:=str hs.2 hy;rw[U,T] at h;exact .inl ⟨rfl,by rw[<- afo h];exact CB⟩
 split at h
 ·rename_i X
  right;erw[Å,É] at X;obtain⟨⟨Z,Y⟩,R⟩:=X;obtain⟨Q,P⟩:=kS _ Z;obtain⟨O,N⟩:=kS _ Y;exact⟨_,_,hx.res S (p6 _ Z),hy.res S (p6 _ Y),Q,O,by rw[P,N];exact R,by rw[sM _ _ Z Y];exact afo h⟩
 ·cases h
section
variable {X:Cx} {Ξ:Wd->bb->Prop}
def cE (hr:ck k X.A):bF X (Ğ .Eq) (rO X.K Ξ aZ):=by
 intro W s σ H x y v u Q I V U zzz;obtain⟨w,J,G,rfl,S,T,R,h⟩:=zzz;delta aZ at h;split at h
 ·rename_i b P
  rcases Lb S T R P with ⟨Z,Y⟩ | ⟨d,e,Z,Y,O,N,M,L⟩
  ·exact Z4 W s σ w.H x y v u Q I V U ⟨Z,by rw[Y];exact ax S h _ rfl⟩
  exact Yt hr W s σ w.H x y v u Q I V U ⟨d,e,_,Z,Y,O,N,M,by erw[Ç,õ];rw[L];exact ax S h _ rfl⟩
 ·exact h.elim
def i5 (hr:ck k X.A):bF X (Ğ .NotEq) (rO X.K Ξ cG):=by
 intro W s σ H x y v u Q I V U zzz;obtain⟨w,J,G,rfl,S,T,R,h⟩:=zzz;delta cG at h;split at h
 ·rename_i b P
  rcases Lb S T R P with ⟨Z,Y⟩ | ⟨d,e,Z,Y,O,N,M,L⟩
  ·exact MV W s σ w.H x y v u Q I V U ⟨Z,by rw[Y];exact ax S h _ rfl⟩
  exact Yu hr W s σ w.H x y v u Q I V U ⟨d,e,_,Z,Y,O,N,M,by erw[ÿ];rw[L];exact ax S h _ rfl⟩
 ·exact h.elim
end
end DI
namespace DI
open PySem L2
def bW (r:Option D) (s:ae):Res D:=match r with
 |some d=>ok d s
 |none=>ϋ
def fI (h:Out K Ξ w (bW r w.aG) k):∃d,r=ϊ d/\Out K Ξ w (ok d w.aG) k:=by
 delta bW at h;split at h
 ·exact⟨_,rfl,h⟩
 ·exact h.elim
def oS (xs ys:List D):Bool:=ώ (xs.length+ys.length<=Ù)
def As:D->D->Option D
 | .int i,.int j=>ϊ (.int (i+j))
 | .tup Z,.tup Y=>if oS Z Y=ό then ϊ (.tup (Z++Y)) else ϋ
 | .lst Z,.lst Y=>if oS Z Y=ό then ϊ (.lst (Z++Y)) else ϋ
 | .str x,.str y=>if ώ (x.length+y.length<=Ù)=ό then ϊ (.str (x++y)) else ϋ
 |_,_=>ϋ
def aY (x y:D) (s:ae):Res D:=bW (As (res x s) (res y s)) s
def Oe:D->D->Option D
 | .int i,.int j=>ϊ (.int (i-j))
 |_,_=>ϋ
def oy (x y:D) (s:ae):Res D:=bW (Oe x y) s
def wt (i j:Int):Bool:=(ώ (-(2 ^ 64)<i)&&ώ (i<2 ^ 64))||(ώ (-(2 ^ 64)<j)&&ώ (j<2 ^ 64))
def E7:D->D->Option D
 | .int i,.int j=>if wt i j=ό then ϊ (.int (i*j)) else ϋ
 | .tup Z,.int k=>if (!Z.isEmpty&&ώ (1<=k)&&ώ (Z.length*k.toNat<=Ù))=ό then ϊ (.tup (Ø k.toNat Z).flatten) else ϋ
 | .lst Z,.int k=>if (ώ (-(2 ^ 63)<=k)&&ώ (k<2 ^ 63)&&ώ (Z.length*k.toNat<=Ù))=ό then ϊ (.lst (Ø k.toNat Z).flatten) else ϋ
 |_,_=>ϋ
def iJ (x y:D) (s:ae):Res D:=bW (E7 x y) s
def E8:D->D->Option D
 | .int i,.int j=>if ώ (0<j)=ό then ϊ (.int (i % j)) else ϋ
 |_,_=>ϋ
def nv (x y:D) (s:ae):Res D:=bW (E8 x y) s
def E9:D->D->Option D
 | .int i,.int j=>if (ώ (0<j)&&ώ (j<1073741824))=ό then ϊ (.int (i / j)) else ϋ
 |_,_=>ϋ
def wu (x y:D) (s:ae):Res D:=bW (E9 x y) s
def Fb:D->D->Option D
 | .int i,.int j=>if (ώ (0<=j)&&ώ (j<=1000000)&&ώ (i.natAbs<2 ^ 64))=ό then ϊ (.int (i ^ j.toNat)) else ϋ
 |_,_=>ϋ
def wx (x y:D) (s:ae):Res D:=bW (Fb x y) s
def Of:D->Option D
 | .int i=>ϊ (.int (-i))
 |_=>ϋ
def ji (x:D) (s:ae):Res D:=bW (Of x) s
theorem aq.flat (h:aq K w ds vs):∀n:Nat,aq K w (Ø n ds).flatten (Ø n vs).flatten
 |0=>rfl
 |n+1=>by
  rw[ř,ř,Ś,Ś];exact aq.append h (aq.flat h n)
def jz (S:aS K w) (h:DV K w d v) (e:res d w.aG=.lst ds):∃a xs,v=.ref a/\w.H a=ϊ (.lst xs)/\aq K w ds xs:=by
 delta res at e;split at e
 ·rename_i k
  split at e
  ·rename_i V Z
   cases e;obtain⟨a,e1,rfl⟩:=h;obtain⟨xs,Y,X⟩:=S.cell k a _ e1 Z;exact⟨a,xs,rfl,Y,X⟩
  ·cases e
 ·subst e
  erw[DV] at h;obtain⟨a,xs,e,W,r⟩:=h;exact⟨a,xs,e,W.2,r⟩
def fu (h:res d s=e) (hl:∀ds,e≠.lst ds):d=e:=by
 delta res at h;split at h
 ·split at h
  ·exact absurd h.symm (hl _)
  ·exact h
 ·exact h
section
variable {X:Cx} {Ξ:Wd->bb->Prop}
def wV (S:aS K w) (ai:aq K w ds vs) (h:Out K Ξ w (ok (D.tup ds) w.aG) λw' d=>∀v,DV K w' d v->Q v w'.H):oO K w.H vs Q:=λa Z e Y =>
 h (w.same Z) (Fw.same e).le (S.same e) rfl 6e2 ⟨a,vs,rfl,Y,(Fw.same e).le.all ai⟩
def tM {K:İ} {w:Wd} {ds:List D} {vs:List V} {Q:VK} (S:aS K w) (ai:aq K w ds vs) (h:Out K Ξ w (ok (D.lst ds) w.aG) λw' d=>∀v,DV K w' d v->Q v w'.H):∀p,w.H p=ϋ->Q 7e3 (upd w.H p (.lst vs)):=λp Y =>
 h (w.grow p (.lst vs)) (Fw.grow Y).le (S.grow Y) rfl 7e3 ⟨p,vs,rfl,⟨(show ¬ w.Z p from kj S Y),cO⟩,(Fw.grow Y).le.all ai⟩
def YE {K:İ} {w:Wd} {ds:List D} {vs:List V} {Q:VK} (S:aS K w) (ai:aq K w ds vs) (h:Out K Ξ w (ok (D.tup ds) w.aG) λw' d=>∀v,DV K w' d v->Q v w'.H):∀p,w.H p=ϋ->Q 7e3 (upd w.H p (.tup vs)):=λp Z =>
 h (w.grow p (.tup vs)) (Fw.grow Z).le (S.grow Z) rfl 7e3 ⟨p,vs,rfl,bO.of cO,(Fw.grow Z).le.all ai⟩
def bI:bF X (ŏ .Add) (rO X.K Ξ aY):=by
 intro T s σ H x y v u Q I R P zzz;obtain⟨w,J,G,rfl,S,Z,Y,h⟩:=zzz;obtain⟨d,e,h⟩:=fI h;delta As at e;split at e
 ·rename_i i j e1 e2
  rw[fu e1 (by intro _ z;cases z)] at Z;rw[fu e2 (by intro _ z;cases z)] at Y;cases e;cases Z;cases Y;exact Yb T s σ w.H _ _ v u Q I R P 9e0
 ·rename_i M L e1 e2
  rw[fu e1 (by intro _ z;cases z)] at Z;rw[fu e2 (by intro _ z;cases z)] at Y;split at e
  ·rename_i W
   cases e;erw[DV] at Z Y;obtain⟨a,as,rfl,O,V⟩:=Z;obtain⟨b,bs,rfl,N,U⟩:=Y;exact Wo T s σ w.H _ _ v u Q I R P ⟨a,b,as,bs,rfl,rfl,O,N,by rw[<- V.length,<- U.length];exact î W,wV S (V.append U) h⟩
  ·cases e
 ·rename_i M L e1 e2
  split at e
  ·rename_i W
   cases e;obtain⟨a,as,rfl,O,V⟩:=jz S Z e1;obtain⟨b,bs,rfl,N,U⟩:=jz S Y e2;exact Yn T s σ w.H _ _ v u Q I R P ⟨a,b,as,bs,rfl,rfl,O,N,by rw[<- V.length,<- U.length];exact î W,tM S (V.append U) h⟩
  ·cases e
 ·rename_i i j e1 e2
  rw[fu e1 (by intro _ z;cases z)] at Z;rw[fu e2 (by intro _ z;cases z)] at Y;split at e
  ·rename_i W
   cases e;cases Z;cases Y;exact RE T s σ w.H _ _ v u Q I R P ⟨i,j,rfl,rfl,î W,ax S h _ rfl⟩
  ·cases e
 ·cases e
def Nf:bF X (ŏ .Sub) (rO X.K Ξ oy):=by
 intro Z s σ H x y v u Q I Y W zzz;obtain⟨w,T,R,rfl,S,V,U,h⟩:=zzz;obtain⟨d,e,h⟩:=fI h;delta Oe at e;split at e
 ·rename_i i j
  cases e;cases V;cases U;exact Yc Z s σ w.H _ _ v u Q I Y W 9e0
 ·cases e
def qy:bF X (ŏ .Mult) (rO X.K Ξ iJ):=by
 intro V s σ H x y v u Q I U T zzz;obtain⟨w,M,L,rfl,S,Y,R,h⟩:=zzz;obtain⟨d,e,h⟩:=fI h;delta E7 at e;split at e
 ·rename_i i j
  split at e
  ·rename_i Z
   cases e;cases Y;cases R;calc Yd V s σ w.H _ _ v u Q I U T ⟨i,j,rfl,rfl,?_,ax S h _ rfl⟩;delta Aj;simpa [wt] using Z
  ·cases e
 ·rename_i O k
  split at e
  ·rename_i Z
   cases e;cases R;erw[Å,É] at Z;erw[DV] at Y;obtain⟨a,as,rfl,P,W⟩:=Y;have N:=W.length;calc Wz V s σ w.H _ _ v u Q I U T ⟨a,as,k,rfl,rfl,P,?_,Z.1.2,by rw[<- N];exact Z.2,wV S (W.flat _) h⟩;intro z;subst z
   cases O with
   |nil=>simp at Z
   |cons _ _=>cases N
  ·cases e
 ·rename_i O k
  split at e
  ·rename_i Z
   cases e;cases R;erw[Å,É] at Z;erw[DV] at Y;obtain⟨a,as,rfl,P,W⟩:=Y;exact Yo V s σ w.H _ _ v u Q I U T ⟨a,k,as,rfl,rfl,P.2,Z.1.1,Z.1.2,by rw[<- W.length];exact Z.2,tM S (W.flat _) h⟩
  ·cases e
 ·cases e
def sY:bF X (ŏ .Mod) (rO X.K Ξ nv):=by
 intro Z s σ H x y v u Q I Y W zzz;obtain⟨w,R,P,rfl,S,V,U,h⟩:=zzz;obtain⟨d,e,h⟩:=fI h;delta E8 at e;split at e
 ·rename_i i j
  split at e
  ·rename_i T
   cases e;cases V;cases U;exact Ye Z s σ w.H _ _ v u Q I Y W ⟨i,j,rfl,rfl,î T,ax S h _ rfl⟩
  ·cases e
 ·cases e
def Ng:bF X (ŏ .FloorDiv) (rO X.K Ξ wu):=by
 intro Y s σ H x y v u Q I W V zzz;obtain⟨w,R,P,rfl,S,U,T,h⟩:=zzz;obtain⟨d,e,h⟩:=fI h;delta E9 at e;split at e
 ·rename_i i j
  split at e
  ·rename_i Z
   erw[Å,É] at Z;cases e;cases U;cases T;exact Wa Y s σ w.H _ _ v u Q I W V ⟨i,j,rfl,rfl,Z,ax S h _ rfl⟩
  ·cases e
 ·cases e
def Nh:bF X (ŏ .Pow) (rO X.K Ξ wx):=by
 intro Y s σ H x y v u Q I W V zzz;obtain⟨w,R,P,rfl,S,U,T,h⟩:=zzz;obtain⟨d,e,h⟩:=fI h;delta Fb at e;split at e
 ·rename_i i j
  split at e
  ·rename_i Z
   erw[Å,É] at Z;cases e;cases U;cases T;exact Yf Y s σ w.H _ _ v u Q I W V ⟨i,j,rfl,rfl,⟨Z.1.1,Z.1.2,Z.2⟩,ax S h _ rfl⟩
  ·cases e
 ·cases e
def wy:xw X (unaryOp .USub) (rU X.K Ξ ji):=by
 intro Z s σ H x v Q I Y zzz;obtain⟨w,V,rfl,S,W,h⟩:=zzz;obtain⟨d,e,h⟩:=fI h;delta Of at e;split at e
 ·rename_i i
  cases e;cases W;exact LU Z s σ w.H _ v Q I Y ⟨i,rfl,ax S h _ rfl⟩
 ·cases e
def tN (p:Int->Int->Bool):D->D->Option D
 | .int i,.int j=>ϊ (.bl (p i j))
 |_,_=>ϋ
def qJ (x y:D) (s:ae):Res D:=bW (tN (λi j=>ώ (i<=j)) x y) s
def Au (x y:D) (s:ae):Res D:=bW (tN (λi j=>ώ (j<i)) x y) s
def w9 (x y:D) (s:ae):Res D:=bW (tN (λi j=>ώ (j<=i)) x y) s
def Av:bF X (Ğ .LtE) (rO X.K Ξ qJ):=by
 intro Z s σ H x y v u Q I Y W zzz;obtain⟨w,T,R,rfl,S,V,U,h⟩:=zzz;obtain⟨d,e,h⟩:=fI h;delta tN at e;split at e
 ·rename_i i j
  cases e;cases V;cases U;exact Z5 Z s σ w.H _ _ v u Q I Y W 9e0
 ·cases e
def abP:bF X (Ğ .Gt) (rO X.K Ξ Au):=by
 intro Z s σ H x y v u Q I Y W zzz;obtain⟨w,T,R,rfl,S,V,U,h⟩:=zzz;obtain⟨d,e,h⟩:=fI h;delta tN at e;split at e
 ·rename_i i j
  cases e;cases V;cases U;exact Z6 Z s σ w.H _ _ v u Q I Y W 9e0
 ·cases e
def Og:bF X (Ğ .GtE) (rO X.K Ξ w9):=by
 intro Z s σ H x y v u Q I Y W zzz;obtain⟨w,T,R,rfl,S,V,U,h⟩:=zzz;obtain⟨d,e,h⟩:=fI h;delta tN at e;split at e
 ·rename_i i j
  cases e;cases V;cases U;exact Z7 Z s σ w.H _ _ v u Q I Y W 9e0
 ·cases e
def gb:D->Bool
 | .ak=>ό
 |_=>ύ
def sZ (x y:D) (s:ae):Res D:=match y with
 | .ak=>ok (.bl (gb x)) s
 |_=>ϋ
def sO (x y:D) (s:ae):Res D:=match y with
 | .ak=>ok (.bl (!gb x)) s
 |_=>ϋ
def Ma (h:DV K w d v):ώ (v=.ak)=gb d:=by
 cases d with
 |ak=>cases h;rfl
 |bl b=>cases h;rfl
 |int b=>cases h;rfl
 |str b=>cases h;rfl
 |ty b=>cases h;rfl
 |tup Z=>erw[DV] at h;obtain⟨a,Y,rfl,_⟩:=h;rfl
 |lst Z=>erw[DV] at h;obtain⟨a,Y,rfl,_⟩:=h;rfl
 |bU Z=>erw[DV] at h;obtain⟨a,rfl,_⟩:=h;rfl
 |aK k=>erw[DV] at h;obtain⟨a,_,rfl⟩:=h;rfl
 |bV k=>erw[DV] at h;obtain⟨a,rfl,_⟩:=h;rfl
 |exc o _=>erw[DV] at h;obtain⟨a,_,_,rfl,_⟩:=h;rfl
 |cR o _ _=>erw[DV] at h;obtain⟨rfl,_⟩:=h;rfl
def aao:bF X (Ğ .Is) (rO X.K Ξ sZ):=by
 intro Z s σ H x y v u Q I Y W zzz;obtain⟨w,T,R,rfl,S,V,U,h⟩:=zzz;delta sZ at h;split at h
 ·cases U
  exact Yg Z s σ w.H _ _ v u Q I Y W ⟨rfl,by rw[Ma V];exact ax S h _ rfl⟩
 ·exact h.elim
def YF:bF X (Ğ .IsNot) (rO X.K Ξ sO):=by
 intro Z s σ H x y v u Q I Y W zzz;obtain⟨w,T,R,rfl,S,V,U,h⟩:=zzz;delta sO at h;split at h
 ·cases U
  exact Wb Z s σ w.H _ _ v u Q I Y W ⟨rfl,by rw[Ma V];exact ax S h _ rfl⟩
 ·exact h.elim
def pF (d i:D) (s:ae):Option D:=match res d s,i with
 | .lst Z,.int i=>dw Z i
 | .tup Z,.int i=>dw Z i
 | .bV Y,.int i=>(dw Y i).map D.int
 | .str x,.int i=>if ώ (x.length<=Ù)=ό then (dw x.cps.toList i).map λc=>.str 1e2 else ϋ
 |_,_=>ϋ
def ar (x y:D) (s:ae):Res D:=bW (pF x y s) s
theorem aq.at (h:aq K w ds vs) (e:dw ds i=ϊ d):∃v,dw vs i=ϊ v/\DV K w d v:=by
 delta dw at e |-;rw[h.length] at e
 cases hi:gX vs.length i with
 |none=>rw[hi] at e;cases e
 |some j =>
  rw[hi] at e;exact h.get' j d e
def abQ:xA X (rO X.K Ξ ar):=by
 rintro value slice T s σ H x y v u Q I R P ⟨w,B,A,rfl,S,Z,O,h⟩ hs;obtain⟨d,e,N⟩:=fI h;clear h;delta pF at e;split at e
 ·rename_i D i e1
  cases O;obtain⟨a,M,rfl,W,L⟩:=jz S Z e1;obtain⟨z,J,G⟩:=L.at e;exact KZ value slice T s σ w.H _ _ v u Q I R P ⟨a,M,i,z,rfl,rfl,bN.of W,J,ax S N _ G⟩ hs
 ·rename_i D i e1
  cases O;rw[fu e1 (by intro _ z;cases z)] at Z;erw[DV] at Z;obtain⟨a,M,rfl,W,L⟩:=Z;obtain⟨z,J,G⟩:=L.at e;exact Yk value slice T s σ w.H _ _ v u Q I R P ⟨a,M,i,z,rfl,rfl,W,J,ax S N _ G⟩ hs
 ·rename_i U i e1
  cases O;rw[fu e1 (by intro _ z;cases z)] at Z;erw[DV] at Z;obtain⟨a,rfl,W⟩:=Z
  cases Y:dw U i with
  |none=>rw[Y] at e;cases e
  |some n =>
   rw[Y] at e;cases e;calc KZ value slice T s σ w.H _ _ v u Q I R P ⟨a,U.map V.int,i,.int n,rfl,rfl,W.sq,?_,ax S N _ rfl⟩ hs;delta dw at Y |-;rw[Ä]
   cases E:gX U.length i with
   |none=>rw[E] at Y;cases Y
   |some j =>
    rw[E] at Y;show (U.map V.int)[j]?=ϊ (.int n);rw[é,show U[j]?=ϊ n from Y];rfl
 ·rename_i z i e1
  cases O;rw[fu e1 (by intro _ z;cases z)] at Z;cases Z;split at e
  ·rename_i C
   cases F:dw z.cps.toList i with
   |none=>rw[F] at e;cases e
   |some c =>
    rw[F] at e;cases e;exact Dp value slice T s σ w.H _ _ v u Q I R P ⟨z,i,c,rfl,rfl,î C,F,ax S N _ rfl⟩ hs
  ·cases e
 ·cases e
def bt (ha:PE X a 1e0) (hb:PE X b (tE X.K Ξ g)) (hs:KY b:=by intro _ _;rfl):PE X (.Subscript a b pos) (tE X.K Ξ (e2 ar f g)):=cB (aac abQ ha hb hs) zc
def tO (d:D) (s:ae):Option D:=match res d s with
 | .lst Z=>ϊ (.int Z.length)
 | .tup Z=>ϊ (.int Z.length)
 | .bV Y=>ϊ (.int Y.length)
 | .str x=>if ώ (x.length<=Ù)=ό then ϊ (.int x.length) else ϋ
 |_=>ϋ
def cM (ds:List D) (s:ae):Res D:=match ds with
 | [d]=>bW (tO d s) s
 |_=>ϋ
def l9 (h:aq K w [d] vs):∃v,vs=[v]/\DV K w d v:=by
 obtain⟨v,r,rfl,Z,dr⟩:=h;have e:r=[]:=dr;subst e;exact⟨v,rfl,Z⟩
def vN (h:aq K w [d,e] vs):∃v u,vs=[v,u]/\DV K w d v/\DV K w e u:=by
 obtain⟨v,r,rfl,Z,h⟩:=h;obtain⟨u,rfl,Y⟩:=l9 h;exact⟨v,u,rfl,Z,Y⟩
def gQ:cC X (.builtin "len") (rC X.K Ξ cM):=by
 intro U s σ H T R Q I r zzz;obtain⟨w,M,rfl,S,Y,h⟩:=zzz;delta cM at h;split at h
 ·obtain⟨v,rfl,Z⟩:=l9 Y
  obtain⟨d,e,h⟩:=fI h;delta tO at e;split at e
  ·rename_i P e1
   cases e;obtain⟨a,T,rfl,W,Y⟩:=jz S Z e1;exact Bq U s σ w.H _ R Q I r ⟨a,T,rfl,.inl (bN.of W),by rw[<- Y.length];exact ax S h _ rfl⟩
  ·rename_i P e1
   cases e;rw[fu e1 (by intro _ z;cases z)] at Z;erw[DV] at Z;obtain⟨a,T,rfl,W,Y⟩:=Z;exact Bq U s σ w.H _ R Q I r ⟨a,T,rfl,.inr W,by rw[<- Y.length];exact ax S h _ rfl⟩
  ·rename_i O e1
   cases e;rw[fu e1 (by intro _ z;cases z)] at Z;erw[DV] at Z;obtain⟨a,rfl,W⟩:=Z;exact Bq U s σ w.H _ R Q I r ⟨a,O.map V.int,rfl,.inl W.sq,by rw[Ä];exact ax S h _ rfl⟩
  ·rename_i z e1
   rw[fu e1 (by intro _ z;cases z)] at Z;cases Z;split at e
   ·rename_i N
    cases e;exact QG U s σ w.H _ R Q I r ⟨z,rfl,î N,ax S h _ rfl⟩
   ·cases e
  ·cases e
 ·exact h.elim
def il:List D->Option (List Bool)
 | []=>ϊ []
 | .bl b::Z=>(il Z).map λr=>b::r
 |_::_=>ϋ
theorem vO:∀{ds:List D} {bs:List Bool},il ds=ϊ bs->ds=bs.map D.bl
 | [],bs,h=>by cases h;rfl
 | .bl b::ds,bs,h=>by
  erw[il] at h
  cases Z:il ds with
  |none=>rw[Z] at h;cases h
  |some r=>rw[Z] at h;cases h;rw[vO Z];rfl
 | .ak::_,_,h=>by cases h
 | .int _::_,_,h=>by cases h
 | .str _::_,_,h=>by cases h
 | .tup _::_,_,h=>by cases h
 | .lst _::_,_,h=>by cases h
 | .bU _::_,_,h=>by cases h
 | .aK _::_,_,h=>by cases h
 | .ty _::_,_,h=>by cases h
 | .bV _::_,_,h=>by cases h
 | .exc _ _::_,_,h=>by cases h
 | .cR _ _ _::_,_,h=>by cases h
def WC:il (bs.map D.bl)=ϊ bs:=by
 induction bs with
 |nil=>rfl
 |cons b bs ih=>erw[ç,il,ih,acY]
def nG (ds:List D) (s:ae):Res D:=match ds with
 | [d]=>match res d s with
  | .lst Z=>bW ((il Z).map λbs=>.bl (bs.all id)) s
  |_=>ϋ
 |_=>ϋ
def tQ (ds:List D) (s:ae):Res D:=match ds with
 | [d]=>match res d s with
  | .lst Z=>bW ((il Z).map λbs=>.bl (bs.any id)) s
  |_=>ϋ
 |_=>ϋ
def wz (hc:X.calm=ό):cC X (.builtin "all") (rC X.K Ξ nG):=by
 intro V s σ H U T Q I r zzz;obtain⟨w,O,rfl,S,Z,h⟩:=zzz;delta nG at h;split at h
 ·obtain⟨v,rfl,R⟩:=l9 Z
  split at h
  ·rename_i P e1
   obtain⟨d,e,h⟩:=fI h
   cases Y:il P with
   |none=>rw[Y] at e;cases e
   |some bs =>
    rw[Y] at e;cases e;obtain⟨a,U,rfl,W,Z⟩:=jz S R e1;rw[vO Y] at Z;rw[Z.vC] at W;exact Us hc V s σ w.H _ T Q I r ⟨a,bs,rfl,bN.of W,ax S h _ rfl⟩
  ·exact h.elim
 ·exact h.elim
def Ni (hc:X.calm=ό):cC X (.builtin "any") (rC X.K Ξ tQ):=by
 intro V s σ H U T Q I r zzz;obtain⟨w,O,rfl,S,Z,h⟩:=zzz;delta tQ at h;split at h
 ·obtain⟨v,rfl,R⟩:=l9 Z
  split at h
  ·rename_i P e1
   obtain⟨d,e,h⟩:=fI h
   cases Y:il P with
   |none=>rw[Y] at e;cases e
   |some bs =>
    rw[Y] at e;cases e;obtain⟨a,U,rfl,W,Z⟩:=jz S R e1;rw[vO Y] at Z;rw[Z.vC] at W;exact Ut hc V s σ w.H _ T Q I r ⟨a,bs,rfl,bN.of W,ax S h _ rfl⟩
  ·exact h.elim
 ·exact h.elim
def wA (ds:List D) (s:ae):Res D:=match ds with
 | [.int i,.int j]=>ok (.int (if j > i then j else i)) s
 |_=>ϋ
def wB (ds:List D) (s:ae):Res D:=match ds with
 | [.int i,.int j]=>ok (.int (if j<i then j else i)) s
 |_=>ϋ
def YG (hc:X.calm=ό):cC X (.builtin "max") (rC X.K Ξ wA):=by
 intro Z s σ H T Y Q I r zzz;obtain⟨w,R,rfl,S,W,h⟩:=zzz;delta wA at h;split at h
 ·rename_i i j
  obtain⟨v,u,rfl,V,U⟩:=vN W;cases V;cases U;exact SE hc Z s σ w.H _ Y Q I r ⟨i,j,rfl,ax S h _ rfl⟩
 ·exact h.elim
def YH (hc:X.calm=ό):cC X (.builtin "min") (rC X.K Ξ wB):=by
 intro Z s σ H T Y Q I r zzz;obtain⟨w,R,rfl,S,W,h⟩:=zzz;delta wB at h;split at h
 ·rename_i i j
  obtain⟨v,u,rfl,V,U⟩:=vN W;cases V;cases U;exact SF hc Z s σ w.H _ Y Q I r ⟨i,j,rfl,ax S h _ rfl⟩
 ·exact h.elim
def fJ (ds:List D) (s:ae):Res D:=match ds with
 | [d]=>match res d s with
  | .lst Z=>ok (.tup Z) s
  | .tup Z=>ok (.tup Z) s
  |_=>ϋ
 |_=>ϋ
def oh:cC X (.type "tuple") (rC X.K Ξ fJ):=by
 intro U s σ H Y T Q I r zzz;obtain⟨w,O,rfl,S,W,h⟩:=zzz;delta fJ at h;split at h
 ·obtain⟨v,rfl,Z⟩:=l9 W
  split at h
  ·rename_i R e1
   obtain⟨a,Y,rfl,V,W⟩:=jz S Z e1;exact Ig U s σ w.H _ T Q I r ⟨a,Y,rfl,.inl ⟨bN.of V,YE S W h⟩⟩
  ·rename_i R e1
   rw[fu e1 (by intro _ z;cases z)] at Z;have P:=Z;erw[DV] at Z;obtain⟨a,Y,rfl,V,W⟩:=Z;exact Ig U s σ w.H _ T Q I r ⟨a,Y,rfl,.inr ⟨V,ax S h _ P⟩⟩
  ·exact h.elim
 ·exact h.elim
def zY (ds:List D) (s:ae):Res D:=match ds with
 | [d]=>match res d s with
  | .lst Z=>ok (.lst Z) s
  | .tup Z=>ok (.lst Z) s
  |_=>ϋ
 |_=>ϋ
def YI:cC X (.type "list") (rC X.K Ξ zY):=by
 intro U s σ H Y T Q I r zzz;obtain⟨w,P,rfl,S,Z,h⟩:=zzz;delta zY at h;split at h
 ·obtain⟨v,rfl,W⟩:=l9 Z
  split at h
  ·rename_i R e1
   obtain⟨a,Y,rfl,V,Z⟩:=jz S W e1;exact Ii U s σ w.H _ T Q I r ⟨a,Y,rfl,.inl (bN.of V),tM S Z h⟩
  ·rename_i R e1
   rw[fu e1 (by intro _ z;cases z)] at W;erw[DV] at W;obtain⟨a,Y,rfl,V,Z⟩:=W;exact Ii U s σ w.H _ T Q I r ⟨a,Y,rfl,.inr V,tM S Z h⟩
  ·exact h.elim
 ·exact h.elim
end
def mr (n:Nat) (x:D) (ds:List D):Bool:=lay x&&cD ds&&ώ (dep x<=n)
def inD (x:D) (ds:List D):Option Bool:=if mr 100 x ds=ό then ϊ (ds.any λy=>beq y x) else ϋ
def lg (d:D) (s:ae):Option (List D):=match res d s with
 | .lst Z=>ϊ Z
 | .tup Z=>ϊ Z
 |_=>ϋ
def dH (x y:D) (s:ae):Res D:=match lg y s with
 |some Z=>bW ((inD x Z).map D.bl) s
 |none=>ϋ
def gp (x y:D) (s:ae):Res D:=match lg y s with
 |some Z=>bW ((inD x Z).map λb=>D.bl (!b)) s
 |none=>ϋ
def J0 (S:aS K w) (h:DV K w d v) (e:lg d w.aG=ϊ ds):∃a xs,v=.ref a/\(w.H a=ϊ (.lst xs)\/bO K w.H a xs)/\aq K w ds xs:=by
 delta lg at e;split at e
 ·rename_i X e1
  cases e;obtain⟨a,xs,rfl,Z,Y⟩:=jz S h e1;exact⟨a,xs,rfl,.inl Z,Y⟩
 ·rename_i X e1
  cases e;rw[fu e1 (by intro _ z;cases z)] at h;erw[DV] at h;obtain⟨a,xs,rfl,Z,Y⟩:=h;exact⟨a,xs,rfl,.inr Z,Y⟩
 ·cases e
section
variable {X:Cx} {Ξ:Wd->bb->Prop} {π:List (Þ×Obj)} {σ:St} {s:Æ}
theorem Dv (lx:lay x=ό):∀{ds:List D},cD ds=ό->((fQ ds).any λy=>Ķ y (py x))=ds.any λy=>beq y x
 | [],_=>rfl
 |d::ds,h=>by
  erw[cD,Å] at h;erw[fQ,List.any_cons,sM d x h.1 lx,Dv lx h.2]
def Mb (h:inD x ds=ϊ b):lay x=ό/\cD ds=ό/\dep x<=100/\(ds.any λy=>beq y x)=b:=by
 delta inD mr at h;split at h
 ·rename_i Z
  erw[Å,É] at Z;exact⟨Z.1.1,Z.1.2,Z.2,afo h⟩
 ·cases h
def jN (hr:ck k X.A):bF X (Ğ .In) (rO X.K Ξ dH):=by
 intro π s σ H x y v u Q I J T zzz;obtain⟨w,W,B,rfl,S,G,F,h⟩:=zzz;delta dH at h;split at h
 ·rename_i Z E
  obtain⟨d,e,h⟩:=fI h
  cases V:inD W Z with
  |none=>rw[V] at e;cases e
  |some b =>
   rw[V] at e;cases e;obtain⟨U,Y,z,D⟩:=Mb V;obtain⟨R,C⟩:=kS _ U;obtain⟨P,t⟩:=vh _ Y;obtain⟨bs,O⟩:=(G.py (p6 _ U)).reads I J;have N:X.A.units+1+min (aeC (fQ Z)) (py W).depth<aer:=by
    have:=hr.un;rw[C];omega
   obtain⟨a,M,rfl,ha,L⟩:=J0 S F E;have fin:EP X π σ Q (.bool ((fQ Z).any λy=>Ķ y (py W))) s:=⟨.bl b,w.H,I,by rw[Dv U Y,D];rfl,ax S h _ rfl⟩
   rcases ha with ha|ha
   ·obtain⟨cs,rc⟩:=(show L2.DV X.K (λ_=>False) w.H (.list (fQ Z)) 6e2 by erw[L2.DV];exact⟨a,M,rfl,not_false,ha,L.py (pV _ Y)⟩).reads I T
    exact SeqAt.in_list_reads rc O P R N fin
   ·obtain⟨cs,rc⟩:=(show L2.DV X.K (λ_=>False) w.H (.tuple (fQ Z)) 6e2 by erw[L2.DV];exact⟨a,M,rfl,ha,L.py (pV _ Y)⟩).reads I T
    exact SeqAt.in_tuple_reads rc O P R N fin
 ·exact h.elim
def vD (hr:ck k X.A):bF X (Ğ .NotIn) (rO X.K Ξ gp):=by
 intro π s σ H x y v u Q I J T zzz;obtain⟨w,W,B,rfl,S,G,F,h⟩:=zzz;delta gp at h;split at h
 ·rename_i Z E
  obtain⟨d,e,h⟩:=fI h
  cases V:inD W Z with
  |none=>rw[V] at e;cases e
  |some b =>
   rw[V] at e;cases e;obtain⟨U,Y,z,D⟩:=Mb V;obtain⟨R,C⟩:=kS _ U;obtain⟨P,t⟩:=vh _ Y;obtain⟨bs,O⟩:=(G.py (p6 _ U)).reads I J;have N:X.A.units+1+min (aeC (fQ Z)) (py W).depth<aer:=by
    have:=hr.un;rw[C];omega
   obtain⟨a,M,rfl,ha,L⟩:=J0 S F E;have fin:EP X π σ Q (.bool (!(fQ Z).any λy=>Ķ y (py W))) s:=⟨.bl (!b),w.H,I,by rw[Dv U Y,D];rfl,ax S h _ rfl⟩
   rcases ha with ha|ha
   ·obtain⟨cs,rc⟩:=(show L2.DV X.K (λ_=>False) w.H (.list (fQ Z)) 6e2 by erw[L2.DV];exact⟨a,M,rfl,not_false,ha,L.py (pV _ Y)⟩).reads I T
    exact SeqAt.notIn_list_reads rc O P R N fin
   ·obtain⟨cs,rc⟩:=(show L2.DV X.K (λ_=>False) w.H (.tuple (fQ Z)) 6e2 by erw[L2.DV];exact⟨a,M,rfl,ha,L.py (pV _ Y)⟩).reads I T
    exact SeqAt.notIn_tuple_reads rc O P R N fin
 ·exact h.elim
def tP (K:İ) (Ξ:Wd->bb->Prop) (f:afb (Option Int)):TO:=fun σ H Q=>∃w env,w.H=H/\aS K w/\cj K w env σ/\Out K Ξ w (f env w.aG) λZ i=>Q i Z.H
def cX:afb (Option Int):=λ_ s=>ok ϋ s
def bQ (f:afb D):afb (Option Int):=λenv s=>aj 2e2 λd s=>match d with
 | .int i=>ok (ϊ i) s
 |_=>ϋ
variable {e a b:ĳ} {lo hi:Option ĳ} {pos p2 p3 p4:Pos} {f g:afb D}
def Mc (h:PO X lo t) (i:∀ σ H Q,t' σ H Q->t σ H Q):PO X lo t':=λπ s σ H Q I Z=>h π s σ H Q I (i σ H Q Z)
def gS:PO X ϋ (tP X.K Ξ cX):=Mc Wh fun σ H Q Z=>by
 obtain⟨w,env,Y,S,W,h⟩:=Z;subst Y;exact ax S h
def fy (he:PE X e 1e0):PO X (ϊ e) (tP X.K Ξ (bQ f)):=Mc (Wi he) fun σ H Q Y=>by
 obtain⟨w,env,W,S,V,h⟩:=Y;subst W;refine⟨w,env,rfl,S,V,(Out.aj h).mono λR d P U Z v T=>?_⟩
 cases d with
 |int i=>exact⟨i,T,ax U Z⟩
 |_=>exact Z.elim
def cutD (xs:List D) (lo hi:Option Int):List D:=(xs.drop (HT.aP xs.length 0 lo)).take (HT.aP xs.length xs.length hi-HT.aP xs.length 0 lo)
def ql (d:D) (lo hi:Option Int) (s:ae):Res D:=match res d s with
 | .tup Z=>ok (.tup (cutD Z lo hi)) s
 | .lst Z=>ok (.lst (cutD Z lo hi)) s
 |_=>ϋ
def dI (f:afb D) (l h:afb (Option Int)):afb D:=λenv s=>aj 2e2 λd s=>aj (l env s) λlo s=>aj (h env s) λhi s=>ql d lo hi s
def rSl (K:İ) (Ξ:Wd->bb->Prop):V->Option Int->Option Int->Hp->VK->Prop:=λx lo hi H Q=>∃w Z,w.H=H/\aS K w/\DV K w Z x/\Out K Ξ w (ql Z lo hi w.aG) λY d=>∀v,DV K Y d v->Q v Y.H
def YJ:rf X (rSl X.K Ξ):=by
 intro π s σ H x v U T lo hi sl Q I R hs P pu zzz;obtain⟨w,N,rfl,S,Y,h⟩:=zzz;delta ql at h;split at h
 ·rename_i O e1
  rw[fu e1 (by intro _ z;cases z)] at Y;erw[DV] at Y;obtain⟨a,W,rfl,V,Z⟩:=Y;calc Wn π s σ w.H _ v U T lo hi sl Q I R hs P pu ⟨a,W,rfl,V,wV S ?_ h⟩;delta cutD lq;rw[Z.length];exact(Z.drop _).take _
 ·rename_i O e1
  obtain⟨a,W,rfl,V,Z⟩:=jz S Y e1;calc Wl π s σ w.H _ v U T lo hi sl Q I R hs P pu ⟨a,W,rfl,bN.of V,tM S ?_ h⟩;delta cutD lq;rw[Z.length];exact(Z.drop _).take _
 ·exact h.elim
def kE (he:PE X e 1e0) (hl:PO X lo (tP X.K Ξ fl)) (hu:PO X hi (tP X.K Ξ fh)):PE X (.Subscript e (.Slice lo hi ϋ p2) pos) (tE X.K Ξ (dI f fl fh)) :=
 cB (JS YJ he hl hu) fun σ H Q V=>by
  obtain⟨w,env,U,S,Z,h⟩:=V;subst U;exact⟨w,env,rfl,S,Z,(Out.aj h).mono λT d Y R P v O=>⟨T,env,rfl,R,Z.le Y,(Out.aj P).mono λN i W M L=>⟨N,env,rfl,M,Z.le (Y.trans W),(Out.aj L).mono λJ j I G F=>⟨J,d,rfl,G,(W.trans I) _ _ O,F⟩⟩⟩⟩
def tR (d x:D) (s:ae):Res D:=match d with
 | .aK k=>match s[k]? with
  |some (.lst Z)=>if ώ (Z.length<Ù)=ό then ok .ak (s.set k (.lst (Z++[x]))) else ϋ
  |_=>ϋ
 |_=>ϋ
def qK (d:D) (s:ae):Bool:=match d with
 | .aK k=>match s[k]? with
  |some (.lst _)=>ό
  |_=>ύ
 |_=>ύ
def xa (f g:afb D):afb D:=λenv s=>aj 2e2 λd s=>if qK d s=ό then aj (g env s) λx s=>tR d x s else ϋ
def WD (S:aS K w) (dv:DV K w d v) (h:qK d w.aG=ό):∃k a ds xs,d=.aK k/\v=.ref a/\w.ρ[k]?=ϊ a/\w.aG[k]?=ϊ (.lst ds)/\w.H a=ϊ (.lst xs)/\aq K w ds xs:=by
 delta qK at h;split at h
 ·rename_i k
  split at h
  ·rename_i ds Z
   obtain⟨a,e1,rfl⟩:=dv;obtain⟨xs,Y,X⟩:=S.cell k a _ e1 Z;exact⟨k,a,ds,xs,rfl,rfl,e1,Z,Y,X⟩
  ·cases h
 ·cases h
def YK (S:aS K w) (dv:DV K w d v) (du:DV K w y u) (h:Out K Ξ w (tR d y w.aG) q):∃a xs,v=.ref a/\w.H a=ϊ (.lst xs)/\xs.length<Ù/\∃w',w'.H=upd w.H a (.lst (xs++[u]))/\q w' .ak:=by
 delta tR at h;split at h
 ·rename_i k
  split at h
  ·rename_i Z Y
   split at h
   ·rename_i V
    obtain⟨a,e1,rfl⟩:=dv;obtain⟨xs,U,X⟩:=S.cell k a _ e1 Y;have W:(Cell.lst Z)≠.dead:=by intro z;cases z
    have le:=(Fw.put (K:=K) (o:=.lst (xs++[u])) (c:=.lst (Z++[y])) S e1 Y W).le;calc⟨a,xs,rfl,U,by rw[<- X.length];exact î V,w.put k a (.lst (xs++[u])) (.lst (Z++[y])),rfl,?_⟩;exact h _ le (S.E3 e1 Y W ⟨_,cO,le.all (X.append (aq.one du))⟩) rfl
   ·exact h.elim
  ·exact h.elim
 ·exact h.elim
def Nj {o:ĳ} {apos ba:Pos} (ho:PE X o 1e0) (ha:PE X a (tE X.K Ξ g))
  (jD:ſ o "append" X.env (ŗ o X.env)=ŗ o X.env:=by rfl)
  (jK:((ŀ ba (Ð [a] X.env)).all (λx=>!x.1)&&(aeL ba (acW [] X.env)).all (λx=>x.1.isSome)
   && ώ 3e2)=ό:=by rfl)
  (jE:7e4=ό:=by rfl) (hs:Ð [a] X.env=3e3::Ð [] X.env:=by rfl) (gZ:(ŀ ba (Ð [] X.env)).any (·.1)=ύ:=by rfl) :
  PE X (.Call (.Attribute o "append" apos) [a] [] ba) (tE X.K Ξ (xa f g)) :=
 cB (sV adR PySem.F.slot_list_append PySem.F.type_list_append SH ho (gn ha iD hs) jD jK jE hs gZ) fun σ H Q T=>by
  obtain⟨w,env,Z,S,W,h⟩:=T;subst Z;calc⟨w,env,rfl,S,W,(Out.aj h).mono λR d P V Y v U=>?_⟩;split at Y
  ·rename_i O
   obtain⟨k,p,t,N,rfl,rfl,e1,e2,M,s⟩:=WD V U O;calc⟨.inl ⟨rfl,N,bN.of M⟩,R,env,rfl,V,W.le P,(Out.aj Y).mono λr y L J I u G=>?_⟩;obtain⟨E,D,C,B,A,q,Z,z⟩:=YK J (L _ _ U) G I;calc⟨E,D,u,C,rfl,B,A,?_⟩;rw[<- Z];exact z _ rfl
  ·exact Y.elim
def oU (d i x:D) (s:ae):Option ae:=match d,i with
 | .aK k,.int n=>match s[k]? with
  |some (.lst Z)=>(gX Z.length n).map λj=>s.set k (.lst (Z.set j x))
  |_=>ϋ
 |_,_=>ϋ
def qL (f o i:afb D):afb Fl:=λenv s=>aj 2e2 λx s=>aj (o env s) λd s=>aj (i env s) λn s=>match oU d n x s with
 |some Z=>ok (.nx env) Z
 |none=>ϋ
def YL (S:aS K w) (dv:DV K w d v) (dn:DV K w i n) (du:DV K w x u) (h:oU d i x w.aG=ϊ s'):∃a xs k j,v=.ref a/\n=.int k/\w.H a=ϊ (.lst xs)/\gX xs.length k=ϊ j/\∃w',w'.H=upd w.H a (.lst (xs.set j u))/\w'.aG=s'/\Le K w w'/\aS K w':=by
 delta oU at h;split at h
 ·rename_i k m
  split at h
  ·rename_i Z Y
   cases X:gX Z.length m with
   |none=>rw[X] at h;cases h
   |some j =>
    rw[X] at h;cases h;obtain⟨a,e1,rfl⟩:=dv;obtain⟨xs,U,W⟩:=S.cell k a _ e1 Y;have V:(Cell.lst Z)≠.dead:=by intro z;cases z
    have le:=(Fw.put (K:=K) (o:=.lst (xs.set j u)) (c:=.lst (Z.set j x)) S e1 Y V).le;exact⟨a,xs,m,j,rfl,dn,U,by rw[<- W.length];exact X,w.put k a (.lst (xs.set j u)) (.lst (Z.set j x)),rfl,rfl,le,S.E3 e1 Y V ⟨_,cO,le.all (W.set du j)⟩⟩
  ·cases h
 ·cases h
def Nk (he:PE X e 1e0) (ho:PE X o (tE X.K Ξ fo)) (hi:PE X i (tE X.K Ξ fi))
 (ha:∀v,aeJ (.Subscript o i oV) X.env v=(do
   let ov <- aej [v] (ŗ o X.env)
   let iv <- aej [v,ov] (ŗ i X.env)
   aeU oV
   aej [v,ov,iv] (setItem ov iv v)
   release [v,ov,iv] []):=by intro _;rfl)
 (hs:ac6 [.Subscript o i oV] e pos.line X.env=pure ύ:=by rfl) (hw:ac7 [.Subscript o i oV] e X.env=pure ϋ:=by rfl)
 (h1:(Ř [.Subscript o i oV] X.env).map (·.2)=[aeJ (.Subscript o i oV) X.env]:=by rfl):PS X (.Assign [.Subscript o i oV] e pos) (tS X.K Ξ (qL f fo fi)) :=
 kQ (LS he (X6 ho hi set_list ha) hs hw h1) λt σ H Q=>by
  obtain⟨w,env,W,S,Z,h⟩:=Q;subst W;calc⟨w,env,rfl,S,Z,(Out.aj h).mono λP x V O h1 u N=>?_⟩;calc⟨P,env,rfl,O,Z.le V,(Out.aj h1).mono λM d U L J v I=>?_⟩;refine⟨M,env,rfl,L,Z.le (V.trans U),(Out.aj J).mono λG n T F Y m E=>?_⟩
  cases R:oU d n x G.aG with
  |none=>rw[R] at Y;exact Y.elim
  |some s =>
   rw[R] at Y;obtain⟨a,D,k,j,e1,e2,C,B,A,W,z,le,y⟩:=YL F (T _ _ I) E ((U.trans T) _ _ N) R;calc⟨a,D,k,j,e1,e2,C,B,?_⟩;rw[<- W];exact Y A le y z σ (Z.le (V.trans (U.trans (T.trans le))))
end
def kd (d:D) (s:ae):Option Kn:=match res d s with
 | .ak=>ϊ .ak
 | .bl _=>ϊ .bl
 | .int _=>ϊ .int
 | .str _=>ϊ .str
 | .tup _=>ϊ .tup
 | .lst _=>ϊ .lst
 | .bU _=>ϊ .bU
 |_=>ϋ
def Nl (S:aS K w) (h:DV K w d v) (e:kd d w.aG=ϊ k):pf K w.H v k:=by
 delta kd at e
 split at e<;>rename_i e1<;>first | (cases e;done) | (try cases e)
 ·rw[fu e1 (by intro _ z;cases z)] at h;cases h;trivial
 ·rw[fu e1 (by intro _ z;cases z)] at h;cases h;trivial
 ·rw[fu e1 (by intro _ z;cases z)] at h;cases h;trivial
 ·rw[fu e1 (by intro _ z;cases z)] at h;cases h;trivial
 ·rw[fu e1 (by intro _ z;cases z)] at h
  erw[DV] at h;obtain⟨a,Y,rfl,Z,_⟩:=h;exact⟨Y,Z⟩
 ·obtain⟨a,Y,rfl,Z,_⟩:=jz S h e1
  exact⟨Y,bN.of Z⟩
 ·rw[fu e1 (by intro _ z;cases z)] at h
  erw[DV] at h;obtain⟨a,rfl,_,Z⟩:=h;exact⟨_,Z⟩
def Nm (T:String):Bool:=T=="int"||T=="bool"||T=="str"||T=="tuple"||T=="list"
def dZ (ds:List D) (s:ae):Res D:=match ds with
 | [d,.ty T]=>if Nm T=ό then bW ((kd d s).map λk=>.bl (tJ k T)) s else ϋ
 |_=>ϋ
section
variable {X:Cx} {Ξ:Wd->bb->Prop} {e a b:ĳ} {es:List ĳ} {pos:Pos} {f g:afb D} {fa:afb (List D)}
def jF:cC X 6e3 (rC X.K Ξ dZ):=by
 intro Z s σ H M Y Q I r zzz;obtain⟨w,L,rfl,S,R,h⟩:=zzz;delta dZ at h;split at h
 ·rename_i d T
  obtain⟨v,u,rfl,P,O⟩:=vN R;have N:u=.ty T:=O;subst N;split at h
  ·rename_i U
   obtain⟨J,e,h⟩:=fI h
   cases V:kd d w.aG with
   |none=>rw[V] at e;cases e
   |some k =>
    rw[V] at e;cases e;have W:=Nl S P V;erw[Nm,ψ,beq_iff_eq] at U
    rcases U with (((rfl|rfl)|rfl)|rfl)|rfl
    ·exact QH Z s σ w.H _ Y Q I r ⟨v,k,rfl,W,ax S h _ rfl⟩
    ·exact Qv Z s σ w.H _ Y Q I r ⟨v,k,rfl,W,ax S h _ rfl⟩
    ·exact QI Z s σ w.H _ Y Q I r ⟨v,k,rfl,W,ax S h _ rfl⟩
    ·exact Ql Z s σ w.H _ Y Q I r ⟨v,k,rfl,W,ax S h _ rfl⟩
    ·exact Qw Z s σ w.H _ Y Q I r ⟨v,k,rfl,W,ax S h _ rfl⟩
  ·exact h.elim
 ·exact h.elim
def jO (hv:ü x=ϊ (.type T)) (hg:Gl X x) (hm:X.mg x=ϋ) (hn:x≠"__name__":=by decide) (hd:0e8=ύ:=by decide):PE X (.Name x pos) (tE X.K Ξ (eC (.ty T))):=qw (v:=.ty T) (yY hg hm hv rfl hn hd) λ_=>rfl
def my (g:∃t,X.mg x=ϊ (.int i t)) (hg:Gl X x) (hd:0e8=ύ:=by decide):PE X (.Name x pos) (tE X.K Ξ (eC 4e5)):=by
 obtain⟨t,e⟩:=g;exact qw (v:=.int i) (Cz hg e ⟨t,rfl⟩ hd) λ_=>rfl
def xb (d:D) (s:ae):Res D:=bW ((kd d s).map λk=>.bl (ώ (k=.tup)||ώ (k=.lst))) s
def oz:List D->Option (List Int)
 | []=>ϊ []
 | .int i::Z=>(oz Z).map λr=>i::r
 |_::_=>ϋ
theorem Cc:∀{ds:List D} {ns:List Int},oz ds=ϊ ns->ds=ns.map D.int
 | [],ns,h=>by cases h;rfl
 | .int b::ds,ns,h=>by
  erw[oz] at h
  cases Z:oz ds with
  |none=>rw[Z] at h;cases h
  |some r=>rw[Z] at h;cases h;rw[Cc Z];rfl
 | .ak::_,_,h=>by cases h
 | .bl _::_,_,h=>by cases h
 | .str _::_,_,h=>by cases h
 | .tup _::_,_,h=>by cases h
 | .lst _::_,_,h=>by cases h
 | .bU _::_,_,h=>by cases h
 | .aK _::_,_,h=>by cases h
 | .ty _::_,_,h=>by cases h
 | .bV _::_,_,h=>by cases h
 | .exc _ _::_,_,h=>by cases h
 | .cR _ _ _::_,_,h=>by cases h
def Js:oz 2e8=ϊ ns:=by
 induction ns with
 |nil=>rfl
 |cons b bs ih=>erw[ç,oz,ih,acY]
def mB (i:Int):List Int->List Int
 | []=>[i]
 |j::r=>if i<j then i::j::r else if i=j then j::r else j::mB i r
def dS:List Int->List Int
 | []=>[]
 |i::r=>mB i (dS r)
theorem Cd:∀{l:List Int},k∈mB i l↔k=i\/k∈l
 | []=>by simp[mB]
 |j::r=>by
  delta mB;split
  ·simp
  ·split
   ·rename_i h;subst h;simp
   ·rw[Ï,Cd,Ï]
    constructor
    ·rintro (h|h|h)
     ·exact .inr (.inl h)
     ·exact .inl h
     ·exact .inr (.inr h)
    ·rintro (h|h|h)
     ·exact .inr (.inl h)
     ·exact .inl h
     ·exact .inr (.inr h)
theorem IC:∀{l:List Int},l.Pairwise (· < ·)->(mB i l).Pairwise (· < ·)
 | [],_=>by simp[mB]
 |j::r,h=>by
  obtain⟨Z,Y⟩:=þ.mp h;delta mB;split
  ·rename_i X
   refine þ.mpr ⟨λk hk=>?_,h⟩
   rcases Ï.mp hk with rfl|hk
   ·exact X
   ·have:=Z k hk;omega
  ·split
   ·exact h
   ·refine þ.mpr ⟨λk hk=>?_,IC Y⟩
    rcases Cd.mp hk with rfl|hk
    ·omega
    ·exact Z k hk
theorem lY:∀{l:List Int},k∈dS l↔k∈l
 | []=>by simp[dS]
 |i::r=>by simp[dS,Cd,lY]
theorem u6:∀(l:List Int),(dS l).Pairwise (· < ·)
 | []=>List.Pairwise.nil
 |i::r=>IC (u6 r)
theorem ym:∀{l m:List Int},l.Pairwise (· < ·)->m.Pairwise (· < ·)->(∀k,k∈l↔k∈m)->l=m
 | [],[],_,_,_=>rfl
 | [],j::m,_,_,h=>by have:=(h j).mpr Õ;cases this
 |i::l,[],_,_,h=>by have:=(h i).mp Õ;cases this
 |i::l,j::m,W,V,h=>by
  obtain⟨Y,U⟩:=þ.mp W;obtain⟨X,T⟩:=þ.mp V;have e:i=j:=by
   rcases Ï.mp ((h i).mp Õ) with e|e
   ·exact e
   ·rcases Ï.mp ((h j).mpr Õ) with e'|e'
    ·exact e'.symm
    ·have:=X i e;have:=Y j e';omega
  subst e;congr 1;calc ym U T λk=>?_;constructor
  ·intro Z
   rcases Ï.mp ((h k).mp (Ì _ Z)) with e|e
   ·subst e;have:=Y k Z;omega
   ·exact e
  ·intro Z
   rcases Ï.mp ((h k).mpr (Ì _ Z)) with e|e
   ·subst e;have:=X k Z;omega
   ·exact e
def BO (l:List Int):(dS l).length<=l.length:=by
 induction l with
 |nil=>exact afn _
 |cons x l ih =>
  have:(dS (x::l)).length<=(dS l).length+1:=by
   show (mB x (dS l)).length<=_;generalize dS l=m
   induction m with
   |nil=>exact afn _
   |cons y m Z =>
    delta mB;split
    ·simp
    ·split
     ·simp
     ·erw[æ];omega
  erw[æ];omega
def J1 (ns:List Int):(ns.foldl PyProof.Rows.step_dedup []).length<=(dS ns).length:=sub_len (Bt ns [] adp) λk Z=>lY.mpr ((Jq ns k).mp Z)
def sa (d:D) (s:ae):Res D:=match d with
 | .lst Y=>match oz Y with
  |some Z=>if ώ ((dS Z).length<64)=ό then ok (.lst ((dS Z).map D.int)) s else ϋ
  |none=>ϋ
 |_=>ϋ
def RU {p p2 jm:Pos} (ha:PE X a 1e0) (hc:X.calm=ό) (hg:Gl X "sorted") (hm:X.mg "sorted"=ϋ) (hv:ü "sorted"=ϊ (.builtin "sorted")) (xO:Gl X "set") (xP:X.mg "set"=ϋ) (xQ:ü "set"=ϊ (.type "set"))
  (he:Ð [a] X.env=3e3::Ð [] X.env:=by rfl) (bP:(ŀ jm (Ð [] X.env)).any (·.1)=ύ:=by rfl)
  (pG:Ð [.Call (.Name "set" p2) [a] [] jm] X.env=(ύ,ŗ (.Call (.Name "set" p2) [a] [] jm) X.env)::Ð [] X.env:=by rfl) (xc:(ŀ pos (Ð [] X.env)).any (·.1)=ύ:=by rfl) :
  PE X (.Call (.Name "sorted" p) [.Call (.Name "set" p2) [a] [] jm] [] pos) (tE X.K Ξ (e1 sa f)) :=
 cB (rW (Im hc) hg hm hv (gn (yD (RQ hc) xO xP xQ (gn ha iD he) 0e0 0e0 he bP) iD pG) 0e0 0e0 pG xc) fun σ H Q J=>by
  obtain⟨w,env,I,S,G,h⟩:=J;subst I;calc⟨w,env,rfl,S,G,(Out.aj h).mono λU d A F W v P=>?_⟩;delta sa at W;split at W
  ·rename_i z
   split at W
   ·rename_i Y E
    split at W
    ·rename_i T
     have T:=î T;erw[DV] at P;obtain⟨p,y,rfl,O,N⟩:=P;rw[Cc E] at N;rw[N.B9] at O;have D:=adS (J1 Y) T;calc⟨p,Y,rfl,O.sq,by omega,λq M=>?_⟩;calc⟨q,Y,rfl,cO,D,λl x C hs B=>?_⟩;have e:=ym hs (u6 Y) λk=>(B k).trans lY.symm;subst e;have R:(U.grow q (.ext (i3 X.prog X.w q Y))).H l=ϋ:=C;have L:=F.grow (o:=.ext (i3 X.prog X.w q Y)) M;exact W ((U.grow q (.ext (i3 X.prog X.w q Y))).grow l (.lst ((dS Y).map V.int))) ((Fw.grow M).le.trans (Fw.grow R).le) (L.grow R) rfl (.ref l) ⟨l,_,rfl,⟨(show ¬ (U.grow q (.ext (i3 X.prog X.w q Y))).Z l from kj L R),cO⟩,aq.ints _⟩
    ·exact W.elim
   ·exact W.elim
  ·exact W.elim
def tU (i j:Nat) (fa:afb 4e7):afb Fl:=λenv s=>aj (fa env s) λZ s=>match Z with
 | [x,y]=>ok (.nx ((env.set i (ϊ x)).set j (ϊ y))) s
 |_=>ϋ
def Dw (i j:Nat) {x y:Str} {px py pt:Pos} {kt k2 i7} (hc:X.calm=ό) (hN:X.N.Nodup) (ha:PA X [a,b] 7e8) (hi:X.N[i]?=ϊ x:=by rfl) (hj:X.N[j]?=ϊ y:=by rfl) (fC:i≠j:=by decide)
  (hx:X.env.scope.names.lookup x=ϊ .local:=by rfl) (hy:X.env.scope.names.lookup y=ϊ .local:=by rfl)
  (hw:ac7 [.Tuple [.Name x px,.Name y py] kt pt] (.Tuple [a,b] k2 i7) X.env=pure (ϊ [x,y]):=by rfl)
  (hs:ac6 [.Tuple [.Name x px,.Name y py] kt pt] (.Tuple [a,b] k2 i7) pos.line X.env=pure ύ:=by rfl) :
  PS X (.Assign [.Tuple [.Name x px,.Name y py] kt pt] (.Tuple [a,b] k2 i7) pos) (tS X.K Ξ (tU i j fa)):=kQ (X8 hc hN hi hj fC hx hy ha hw hs) λO σ H W=>by
 obtain⟨w,env,V,S,Y,h⟩:=W;subst V;calc⟨w,env,rfl,S,Y,(Out.aj h).mono λM L U T Z J R=>?_⟩;split at Z
 ·obtain⟨v,u,rfl,Q,P⟩:=vN R
  exact⟨v,u,rfl,ax T Z _ (((Y.le U).set Q i).set P j)⟩
 ·exact Z.elim
end
end DI
namespace L2
open PySem PySem.Spec PyProof.Rows
structure DS (Y:Cx) (D:Þ) (π:List 2e7):Prop where
 loc:D≠Y.env.locals
 fs:D∉Y.fs
 new:Y.c8.heap.objs.size<=D
 cell:∀x c,Y.env.cells.lookup x=ϊ c->c≠D
 pin:∀p∈Y.pn++π,p.1≠D
structure rB (Y:Cx) (D:Þ) (nt:Nat) (caps:St) (π:List 2e7) (o:St) (H:Hp) (s:Æ) (acc:List V):Prop where
 inv:Inv Y π (o++caps) H s
 len:o.length=nt
 lst:∃ys,s.heap.PlainList D ys/\Vals acc ys.toList
 free:H D=ϋ
 mL:acc.length<=Ù
abbrev lA:=St->Hp->List V->(St->List V->Hp->Prop)->Prop
def xg (Y:Cx) (D:Þ) (nt:Nat) (caps:St) (c:Code) (m:Sem PySem.Fin) (ta:lA):Prop :=
 ∀(X:List (Þ×Obj)) (o:St) (H:Hp) (s:Æ) (Z:List V) (Q:St->List V->Hp->Prop),DS Y D X->rB Y D nt caps X o H s Z->ta (o++caps) H Z Q ->
  ß (è Y.prog Y.w) Y.A m (λfn S=>fn=.again c/\∃W U T,rB Y D nt caps X W U S T/\Q (W++caps) T U) (λ_ _=>False) s
def CA (J:It) (g:TG) (tf:TT) (ta:lA) (τ:St) (acc:List V) (H:Hp) (Q:St->List V->Hp->Prop):Prop:=∃W:Nat->Nat->St->List V->Hp->Prop,(∃m,W 0 m τ acc H) /\
 ∀i m τ acc Z,W i m τ acc Z->(J.stop i Z/\Q τ acc Z) \/
  (J.go i Z/\∃N:St->List V->Hp->Prop,(∀ X U T,N X U T->∃S,S < m/\W (i+1) S X U T) /\
   ∀x R,J.uq i Z x R->g x τ R fun Y O=>tf Y O λb P=>if b=ό then ta Y P acc N else N Y acc P)
def Nn (te:TE):lA:=fun Y H Z Q=>Z.length+1<=Ù/\te Y H λv X=>Q Y (Z++[v]) X
def Np (wi:TI) (g:TG) (tf:TT) (ta:lA):lA:=fun Y H Z Q=>wi Y H λJ X=>CA J g tf ta Y Z X Q
section
variable {Y:Cx} {D:Þ} {nt:Nat} {caps:St}
def DS.obj (ds:DS Y D π) (B:rB Y D nt caps π o H s acc):∃oD ys nn,s.heap.get? D=ϊ oD/\oD={ cls:=.type "list",data:=.seq ys nn }/\Vals acc ys.toList/\Inv Y (π++[(D,oD)]) (o++caps) H s:=by
 obtain⟨ys,⟨nn,Z⟩,X⟩:=B.lst;refine⟨_,ys,nn,Z,rfl,X,B.inv.m7 λp W=>?_⟩
 rcases Ć.mp W with z|z
 ·exact B.inv.pin p (Ó _ z)
 ·have e:p=(D,{ cls:=.type "list",data:=.seq ys nn }):=by simpa using z
  subst e;exact⟨Z,B.free,ds.loc,ds.fs,λv z=>by cases z⟩
def J2 (hx:Y.xe=λ_ _=>False) (hE:PE Y el te):xg Y D nt caps c ((do let _ <- call (.builtin "list.append") [.ref D,<- ŗ el Y.env]:Sem Unit) >>= λ_=>again c) (Nn te):=by
 intro R o H s W Q Z B h;obtain⟨N,h⟩:=h;obtain⟨M,V,nn,u,L,P,I⟩:=Z.obj B;have q:=hE _ s _ H _ I h;rw[hx] at q;calc À (À (aJ q λy X K=>?_));obtain⟨v,U,O,J,G⟩:=K;have T:=O.pin (D,M) (Ó _ (Ó _ ∅));have F:X.heap.PlainList D V:=⟨nn,by rw[<- L];exact T.1⟩;have S:V.size<=Ù:=by
  have e:=P.length;erw[ë] at e;omega
 calc À (wpAny_list_append_plain (hsz:=S) F λE C A=>Â (Â ⟨rfl,?_⟩));have z:Inv Y R (o++caps) U X:=O.mZ
 have x:Inv Y R (o++caps) U { X with heap:=E,toks:=X.toks }:=z.turned (it:=D) (λb o w e=>(A.2 b w).trans e) T.2.1 Z.loc (.inr Z.new) Z.cell Z.pin
 calc⟨o,U,W++[v],⟨x,B.len,⟨V.push y,C,?_⟩,T.2.1,by rw[à];simpa using N⟩,G⟩;rw[ac9];exact Vals.append P (.cons J .nil)
def IS (hx:Y.xe=λ_ _=>False) (hc:Y.calm=ό)
 (T:Turn Y.prog Y.w Y.K tg J fp it tn) (st0:tn 0 s.heap) (hf:∀b∈fp,eZ Y π H b) (nQ:D∉fp) (hG:PG Y tg g) (fP:mJ g nt) (hF:PF Y tests tf) (hA:xg Y D nt caps (.compLoop e d 4e2 8e8 Y.env) act ta) (ds:DS Y D π) (B:rB Y D nt caps π o H s acc) (hq:(Code.compLoop e d 4e2 8e8 Y.env).quiet=ό)
 (abR:∀(M:Model) (A:ó) (Q':Fin->Æ->Prop) (E':È->Æ->Prop) (s':Æ),ß (è Y.prog Y.w) A (compTurn e d 4e2 8e8 Y.env) Q' (λ_ _=>False) s'->ß (è Y.prog Y.w) (A.under (.compLoop e d 4e2 8e8 Y.env)) ((è Y.prog Y.w).den (.compLoop e d 4e2 8e8 Y.env)) Q' E' s')
 (ht:compTurn e d 4e2 8e8 Y.env=(do
   aeU p0
   match <- acU 4e2 with
   |none=>pure (.done .next)
   |some v =>
    ş tg 4e2 v
    aeJ tg Y.env v
    let mut ok:=ό
    for c in tests do
     if ok then ok <- isTrue c Y.env (ŗ c Y.env)
    if ok then act else again (.compLoop e d 4e2 8e8 Y.env)))
 (h:CA J g tf ta (o++caps) acc H Q) :
  acN (è Y.prog Y.w) Y.A (.compLoop e d 4e2 8e8 Y.env) (λr s'=>r=.ok .next/\∃o' H' jL,rB Y D nt caps π o' H' s' jL/\Q (o'++caps) jL H') s:=by
 obtain⟨W,⟨m0,w0⟩,turn⟩:=h;have F:∀{H':Hp} {pl:List (Þ×Obj)},(∀b∈fp,H' b=ϋ)->(∀p∈pl,p.1∉fp)->∀b∈fp,eZ Y (π++pl) H' b:=λ{H' pl} hn X b Z=>by
  obtain⟨_,f1,rD,f3,f4,f5⟩:=hf b Z;refine⟨hn b Z,f1,rD,f3,f4,λp xR=>?_⟩
  rcases Ć.mp xR with z|z
  ·exact f5 p (Ā _ z)
  ·rcases Ć.mp z with z|z
   ·exact f5 p (Ó _ z)
   ·exact λe=>X p z (e ▸ Z)
 calc codeAny_loop hq (λn s'=>∃i acc o H',rB Y D nt caps π o H' s' acc/\tn i s'.heap/\(∀b∈fp,H' b=ϋ)/\W i n (o++caps) acc H') (λn s3 hJ=>?_) m0 ⟨0,acc,o,H,B,st0,λb Z=>(hf b Z).1,w0⟩;obtain⟨i,acc,o3,O,U,kK,oY,w3⟩:=hJ;calc abR (è Y.prog Y.w) _ _ _ _ ?_;rw[ht];obtain⟨N,L,nn,ho,eo,E,xS⟩:=ds.obj U;have C:∀p∈[(D,N)],p.1∉fp:=λp X=>by
  have e:p=(D,N):=by simpa using X
  subst e;exact nQ
 have uG:∀{pl:List (Þ×Obj)} {R:St} {H':Hp} {s':Æ},Inv Y (π++[(D,N)]++pl) R H' s'->s'.heap.PlainList D L/\H' D=ϋ:=λ{pl R H' s'} I=>by
  have q:=I.pin (D,N) (Ó _ (Ā _ (Ó _ ∅)));exact⟨⟨nn,by rw[<- eo];exact q.1⟩,q.2.1⟩
 refine À (ž (À ?_))
 rcases turn i n _ acc O w3 with ⟨stop,q⟩ | ⟨go,N',hN,step⟩
 ·have y:=T.done Y rfl rfl rfl hc i _ s3 _ O (λ_ _=>False) xS (F oY C) kK stop
  calc aJ y λr s4 P=>?_;obtain⟨t,I4⟩:=P;subst t;obtain⟨Ge,n4⟩:=uG (pl:=[]) (by simpa using I4);exact Â ⟨rfl,o3,O,acc,⟨I4.mZ,U.len,⟨L,Ge,E⟩,n4,U.mL⟩,q⟩
 ·have y:=T.item Y rfl rfl rfl hc i _ s3 _ O (λ_ _=>False) xS (F oY C) kK go
  calc aJ y λr s4 P=>?_;obtain⟨u,t,P⟩:=P;subst t;calc À (aJ P λ_ s5 h5=>?_);obtain⟨x,m,I5,r5,y5,l,xt⟩:=h5;have xu:=I5.pinned (F xt C) (T.obj _ _ l);have q5:=hG _ s5 _ m x u _ xu r5 (fP x o3 _ m _ U.len (step x m y5));rw[hx] at q5;calc À (aJ q5 λ_ s6 h6=>?_);obtain⟨uH,H6,I6,⟨k,xT,Aw⟩,q6⟩:=h6;have V:=hF _ s6 uH H6 _ I6 q6;rw[hx] at V;calc À (aJ V λb s7 h7=>?_);obtain⟨j,G,V⟩:=h7;subst Aw;obtain⟨AS,n7⟩:=uG G;have f:Inv Y (π++oj fp s5.heap) (k++caps) j s7:=G.m7 λp X=>by
   rcases Ć.mp X with z|z
   ·exact G.pin p (Ó _ (Ā _ (Ā _ z)))
   ·exact G.pin p (Ó _ (Ó _ z))
  have xh:∀{R:St} {H':Hp} {s':Æ},Inv Y (π++oj fp s5.heap) R H' s'->tn (i+1) s'.heap/\∀b∈fp,H' b=ϋ:=λ{R H' s'} I=>by
   calc⟨T.keep _ _ _ l λb Z o e=>(I.pin (b,o) (Ó _ (Ó _ (rN Z e)))).1,λb Z=>?_⟩;obtain⟨o,e,_⟩:=T.obj _ _ l b Z;exact(I.pin (b,o) (Ó _ (Ó _ (rN Z e)))).2.1
  cases b with
  |false =>
   rw[Ö Ã] at V;obtain⟨a,hm,w7⟩:=hN _ _ _ V;obtain⟨t7,f7⟩:=xh f;exact Â ⟨rfl,a,hm,i+1,acc,k,j,⟨f.mZ,xT,⟨L,AS,E⟩,n7,U.mL⟩,t7,f7,w7⟩
  |true =>
   rw[Ô rfl] at V;have O4:DS Y D (π++oj fp s5.heap):=⟨ds.loc,ds.fs,ds.new,ds.cell,λp X=>by
    rcases Ć.mp X with z|z
    ·exact ds.pin p (Ā _ z)
    ·rcases Ć.mp z with z|z
     ·exact ds.pin p (Ó _ z)
     ·exact λe=>nQ (e ▸ (Je z).1)⟩
   calc aJ (hA _ k j s7 acc N' O4 ⟨f,xT,⟨L,AS,E⟩,n7,U.mL⟩ V) λfn s8 h8=>?_;obtain⟨efn,o8,H8,abS,S,q8⟩:=h8;subst efn;obtain⟨a,hm,w8⟩:=hN _ _ _ q8;obtain⟨t8,f8⟩:=xh S.inv;exact⟨rfl,a,hm,i+1,abS,o8,H8,⟨S.inv.mZ,S.len,S.lst,S.free,S.mL⟩,t8,f8,w8⟩
end
def Md (A:ó) (Q':Fin->Æ->Prop) (E':È->Æ->Prop) (s':Æ)
 (h:ß 2e0 A (compTurn 2e9 d gW av ce) Q' (λ_ _=>False) s'):ß 2e0 (A.under (.compLoop 2e9 d gW av ce)) ((è P w).den (.compLoop 2e9 d gW av ce)) Q' E' s':=by
 show ß _ A ((compTurn 2e9 d gW av ce).onRaise (λx=>do aeD x ce;theTreesLotGoes x)) _ _ s'
 exact wpAny_noted (ħ h (λ_ _ q=>q) λ_ _ z=>z.elim)
def UN (hd:gens[d]?=ϊ ⟨target,iter,ifs,0⟩)
 (h0:acN 2e0 A (.compLoop 2e9 d it acc env) R s)
 (h:ß 2e0 A (ae9 it) (λmQ s'=>acN 2e0 A (.compLoop 2e9 d mQ acc env) R s') (λ_ _=>False) s) :
  acN 2e0 A (.compStart 2e9 d it acc env) R s:=by
 refine adO ?_
 show ß _ _ ((compStart 2e9 d it acc env).onRaise (λx=>do aeD x env;aeU theWindowsPlace)) _ _ s
 calc wpAny_notedAt ?_;have Z:(clausesOf 2e9)[d]?=ϊ ⟨target,iter,ifs,0⟩:=hd;delta compStart;rw[Z];show ß _ _ (ask >>= _) _ _ s;calc À (ż (wpAny_ite ?_));split
 ·first
   |exact À (Â (Â (ï rfl h0)))
   |exact Â (ï rfl h0)
 ·refine À (ź ?_)
  show ß _ _ (aeU iter.pos >>= _) _ _ s;exact À (ž (À (ħ h (λmQ s' Y=>Â (ï rfl Y)) λ_ _ x=>x.elim)))
section
variable {Y:Cx} {D:Þ} {nt:Nat} {caps:St}
def Ce {el tg src:ĳ} {gens:List Comprehension} {sc:acB} {ps:Pos} {tests:List ĳ} {d:Nat} {wi:TI} {g:TG} {tf:TT} {ta:lA} {act:Þ->Sem PySem.Fin} {c:Code} (hx:Y.xe=λ_ _=>False) (hc:Y.calm=ό) (hd:gens[d]?=ϊ 1e7)
  (hi:PI Y tg src wi) (hG:PG Y tg g) (fP:mJ g nt) (hF:PF Y tests tf) (hA:∀it:Þ,xg Y D nt caps (.compLoop 2e9 d 4e2 8e8 Y.env) (act it) ta)
  (ht:∀it:Þ,compTurn 2e9 d 4e2 8e8 Y.env=(do
   aeU src.pos
   match <- acU 4e2 with
   |none=>pure (.done .next)
   |some v =>
    ş tg 4e2 v
    aeJ tg Y.env v
    let mut ok:=ό
    for c in tests do
     if ok then ok <- isTrue c Y.env (ŗ c Y.env)
    if ok then act it else again (.compLoop 2e9 d 4e2 8e8 Y.env)))
  (hs:∀x,ă src Y.env x=pure x) :
  xg Y D nt caps c (do
   let x <- ŗ src Y.env
   aeU src.pos
   let x <- ă src Y.env x
   let _ <- runOwn (.compStart 2e9 d (<- aej [x] (ae9 x)) 8e8 Y.env) Y.env
   again c) (Np wi g tf ta):=by
 intro X o H s Z Q W B h;obtain⟨V,M,nn,a,L,K,I⟩:=W.obj B;have q:=hi _ s _ H _ I h;rw[hx] at q;calc À (aJ q λv s1 G=>À (ž ?_));rw[hs];calc À (Â (À (Ĉ (aJ G λgW F E=>?_))));obtain⟨it,U,tn,J,S,e,R,T,P,f2,ca⟩:=E;subst e;have O:=R.pin (D,V) (Ó _ (Ó _ ∅));have C:D∉U:=λz=>(f2 D z).2.2.2.2.2 (D,V) (Ó _ (Ó _ ∅)) rfl;have y:∀b∈U,eZ Y X S b:=λb w=>by
  obtain⟨a1,a2,u,t,n,m⟩:=f2 b w;refine⟨a1,a2,u,t,n,λp l=>m p ?_⟩
  rcases Ć.mp l with z|z
  ·exact Ā _ z
  ·exact Ó _ (Ā _ z)
 have k:rB Y D nt caps X o S F Z:=⟨R.mZ,B.len,⟨M,⟨nn,by rw[<- L];exact O.1⟩,K⟩,O.2.1,B.mL⟩;have loop:=IS (e:=.ListComp el gens sc ps) (d:=d) hx hc T P y C hG fP hF (hA it) W k rfl (λ_ A j i N h=>Md A j i N h) (ht it) ca;calc À (wpAny_runOwn ?_);calc Ŋ (UN hd loop (T.self _ _ _ _ _ P loop)) λr N f=>?_;obtain⟨e,q⟩:=f;subst e;exact Â ⟨rfl,q⟩
end
def Me (wi:TI) (nt:Nat) (cap:List Nat) (g:TG) (tf:TT) (ta:lA):TE:=fun σ H Q=>wi σ H λJ X=>CA J g tf ta (Ø nt ϋ++nq cap σ) [] X λ_ Z Y=>∀D,Y D=ϋ->Q 8e8 (upd Y D (.lst Z))
section
variable {X:Cx}
def J3 {el tg src:ĳ} {tests:List ĳ} {rest:List Comprehension} {sc:acB} {ps:Pos} {N:List Str} {nt:Nat} {cap:List Nat} {wi:TI} {g:TG} {tf:TT} {ta:lA} {act:Env->Þ->Þ->Sem PySem.Fin} (hc:X.calm=ό) (S:vJ X sc N nt cap) (fP:mJ g nt) (hi:PI X tg src wi)
  (hY:∀(cl:List (Str×Þ)) (C:Þ) (s:Æ) (H:Hp) (ex:List Þ) (pn:List (Þ×Obj)),PG 1e5 tg g/\PF 1e5 tests tf/\∀D caps it,xg 1e5 D nt caps (.compLoop (.ListComp el (1e7::rest) sc ps) 0 4e2 8e8 (aeM sc cl C X.env)) (act (aeM sc cl C X.env) D it) ta)
  (ht:∀(it D:Þ) (ce:Env),compTurn (.ListComp el (1e7::rest) sc ps) 0 4e2 8e8 ce=(do
   aeU src.pos
   match <- acU 4e2 with
   |none=>pure (.done .next)
   |some v =>
    ş tg 4e2 v
    aeJ tg ce v
    let mut ok:=ό
    for c in tests do
     if ok then ok <- isTrue c ce (ŗ c ce)
    if ok then act ce D it else again (.compLoop (.ListComp el (1e7::rest) sc ps) 0 4e2 8e8 ce)))
  (hs:∀x,ă src X.env x=pure x:=by intro _;rfl):PE X (.ListComp el (1e7::rest) sc ps) (Me wi nt cap g tf ta):=by
 intro π s σ H Q I h;obtain⟨cl,Ed,j⟩:=L0 (env:=X.env) (sc:=sc) λn F=>I.ok.has n (S.frees _ F rfl).2;rw[eval_ListComp];calc wpAny_comprehension_free (use:=ϋ) rfl hs Ed S.kind S.names (aJ (hi π s σ H _ I h) λxv s1 h1=>aJ h1 λgW Z h2=>?_);obtain⟨it,R,tn,J,E,e,U,T,i,f2,ca⟩:=h2;subst e;calc č (wpAny_newFunctionEnv S.vK (by intro y hy;simp at hy) (λh3 B L=>?_) S.kind);dsimp only at B L |-;generalize f:Z.heap.objs.size=D at B L |-;generalize a:Z.heap.push { cls:=.type "list",dict:=ϋ,data:=.seq ([]:List È).toArray }=G at B L |-;generalize Gg:G.objs.size=C at B L |-;have hC:C=D+1:=by rw[<- Gg,<- a,ý,f]
 have rF:D≠C:=by omega
 have P:Z.heap.objs.size<=D:=aeP f;have t:Z.heap.objs.size<=C:=by omega
 have old:∀b o,Z.heap.get? b=ϊ o->h3.get? b=ϊ o:=λb o e=>L.extBut b o (á (Ë (Í e) t)) (Á _ (a ▸ Á _ e));have tL:h3.PlainList D #[]:=⟨_,L.extBut _ _ rF (Á _ (a ▸ f ▸ Ò _ rfl))⟩;have gI:∀b∈R,b<Z.heap.objs.size:=λb O=>by
  obtain⟨o,e,_⟩:=T.obj _ _ i b O;exact Í e
 have IB:=U.block (t':=Z.toks+([]:List (Str×È)).length) S j f2 gI old t ⟨_,B⟩;have Gh:D∉cm X.stack:=λz=>by
  rcases Ï.mp (U.ki D z) with e|e
  ·exact absurd (Ë U.lt P) (by rw[e];exact ñ _)
  ·exact U.tG P e
 have nQ:D∉R:=λz=>absurd (Ë (gI D z) P) (ñ _);have Dx:∀x c,cl.lookup x=ϊ c->c≠D:=λx c e z=>by
  obtain⟨v,o,ho,_⟩:=U.cell x c ((j x c).mp e).2;exact absurd (Ë (Í ho) (by rw[z];exact P)) (ñ _)
 have Ee:∀p∈X.pn++π,p.1≠D:=λp hp z=>absurd (Ë (Í (U.pin p hp).1) (by rw[z];exact P)) (ñ _);have fin:∀(s':Æ) (τ:St) (W:Hp) (acc:List V) (M:Array È),Inv (eU X N sc cl C Z E R (X.pn++π)) [] τ W s'->s'.heap.PlainList D M->Vals acc M.toList->W D=ϋ->acc.length<=Ù->(∀D,W D=ϋ->Q (.ref D) (upd W D (.lst acc))) ->
   aeQ (è X.prog X.w) X.A X.xe ϋ (EP X π σ Q) (.ref D) C (.ok .next) s':=by
  intro s' τ W acc M K pl rv F hz q;obtain⟨m,hm,_⟩:=id K.loc;calc⟨m,hm,λl sb=>?_⟩;have Fc:cN X.prog X.w W l:=K.az.but K.free sb;obtain⟨n,ho⟩:=pl;have ie:l.get? D=ϊ { cls:=.type "list",data:=.seq M n }:=(sb.2 D rF).trans ho;have new:dR X.prog X.w (upd W D (.lst acc)) l D (.lst acc):=⟨hz,M.toList,n,rv,by simpa using ie⟩;have u:=(K.base.but t sb).adopt (o:=.lst acc) P F
  refine⟨.ref D,upd W D (.lst acc),U.sU (s':={ s' with heap:=l }) (ch:=R) K.os u (Fc.adopt F new) K.bare (λb O=>?_),rfl,q D F⟩
  obtain⟨_,f1,_,f3,f4,f5⟩:=f2 b O;exact⟨f3,f1,f4,f5⟩
 have nR:∀b∈R,eZ (eU X N sc cl C Z E R (X.pn++π)) [] E b:=λb O=>by
  obtain⟨f0,f1,rD,f3,f4,f5⟩:=f2 b O;refine⟨f0,á (Ë (gI b O) t),λz=>?_,.inl O,λx c e=>f4 x c ((j x c).mp e).2,λp xR=>?_⟩
  ·rcases Ï.mp (U.ki b z) with e|e
   ·exact f1 e
   ·exact rD e
  ·exact f5 p (by simpa using xR)
 obtain⟨Gi,Gj,hA1⟩:=hY cl C Z E R (X.pn++π);have loop:=IS (Y:=eU X N sc cl C Z E R (X.pn++π)) (D:=D) (nt:=nt) (caps:=nq cap σ) (e:=.ListComp el (⟨tg,src,tests,0⟩::rest) sc ps) (d:=0) (π:=[]) (o:=Ø nt ϋ) (acc:=[]) rfl hc T
  (T.keep _ _ _ i λb _ o e=>old b o e) nR nQ Gi fP Gj (hA1 D _ it) ⟨rF,Gh,P,Dx,λp hp=>Ee p (by simpa using hp)⟩ ⟨IB,by simp,⟨#[],tL,.nil⟩,U.az.fresh P,ą _⟩ rfl (λ_ A Q' E' s' h=>Md A Q' E' s' h) (ht it D _) ca
 have Nq:=Ŋ loop (R':=aeQ (è X.prog X.w) X.A X.xe ϋ (EP X π σ Q) (.ref D) C) λr s' hr=>by
  obtain⟨e,o',W,jL,k,q'⟩:=hr;subst e;obtain⟨M,pl,rv⟩:=k.lst;exact fin s' _ W jL M k.inv pl rv k.free k.mL q'
 exact codeAny_compStart_list Nq (T.self _ _ _ _ _ (T.keep _ _ _ i λb _ o e=>old b o e) Nq)
end
end L2
namespace DI
open PySem L2
def iy:ü "isinstance"=ϊ (.builtin "isinstance"):=nofun
def qz:ü "int"=ϊ (.type "int"):=nofun
def Dy:ü "bool"=ϊ (.type "bool"):=nofun
def iT:ü "tuple"=ϊ (.type "tuple"):=nofun
def zA:ü "list"=ϊ (.type "list"):=nofun
def tj:ü "str"=ϊ (.type "str"):=nofun
def Ef:ü "set"=ϊ (.type "set"):=nofun
def wC:ü "all"=ϊ (.builtin "all"):=nofun
def Nr:ü "any"=ϊ (.builtin "any"):=nofun
def gw:ü "len"=ϊ (.builtin "len"):=nofun
def aap:ü "max"=ϊ (.builtin "max"):=nofun
def aaq:ü "min"=ϊ (.builtin "min"):=nofun
def vi:ü "sorted"=ϊ (.builtin "sorted"):=nofun
structure Gd (K:İ) (mg:Str->Option È) (x:Str) (st:aeW) (ps:List Str) (f:Þ) (fd:ĺ):Prop where
 mg:mg x=ϊ (.ref f)
 fn:rg K x x st f fd
 b:Binds K fd ps []
def aar {P:ê} {w:Ď} {K:İ} {mg:Str->Option È} {base:Ŀ} {k:Nat} {f:Þ} {fd:ĺ} {ps:List Str} {g:List D->ae->Res D} (h:∀ds s,g ds s=ϋ):dG P w K mg base dP k f fd ps (j5 K g) :=
 ⟨λY H Q E Z=>by obtain⟨w,ds,_,_,_,q⟩:=Z;rw[h] at q;exact q.elim,λA outer s H args X Y Q E _ _ _ _ Z=>by obtain⟨w,ds,_,_,_,q⟩:=Z;rw[h] at q;exact q.elim⟩
def kF (g:D->Env->Option Env) (t:afb Bool) (act:afb 4e7) (nF:Env):List D->ae->Res 4e7
 | [],s=>ok [] s
 |d::Z,s=>match g d nF with
  |none=>ϋ
  |some env=>aj (ne (t env s)) λb s=>if b=ό then aj (ne (act env s)) λY s=>aj (kF g t act nF Z s) λX s=>ok (Y++X) s
   else kF g t act nF Z s
def emit (f:afb D):afb (List D):=λenv s=>aj 2e2 λx s=>ok [x] s
def more (it:afb 4e7) (g:D->Env->Option Env) (t:afb Bool) (act:afb 4e7):afb (List D):=λenv s=>aj (it env s) λZ s=>kF g t act env Z s
def vQ (nt:Nat) (cap:List Nat) (it:afb 4e7) (g:D->Env->Option Env) (t:afb Bool) (act:afb 4e7):afb D:=λenv s =>
 aj (it env s) λY s=>aj (ne (kF g t act (Ø nt ϋ++kA cap env) Y s)) λZ s=>jg Z (ok (.lst Z) s)
def Sl (g:D->Env->Option Env) (sl:List Nat):Prop:=∀d env Z,g d env=ϊ Z->Z.length=env.length/\∀i,i∉sl->Z[i]?=env[i]?
def zd (i:Nat):Sl (gN i) [i]:=λd env Z h=>by
 have e:env.set i (ϊ d)=Z:=afo h;subst e;calc⟨ģ ..,λj Y=>?_⟩;rw[ā (λz=>Y (by simp[z]))]
theorem Nt:∀(is:List Nat) (ds:List D) (env env':Env),gR (is.map gN) ds env=ϊ env'->env'.length=env.length/\∀i,i∉is->env'[i]?=env[i]?
 | [],[],env,env',h=>by
  have e:env=env':=afo h;rw[e];exact⟨rfl,λ_ _=>rfl⟩
 | [],_::_,_,_,h=>by cases h
 |_::_,[],_,_,h=>by cases h
 |j::is,d::ds,env,env',h=>by
  have Z:gR (is.map gN) ds (env.set j (ϊ d))=ϊ env':=h;obtain⟨Y,X⟩:=Nt is ds _ env' Z;calc⟨by rw[Y,ģ],λi hi=>?_⟩;rw[X i (λz=>hi (Ì _ z)),ā (λz=>hi (by rw[z];exact Õ ..))]
def Dl (is:List Nat):Sl (gT (is.map gN)) is:=λd env Z h=>by
 cases d with
 |tup Y=>exact Nt is Y env Z h
 |_=>cases h
def len_same {g:D->Env->Option Env} {sl:List Nat} {d:D} {env env':Env} (hs:Sl g sl) (hg:g d env=ϊ env'):env'.length=env.length:=(hs d env env' hg).1
def iO (sl:List Nat) (env:Env):Prop:=∀i∈sl,∀d,env[i]?≠ϊ (ϊ d)
def cj.back {K:İ} {w:Wd} {env env':Env} {σ:St} {g:D->Env->Option Env} {sl:List Nat} {d:D} (hs:Sl g sl) (hf:iO sl env) (hg:g d env=ϊ env') (hl:env.length=σ.length) (h:cj K w env' σ):cj K w env σ :=
 ⟨hl,λi x e=>by
  by_cases hi:i∈sl
  ·exact absurd e (hf i hi x)
  ·exact h.val i x (by rw[(hs d env env' hg).2 i hi];exact e)⟩
def wD (K:İ) (Pre:Env->Prop) (ta:lA) (act:afb 4e7):Prop:=∀(w:Wd) (env:Env) (U:St) (Y:List V) (Z W:List D) (T:ae) (Q:St->List V->Hp->Prop),Pre env->aS K w->cj K w env U->aq K w Z Y ->
 act env w.aG=ϊ (.ok W,T)->Y.length+W.length<=Ù->(∀X S R,Le K w X->aS K X->X.aG=T->cj K X env S->aq K X (Z++W) R->Q S R X.H)->ta U w.H Y Q
def sd {α β:Type} {r:Res α} {k:α->ae->Res β} {b:β} {s':ae} (h:aj r k=ϊ (.ok b,s')):∃a s,r=ϊ (.ok a,s)/\k a s=ϊ (.ok b,s'):=by
 match r,h with
 |some (.ok a,s),h=>exact⟨a,s,rfl,h⟩
def CO {α:Type} {r:Res α} {a:α} {s:ae} (h:ne r=ϊ (.ok a,s)):r=ϊ (.ok a,s):=by
 match r,h with
 |some (.ok b,Z),h=>exact h
def ID {K:İ} {f:afb D}:wD K (λ_=>True) (Nn (tE K cA f)) (emit f):=by
 intro w env W Z Y J I Q _ S X V h U T;obtain⟨x,H,R,P⟩:=sd h;cases P;calc⟨by simpa using U,w,env,rfl,S,X,?_⟩;rw[R];intro O le N M v L;exact T O W (Z++[v]) le N M (X.le le) (aq.append (le.all V) (aq.one L))
def Jt {K:İ} {Pre:Env->Prop} {g0:TG} {g:D->Env->Option Env} {nt:Nat} {sl:List Nat} {t:afb Bool} {act:afb 4e7} {ta:lA} {env:Env} {w1:Wd} {J:It} {ds xs accD:List D} {s':ae} {τ:St} {acc:List V} {Q:St->List V->Hp->Prop}
  (T:Tg K g0 g nt) (hs:Sl g sl) (hf:iO sl env) (hp:∀d env',g d env=ϊ env'->Pre env') (hA:wD K Pre ta act) (hJ:rz K w1 J ds) (S1:aS K w1) (eo:cj K w1 env τ) (da:aq K w1 accD acc)
  (h:kF g t act env ds w1.aG=ϊ (.ok xs,s')) (hl:acc.length+xs.length<=Ù) (hQ:∀w' dB vs,Le K w1 w'->aS K w'->w'.aG=s'->cj K w' env dB->aq K w' (accD++xs) vs->Q dB vs w'.H) :
  CA J g0 (tT K cA t) ta τ acc w1.H Q:=by
 refine⟨λi m τ acc r=>m=ds.length-i/\i<=ds.length/\∃w' accD xs,w'.H=r/\Le K w1 w'/\aS K w'/\cj K w' env τ/\aq K w' accD acc/\kF g t act env (ds.drop i) w'.aG=ϊ (.ok xs,s')/\acc.length+xs.length<=Ù /\
   (∀Z dB vs,Le K w' Z->aS K Z->Z.aG=s'->cj K Z env dB->aq K Z (accD++xs) vs->Q dB vs Z.H),
  ⟨ds.length,rfl,ą _,w1,accD,xs,rfl,Le.refl _,S1,eo,da,h,hl,hQ⟩,?_⟩
 intro i m τ acc r zzz;obtain⟨rfl,hi,w',accD,xs,rfl,P,L,p,O,Y,I,G⟩:=zzz;by_cases F:i<ds.length
 ·right
  obtain⟨fP,hy⟩:=(hJ w' P L i).1 _ (Ê F);rw[ń F] at Y;erw[kF] at Y
  cases X:g ds[i] env with
  |none=>rw[X] at Y;cases Y
  |some S =>
   rw[X] at Y;obtain⟨b,s2,E,N⟩:=sd Y;have E:=CO E;refine⟨fP,fun τ acc o=>∃w' accD xs,w'.H=o/\Le K w1 w'/\aS K w'/\cj K w' env τ/\aq K w' accD acc/\kF g t act env (ds.drop (i+1)) w'.aG=ϊ (.ok xs,s')/\acc.length+xs.length<=Ù /\
    (∀Z dB vs,Le K w' Z->aS K Z->Z.aG=s'->cj K Z env dB->aq K Z (accD++xs) vs->Q dB vs Z.H),fun rh oR o q=>⟨ds.length-(i+1),by omega,rfl,F,q⟩,λx H3 y=>?_⟩
   obtain⟨Z,rfl,U,n,es,dv⟩:=hy x H3 y;calc T.imp _ _ _ _ ⟨Z,env,ds[i],S,rfl,n,p.le U,dv,X,fun l R=>⟨Z,S,rfl,n,R,?_⟩⟩;have k:∀{j:St},j.length=l.length->S.length=j.length:=λe=>by rw[R.len,e]
   have el:env.length=S.length\/True:=.inr trivial;rw[es,E];intro f W c a
   cases b with
   |true =>
    rw[Ô rfl] at N |-;obtain⟨ys,s3,M,h3⟩:=sd N;have M:=CO M;obtain⟨zs,s4,hz,h4⟩:=sd h3;cases h4;rw[<- a] at M;calc hA f S l acc accD ys s3 _ (hp _ _ X) c (R.le W) ((U.trans W).all O) M (by rw[à] at I;omega) λw4 τ4 vs l4 S4 e4 O5 Oh=>?_;have lv:=Oh.length;refine⟨w4,accD++ys,zs,rfl,P.trans (U.trans (W.trans l4)),S4,O5.back hs hf X ?_,Oh,by rw[e4];exact hz,?_,λC B A z w v u s=>G C B A (U.trans (W.trans (l4.trans z))) w v u (by rw[<- ś];exact s)⟩
    ·rw[<- O5.len]
     exact(len_same hs X).symm
    ·rw[à] at I lv
     have:=O.length;omega
   |false =>
    rw[Ö Ã] at N |-;exact⟨f,accD,xs,rfl,P.trans (U.trans W),c,(R.le W).back hs hf X (by rw[<- R.len];exact(len_same hs X).symm),(U.trans W).all O,by rw[a];exact N,I,λC B A z w v u s=>G C B A (U.trans (W.trans z)) w v u s⟩
 ·left
  have e:i=ds.length:=by omega
  subst e;rw[aem] at Y;cases Y;exact⟨(hJ w' P L _).2 (afn _),G w' τ acc (Le.refl _) L rfl p (by rw[ć];exact O)⟩
def Bu {K:İ} {Pre Pre':Env->Prop} {g0:TG} {g:D->Env->Option Env} {nt:Nat} {sl:List Nat} {it:afb 4e7} {t:afb Bool} {act:afb 4e7} {ta:lA} (T:Tg K g0 g nt) (hs:Sl g sl) (hA:wD K Pre ta act)
  (h1:∀env,Pre' env->iO sl env) (h2:∀d env env',Pre' env->g d env=ϊ env'->Pre env'):wD K Pre' (Np (fk K cA it) g0 (tT K cA t) ta) (more it g t act):=by
 intro w env y V Y x v Q X S W U h R P;obtain⟨u,s,O,N⟩:=sd h;calc⟨w,env,rfl,S,W,?_⟩;rw[O];intro r Z M e1 J L;exact Jt T hs (h1 env X) (λd env' I=>h2 d env env' X I) hA L M (W.le Z) (Z.all U) (by rw[e1];exact N) R λH G F E C B A z=>P H G F (Z.trans E) C B A z
def Ju (T:Tg K g0 g nt) (hs:Sl g sl) (AW:∀i∈sl,i<nt) (hA:wD K Pre ta act)
 (hp:∀d caps env',g d (Ø nt ϋ++caps)=ϊ env'->Pre env') (σ:St) (H:Hp) (Q:VK) :
  tE K Ξ (vQ nt cap it g t act) σ H Q->Me (fk K Ξ it) nt cap g0 (tT K cA t) ta σ H Q:=by
 intro zzz;obtain⟨w,env,rfl,S,U,h⟩:=zzz;refine⟨w,env,rfl,S,U,(Out.aj h).mono λR M L I Y J G=>?_⟩
 cases V:kF g t act (Ø nt ϋ++kA cap env) M R.aG with
 |none=>rw[V] at Y;exact Y.elim
 |some r =>
  obtain⟨r,F⟩:=r;rw[V] at Y
  cases r with
  |error x=>exact Y.elim
  |ok P =>
   have Y:Out K Ξ R (jg P (ok (D.lst P) F)) (λX d=>∀v,DV K X d v->Q v X.H):=Y;obtain⟨E,Y⟩:=rY Y;have C:=(U.le L).block nt cap (Ø nt ϋ) ∅;refine Jt T hs (λi hi d e=>?_) (λd env' B=>hp d _ env' B) hA G I C (accD:=[]) rfl V (by simpa using E) λX u O A N z s y p W=>?_
   ·rw[â (by simpa using AW i hi),ľ,Ô (AW i hi)] at e
    cases e
   ·exact Y (X.grow p (.lst O)) (A.trans (Fw.grow W).le) (N.grow W) z 7e3 ⟨p,O,rfl,⟨(show ¬ X.Z p from kj N W),cO⟩,(Fw.grow W).le.all y⟩
def iO.of {nt:Nat} {g:D->Env->Option Env} {sl cW:List Nat} (hs:Sl g sl) (hd:∀i∈cW,i<nt/\i∉sl) {d:D} {caps env':Env} (hg:g d (Ø nt ϋ++caps)=ϊ env'):iO cW env':=λi hi x e=>by
 obtain⟨Z,Y⟩:=hd i hi;rw[(hs _ _ _ hg).2 i Y,â (by simpa using Z),ľ,Ô Z] at e;cases e
def iO.on (hs:Sl g sl) (hd:∀i∈cW,i∉sl) (hf:iO cW env) (hg:g d env=ϊ env'):iO cW env':=λi hi x e=>by
 rw[(hs _ _ _ hg).2 i (hd i hi)] at e;exact hf i hi x e
section
variable {X:Cx} {Ξ:Wd->bb->Prop} {el tg src lR jP uJ qM:ĳ} {tests nh vU:List ĳ} {sc:acB} {ps pos:Pos} {N:List Str} {nt:Nat} {cap:List Nat} {it j4 AY:afb (List D)} {gd uK Gp:D->Env->Option Env} {g0 AZ O6:TG} {sl cW nS:List Nat} {ft lP O7:afb Bool} {f:afb D}
abbrev Mf (nt:Nat) (cap:List Nat) (it:afb 4e7) (g:D->Env->Option Env) (t:afb Bool) (j4:afb 4e7) (g2:D->Env->Option Env) (t2:afb Bool) (f:afb D):afb D:=vQ nt cap it g t (more j4 g2 t2 (emit f))
abbrev Mg (nt:Nat) (cap:List Nat) (it:afb 4e7) (g:D->Env->Option Env) (t:afb Bool) (j4:afb 4e7) (g2:D->Env->Option Env) (t2:afb Bool) (AY:afb 4e7) (g3:D->Env->Option Env) (t3:afb Bool) (f:afb D):afb D:=vQ nt cap it g t (more j4 g2 t2 (more AY g3 t3 (emit f)))
def apart (nt:Nat) (sl cW:List Nat):Bool:=cW.all (λi=>ώ (i<nt)&&!sl.contains i)
def se (h:apart nt sl cW=ό):∀i∈cW,i<nt/\i∉sl:=λi hi=>by
 have:=ä.mp h i hi;erw[Å,É,û,List.contains_eq_mem,decide_eq_false_iff_not] at this;exact this
abbrev Oi (e el:ĳ) (d:Nat):PySem.Env->Þ->Þ->Sem PySem.Fin:=λce D it=>(do let _ <- call (.builtin "list.append") [.ref D,<- ŗ el ce]:Sem Unit) >>= λ_=>again (.compLoop e d 4e2 8e8 ce)
abbrev Fe (e src:ĳ) (d:Nat):PySem.Env->Þ->Þ->Sem PySem.Fin:=λce D it=>do
 let x <- ŗ src ce
 aeU src.pos
 let x <- ă src ce x
 let _ <- runOwn (.compStart e (d+1) (<- aej [x] (ae9 x)) 8e8 ce) ce
 again (.compLoop e d 4e2 8e8 ce)
def WE (hc:X.calm=ό) (S:vJ X sc N nt cap) (T:Tg X.K g0 gd nt) (fj:Sl gd sl) (T2:Tg X.K AZ uK nt) (fE:Sl uK cW) (hi:PI X tg src (fk X.K Ξ it))
  (hY:∀(cl:List (Str×Þ)) (C:Þ) (s:Æ) (H:Hp) (ex:List Þ) (pn:List (Þ×Obj)),PG 1e5 tg g0/\PF 1e5 tests (tT X.K cA ft)/\PI 1e5 lR jP (fk X.K cA j4)/\PG 1e5 lR AZ/\PF 1e5 nh (tT X.K cA lP)/\PE 1e5 el (tE X.K cA f))
  (pk:apart nt sl cW=ό:=by rfl) (pq:apart nt [] sl=ό:=by rfl)
  (hs:∀x,ă src X.env x=pure x:=by intro _;rfl) (xU:∀ce x,ă jP ce x=pure x:=by intro _ _;rfl):PE X (.ListComp el [1e7,⟨lR,jP,nh,0⟩] sc ps) (tE X.K Ξ (Mf nt cap it gd ft j4 uK lP f)) :=
 cB (J3 (act:=Fe (.ListComp el [1e7,⟨lR,jP,nh,0⟩] sc ps) jP 0) hc S T.lQ hi (λcl C s H ex pn=>by
   obtain⟨y1,y2,y3,y4,y5,V⟩:=hY cl C s H ex pn;exact⟨y1,y2,λD Z it=>Ce (d:=1) (act:=λY=>Oi (.ListComp el [1e7,⟨lR,jP,nh,0⟩] sc ps) el 1 _ D Y) rfl hc rfl y3 y4 T2.lQ y5 (λY=>J2 rfl V) (λ_=>rfl) (xU _)⟩) (λ_ _ _=>rfl) hs)
  (Ju (Pre:=iO cW) T fj (λi hi=>(se pq i hi).1) (Bu T2 fE ID (λ_ h=>h) (λ_ _ _ _ _=>trivial)) λd Z W U=>iO.of fj (se pk) U)
def WG (hc:X.calm=ό) (S:vJ X sc N nt cap) (T:Tg X.K g0 gd nt) (fj:Sl gd sl) (T2:Tg X.K AZ uK nt) (fE:Sl uK cW) (T3:Tg X.K O6 Gp nt) (hs3:Sl Gp nS) (hi:PI X tg src (fk X.K Ξ it))
  (hY:∀(cl:List (Str×Þ)) (C:Þ) (s:Æ) (H:Hp) (ex:List Þ) (pn:List (Þ×Obj)),PG 1e5 tg g0/\PF 1e5 tests (tT X.K cA ft)/\PI 1e5 lR jP (fk X.K cA j4)/\PG 1e5 lR AZ/\PF 1e5 nh (tT X.K cA lP) /\
   PI 1e5 uJ qM (fk X.K cA AY)/\PG 1e5 uJ O6/\PF 1e5 vU (tT X.K cA O7)/\PE 1e5 el (tE X.K cA f))
  (pk:apart nt sl cW=ό:=by rfl) (Gq:apart nt sl nS=ό:=by rfl) (h23:apart nt cW nS=ό:=by rfl) (pq:apart nt [] sl=ό:=by rfl)
  (hs:∀x,ă src X.env x=pure x:=by intro _;rfl) (xU:∀ce x,ă jP ce x=pure x:=by intro _ _;rfl) (hf3:∀ce x,ă qM ce x=pure x:=by intro _ _;rfl):PE X 6e8 (tE X.K Ξ (Mg nt cap it gd ft j4 uK lP AY Gp O7 f)) :=
 cB (J3 (act:=Fe 6e8 jP 0) hc S T.lQ hi (λcl C s H ex pn=>by
   obtain⟨y1,y2,y3,y4,y5,U,R,Q,P⟩:=hY cl C s H ex pn;exact⟨y1,y2,λD Z it=>Ce (d:=1) (act:=λV=>Fe 6e8 qM 1 _ D V) rfl hc rfl y3 y4 T2.lQ y5 (λV=>Ce (d:=2) (act:=λj4=>Oi 6e8 el 2 _ D j4) rfl hc rfl U R T3.lQ Q (λj4=>J2 rfl P) (λ_=>rfl) (hf3 _)) (λ_=>rfl) (xU _)⟩) (λ_ _ _=>rfl) hs)
  (Ju (Pre:=λenv=>iO cW env/\iO nS env) T fj (λi hi=>(se pq i hi).1) (Bu T2 fE (Bu (Pre':=iO nS) T3 hs3 ID (λ_ h=>h) (λ_ _ _ _ _=>trivial)) (λ_ h=>h.1) (λd env Y h W=>iO.on fE (λi hi=>(se h23 i hi).2) h.2 W)) λd Z Y W=>⟨iO.of fj (se pk) W,iO.of fj (se Gq) W⟩)
end
end DI
namespace L2
open PySem PySem.Spec PyProof.Rows
end L2
namespace HT
open PySem PyProof.Rows
def Ff (A:ó) (s:Æ) (y x:È) (b:Bool):Prop:=∀(prog:ê) (w:Ď) (E:È->Æ->Prop) (Q:È->Æ->Prop),Q (.bool b) s->ß 2e3 A (richCompare .Lt y x) Q E s
inductive jB (A:ó) (s:Æ):List È->List È->Bool->Prop where
 |nn:jB A s [] [] ύ
 |nc (y:È) (ys:List È):jB A s [] (y::ys) ό
 |cn (x:È) (xs:List È):jB A s (x::xs) [] ύ
 |eq {x y:È} {xs ys:List È} {b:Bool}:SeqAt.EqAt A s x y ό->jB A s xs ys b->jB A s (x::xs) (y::ys) b
 |lt {x y:È} {xs ys:List È} {b:Bool}:SeqAt.EqAt A s x y ύ->Ff A s x y b->jB A s (x::xs) (y::ys) b
section
open PySem.SeqAt
open PySem.AutoSeq1 (wpAny_loadPart')
open PySem.MeetsSeq PySem.MeetsSeq2 PySem.MeetsSeq3
def RV (l b:Þ) (items om:Array È) (n n2:Nat) (dd oZ:Option Þ) (sl cW:Array (Option È)) (nT:Bool) :
  Meets (Ÿ.«tuple.__lt__» ⟨[.ref l,.ref b],[]⟩)
   (λA R s=>s.heap.get? l=ϊ { cls:=.type "tuple",dict:=dd,data:=.seq items n,slots:=sl }/\s.heap.get? b=ϊ { cls:=.type "tuple",dict:=oZ,data:=.seq om n2,slots:=cW } /\
    jB A.in1 s items.toList om.toList nT/\R (.ok (.ret (.bool nT))) s) :=
 .of_wp λprog w A R s h=>by
  obtain⟨M,g,d,L,os⟩:=s;obtain⟨J,I,H,h⟩:=h;have f2:=AutoSeq1.sub_tuple_tuple
  wp_walk using wpAny_loadPart' J,wpAny_loadPart' I,acK _ (λrest b W=>b.1=ϋ/\W=⟨M,g,d,L,os⟩/\∃(X ws:List È),rest=X.zip ws /\
   jB A.in1 ⟨M,g,d,L,os⟩ X ws nT/\X.length+om.size=ws.length+items.size) _
  case turn =>
   rintro ⟨y,x⟩ rest b W ⟨V,rfl,X,ws,Y,U,Z⟩
   cases U with
   |nn=>cases Y
   |nc _ _=>cases Y
   |cn _ _=>cases Y
   |eq T S =>
    rw[Į] at Y
    injection Y with Q K
    injection Q with P O
    subst P O;erw[æ] at Z;refine À (T prog w _ _ ?_)
    wp_walk
    exact⟨rfl,rfl,_,_,K,S,by omega⟩
   |lt T S =>
    rw[Į] at Y
    injection Y with Q K
    injection Q with P O
    subst P O;calc À (T prog w _ _ ?_);have N:=S prog w
    wp_walk using N
    exact⟨_,rfl,by simpa using h⟩
  case fin =>
   rintro ⟨F,E⟩ W ⟨V,rfl,X,ws,Y,U,Z⟩;simp only at V;subst V;have G:nT=ώ (items.size<om.size):=by
    cases U with
    |nn=>erw[ĥ] at Z;exact(Û ⋯).symm
    |nc _ _=>erw[ĥ,æ] at Z;exact(Î ⋯).symm
    |cn _ _=>erw[ĥ,æ] at Z;exact(Û ⋯).symm
    |eq _ _=>rw[Į] at Y;cases Y
    |lt _ _=>rw[Į] at Y;cases Y
   rw[G] at h
   wp_walk
   exact⟨_,rfl,by simpa [Builtin.Tuple.tupleCompareSizes] using h⟩
  case h =>
   exact⟨rfl,rfl,items.toList,om.toList,rfl,H,by erw[ë];omega⟩
end
open PySem.SeqAt PySem.MeetsSeq
section
variable {prog:ê} {w:Ď} {A:ó} {E:È->Æ->Prop} {s:Æ}
def Lc (hl:IsTup s.heap l items) (hb:IsTup s.heap b om) (hA:∀A':ó,A'.units<=A.units+4->jB A' s items.toList om.toList nT)
 (hu:A.units<aer) (h:Q (.bool nT) s):ß 2e3 A (richCompare .Lt (.ref l) (.ref b)) Q E s:=by
 obtain⟨⟨cls,U,data,sl⟩,Z,Y,n,X⟩:=id hl;obtain⟨⟨P,T,data2,S⟩,W,V,R,hd2⟩:=id hb;simp only at Y X V hd2;subst Y X V hd2;refine richCompare_meets_room (op:=.Lt) ⟨_,Z,rfl⟩ ⟨_,W,rfl⟩ PySem.F.slot_tuple_lt PySem.F.entry_tuple_lt (PySem.F.args_tuple_lt_2 _ _) (RV l b items om n R U T sl S nT)
  ⟨Z,W,hA _ ?_,show Ź nT≠Value.notImplemented/\Q (.bool nT) s from ⟨(λx=>nomatch x),h⟩⟩ hu
 show A.units+1<=A.units+4;omega
end
end HT
namespace DI
open PySem L2 HT
mutual
noncomputable def jw:D->D->Option Bool
 | .int i,.int j=>ϊ (ώ (i<j))
 | .str x,.str y=>ϊ (ώ (x.cps.toList<y.cps.toList))
 | .tup Z,.tup Y=>jQ Z Y
 |_,_=>ϋ
noncomputable def jQ:List D->List D->Option Bool
 | [],[]=>ϊ ύ
 | [],_::_=>ϊ ό
 |_::_,[]=>ϊ ύ
 |x::Z,y::Y=>if beq x y=ό then jQ Z Y else jw x y
end
section
variable {X:Cx} {Ξ:Wd->bb->Prop} {π:List (Þ×Obj)} {σ:St} {s:Æ} {w:Wd}
def aas (I:Inv X π σ w.H s) (A:ó) (lx:lay x=ό) (ly:lay y=ό) (hu:A.units+dep x<aer) (hx:DV X.K w x v) (hy:DV X.K w y u) (rx:RelV v vx) (ry:RelV u vy):SeqAt.EqAt A s vx vy (beq x y):=by
 obtain⟨as,Z⟩:=(hx.py (p6 _ lx)).reads I rx;obtain⟨bs,Y⟩:=(hy.py (p6 _ ly)).reads I ry;obtain⟨W,V⟩:=kS _ lx;obtain⟨U,T⟩:=kS _ ly;have:=SeqAt.eqAt_reads _ _ A s vx vy as bs Z Y W U (by rw[V];omega);rw[sM _ _ lx ly] at this;exact this
mutual
theorem Nv (I:Inv X π σ w.H s):∀(A:ó) (x y:D) (b:Bool) (v u:V) (vx vy:È),jw x y=ϊ b->lay x=ό->lay y=ό->A.units+5*dep x+5<aer->DV X.K w x v->DV X.K w y u->RelV v vx->RelV u vy->Ff A s vx vy b
 |A,.int i,.int j,b,v,u,vx,vy,h,_,_,_,Z,Y,W,U=>by
  cases h;cases Z;cases Y;obtain⟨t,rfl⟩:=W;obtain⟨T,rfl⟩:=U;intro prog w E Q q;exact JR A s i t j T prog w E Q q
 |A,.str i,.str j,b,v,u,vx,vy,h,_,_,R,Z,Y,W,U=>by
  cases h;cases Z;cases Y;obtain⟨t,rfl⟩:=W;obtain⟨T,rfl⟩:=U;intro prog w E Q q;exact(PyProof.Rows.lt_str q:ß 2e3 A (Ğ .Lt (.str i t) (.str j T)) Q E s)
 |A,.tup P,.tup O,b,v,u,vx,vy,h,N,M,R,Z,Y,W,U=>by
  erw[jw] at h;erw[DV] at Z Y;obtain⟨a,as,rfl,L,J⟩:=Z;obtain⟨c,cs,rfl,G,S⟩:=Y;cases W;cases U;obtain⟨its,F,C,_⟩:=I.tuple L;obtain⟨B,z,r,_⟩:=I.tuple G;intro prog o E Q q;erw[dep] at R;exact Lc C r (λp n=>by
   have:=Mh I p P O b as cs its B h (by simpa [lay] using N) (by simpa [lay] using M) ⋯ J S F z;simpa using this) ⋯ q
 |_,.ak,_,_,_,_,_,_,h,_,_,_,_,_,_,_=>by cases h
 |_,.bl _,_,_,_,_,_,_,h,_,_,_,_,_,_,_=>by cases h
 |_,.lst _,_,_,_,_,_,_,h,_,_,_,_,_,_,_=>by cases h
 |_,.bU _,_,_,_,_,_,_,h,_,_,_,_,_,_,_=>by cases h
 |_,.aK _,_,_,_,_,_,_,h,_,_,_,_,_,_,_=>by cases h
 |_,.ty _,_,_,_,_,_,_,h,_,_,_,_,_,_,_=>by cases h
 |_,.bV _,_,_,_,_,_,_,h,_,_,_,_,_,_,_=>by cases h
 |_,.exc _ _,_,_,_,_,_,_,h,_,_,_,_,_,_,_=>by cases h
 |_,.cR _ _ _,_,_,_,_,_,_,h,_,_,_,_,_,_,_=>by cases h
 |_,.int _,.ak,_,_,_,_,_,h,_,_,_,_,_,_,_=>by cases h
 |_,.int _,.bl _,_,_,_,_,_,h,_,_,_,_,_,_,_=>by cases h
 |_,.int _,.str _,_,_,_,_,_,h,_,_,_,_,_,_,_=>by cases h
 |_,.int _,.tup _,_,_,_,_,_,h,_,_,_,_,_,_,_=>by cases h
 |_,.int _,.lst _,_,_,_,_,_,h,_,_,_,_,_,_,_=>by cases h
 |_,.int _,.bU _,_,_,_,_,_,h,_,_,_,_,_,_,_=>by cases h
 |_,.int _,.aK _,_,_,_,_,_,h,_,_,_,_,_,_,_=>by cases h
 |_,.int _,.ty _,_,_,_,_,_,h,_,_,_,_,_,_,_=>by cases h
 |_,.int _,.bV _,_,_,_,_,_,h,_,_,_,_,_,_,_=>by cases h
 |_,.int _,.exc _ _,_,_,_,_,_,h,_,_,_,_,_,_,_=>by cases h
 |_,.int _,.cR _ _ _,_,_,_,_,_,h,_,_,_,_,_,_,_=>by cases h
 |_,.str _,.ak,_,_,_,_,_,h,_,_,_,_,_,_,_=>by cases h
 |_,.str _,.bl _,_,_,_,_,_,h,_,_,_,_,_,_,_=>by cases h
 |_,.str _,.int _,_,_,_,_,_,h,_,_,_,_,_,_,_=>by cases h
 |_,.str _,.tup _,_,_,_,_,_,h,_,_,_,_,_,_,_=>by cases h
 |_,.str _,.lst _,_,_,_,_,_,h,_,_,_,_,_,_,_=>by cases h
 |_,.str _,.bU _,_,_,_,_,_,h,_,_,_,_,_,_,_=>by cases h
 |_,.str _,.aK _,_,_,_,_,_,h,_,_,_,_,_,_,_=>by cases h
 |_,.str _,.ty _,_,_,_,_,_,h,_,_,_,_,_,_,_=>by cases h
 |_,.str _,.bV _,_,_,_,_,_,h,_,_,_,_,_,_,_=>by cases h
 |_,.str _,.exc _ _,_,_,_,_,_,h,_,_,_,_,_,_,_=>by cases h
 |_,.str _,.cR _ _ _,_,_,_,_,_,h,_,_,_,_,_,_,_=>by cases h
 |_,.tup _,.ak,_,_,_,_,_,h,_,_,_,_,_,_,_=>by cases h
 |_,.tup _,.bl _,_,_,_,_,_,h,_,_,_,_,_,_,_=>by cases h
 |_,.tup _,.int _,_,_,_,_,_,h,_,_,_,_,_,_,_=>by cases h
 |_,.tup _,.str _,_,_,_,_,_,h,_,_,_,_,_,_,_=>by cases h
 |_,.tup _,.lst _,_,_,_,_,_,h,_,_,_,_,_,_,_=>by cases h
 |_,.tup _,.bU _,_,_,_,_,_,h,_,_,_,_,_,_,_=>by cases h
 |_,.tup _,.aK _,_,_,_,_,_,h,_,_,_,_,_,_,_=>by cases h
 |_,.tup _,.ty _,_,_,_,_,_,h,_,_,_,_,_,_,_=>by cases h
 |_,.tup _,.bV _,_,_,_,_,_,h,_,_,_,_,_,_,_=>by cases h
 |_,.tup _,.exc _ _,_,_,_,_,_,h,_,_,_,_,_,_,_=>by cases h
 |_,.tup _,.cR _ _ _,_,_,_,_,_,h,_,_,_,_,_,_,_=>by cases h
theorem Mh (I:Inv X π σ w.H s):∀(A:ó) (xs ys:List D) (b:Bool) (vs us:List V) (ps qs:List È),jQ xs ys=ϊ b->cD xs=ό->cD ys=ό->A.units+5*dY xs+5<aer->aq X.K w xs vs->aq X.K w ys us->Vals vs ps->Vals us qs->jB A s ps qs b
 |A,[],[],b,vs,us,ps,qs,h,_,_,_,W,U,Z,Y=>by
  cases h;cases W;cases U;cases Z;cases Y;exact .nn
 |A,[],y::ys,b,vs,us,ps,qs,h,_,_,_,W,U,Z,Y=>by
  cases h;cases W;cases Z;obtain⟨u,r,rfl,_,_⟩:=U;cases Y;exact .nc _ _
 |A,x::xs,[],b,vs,us,ps,qs,h,_,_,_,W,U,Z,Y=>by
  cases h;cases U;cases Y;obtain⟨u,r,rfl,_,_⟩:=W;cases Z;exact .cn _ _
 |A,x::xs,y::ys,b,vs,us,ps,qs,h,T,S,J,W,U,Z,Y=>by
  obtain⟨v,r,rfl,M,dr⟩:=W;obtain⟨u,G,rfl,L,P⟩:=U;erw[cD,Å] at T S;erw[dY] at J;have F:=Nat.le_max_left (dep x) (dY xs);have E:=aen (dep x) (dY xs)
  cases Z with
  |cons Z O =>
   cases Y with
   |cons Y N =>
    have R:=aas I A T.1 S.1 ⋯ M L Z Y;erw[jQ] at h;split at h
    ·rename_i Q
     rw[Q] at R;exact .eq R (Mh I A xs ys b _ _ _ _ h T.2 S.2 ⋯ dr P O N)
    ·rename_i Q
     rw[ē] at Q;rw[Q] at R;exact .lt R (Nv I A x y b _ _ _ _ h T.1 S.1 ⋯ M L Z Y)
end
def jo (x y:D) (s:ae):Res D:=if (lay x&&lay y&&ώ (dep x<=30))=ό then bW ((jw x y).map D.bl) s else ϋ
def qN (hr:ck k X.A):bF X (Ğ .Lt) (rO X.K Ξ jo):=by
 intro O s σ H x y v u Q I U T zzz;obtain⟨w,W,V,rfl,S,R,P,h⟩:=zzz;delta jo at h;split at h
 ·rename_i Z
  erw[Å,É] at Z;obtain⟨d,e,h⟩:=fI h
  cases Y:jw W V with
  |none=>rw[Y] at e;cases e
  |some b =>
   rw[Y] at e;cases e;exact Nv I X.A W V b x y v u Y Z.1.1 Z.1.2 (by have:=hr.un;have:=Z.2;have:aer=9900:=rfl;omega) R P U T _ _ _ _ ⟨.bl b,w.H,I,rfl,ax S h _ rfl⟩
 ·exact h.elim
end
end DI
namespace DI
open PySem L2
def u9:List D->ae->Res D:=aU 2 2 (aw (bc (aF (e2 jo 1e8 (eB cM 2e4))) (aD (e2 ar 0e4 1e8)) bJ) (aD 1e9))
def pW:List D->ae->Res D:=aU 1 1 (aD (eB nG (af (cT 2 [] (qI (af 0e4 (af (dI 0e4 (bQ 1e1) cX) ah))) (gT [gN 0,gN 1]) eG (e2 jo 0e4 1e8)) ah)))
def Bv:List D->ae->Res D:=aU 1 1 (aD (eT (eB dZ (af 0e4 (af (eC (.ty "int")) ah))) (eT (wX (eB dZ (af 0e4 (af (eC (.ty "bool")) ah)))) (e2 w9 0e4 1e9))))
def rP:List D->ae->Res D:=aU 2 2 (aD (eT (aE Bv 2e4) (e2 jo 0e4 1e8)))
def rR:List D->ae->Res D:=aU 1 1 (aD (aE rP (af 0e4 (af (eC (.int (8))) ah))))
def u7:List D->ae->Res D:=aU 1 1 (aD (eT 7e5 (eT (eB nG (af (cT 1 [] (cV 0e4) (gN 0) eG (aE rR 2e4)) ah)) (aE pW 2e4))))
end DI
namespace ST
open PySem PySem.W PyProof.Rows
structure Ord (α:Type) where
 lt:α->α->Bool
 A0:∀a,lt a a=ύ
 tr:∀a b c,lt a b=ό->lt b c=ό->lt a c=ό
 df:∀a b,lt a b=ύ->lt b a=ύ->a=b
section
variable {α:Type} (O:Ord α)
def Ord.le (a b:α):Prop:=O.lt b a=ύ
variable {O}
def Ord.le_refl (a:α):O.le a a:=O.A0 a
def Ord.le_of_lt (h:O.lt a b=ό):O.le a b:=by
 delta Ord.le
 cases Z:O.lt b a with
 |false=>rfl
 |true=>have:=O.tr _ _ _ h Z;rw[O.A0] at this;cases this
def Ord.tm (h:O.le a b) (g:O.le b c):O.le a c:=by
 delta Ord.le at *
 cases Z:O.lt c a with
 |false=>rfl
 |true =>
  cases Y:O.lt a b with
  |true=>have:=O.tr _ _ _ Z Y;rw[g] at this;cases this
  |false =>
   have e:=O.df a b Y h;subst e;rw[g] at Z;cases Z
def Ord.Nw (h:O.le a b) (g:O.le b a):a=b:=O.df _ _ g h
end
def ok {β:Type} (c:Nat->Nat->Bool) (n:Nat):KasT β->(β->Prop)->Prop
 | .ret a,Q=>Q a
 | .ask i j k,Q=>i<n/\j<n/\ok c n (k (c i j)) Q
theorem kP {β:Type} {c:Nat->Nat->Bool} {n:Nat} {Q R:β->Prop}:∀{t:KasT β},ok c n t Q->(∀a,Q a->R a)->ok c n t R
 | .ret a,h,i=>i a h
 | .ask _ _ k,h,i=>⟨h.1,h.2.1,kP (t:=k _) h.2.2 i⟩
theorem sk {β γ:Type} {c:Nat->Nat->Bool} {n:Nat} {f:β->KasT γ} {Q:γ->Prop}:∀{t:KasT β},ok c n t (λa=>ok c n (f a) Q)->ok c n (t.bind f) Q
 | .ret _,h=>h
 | .ask _ _ k,h=>⟨h.1,h.2.1,sk (t:=k _) h.2.2⟩
theorem Nx {β:Type} {c:Nat->Nat->Bool} {n:Nat} {cmp:Nat->Nat->(Bool->Æ->Prop)->Æ->Prop} (hc:∀i j C,i<n->j<n->C (c i j) s->cmp i j C s) {Q:β->Æ->Prop}:∀{t:KasT β},ok c n t (λa=>Q a s)->t.kasWp cmp Q s
 | .ret _,h=>h
 | .ask _ _ k,h=>hc _ _ _ h.1 h.2.1 (Nx hc (t:=k _) h.2.2)
section
variable {α:Type} {O:Ord α} {x:Nat->α} {n:Nat}
def ky (x:Nat->α) (p:Array Nat) (i:Nat):α:=x (p.getD i 0)
def Pm (n:Nat) (p:Array Nat):Prop:=p.size=n/\p.toList.Perm (ö n)
def Up (O:Ord α) (f:Nat->α) (k:Nat):Prop:=∀i j,i<j->j<k->O.le (f i) (f j)
def Dn (O:Ord α) (f:Nat->α) (k:Nat):Prop:=∀i j,i<j->j<k->O.le (f j) (f i)
def Up.more (h:Up O f k) (hk:1<=k) (h1:O.le (f (k-1)) (f k)):Up O f (k+1):=λi j Z X=>by
 by_cases e:j=k
 ·subst e
  by_cases Y:i=j-1
  ·subst Y;exact h1
  ·exact Ord.tm (h i (j-1) ⋯ ⋯) h1
 ·exact h i j Z ⋯
def Dn.more (h:Dn O f k) (hk:1<=k) (h1:O.le (f k) (f (k-1))):Dn O f (k+1):=λi j Z X=>by
 by_cases e:j=k
 ·subst e
  by_cases Y:i=j-1
  ·subst Y;exact h1
  ·exact Ord.tm h1 (h i (j-1) ⋯ ⋯)
 ·exact h i j Z ⋯
def Pm.lt (h:Pm n p) (hi:i<n):p.getD i 0<n:=by
 have hs:i<p.size:=by rw[h.1];exact hi
 have:p[i]∈p.toList:=by simp
 have e:p.getD i 0=p[i]:=by simp[ae0,hs]
 rw[e];exact ø.mp (h.2.mem_iff.mp this)
def Pm.rev (h:Pm n p) (i j:Nat):Pm n (kas_rev p i j):=⟨by rw[kas_rev_size];exact h.1,(Array.perm_iff_toList_perm.mp (mirror_perm p i j _)).trans h.2⟩
def Pm.bub (h:Pm n p) (i j:Nat):Pm n (bubble p i j):=⟨by rw[bubble_size];exact h.1,(Array.perm_iff_toList_perm.mp (bubble_perm p i j)).trans h.2⟩
def vE {p q:Array Nat} {i j:Nat} (h:p[i]?=q[j]?):p.getD i 0=q.getD j 0:=by
 rw[Ę,Ę,h]
def Dz {p:Array Nat} {i j:Nat} (hj:j<=p.size) (k:Nat):ky x (kas_rev p i j) k=if i<=k/\k<j then ky x p (i+j-1-k) else ky x p k:=by
 have e:=getElem?_mirror_all (i:=i) hj k;delta ky kas_rev
 split<;>rename_i h
 ·rw[Ô h] at e;rw[vE e]
 ·rw[Ö h] at e;rw[vE e]
def Mi {p:Array Nat} {k d:Nat} (hk:k<p.size) (hd:d<=k) (i:Nat):ky x (bubble p k d) i=if i=k-d then ky x p k else if k-d<i/\i<=k then ky x p (i-1) else ky x p i:=by
 have e:=getElem?_bubble hk d hd i;by_cases h:i=k-d
 ·rw[Ô h] at e |-;exact ĵ x (vE e)
 ·rw[Ö h] at e |-
  by_cases Z:k-d<i/\i<=k
  ·rw[Ô Z] at e |-;exact ĵ x (vE e)
  ·rw[Ö Z] at e |-;exact ĵ x (vE e)
def Ld (hj:j<=p.size) (he:∀k,i<=k->k<j->ky x p k=ky x p (j-1)):ky x (kas_rev p i j)=ky x p:=funext λk=>by
 rw[Dz hj];split
 ·rw[he _ ⋯ ⋯,he k ⋯ ⋯]
 ·rfl
abbrev asks (O:Ord α) (x:Nat->α) (i j:Nat):Bool:=O.lt (x i) (x j)
theorem DA {p:Array Nat} (hp:Pm n p):∀(f m:Nat),1<=m->m+f<=n->Up O (ky x p) m->ok (asks O x) n (kas_asc p f m) λr=>m<=r/\r<=m+f/\Up O (ky x p) r/\(r<m+f->O.lt (ky x p r) (ky x p (r-1))=ό)
 |0,m,Y,V,Z=>⟨afn _,afn _,Z,λz=>absurd z (ñ _)⟩
 |f+1,m,Y,V,Z=>by
  refine⟨hp.lt ⋯,hp.lt ⋯,?_⟩
  show ok _ _ (if O.lt (ky x p m) (ky x p (m-1))=ό then _ else _) _
  cases X:O.lt (ky x p m) (ky x p (m-1)) with
  |true =>
   rw[Ô rfl];exact⟨afn _,by omega,Z,λ_=>X⟩
  |false =>
   rw[Ö Ã];refine kP (DA hp f (m+1) ⋯ ⋯ (Z.more Y X)) λr W=>⟨by omega,by omega,W.2.2.1,λz=>W.2.2.2 ⋯⟩
structure DS (O:Ord α) (x:Nat->α) (n:Nat) (p:Array Nat) (m q:Nat):Prop where
 pm:Pm n p
 q1:q+1<=m
 mn:m<=n
 dn:Dn O (ky x p) m
 bl:∀k,m-(q+1)<=k->k<m->ky x p k=ky x p (m-1)
def DS.turn (D:DS O x n p m q):Pm n (kas_rev p (m-(q+1)) m)/\ky x (kas_rev p (m-(q+1)) m)=ky x p :=
 ⟨D.pm.rev _ _,Ld (by rw[D.pm.1];exact D.mn) D.bl⟩
theorem ze:∀(f:Nat) (p:Array Nat) (m q:Nat),m+f<=n->DS O x n p m q->ok (asks O x) n (kas_desc f p m q) λr=>m<=r.2.1/\DS O x n r.1 r.2.1 r.2.2
 |0,p,m,q,_,D=>⟨afn _,D⟩
 |f+1,p,m,q,P,D=>by
  have q1:=D.q1;refine⟨D.pm.lt ⋯,D.pm.lt ⋯,?_⟩
  show ok _ _ (if O.lt (ky x p m) (ky x p (m-1))=ό then _ else _) _
  cases X:O.lt (ky x p m) (ky x p (m-1)) with
  |true =>
   rw[Ô rfl];have one:∀Y,Pm n Y->ky x Y=ky x p->DS O x n Y (m+1) 0:=λY V U=>⟨V,by omega,by omega,by rw[U];exact D.dn.more ⋯ (Ord.le_of_lt X),λk T S=>by rw[show k=m+1-1 by omega]⟩;by_cases W:q > 0
   ·rw[Ô W]
    exact kP (ze f _ (m+1) 0 ⋯ (one _ D.turn.1 D.turn.2)) λr Z=>⟨by omega,Z.2⟩
   ·rw[Ö W]
    exact kP (ze f _ (m+1) 0 ⋯ (one _ D.pm rfl)) λr Z=>⟨by omega,Z.2⟩
  |false =>
   rw[Ö Ã];refine⟨D.pm.lt ⋯,D.pm.lt ⋯,?_⟩
   show ok _ _ (if O.lt (ky x p (m-1)) (ky x p m)=ό then _ else _) _
   cases R:O.lt (ky x p (m-1)) (ky x p m) with
   |true =>
    rw[Ô rfl];exact⟨afn _,D⟩
   |false =>
    rw[Ö Ã];have e:ky x p m=ky x p (m-1):=O.df _ _ X R;calc kP (ze f p (m+1) (q+1) ⋯ ⟨D.pm,by omega,by omega,D.dn.more ⋯ (by rw[e];exact Ord.le_refl _),λk T S=>?_⟩) λr Z=>⟨by omega,Z.2⟩;show _=ky x p m;by_cases Q:k=m
    ·rw[Q]
    ·rw[D.bl k ⋯ ⋯,e]
def Lf {p:Array Nat} {m:Nat} (hp:Pm n p) (h1:1<=m) (hm:m<=n) (hd:Dn O (ky x p) m):ok (asks O x) n (kas_tail3 m n p) λr=>1<=r.1/\r.1<=n/\Pm n r.2/\Up O (ky x r.2) r.1:=by
 calc sk ?_;have Z:Up O (ky x (kas_rev p 0 m)) m:=λi j W Y=>by
  rw[Dz (by rw[hp.1];exact hm),Dz (by rw[hp.1];exact hm),Ô ⟨by omega,by omega⟩,Ô ⟨by omega,Y⟩];exact hd _ _ ⋯ ⋯
 exact kP (DA (hp.rev 0 m) (n-m) m h1 ⋯ Z) λr X=>⟨by show 1<=r;omega,by show r<=n;omega,hp.rev 0 m,X.2.2.1⟩
def IE {p:Array Nat} {m:Nat} (hp:Pm n p) (h1:1<=m) (hm:m+1<=n) (hd:Dn O (ky x p) (m+1)):ok (asks O x) n (kas_descPart m n p) λr=>1<=r.1/\r.1<=n/\Pm n r.2/\Up O (ky x r.2) r.1:=by
 calc sk (kP (ze (n-(m+1)) p (m+1) 0 ⋯ ⟨hp,by omega,hm,hd,λk Y X=>by rw[show k=m+1-1 by omega]⟩) λr Z=>?_);obtain⟨W,D⟩:=Z;split
 ·exact Lf D.turn.1 (by have:=D.q1;omega) D.mn (by rw[D.turn.2];exact D.dn)
 ·exact Lf D.pm (by have:=D.q1;omega) D.mn D.dn
def UO {p:Array Nat} (hp:Pm n p) (hn:1<=n):ok (asks O x) n (kas_count n p) λr=>1<=r.1/\r.1<=n/\Pm n r.2/\Up O (ky x r.2) r.1:=by
 calc sk (kP (DA hp (n-1) 1 3e0 ⋯ λi j U X=>by omega) λm S=>?_);obtain⟨Z,Q,Y,R⟩:=S;split
 ·rename_i e
  rw[beq_iff_eq] at e;exact⟨Z,by omega,hp,Y⟩
 ·rename_i e
  have P:m≠n:=λz=>e (by rw[z];exact Ĝ n);have hs:=R ⋯;split
  ·refine⟨hp.lt ⋯,hp.lt ⋯,?_⟩
   show ok _ _ (if O.lt (ky x p 0) (ky x p (m-1))=ό then _ else _) _
   cases T:O.lt (ky x p 0) (ky x p (m-1)) with
   |true =>
    rw[Ô rfl];exact⟨Z,by omega,hp,Y⟩
   |false =>
    rw[Ö Ã];have W:∀k,0<=k->k<m->ky x p k=ky x p (m-1):=λk _ V=>by
     have a1:O.le (ky x p k) (ky x p (m-1)):=by
      by_cases e:k=m-1
      ·rw[e];exact Ord.le_refl _
      ·exact Y k (m-1) ⋯ ⋯
     have a2:O.le (ky x p (m-1)) (ky x p k):=by
      by_cases e:k=0
      ·rw[e];exact T
      ·exact Ord.tm T (Y 0 k ⋯ V)
     exact Ord.Nw a1 a2
    have V:=Ld (x:=x) (p:=p) (i:=0) (j:=m) (by rw[hp.1];omega) W;calc IE (hp.rev 0 m) Z ⋯ ?_;rw[V];calc Dn.more (λi j U X=>?_) Z (Ord.le_of_lt hs);rw[W i ⋯ ⋯,W j ⋯ X];exact Ord.le_refl _
  ·refine IE hp Z ⋯ (Dn.more (λi j U X=>by omega) Z (Ord.le_of_lt hs))
theorem Cf (hp:Pm n p) (hk:k<n) (hu:Up O (ky x p) k):∀(f l r:Nat),r-l<=f->l<=r->r<=k->(∀i,i<l->O.le (ky x p i) (ky x p k))->(∀i,r<=i->i<k->O.le (ky x p k) (ky x p i)) ->
  ok (asks O x) n (kas_place p k f l r) λm=>m<=k/\(∀i,i<m->O.le (ky x p i) (ky x p k))/\(∀i,m<=i->i<k->O.le (ky x p k) (ky x p i))
 |0,l,r,X,W,Y,a,b=>⟨by omega,a,λi hi=>b i ⋯⟩
 |f+1,l,r,X,W,Y,a,b=>by
  delta kas_place;by_cases h:l ≥ r
  ·rw[Ô h]
   exact⟨by omega,a,λi hi=>b i ⋯⟩
  ·rw[Ö h]
   refine⟨hp.lt hk,hp.lt ⋯,?_⟩
   show ok _ _ (if O.lt (ky x p k) (ky x p ((l+r) / 2))=ό then _ else _) _
   cases Z:O.lt (ky x p k) (ky x p ((l+r) / 2)) with
   |true =>
    rw[Ô rfl];calc Cf hp hk hu f l ((l+r) / 2) ⋯ ⋯ ⋯ a λi hi V=>?_;by_cases e:i=(l+r) / 2
    ·rw[e];exact Ord.le_of_lt Z
    ·exact Ord.tm (Ord.le_of_lt Z) (hu _ _ ⋯ V)
   |false =>
    rw[Ö Ã];calc Cf hp hk hu f ((l+r) / 2+1) r ⋯ ⋯ Y (λi hi=>?_) b;by_cases e:i=(l+r) / 2
    ·rw[e];exact Z
    ·exact Ord.tm (hu _ _ ⋯ ⋯) Z
theorem Mj:∀(f:Nat) (p:Array Nat) (k:Nat),Pm n p->k+f=n->Up O (ky x p) k->ok (asks O x) n (kas_bin f p k) λq=>Pm n q/\Up O (ky x q) n
 |0,p,k,Y,X,Z=>⟨Y,by rw[<- X];exact Z⟩
 |f+1,p,k,Y,X,Z=>by
  calc sk (kP (Cf Y ⋯ Z k 0 k ⋯ (ą _) 3e0 (λi hi=>by omega) λi Q W=>by omega) λm P=>?_);obtain⟨Q,W,N⟩:=P;calc Mj f _ (k+1) (Y.bub _ _) ⋯ λi j M K=>?_;have V:k<p.size:=by rw[Y.1];omega
  have L:k-(k-m)=m:=by omega
  rw[Mi V ⋯,Mi V ⋯,L];by_cases U:i=m
  ·rw[Ô U,Ö ⋯,Ô ⋯]
   exact N _ ⋯ ⋯
  ·rw[Ö U]
   by_cases T:m<i/\i<=k
   ·rw[Ô T,Ö ⋯,Ô ⋯]
    exact Z _ _ ⋯ ⋯
   ·rw[Ö T]
    by_cases S:j=m
    ·rw[Ô S];exact W _ ⋯
    ·rw[Ö S]
     by_cases R:m<j/\j<=k
     ·rw[Ô R]
      by_cases e:i=j-1
      ·rw[e];exact Ord.le_refl _
      ·exact Z _ _ ⋯ ⋯
     ·rw[Ö R];exact Z _ _ M ⋯
def WH (hn:1<=n):ok (asks O x) n (kas_sort n) λq=>Pm n q/\Up O (ky x q) n:=by
 calc sk (kP (UO (p:=aef (ö n)) ⟨by simp,by simp⟩ hn) λr X=>?_);obtain⟨W,V,Y,Z⟩:=X;split
 ·rw[Nat.max_eq_left W]
  exact Mj _ _ _ Y ⋯ Z
 ·rw[show r.1=n by omega] at Z
  exact⟨Y,Z⟩
end
section
variable {α:Type} {O:Ord α} {x:Nat->α} {prog:ê} {w:Ď} {A:ó} {E:È->Æ->Prop} {s:Æ}
def Ax (prog:ê) (w:Ď) (A:ó) (O:Ord α) (x:Nat->α) (us:List È) (t:Æ):Prop :=
 ß 2e3 A (keyKind' us.toArray) (fun Z Y=>Y=t/\∀i j (C:Bool->Æ->Prop),i<us.length->j<us.length->C (O.lt (x i) (x j)) t->ß 2e3 A (keyLt' Z (us.getD i Value.none) (us.getD j Value.none)) C (λ_ _=>False) t) (λ_ _=>False) t
def mL (us:List È) (h:us.length<2):(us.toArray.zip us.toArray).map (·.2)=((aef (ö us.length)).toList.map λi=>us.getD i Value.none).toArray:=by
 rcases us with _ | ⟨u,_ | ⟨v,r⟩⟩
 ·exact aeo.mp ∅
 ·exact aeo.mp ∅
 ·(simp at h;omega)
def QN (hb:s.heap.get? b=ϊ (aeO "list" us.toArray m)) (hz:us.length<64)
 (hk:2<=us.length->∀h1,(∀c o,c≠b->s.heap.get? c=ϊ o->h1.get? c=ϊ o)->Ax prog w A O x us { s with heap:=h1 })
 (hR:∀(q:Array Nat) h' e,Pm us.length q->Up O (ky x q) us.length->(∀c o,c≠b->s.heap.get? c=ϊ o->h'.get? c=ϊ o)->h'.get? b=ϊ (aeO "list" (q.toList.map λi=>us.getD i Value.none).toArray e)->R (.done (.ret .none)) { s with heap:=h' }) :
  ß 2e3 A (Ÿ.«list.sort» ⟨[.ref b],[]⟩) R E s:=by
 have B:b<s.heap.objs.size:=Í hb;have line:us.length<=Ù:=by rw[ţ];omega
 obtain⟨e1,M⟩:∃e1,(s.heap.update b (Ŭ λ_=>(#[]:Array È))).get? b=ϊ (aeO "list" #[] e1):=⟨_,get?_update_seq hb λ_=>#[]⟩;generalize U:((s.heap.update b (Ŭ λ_=>(#[]:Array È))).push (aeO "tuple" us.toArray 0)).push (aeO "list" #[] 0)=Z;have X:Z.get? b=ϊ (aeO "list" #[] e1):=by rw[<- U];exact Á _ (Á _ M)
 have old:∀c o,c≠b->s.heap.get? c=ϊ o->Z.get? c=ϊ o:=λc o W e=>by
  rw[<- U];exact Á _ (Á _ (by rw[ady _ _ _ _ W];exact e))
 have last:∀(q:Array Nat),Pm us.length q->Up O (ky x q) us.length->R (.done (.ret .none)) { s with heap:=Z.update b (Ŭ λ_=>(q.toList.map λi=>us.getD i Value.none).toArray) }:=λq h1 T =>
  hR q _ _ h1 T (λc o W e=>by rw[ady _ _ _ _ W];exact old c o W e) (get?_update_seq X λ_=>(q.toList.map λi=>us.getD i Value.none).toArray)
 rw[list_sort_plain];calc À (listItems_at hb rfl (À (listUpdate_at hb rfl ?_ (by rw[Ý];exact line) (ą _))));refine À (seqEpoch_at M rfl (À (wpAny_newTuple (À (wpAny_newList (Ĉ ?_) (ą _))) (by show us.length<=_;exact line))))
 show ß 2e3 A _ R E { s with heap:=_ }
 rw[U];dsimp only;by_cases Y:us.toArray.size<2
 ·rw[Ô Y,Ô Y]
  calc À (Â ?_);rw[StateT.run_pure];calc À (Â ?_);dsimp only;have K:(us.toArray.zip us.toArray).map (·.2)=((aef (ö us.length)).toList.map λi=>us.getD i Value.none).toArray:=by
   exact mL us (by rw[<- Ý];exact Y)
  refine À (seqEpoch_at X rfl (À (listUpdate_at X rfl ?_ (ą _) ?_)))
  ·erw[Ĩ,Ç,õ]
   show ß _ _ _ _ _ { s with heap:=Z.update b (Ŭ λ_=>(us.toArray.zip us.toArray).map (·.2)) }
   rw[K];calc Â (last _ ⟨by simp,by simp⟩ λi j y L=>?_);rw[Ý] at Y;omega
  ·show ((us.toArray.zip us.toArray).map (·.2)).size<=Ù+1
   simp;omega
 ·rw[Ö Y,Ö Y]
  rw[Ý] at Y;calc À (ħ (hk ⋯ Z old) (fun J t S=>?_) λ_ _ z=>z.elim);obtain⟨rfl,S⟩:=S
  have tree:(kas_sort us.length).kasWp (kas_ask prog w A J us) (λq t=>t={ s with heap:=Z }/\Pm us.length q/\Up O (ky x q) us.length) { s with heap:=Z } :=
   Nx (c:=asks O x) (n:=us.length) (λi j C hi L I=>S i j C hi L I) (kP (WH ⋯) λq P=>⟨rfl,P⟩)
  refine À (ħ (kat_run (Q:=λV t=>∃q:Array Nat,q.size=us.length/\arrOf V=q.map (kas_item (us.toArray.zip us.toArray))/\failedOf V=ϋ/\t={ s with heap:=Z }/\Pm us.length q/\Up O (ky x q) us.length)
   rfl ⋯ hz (λq V t a1 a2 H G=>⟨q,a1,a2,H,G⟩) tree) ?_ λ_ _ z=>z)
  rintro ⟨⟨⟩,V⟩ t ⟨q,P,N,F,rfl,T,D⟩;dsimp only;rw[kat_snds rfl N];refine À (seqEpoch_at X rfl (À (listUpdate_at X rfl ?_ (ą _) ?_)))
  ·rw[F]
   erw[Ĩ,Ç,õ];exact Â (last q T D)
  ·show ((q.toList.map λi=>us.getD i Value.none).toArray).size<=Ù+1
   rw[Ý,Ä,ë,P];omega
def SX (hl:s.heap.IsList l us.toArray) (hz:us.length<64)
 (hk:2<=us.length->∀h1,(∀c o,s.heap.get? c=ϊ o->h1.get? c=ϊ o)->Ax prog w A.in1.in1 O x us { s with heap:=h1 })
 (hQ:∀(q:Array Nat) h' b e,Pm us.length q->Up O (ky x q) us.length->(∀c o,s.heap.get? c=ϊ o->h'.get? c=ϊ o)->s.heap.objs.size<=b->h'.get? b=ϊ (aeO "list" (q.toList.map λi=>us.getD i Value.none).toArray e)->Q (.ref b) { s with heap:=h' }) :
  ß 2e3 A (call (.builtin "sorted") [.ref l]) Q E s:=by
 have line:us.length<=Ù:=by rw[ţ];omega
 calc Calls.call_function_entry kind_sorted plain_sorted entry_sorted (args_sorted1 _) ?_;delta Ÿ.«sorted»;calc À (m:=checkCount "sorted" 1 1 _) (Â (À (collect_list hl (À (wpAny_newList ?_ line)) line)));generalize X:((s.heap.push (aeO "list" #[] 0)).update s.heap.objs.size (Ŭ (·++us.toArray)))=h1;have W:h1.objs.size=s.heap.objs.size+1:=by rw[<- X,Heap.size_update,size_push']
 have U:∀c o,s.heap.get? c=ϊ o->h1.get? c=ϊ o:=λc o e=>by
  have Z:c<s.heap.objs.size:=Í e;rw[<- X,ady _ _ _ _ (á Z)];exact Á _ e
 show ß _ _ _ _ _ { s with heap:=h1.push (aeO "list" us.toArray 0) }
 have V:(h1.push (aeO "list" us.toArray 0)).get? h1.objs.size=ϊ (aeO "list" us.toArray 0):=Ò _ rfl;have old:∀c o,s.heap.get? c=ϊ o->c≠h1.objs.size/\(h1.push (aeO "list" us.toArray 0)).get? c=ϊ o:=λc o e=>by
  have Z:c<s.heap.objs.size:=Í e;exact⟨á (by rw[W];exact Ě Z),Á _ (U c o e)⟩
 calc À (Ĉ (ě slot_list_sort ⟨_,V,rfl⟩ entry_list_sort (QN V hz (λz h' Y=>hk z h' λc o e=>Y c o (old c o e).1 (old c o e).2) λq h' e T S Y R=>⟨_,rfl,?_⟩) (args_list_sort _)));exact Â ⟨_,rfl,hQ q h' _ e T S (λc o e=>Y c o (old c o e).1 (old c o e).2) (by show _<=h1.objs.size;rw[W];exact adx _) R⟩
end
open HT
def CP:∀a:List Int,lexLt a a=ύ:=λa=>by
 induction a with
 |nil=>rfl
 |cons i r ih=>rw[ke,Ô rfl];exact ih
def YM:∀a b c:List Int,lexLt a b=ό->lexLt b c=ό->lexLt a c=ό:=λa=>by
 induction a with
 |nil =>
  intro b c h g
  cases b with
  |nil=>cases h
  |cons j s=>cases c with
   |nil=>cases g
   |cons k t=>rfl
 |cons i r ih =>
  intro b c h g
  cases b with
  |nil=>cases h
  |cons j s =>
   cases c with
   |nil=>cases g
   |cons k t =>
    rw[ke] at h g |-;by_cases e1:i=j
    ·subst e1
     rw[Ô rfl] at h;by_cases e2:i=k
     ·rw[Ô e2] at g |-;exact ih s t h g
     ·rw[Ö e2] at g |-;exact g
    ·rw[Ö e1] at h
     have h:=î h;by_cases e2:j=k
     ·subst e2
      rw[Ö e1];exact Î h
     ·rw[Ö e2] at g
      have g:=î g;rw[Ö ⋯];exact Î ⋯
def WI:∀a b:List Int,lexLt a b=ύ->lexLt b a=ύ->a=b:=λa=>by
 induction a with
 |nil =>
  intro b h g
  cases b with
  |nil=>rfl
  |cons j s=>cases h
 |cons i r ih =>
  intro b h g
  cases b with
  |nil=>cases g
  |cons j s =>
   rw[ke] at h g;by_cases e:i=j
   ·subst e
    rw[Ô rfl] at h g;rw[ih s h g]
   ·rw[Ö e] at h
    rw[Ö (ŵ e)] at g;have h:=of_decide_eq_false h;have g:=of_decide_eq_false g;omega
section
variable {prog:ê} {w:Ď} {A:ó} {E:È->Æ->Prop} {s:Æ}
def ins {α:Type} (O:Ord α) (a:α):List α->List α
 | []=>[a]
 |b::r=>if O.lt b a=ό then b::ins O a r else a::b::r
def cJ {α:Type} (O:Ord α):List α->List α
 | []=>[]
 |a::r=>ins O a (cJ O r)
end
section
variable {α:Type} {O:Ord α}
def J4 (a:α) (l:List α):(ins O a l).Perm (a::l):=by
 induction l with
 |nil=>exact .refl _
 |cons b r ih =>
  delta ins;split
  ·exact(List.Perm.cons b ih).trans (List.Perm.swap a b r)
  ·exact .refl _
def pY (l:List α):(cJ O l).Perm l:=by
 induction l with
 |nil=>exact .refl _
 |cons a r ih=>exact(J4 a _).trans (ih.cons a)
def YN (a:α) (l:List α) (h:l.Pairwise O.le):(ins O a l).Pairwise O.le:=by
 induction l with
 |nil=>exact List.pairwise_singleton _ _
 |cons b r ih =>
  obtain⟨X,W⟩:=þ.mp h;delta ins
  split<;>rename_i Z
  ·refine þ.mpr ⟨λc Y=>?_,ih W⟩
   rcases Ï.mp ((J4 a r).mem_iff.mp Y) with e|e
   ·rw[e];exact Ord.le_of_lt Z
   ·exact X c e
  ·have Z:O.le a b:=by rw[ē] at Z;exact Z
   refine þ.mpr ⟨λc Y=>?_,h⟩
   rcases Ï.mp Y with e|e
   ·rw[e];exact Z
   ·exact Ord.tm Z (X c e)
def J5 (l:List α):(cJ O l).Pairwise O.le:=by
 induction l with
 |nil=>exact .nil
 |cons a r ih=>exact YN a _ ih
def SY:∀{l m:List α},l.Perm m->l.Pairwise O.le->m.Pairwise O.le->l=m:=by
 intro l
 induction l with
 |nil=>intro m h _ _;exact h.nil_eq
 |cons a r ih =>
  intro m h Z Y
  cases m with
  |nil=>exact absurd h.length_eq ∅
  |cons b t =>
   obtain⟨a1,a2⟩:=þ.mp Z;obtain⟨X,W⟩:=þ.mp Y;have e:a=b:=by
    rcases Ï.mp (h.mem_iff.mp Õ) with e|e
    ·exact e
    ·rcases Ï.mp (h.mem_iff.mpr Õ) with e'|e'
     ·exact e'.symm
     ·exact Ord.Nw (a1 b e') (X a e)
   subst e;rw[ih h.cons_inv a2 W]
def S0 (hp:Pm xs.length q) (hu:Up O (ky (λi=>xs.getD i d) q) xs.length):q.toList.map (λi=>xs.getD i d)=cJ O xs:=by
 refine SY ?_ ?_ (J5 xs)
 ·refine(hp.2.map _).trans ?_
  have:(ö xs.length).map (λi=>xs.getD i d)=xs:=by
   apply υ;intro i;by_cases hi:i<xs.length
   ·simp[hi]
   ·simp[hi,acH hi]
  rw[this];exact(pY xs).symm
 ·rw[List.pairwise_iff_getElem]
  intro i j hi W Z;have V:(q.toList.map λi=>xs.getD i d).length=xs.length:=by rw[Ä,ë,hp.1]
  have Y:j<q.size:=by rw[hp.1];omega
  have X:i<q.size:=by omega
  have:=hu i j Z ⋯;delta ky at this;simpa [ae0,X,Y] using this
end
end ST
namespace DI
open PySem L2
end DI
namespace L2
open PySem PySem.Spec PyProof.Rows
structure Mk (sc:acB) (cl fq:List (Str×Þ)) (C:Nat) (h:Ŀ):Prop where
 old:∀n c,fq.lookup n=ϊ c->(C<c/\(n,NameKind.cell)∈sc.names/\∃v,h.IsCell c v)\/cl.lookup n=ϊ c
 own:∀n,sc.names.lookup n=ϊ .cell\/(cl.lookup n).isSome=ό->∃c,fq.lookup n=ϊ c
 inj:(∀x y c,cl.lookup x=ϊ c->cl.lookup y=ϊ c->x=y)->(∀x c,cl.lookup x=ϊ c->c<C)->∀x y c,fq.lookup x=ϊ c->fq.lookup y=ϊ c->x=y
theorem BP:∀(names:List (Str×ξ)) (n:Nat) (acc:List (Str×Þ)),(adk n names acc).lookup x=ϊ c->((x,NameKind.cell)∈names/\n<=c)\/acc.lookup x=ϊ c
 | [],n,acc,h=>.inr h
 |(y,k)::r,n,acc,h=>by
  delta adk at h;split at h
  ·rename_i Z
   have Z:k=.cell:=by simpa using Z
   subst Z
   rcases BP r (n+1) _ h with ⟨h1,Y⟩|h1
   ·exact .inl ⟨Ì _ h1,by omega⟩
   ·rw[Ĵ] at h1
    split at h1
    ·rename_i e
     have e:x=y:=by simpa using e
     subst e;cases h1;exact .inl ⟨Õ,afn _⟩
    ·exact .inr h1
  ·rcases BP r n acc h with ⟨h1,Y⟩|h1
   ·exact .inl ⟨Ì _ h1,Y⟩
   ·exact .inr h1
theorem BQ:∀(names:List (Str×ξ)) (n:Nat) (acc:List (Str×Þ)),(∀x y c,acc.lookup x=ϊ c->acc.lookup y=ϊ c->x=y)->(∀x c,acc.lookup x=ϊ c->c<n)->∀x y c,(adk n names acc).lookup x=ϊ c->(adk n names acc).lookup y=ϊ c->x=y
 | [],n,acc,hi,X=>hi
 |(z,k)::r,n,acc,hi,X=>by
  delta adk;split
  ·refine BQ r (n+1) _ (λx y c Z Y=>?_) λx c Z=>?_
   ·rw[Ĵ] at Z Y
    split at Z
    ·rename_i e1
     split at Y
     ·rename_i e2
      exact(by simpa using e1:x=z).trans (by simpa using e2:y=z).symm
     ·cases Z
      exact absurd (X y _ Y) (ñ _)
    ·split at Y
     ·cases Y
      exact absurd (X x _ Z) (ñ _)
     ·exact hi x y c Z Y
   ·rw[Ĵ] at Z
    split at Z
    ·cases Z;exact ť _
    ·exact Ě (X x c Z)
  ·exact BQ r n acc hi X
theorem Cg {lo:Nat}:∀(names:List (Str×ξ)) (h:Ŀ) (acc:List (Str×Þ)),lo<=h.objs.size->(∀x c,acc.lookup x=ϊ c->lo<=c->h.IsCell c ϋ)->(adk h.objs.size names acc).lookup x=ϊ c->lo<=c->(pushCells h names).IsCell c ϋ
 | [],h,acc,_,Z,e,Y=>Z x c e Y
 |(z,k)::r,h,acc,V,Z,e,Y=>by
  delta adk at e;delta pushCells;split at e
  ·rename_i W
   rw[Ô W];have U:(h.push { cls:=.type "cell",data:=.cell ϋ }).objs.size=h.objs.size+1:=ý ..;calc Cg (lo:=lo) r _ ((z,h.objs.size)::acc) ⋯ (λy d X T=>?_) (by rw[U];exact e) Y;rw[Ĵ] at X;split at X
   ·cases X
    exact⟨_,Ò _ rfl,rfl⟩
   ·exact(Z y d X T).keeps λb o q=>Á _ q
  ·rename_i W
   rw[Ö W];exact Cg r h acc V Z e Y
def Qy {E:È->Æ->Prop} {Q:Env->Æ->Prop}
 (hQ:∀fq h3,((∀x c,cl.lookup x=ϊ c->c<s.heap.objs.size)->Mk scope cl fq s.heap.objs.size h3)->h3.Ns s.heap.objs.size (λ_=>ϋ)->(∀b o,s.heap.get? b=ϊ o->h3.get? b=ϊ o)->Q (newEnv scope s.heap.objs.size globals fq qual ϋ .none (ϊ env) bi) { s with heap:=h3 }) :
  ß M A (newFunctionEnv scope globals cl [] qual ϋ .none (ϊ env) bi) Q E s:=by
 erw[newFunctionEnv,Option.isSome_some,ÿ];refine À (wpAny_alloc ?_)
 refine À (wpAny_layCells _ (λname kind cells=>by cases Z:kind==NameKind.cell<;>simp[Z]) _ _ _ _ ?_)
 rw[show ({ s with heap:=s.heap.push { cls:=.type "dict",data:=.dict #[] } }:Æ).heap.objs.size=s.heap.objs.size+1 from ý ..]
 erw[List.forIn_nil];calc À (Â (Â ?_));have Y:(s.heap.push { cls:=.type "dict",data:=.dict #[] }).objs.size=s.heap.objs.size+1:=ý ..;refine hQ (adk (s.heap.objs.size+1) scope.names cl) _ (λX=>⟨λn c e=>?_,λn W=>?_,λhi V=>BQ _ _ _ hi λx c e=>Ě (V x c e)⟩) ((Heap.Ns.new s.heap (.type "dict")).keeps (pushCells_keeps _ _)) λb o e=>pushCells_keeps _ _ b o (Á _ e)
 ·rcases BP _ _ _ e with ⟨h1,U⟩|h1
  ·exact .inl ⟨by omega,h1,ϋ,Cg (lo:=s.heap.objs.size+1) scope.names _ cl ⋯ (λx d q T=>absurd (X x d q) (ae2.mpr (Nat.le_of_succ_le T))) (by rw[Y];exact e) U⟩
  ·exact .inr h1
 ·exact adB.mp (acP scope.names _ cl W)
abbrev cp (X:Cx) (N:List Str) (sc:acB) (cl:List (Str×Þ)) (C:Þ) (s:Æ) (H:Hp) (ex:List Þ) (pn:List 2e7):Cx:={ eU X N sc cl C s H ex pn with fn:=λx=>sc.names.lookup x==ϊ .cell }
structure oo (X:Cx) (sc:acB) (N:List Str) (nt:Nat) (cap:List Nat):Prop where
 kind:sc.kind=.function
 names:∀x∈sc.names,x.2=.local->sc.names.lookup x.1=ϊ .local
 cells:∀x∈sc.names,x.2=.cell->sc.names.lookup x.1=ϊ .cell
 frees:∀x∈sc.names,x.2=.free->sc.names.lookup x.1=ϊ .free/\(X.env.scope.names.lookup x.1=ϊ .cell\/X.env.scope.names.lookup x.1=ϊ .free)
 len:N.length=nt+cap.length
 EX:∀(k:Nat) j,cap[k]?=ϊ j->∃x,X.N[j]?=ϊ x/\N[nt+k]?=ϊ x/\6e0∈sc.names
section
variable {X:Cx} {sc:acB} {N:List Str} {nt:Nat} {cap:List Nat} {cl fq:List (Str×Þ)} {s:Æ} {h1:Ŀ} {H:Hp} {σ:St} {π:List (Þ×Obj)} {fp:List Þ} {C:Þ} {t':Nat}
def Inv.YO (I:Inv X π σ H s) (S:oo X sc N nt cap) (di:∀n c,cl.lookup n=ϊ c↔(7e7∈sc.names/\X.env.cells.lookup n=ϊ c)) (iN:Mk sc cl fq C h1) (hf:∀b∈fp,eZ X π H b) (gI:∀b∈fp,b<s.heap.objs.size)
  (hk:∀b o,s.heap.get? b=ϊ o->h1.get? b=ϊ o) (hC:s.heap.objs.size<=C) (pd:∃m,h1.Ns C m):Inv (cp X N sc fq C s H fp (X.pn++π)) [] (l8 nt cap σ) H { s with heap:=h1,toks:=t' }:=by
 have M:∀b∈cm X.stack,b∈X.env.locals::X.fs:=I.ki;have R:∀x c,cl.lookup x=ϊ c->c<s.heap.objs.size:=λx c e=>by
  obtain⟨v,o,V,_⟩:=I.cell x c ((di x c).mp e).2;exact Í V
 have G:∀x,(ae5 sc X.env).names.lookup x=ϊ .cell\/(ae5 sc X.env).names.lookup x=ϊ .free->6e0∈sc.names\/sc.names.lookup x=ϊ .cell:=λx Z=>by
  rw[yo] at Z
  cases e:sc.names.lookup x with
  |none=>rw[e] at Z;rcases Z with z|z<;>cases z
  |some k =>
   have hm:(x,k)∈sc.names:=by
    obtain⟨l1,l2,e1,_⟩:=List.lookup_eq_some_iff.mp e;rw[e1];simp
   rw[e] at Z
   cases k with
   |free=>exact .inl hm
   |cell=>exact .inr rfl
   |_=>exfalso;revert Z;simp
 have F:∀x,6e0∈sc.names->∃c,X.env.cells.lookup x=ϊ c:=λx Z=>I.ok.has x (S.frees _ Z rfl).2;have L:∀x c,6e0∈sc.names->X.env.cells.lookup x=ϊ c->fq.lookup x=ϊ c:=λx c Z Q=>by
  have e:=(di x c).mpr ⟨Z,Q⟩;obtain⟨d,hd⟩:=iN.own x (.inr (by rw[e];rfl))
  rcases iN.old x d hd with ⟨_,q,_⟩|q
  ·have T:=S.cells _ q rfl
   have W:=(S.frees _ Z rfl).1;dsimp only at T W;rw[T] at W;cases W
  ·rw[e] at q
   cases q;exact hd
 have ok:Cx.Ok (cp X N sc fq C s H fp (X.pn++π)):=by
  refine⟨I.ok.mod,?_,I.ok.glob,I.ok.blt,hC,?_,?_,?_,I.ok.hd,I.ok.frames,.inl rfl,?_,I.bs,Ü I.ok.jq I.sz,?_,?_,I.stack,I.vB⟩
  ·exact S.kind
  ·exact iN.inj (λx y c Z E=>I.ok.inj x y c ((di x c).mp Z).2 ((di y c).mp E).2) λx c e=>Ë (R x c e) hC
  ·intro x Z
   rcases G x Z with hm|hm
   ·obtain⟨c,e⟩:=F x hm
    exact⟨c,L x c hm e⟩
   ·exact iN.own x (.inl hm)
  ·intro x c Z e
   rcases iN.old x c e with ⟨q,_,_⟩|q
   ·exact Ü hC (Nat.le_of_lt q)
   ·have W:=(S.frees _ ((di x c).mp q).1 rfl).1
    have T:sc.names.lookup x=ϊ .cell:=by simpa using Z
    dsimp only at W;rw[T] at W;cases W
  ·intro b Y
   refine⟨á (Ë (gI b Y) hC),λx c e=>?_⟩
   rcases iN.old x c e with ⟨q,_,_⟩|q
   ·exact Ş (Ë (gI b Y) (Ü hC (Nat.le_of_lt q)))
   ·exact(hf b Y).2.2.2.2.1 x c ((di x c).mp q).2
  ·intro b o e Y
   rcases(hf b Y).2.2.2.1 with z|z
   ·exact I.ok.oK b o e z
   ·exact absurd (Ë (Í e) (Ü I.ok.jq z)) (ñ _)
  ·intro b Y z
   rcases Ï.mp (M b z) with e|e
   ·exact(hf b Y).2.1 e
   ·exact(hf b Y).2.2.1 e
 obtain⟨m,hm⟩:=pd;obtain⟨mX,D,B⟩:=I.loc;refine⟨ok,rfl,I.bare,Un.kept hk,⟨m,hm,λi x v e1 e2 e3=>?_⟩,λx c e=>?_,I.az.fresh hC,λx c e=>?_,λp A=>?_,I.az.kept hk,?_⟩
 ·
  have hi:nt<=i:=by
   apply acH;intro K;have:(l8 nt cap σ)[i]?=ϊ ϋ:=by
    delta l8;rw[â (by simpa using K),ľ,Ô K]
   rw[this] at e2;cases e2
  have U:(cap.map λj=>(σ[j]?).getD ϋ)[i-nt]?=ϊ (ϊ v):=by
   have e:=e2;delta l8 at e;rw[í (by simpa using hi)] at e;simpa using e
  rw[é] at U
  cases P:cap[i-nt]? with
  |none=>rw[P] at U;cases U
  |some j =>
   rw[P] at U;have ev:(σ[j]?).getD ϋ=ϊ v:=afo U;have w:σ[j]?=ϊ (ϊ v):=by
    cases q:σ[j]? with
    |none=>rw[q] at ev;cases ev
    |some z=>rw[q] at ev;exact ĵ ϊ ev
   obtain⟨y,f1,f2,J⟩:=S.EX _ _ P;rw[Nat.add_sub_cancel' hi] at f2;have t:y=x:=afo (f2.symm.trans e1);subst t;obtain⟨g1,g2⟩:=S.frees _ J rfl;have h:qW X.env.scope y:=.inr g2;obtain⟨u,r,l⟩:=B j y v f1 w h;refine⟨u,r,.inr ⟨?_,?_⟩⟩
   ·show (ae5 sc X.env).names.lookup y=ϊ .cell\/(ae5 sc X.env).names.lookup y=ϊ .free
    rw[yo,g1];erw[acY];split
    ·exact .inl rfl
    ·exact .inr rfl
   ·rcases l with ⟨k,_⟩ | ⟨_,c,Q,g⟩
    ·exfalso
     have f:X.env.scope.names.lookup y=ϊ .local:=k;dsimp only at g2;rw[f] at g2
     rcases g2 with z|z<;>cases z
    ·obtain⟨O,V,hd⟩:=g
     exact⟨c,L y c J Q,O,hk _ _ V,hd⟩
 ·rcases iN.old x c e with ⟨_,_,q⟩|q
  ·exact q
  ·obtain⟨v,O,V,hd⟩:=I.cell x c ((di x c).mp q).2
   exact⟨v,O,hk _ _ V,hd⟩
 ·rcases iN.old x c e with ⟨q,_,_⟩|q
  ·exact I.az.fresh ⋯
  ·exact I.jf x c ((di x c).mp q).2
 ·have a:p∈X.pn++π:=by simpa using A
  obtain⟨e,n,ne,nf,d⟩:=I.pin p a;refine⟨hk _ _ e,n,á (Ë (Í e) hC),λz=>?_,d⟩
  rcases Ï.mp (M p.1 z) with q|q
  ·exact ne q
  ·exact nf q
 ·delta l8
  rw[à,acV,Ä];exact S.len.symm
end
def Rf {P:ê} {w:Ď} {A:ó} {R:Result->Æ->Prop} {s:Æ} {el tg src:ĳ} {tests:List ĳ} {sc:acB} {ps:Pos} {gW av:È} {ce:Env} {XT:È->Æ->Prop} (hx:∀x s,XT x s->notedBy 2e0 A ce (λx s'=>R (.error x) s') x s) (J:Nat->Æ->Prop)
  (turn:∀n s,J n s->ß 2e0 A (acU gW) (λr s1=>match r with
   |none=>R (.ok .next) s1
   |some v=>ß 2e0 A (ş tg gW v) (λ_ s2=>ß 2e0 A (aeJ tg ce v) (λ_ s3 =>
     ß 2e0 A (forIn tests ό λc r=>if r=ό then do let ok <- isTrue c ce (ŗ c ce);pure (Ő ok) else pure (Ő r)) (λok s4 =>
      if ok=ό then ß 2e0 A (ŗ el ce) (λy s5=>ß 2e0 A (call (.builtin "list.append") [av,y]) (λ_ s6=>∃m,m<n/\J m s6) XT s5) XT s4
      else ∃m,m<n/\J m s4) XT s3) XT s2) XT s1) XT s)
  (n:Nat) (h:J n s):acN 2e0 A (.compLoop 4e9 0 gW av ce) R s:=by
 refine codeAny_loop rfl J (λn s X=>?_) n h
 show ß _ A ((compTurn 4e9 0 gW av ce).onRaise (λx=>do aeD x ce;theTreesLotGoes x)) _ _ s
 calc wpAny_noted ?_;rw[compTurn_list];refine À (ž (À (ħ (turn n s X) (λr s1 Z=>?_) hx)))
 cases r with
 |none=>exact Â Z
 |some v =>
  calc À (ħ Z (λ_ s2 W=>?_) hx);refine À (ħ W (λ_ s3 V=>À (ħ V (λok s4 Y=>?_) hx)) hx)
  cases ok with
  |false=>exact Â ⟨rfl,Y⟩
  |true =>
   exact À (À (ħ Y (λy s5 U=>À (ħ U (λ_ s6 T=>Â (Â ⟨rfl,T⟩)) hx)) hx))
structure Ny (P:ê) (w:Ď) (E el tg src:ĳ) (tests:List ĳ) (new:Sem È) (ap:String) (mk:Þ->List V->HO) (lJ:List V->Prop) where
 o0:Obj
 live:o0.isFreed=ύ
 Ac:Þ->List V->Ŀ->Prop
 clauses:clausesOf E=[1e7]
 turns:∀{A:ó} {R:Result->Æ->Prop} {s:Æ} {gW av:È} {ce:Env} {XT:È->Æ->Prop} (_:∀x s,XT x s->notedBy (è P w) A ce (λx s'=>R (.error x) s') x s) (J:Nat->Æ->Prop)
  (turn:∀n s,J n s->ß (è P w) A (acU gW) (λr s1=>match r with
   |none=>R (.ok .next) s1
   |some v=>ß (è P w) A (ş tg gW v) (λ_ s2=>ß (è P w) A (aeJ tg ce v) (λ_ s3 =>
     ß (è P w) A (forIn tests ό λc r=>if r=ό then do let ok <- isTrue c ce (ŗ c ce);pure (Ő ok) else pure (Ő r)) (λok s4 =>
      if ok=ό then ß (è P w) A (ŗ el ce) (λy s5=>ß (è P w) A (call (.builtin ap) [av,y]) (λ_ s6=>∃m,m<n/\J m s6) XT s5) XT s4
      else ∃m,m<n/\J m s4) XT s3) XT s2) XT s1) XT s)
  (n:Nat) (_:J n s),acN 2e0 A (.compLoop E 0 gW av ce) R s
 new:∀{A:ó} {X:È->Æ->Prop} {s:Æ} {Q:È->Æ->Prop},Q 0e7 { s with heap:=s.heap.push o0 }->ß 2e0 A new Q X s
 start:∀{A:ó} {R:Result->Æ->Prop} {s:Æ} {it acc:È} {env:Env},acN 2e0 A (.compLoop E 0 it acc env) R s->ß 2e0 A (ae9 it) (λmQ s'=>acN 2e0 A (.compLoop E 0 mQ acc env) R s') (notedBy 2e0 A env λx s'=>R (.error x) s') s->acN 2e0 A (.compStart E 0 it acc env) R s
 init:∀{D:Þ} {h:Ŀ},h.get? D=ϊ o0->Ac D [] h
 obj:∀{D:Þ} {acc:List V} {h:Ŀ},Ac D acc h->∃o,h.get? D=ϊ o/\∀v,o.data≠.cell v
 gy:∀{D:Þ} {acc:List V} {h h':Ŀ},Ac D acc h->(∀o,h.get? D=ϊ o->h'.get? D=ϊ o)->Ac D acc h'
 Ml:∀{D:Þ} {acc:List V} {h:Ŀ} {H:Hp},lJ acc->Ac D acc h->dR P w (upd H D (mk D acc)) h D (mk D acc)
 add:∀{A:ó} {E:È->Æ->Prop} {s:Æ} {D:Þ} {acc:List V} {v:V} {y:È} {Q:È->Æ->Prop},Ac D acc s.heap->RelV v y->lJ acc->lJ (acc++[v])->(∀h' tk,ı D s.heap h'->Ac D (acc++[v]) h'->Q .none { s with heap:=h',toks:=tk })->ß 2e0 A (call (.builtin ap) [.ref D,y]) Q E s
section
variable {X:Cx}
def BC {E el tg src:ĳ} {tests:List ĳ} {sc:acB} {N:List Str} {nt:Nat} {cap:List Nat} {wi:TI} {g:TG} {tf:TT} {te:TE} {p1:Pos} {use:Option (È->Sem Unit)} {R:È->Æ->Prop} {π:List 2e7} {s:Æ} {σ:St} {H:Hp} {Q:VK} {new:Sem È} {ap:String} {mk:Þ->List V->HO} {lJ:List V->Prop} (B:Ny X.prog X.w E el tg src tests new ap mk lJ) (hc:X.calm=ό) (S:oo X sc N nt cap) (fP:mJ g nt) (hi:PI X tg src wi)
  (xy:Cx->È->Æ->Prop) (hY:∀(cl:List (Str×Þ)) (C:Þ) (s:Æ) (H:Hp) (ex:List Þ) (pn:List (Þ×Obj)),PG 5e7 tg g/\PF 5e7 tests tf/\PE 5e7 el te)
  (hs:∀x,ă src X.env x=pure x) (I:Inv X π σ H s) (h:wi σ H λJ H1=>OT mk lJ J nt (nq cap σ) g tf te H1 Q)
  (pH:∀(cl:List (Str×Þ)) (C:Þ) (s2:Æ) (H2:Hp) (fp:List Þ) (D:Þ) (x:È) (s':Æ),Inv X π σ H2 s2->s2.heap.objs.size<=C->(∀b∈fp,eZ X π H2 b)->xy (cp X N sc cl C s2 H2 fp (X.pn++π)) x s'->notedBy 0e2 X.A (aeM sc cl C X.env) (λx ff=>aeQ 0e2 X.A X.xe use R 8e8 C (.error x) ff) x s')
  (E6:∀(s':Æ) (H1:Hp) (D C:Þ) (m:Str->Option È),(∀h',ı C s'.heap h'->Inv X π σ H1 { s' with heap:=h' })->s'.heap.Ns C m->H1 C=ϋ->C≠X.env.locals->C∉X.fs->X.c8.heap.objs.size<=C->(∀x c,X.env.cells.lookup x=ϊ c->c≠C)->(∀p∈X.pn++π,p.1≠C)->Q 8e8 H1->aeQ 0e2 X.A X.xe use R 8e8 C (.ok .next) s') :
  ß 0e2 X.A (comprehension E sc X.env p1 new ύ (ŗ src X.env) use) R X.xe s:=by
 obtain⟨cl,Ed,di⟩:=L0 (env:=X.env) (sc:=sc) λn a=>I.ok.has n (S.frees _ a rfl).2;calc wpAny_comprehension_free (use:=use) B.clauses hs Ed S.kind S.names (aJ (hi π s σ H _ I h) λxv s1 h1=>aJ h1 λgW s2 h2=>?_);obtain⟨it,fp,tn,J,H2,e,O,T,gH,f2,W,⟨m0,w0⟩,turn⟩:=h2;subst e;calc B.new (Qy λl h3 k lB pA=>?_);dsimp only at k lB pA |-;generalize hD:s2.heap.objs.size=D at k lB pA |-;generalize hG:s2.heap.push B.o0=G at k lB pA |-;generalize Gg:G.objs.size=C at k lB pA |-;have hC:C=D+1:=by rw[<- Gg,<- hG,ý,hD]
 have rF:D≠C:=by omega
 have f:s2.heap.objs.size<=D:=aeP hD;have t:s2.heap.objs.size<=C:=by omega
 have old:∀b o,s2.heap.get? b=ϊ o->h3.get? b=ϊ o:=λb o e=>pA b o (hG ▸ Á _ e);have tL:B.Ac D [] h3:=B.init (pA _ _ (hG ▸ hD ▸ Ò _ B.live));have gI:∀b∈fp,b<s2.heap.objs.size:=λb P=>by
  obtain⟨o,e,_⟩:=T.obj _ _ gH b P;exact Í e
 have k:=k λx c e=>by
  obtain⟨v,o,ho,_⟩:=O.cell x c ((di x c).mp e).2;exact Ë (Í ho) t
 have IB:=O.YO (t':=s2.toks) S di k f2 gI old t ⟨_,lB⟩;have Gh:D∉cm X.stack:=λz=>by
  rcases Ï.mp (O.ki D z) with e|e
  ·exact absurd (Ë O.lt f) (by rw[e];exact ñ _)
  ·exact O.tG f e
 have nQ:D∉fp:=λz=>absurd (Ë (gI D z) f) (ñ _);have Dx:∀x c,l.lookup x=ϊ c->c≠D:=λx c e z=>by
  rcases k.old x c e with ⟨q,_,_⟩|e
  ·rw[z] at q
   exact absurd q (by rw[hC];exact ae2.mpr (adx D))
  ·obtain⟨v,o,ho,_⟩:=O.cell x c ((di x c).mp e).2
   exact absurd (Ë (Í ho) (by rw[z];exact f)) (ñ _)
 have Ee:∀p∈X.pn++π,p.1≠D:=λp L z=>absurd (Ë (Í (O.pin p L).1) (by rw[z];exact f)) (ñ _);have IB:=IB.eY (xy (cp X N sc l C s2 H2 fp (X.pn++π)));have O8:∀x s',((cp X N sc l C s2 H2 fp (X.pn++π)).eY (xy (cp X N sc l C s2 H2 fp (X.pn++π)))).xe x s'->notedBy (è X.prog X.w) X.A (aeM sc l C X.env) (λx ff=>aeQ (è X.prog X.w) X.A X.xe use R (.ref D) C (.error x) ff) x s':=λx s' z=>pH l C s2 H2 fp D x s' O t f2 z;generalize M:(cp X N sc l C s2 H2 fp (X.pn++π)).eY (xy (cp X N sc l C s2 H2 fp (X.pn++π)))=Y at IB O8;have nR:∀{U:Hp} {pl:List (Þ×Obj)},(∀b∈fp,U b=ϋ)->(∀p∈pl,p.1∉fp)->∀b∈fp,eZ Y pl U b:=λ{U pl} a L b P=>by
  subst M;obtain⟨_,f1,rD,f3,f4,f5⟩:=f2 b P;refine⟨a b P,á (Ë (gI b P) t),λz=>?_,.inl P,λx c e=>(k.old x c e).elim (λq z=>Ş (Ë (gI b P) (Ü t (Nat.le_of_lt q.1))) z) λe=>f4 x c ((di x c).mp e).2,λp xR=>?_⟩
  ·rcases Ï.mp (O.ki b z) with e|e
   ·exact f1 e
   ·exact rD e
  ·rcases Ć.mp xR with z|z
   ·exact f5 p z
   ·exact λe=>L p z (e ▸ P)
 have Gi:PG Y tg g:=M ▸ (hY _ _ _ _ _ _).1;have Gj:PF Y tests tf:=M ▸ (hY _ _ _ _ _ _).2.1;have hE1:PE Y el te:=M ▸ (hY _ _ _ _ _ _).2.2;have eP:Y.prog=X.prog:=M ▸ rfl;have eW:Y.w=X.w:=M ▸ rfl;have eA:Y.A=X.A:=M ▸ rfl;have eK:Y.K=X.K:=M ▸ rfl;have eE:Y.env=aeM sc l C X.env:=M ▸ rfl;have eC:Y.calm=ό:=M ▸ hc;have eS:Y.c8.heap.objs.size<=D:=M ▸ f;have eF:D∉Y.fs:=M ▸ Gh;have eL:D≠Y.env.locals:=M ▸ rF;have eCl:∀x c,Y.env.cells.lookup x=ϊ c->c≠D:=M ▸ Dx;have eN:∀p∈Y.pn,p.1≠D:=M ▸ Ee;have fin:∀(s':Æ) (d:St) (U:Hp) (Z:List V),Inv Y [] d U s'->B.Ac D Z s'.heap->U D=ϋ->lJ Z->(∀D,U D=ϋ->Q (.ref D) (upd U D (mk D Z))) ->
   aeQ (è X.prog X.w) X.A X.xe use R (.ref D) C (.ok .next) s':=by
  intro s' d U Z F pl a hz q;subst M;obtain⟨m,hm,_⟩:=id F.loc;refine E6 s' (upd U D (mk D Z)) D C m (λh' sb=>?_) hm ?_ (λz=>absurd (Ë O.lt t) (by rw[z];exact ñ _)) (O.tG t) (Ü O.sz t) (λx c e z=>?_) (λp L z=>absurd (Ë (Í (O.pin p L).1) (by rw[z];exact t)) (ñ _)) (q D a)
  ·have Fc:cN X.prog X.w U h':=F.az.but F.free sb
   have u:=(F.base.but t sb).adopt (o:=mk D Z) f a
   refine O.sU (s':={ s' with heap:=h' }) (ch:=fp) F.os u (Fc.adopt a (B.Ml hz (B.gy pl λo e=>(sb.2 D rF).trans e))) F.bare (λb P=>?_)
   obtain⟨_,f1,_,f3,f4,f5⟩:=f2 b P;exact⟨f3,f1,f4,f5⟩
  ·rw[bx (ŵ rF)]
   exact F.free
  ·obtain⟨v,o,iM,_⟩:=O.cell x c e
   exact absurd (Ë (Í iM) (by rw[z];exact t)) (ñ _)
 have loop:acN (è X.prog X.w) X.A (.compLoop E 0 (.ref it) (.ref D) (aeM sc l C X.env)) (aeQ (è X.prog X.w) X.A X.xe use R (.ref D) C)
   { s2 with heap:=h3 }:=by
  refine B.turns O8 (λn s'=>∃i Z o U,Inv Y [] (o++nq cap σ) U s'/\o.length=nt/\tn i s'.heap/\(∀b∈fp,U b=ϋ)/\B.Ac D Z s'.heap/\U D=ϋ/\W i n Z U) ?_ m0
   ⟨0,[],Ø nt ϋ,H2,IB,by simp,T.keep _ _ _ gH λb _ o e=>old b o e,λb P=>(f2 b P).1,tL,O.az.fresh f,w0⟩
  intro n s3 zzz;obtain⟨i,Z,o3,H3,I3,O9,kK,oY,Pa,nD3,w3⟩:=zzz;generalize hτ:o3++nq cap σ=d at I3;obtain⟨j,ho,aat⟩:=B.obj Pa;have xS:Inv Y [(D,j)] d H3 s3:=I3.m7 λp L=>by
   have e:p=(D,j):=by simpa using L
   subst e;exact⟨ho,nD3,eL,eF,aat⟩
  have rE:∀p∈[(D,j)],p.1∉fp:=λp L=>by
   have e:p=(D,j):=by simpa using L
   subst e;exact nQ
  have uG:∀{pl:List (Þ×Obj)} {dB:St} {U:Hp} {s':Æ},Inv Y ([(D,j)]++pl) dB U s'->B.Ac D Z s'.heap/\U D=ϋ:=λ{pl dB U s'} F=>by
   have q:=F.pin (D,j) (Ó _ (Ā _ ∅));exact⟨B.gy Pa λo e=>by rw[ho] at e;cases e;exact q.1,q.2.1⟩
  rcases turn i n Z H3 w3 with ⟨stop,hz,q⟩ | ⟨go,hz,N',hN,step⟩
  ·have hd:=T.done Y eP eW eK eC i [(D,j)] s3 d H3 Y.xe xS (nR oY rE) kK stop
   rw[eA] at hd;calc aJ hd λr s4 h4=>?_;obtain⟨hr,I4⟩:=h4;subst hr;obtain⟨Ge,n4⟩:=uG (pl:=[]) (by simpa using I4);exact fin s4 d H3 Z (Inv.mZ (π:=[]) I4) Ge n4 hz q
  ·have hd:=T.item Y eP eW eK eC i [(D,j)] s3 d H3 Y.xe xS (nR oY rE) kK go
   rw[eA] at hd;calc aJ hd λr s4 h4=>?_;obtain⟨u,hr,h4⟩:=h4;subst hr;calc aJ h4 λ_ s5 h5=>?_;obtain⟨x,H5,I5,r5,y5,lG,xt⟩:=h5;have xu:=I5.pinned (nR xt rE) (T.obj _ _ lG);have q5:=Gi _ s5 d H5 x u _ xu r5 (hτ ▸ fP x o3 _ H5 _ O9 (step o3 x H5 O9 y5));rw[eP,eW,eA,eE] at q5;calc aJ q5 λ_ s6 h6=>?_;obtain⟨uH,H6,I6,⟨o6,xT,Aw⟩,q6⟩:=h6;have q7:=Gj _ s6 uH H6 _ I6 q6;rw[eP,eW,eA,eE] at q7;calc aJ q7 λb s7 h7=>?_;obtain⟨H7,I7,q7⟩:=h7;have xh:∀{dB:St} {U:Hp} {s':Æ},Inv Y ([(D,j)]++oj fp s5.heap) dB U s'->tn (i+1) s'.heap/\∀b∈fp,U b=ϋ:=λ{dB U s'} F=>by
    calc⟨T.keep _ _ _ lG λb P o e=>(F.pin (b,o) (Ó _ (Ó _ (rN P e)))).1,λb P=>?_⟩;obtain⟨o,e,_⟩:=T.obj _ _ lG b P;exact(F.pin (b,o) (Ó _ (Ó _ (rN P e)))).2.1
   cases b with
   |false =>
    rw[Ö Ã] at q7 |-;obtain⟨m',hm,w7⟩:=hN _ _ q7;obtain⟨AS,n7⟩:=uG I7;obtain⟨t7,f7⟩:=xh I7;exact⟨m',hm,i+1,Z,o6,H7,Aw ▸ I7.m7 (λp L=>by simp at L),xT,t7,f7,AS,n7,w7⟩
   |true =>
    rw[Ô rfl] at q7 |-;have q8:=hE1 _ s7 uH H7 _ I7 q7;rw[eP,eW,eA,eE] at q8;calc aJ q8 λy s8 h8=>?_;obtain⟨v,H8,I8,r8,q9⟩:=h8;obtain⟨m',hm,w8⟩:=hN _ _ q9;obtain⟨F8,n8⟩:=uG I8;obtain⟨t8,f8⟩:=xh I8;have mO:lJ (Z++[v]):=by
     rcases turn (i+1) m' (Z++[v]) H8 w8 with q|q
     ·exact q.2.1
     ·exact q.2.1
    calc B.add F8 r8 hz mO λh9 tk9 AR F9=>?_;have Ga:Inv Y [] uH H8 s8:=I8.m7 (λp L=>by simp at L)
    have I9:Inv Y [] uH H8 { s8 with heap:=h9,toks:=tk9 }:=Ga.turned (it:=D) (λb o P e=>(AR.2 b P).trans e) n8 eL (.inr eS) eCl (λp L=>eN p (by simpa using L))
    exact⟨m',hm,i+1,Z++[v],o6,H8,Aw ▸ I9,xT,T.keep _ _ _ t8 λb P o e=>(AR.2 b (λz=>nQ (z ▸ P))).trans e,f8,F9,n8,w8⟩
 exact B.start loop (T.self _ _ _ _ _ (T.keep _ _ _ gH λb _ o e=>old b o e) loop)
def Fg {P:ê} {w:Ď} {el tg src:ĳ} {tests:List ĳ} {sc:acB} {ps:Pos}:Ny P w 4e9 el tg src tests (newList []) "list.append" (λ_ acc=>.lst acc) (λacc=>acc.length<=Ù) where
 o0:={ cls:=.type "list",dict:=ϋ,data:=.seq ([]:List È).toArray }
 live:=rfl
 Ac:=λD acc h=>∃Z,h.PlainList D Z/\Vals acc Z.toList
 clauses:=rfl
 turns:=Rf
 new:=λh=>č h
 start:=codeAny_compStart_list
 init:=λe=>⟨#[],⟨_,e⟩,.nil⟩
 obj:=λ⟨_,⟨_,e⟩,_⟩=>⟨_,e,λ_ z=>by cases z⟩
 gy:=λ⟨Z,⟨n,e⟩,r⟩ k=>⟨Z,⟨n,k _ e⟩,r⟩
 Ml:=λX ⟨Z,⟨n,e⟩,r⟩=>⟨X,Z.toList,n,r,by simpa using e⟩
 add:=λ{A E s D acc v y Q} ⟨Z,W,r⟩ V X _ q=>wpAny_list_append_plain (hsz:=by have e:=r.length;erw[ë] at e;omega) W λU Y T=>q U s.toks T ⟨Z.push y,Y,by rw[ac9];exact Vals.append r (.cons V .nil)⟩
def UP (hc:X.calm=ό) (S:oo X sc N nt cap) (fP:mJ g nt) (hi:PI X tg src wi)
 (hY:∀(cl:List (Str×Þ)) (C:Þ) (s:Æ) (H:Hp) (ex:List Þ) (pn:List (Þ×Obj)),PG 0e9 tg g/\PF 0e9 tests tf/\PE 0e9 el te)
 (hs:∀x,ă src X.env x=pure x:=by intro _;rfl):PE X 4e9 (nr wi nt cap g tf te):=by
 intro T s σ H Q I h;rw[eval_ListComp];exact BC Fg (use:=ϋ) hc S fP hi (λ_ _ _=>False) hY hs I h (λ_ _ _ _ _ _ _ _ _ _ _ z=>z.elim) λR Z D C m Y W _ _ _ _ _ _ q=>⟨m,W,λV U=>⟨.ref D,Z,Y V U,rfl,q⟩⟩
def UQ {el tg src:ĳ} {tests:List ĳ} {sc:acB} {ps:Pos} {N:List Str} {nt:Nat} {cap:List Nat} {wi:TI} {g:TG} {tf:TT} {te:TE} (hc:X.calm=ό) (S:oo X sc N nt cap) (fP:mJ g nt) (hi:PI X tg src wi) (xy:Cx->È->Æ->Prop)
  (hY:∀(cl:List (Str×Þ)) (C:Þ) (s:Æ) (H:Hp) (ex:List Þ) (pn:List (Þ×Obj)),PG 5e7 tg g/\PF 5e7 tests tf/\PE 5e7 el te)
  (pH:∀(π:List (Þ×Obj)) (σ:St) (R:È->Æ->Prop) (cl:List (Str×Þ)) (C:Þ) (s2:Æ) (H2:Hp) (fp:List Þ) (D:Þ) (x:È) (s':Æ),Inv X π σ H2 s2->s2.heap.objs.size<=C->(∀b∈fp,eZ X π H2 b)->xy (cp X N sc cl C s2 H2 fp (X.pn++π)) x s'->notedBy 0e2 X.A (aeM sc cl C X.env) (λx ff=>aeQ 0e2 X.A X.xe ϋ R 8e8 C (.error x) ff) x s')
  (hs:∀x,ă src X.env x=pure x:=by intro _;rfl):PE X 4e9 (nr wi nt cap g tf te):=by
 intro π s σ H Q I h;rw[eval_ListComp];exact BC Fg (use:=ϋ) hc S fP hi xy hY hs I h (pH π σ _) λs' Z D C m Y W _ _ _ _ _ _ q=>⟨m,W,λV U=>⟨.ref D,Z,Y V U,rfl,q⟩⟩
def UR {el tg src:ĳ} {tests:List ĳ} {sc:acB} {ps pos pos':Pos} {N:List Str} {nt:Nat} {cap:List Nat} {wi:TI} {g:TG} {tf:TT} {te:TE} {i0:Nat} {x0:Str} (Gu:X.N.Nodup) (Gv:X.N[i0]?=ϊ x0) (Gw:Loc X.env.scope x0) (hc:X.calm=ό) (S:oo X sc N nt cap) (fP:mJ g nt) (hi:PI X tg src wi)
  (hY:∀(cl:List (Str×Þ)) (C:Þ) (s:Æ) (H:Hp) (ex:List Þ) (pn:List (Þ×Obj)),PG 0e9 tg g/\PF 0e9 tests tf/\PE 0e9 el te)
  (hs:∀x,ă src X.env x=pure x:=by intro _;rfl)
  (Gx:swapsWith 4e9 (ϊ (.Name x0 pos')) pos.line X.env=pure ό:=by rfl)
  (Gy:X.fn x0=ό\/X.env.scope.names.lookup x0=ϊ .local:=by first|exact .inl rfl|exact .inr rfl|assumption):PS X (.Assign [.Name x0 pos'] 4e9 pos) (tH (nr wi nt cap g tf te) (nk i0)):=by
 intro W s σ H V I h;rw[exec_Assign_Name_used _ _ _ _ Gx];calc À (ž (À ?_));obtain⟨Q,M⟩:∃Q:VK,Q=λv Z=>nk i0 v σ Z V.nx:=5e0;have h:nr wi nt cap g tf te σ H Q:=by rw[M];exact h
 have E:∀v Z,Q v Z->V.nx (σ.set i0 (ϊ v)) Z:=λv Z q=>by rw[M] at q;exact q
 delta evalThenUse
 refine À (ħ (Q:=λ_ Y=>SP X W V .next Y) ?_ (λ_ Y q=>Â (Â q)) (λ_ _ z=>z))
 calc BC Fg (use:=ϊ (aeJ (.Name x0 pos') X.env)) hc S fP hi (λ_ _ _=>False) hY hs I h (λ_ _ _ _ _ _ _ _ _ _ _ z=>z.elim) λY Z D C m B A L K U y w T q=>?_;have J:Inv X W σ Z Y:=B Y.heap (Heap.SameBut.refl _ _);obtain⟨R,u,t,r,G,n⟩:=id A;have l:Inv X ((C,R)::W) σ Z Y:=J.m7 λp P=>by
  rcases Ï.mp P with e|e
  ·subst e
   exact⟨r,L,K,U,λv z=>by rw[G] at z;cases z⟩
  ·exact J.pin p (Ó _ e)
 show ß _ _ (aeJ (.Name x0 pos') X.env 8e8) _ _ Y;calc wpAny_assign_Name (mY l Gu Gv Gw (show RelV 8e8 8e8 from rfl) (λF O=>?_) Gy);have k:=(O.pin (C,R) (Ó _ (Õ ..))).1;calc⟨m,⟨R,u,t,k,G,n⟩,λd j=>⟨_,Z,?_,E _ _ q⟩⟩;have i:Inv X W (σ.set i0 (ϊ 8e8)) Z F:=O.m7 λp P=>O.pin p (Ó _ (Ì _ P));exact i.turned (it:=C) (t':=F.toks) (λb o f e=>(j.2 b f).trans e) L K (.inr y) w T
end
def zB (sc:acB) (on:List (Str×ξ)) (oN N:List Str) (nt:Nat) (cap:List Nat):Bool :=
 ώ (sc.kind=.function)&&sc.names.all (λx=>ώ (x.2=.local->sc.names.lookup x.1=ϊ .local))&&sc.names.all (λx=>ώ (x.2=.cell->sc.names.lookup x.1=ϊ .cell)) &&
 sc.names.all (λx=>ώ (x.2=.free->sc.names.lookup x.1=ϊ .free/\(on.lookup x.1=ϊ .cell\/on.lookup x.1=ϊ .free)))&&ώ (N.length=nt+cap.length) &&
 (ö cap.length).all (λk=>match cap[k]? with
  |some j=>match oN[j]? with
   |some x=>ώ (N[nt+k]?=ϊ x)&&ώ (6e0∈sc.names)
   |none=>ύ
  |none=>ό)
def qA (h:zB sc X.env.scope.names X.N N nt cap=ό):oo X sc N nt cap:=by
 delta zB at h;erw[Å,ä,É] at h;obtain⟨⟨⟨⟨⟨Z,Y⟩,W⟩,V⟩,U⟩,T⟩:=h;calc⟨Z,Y,W,λx S e=>V x S e,U,λk j e=>?_⟩;have R:k<cap.length:=(Ñ.mp e).1;have:=T k (ø.mpr R);rw[e] at this;dsimp only at this
 cases ex:X.N[j]? with
 |none=>rw[ex] at this;cases this
 |some x =>
  rw[ex] at this;erw[Å,É] at this;exact⟨x,rfl,this.1,this.2⟩
end L2
namespace DI
open PySem L2
section
variable {X:Cx} {Ξ:Wd->bb->Prop} {e a b c tg el src:ĳ} {es rest tests:List ĳ} {pos:Pos} {f g h:afb D} {fa:afb (List D)} {ft gt:afb Bool}
def CQ (hc:X.calm=ό) (S:oo X sc N nt cap) (T:Tg X.K g0 gd nt) (hi:PI X tg src (fk X.K Ξ it))
 (hY:∀(cl:List (Str×Þ)) (C:Þ) (s:Æ) (H:Hp) (ex:List Þ) (pn:List (Þ×Obj)),PG 0e9 tg g0/\PF 0e9 tests (tT X.K cA ft)/\PE 0e9 el (tE X.K cA f))
 (hs:∀x,ă src X.env x=pure x:=by intro _;rfl):PE X 4e9 (tE X.K Ξ (cT nt cap it gd ft f)) :=
 cB (UP hc S T.lQ hi hY hs) fun σ H Q h=>BB T.imp (λR Z i h=>Ca R Z i h) (JZ σ H Q h)
def CS {sc:acB} {ps pos':Pos} {N:List Str} {nt:Nat} {cap:List Nat} {it:afb 4e7} {gd:D->Env->Option Env} {g0:TG} (i0:Nat) {x0:Str} (Gu:X.N.Nodup) (hc:X.calm=ό) (S:oo X sc N nt cap) (T:Tg X.K g0 gd nt) (hi:PI X tg src (fk X.K Ξ it))
  (hY:∀(cl:List (Str×Þ)) (C:Þ) (s:Æ) (H:Hp) (ex:List Þ) (pn:List (Þ×Obj)),PG 0e9 tg g0/\PF 0e9 tests (tT X.K cA ft)/\PE 0e9 el (tE X.K cA f))
  (Gv:X.N[i0]?=ϊ x0:=by rfl) (Gw:Loc X.env.scope x0:=by first|exact adh rfl|exact Or.inr rfl)
  (hs:∀x,ă src X.env x=pure x:=by intro _;rfl)
  (Gx:swapsWith 4e9 (ϊ (.Name x0 pos')) pos.line X.env=pure ό:=by rfl)
  (Gy:X.fn x0=ό\/X.env.scope.names.lookup x0=ϊ .local:=by first|exact .inl rfl|exact .inr rfl):PS X (.Assign [.Name x0 pos'] 4e9 pos) (tS X.K Ξ (aQ (cT nt cap it gd ft f) (gN i0))) :=
 kQ (UR Gu Gv Gw hc S T.lQ hi hY hs Gx Gy) λD σ H h=>by
  have Z:=Jr (te:=tE X.K Ξ f) D σ H (CL D σ H h);exact BB T.imp (λR Y i h=>Ca R Y i h) (JZ σ H _ Z)
end
end DI
namespace L2
open PySem PySem.Spec PyProof.Rows
end L2
namespace DI
open PySem L2
end DI
namespace L2
open PySem PySem.Spec PyProof.Rows
end L2
namespace DI
open PySem L2
open HT PyProof.Rows
section
variable {X:Cx} {Ξ:Wd->bb->Prop}
def S7 (h:Vals xs us):∀{q:List Nat},(∀i∈q,i<us.length)->Vals (q.map λi=>xs.getD i .ak) (q.map λi=>us.getD i Value.none):=by
 intro q
 induction q with
 |nil=>intro _;exact .nil
 |cons i q ih =>
  intro Z;calc .cons ?_ (ih λj Y=>Z j (Ì _ Y));have hi:=Z i Õ;clear ih Z
  induction h generalizing i with
  |nil=>simp at hi
  |cons a _ ih =>
   cases i with
   |zero=>exact a
   |succ i=>simpa using ih i (by simpa using hi)
def US {K:İ} {w:Wd} {ds:List D} {xs:List V} (h:aq K w ds xs):∀{q:List Nat},(∀i∈q,i<ds.length)->aq K w (q.map λi=>ds.getD i .ak) (q.map λi=>xs.getD i .ak):=by
 intro q
 induction q with
 |nil=>intro _;exact rfl
 |cons i q ih =>
  intro Z;have hi:=Z i Õ;obtain⟨v,e,Y⟩:=h.get' i _ (Ê hi);calc⟨_,_,rfl,?_,ih λj X=>Z j (Ì _ X)⟩;have e1:ds.getD i .ak=ds[i]:=by simp[hi]
  have e2:xs.getD i .ak=v:=by simp[e]
  show DV K w (ds.getD i .ak) (xs.getD i .ak);rw[e1,e2];exact Y
def UT {α:Type} {O:ST.Ord α} {ks:List α} {f:α->D} {d:α} {q:Array Nat} (hp:ST.Pm ks.length q) (hu:ST.Up O (ST.ky (λi=>ks.getD i d) q) ks.length):q.toList.map (λi=>(ks.map f).getD i .ak)=(ST.cJ O ks).map f:=by
 rw[<- ST.S0 hp hu,ę];calc aez λi hi=>?_;have:i<ks.length:=ø.mp (hp.2.mem_iff.mp hi);simp[this]
end
end DI
namespace TK
open PySem PySem.W PyProof.Rows DI
mutual
noncomputable def kd:D->Bool
 | .int _=>ό
 | .str x=>ã x
 | .tup Z=>gg Z
 |_=>ύ
noncomputable def gg:List D->Bool
 | []=>ό
 |k::Z=>kd k&&gg Z
end
mutual
def KA (h:Ŀ):D->È->Prop
 | .int i,v=>∃t,v=.int i t
 | .str x,v=>∃t,v=.str x t
 | .tup Z,v=>∃a o its n,v=.ref a/\h.get? a=ϊ o/\o.cls=.type "tuple"/\o.data=.seq its n/\eI h Z its.toList
 |_,_=>False
def eI (h:Ŀ):List D->List È->Prop
 | [],Z=>Z=[]
 |k::Y,Z=>∃v r,Z=v::r/\KA h k v/\eI h Y r
end
mutual
theorem qm:∀k:D,kd k=ό->lay k=ό
 | .int _,_=>rfl
 | .str _,h=>h
 | .tup Z,h=>by erw[kd] at h;erw[lay];exact yN Z h
 | .ak,h=>by cases h
 | .bl _,h=>by cases h
 | .lst _,h=>by cases h
 | .bU _,h=>by cases h
 | .aK _,h=>by cases h
 | .ty _,h=>by cases h
 | .bV _,h=>by cases h
 | .exc _ _,h=>by cases h
 | .cR _ _ _,h=>by cases h
theorem yN:∀ks:List D,gg ks=ό->cD ks=ό
 | [],_=>rfl
 |k::ks,h=>by
  erw[gg,cD,Å] at h |-;exact⟨qm k h.1,yN ks h.2⟩
end
mutual
theorem YQ:∀x y:D,kd x=ό->kd y=ό->(beq x y=ό↔x=y)
 | .int i,.int j,_,_=>by simp[beq]
 | .str i,.str j,_,_=>by simp[beq]
 | .tup Z,.tup Y,h,g=>by
  erw[kd] at h g;erw[beq,Ci Z Y h g];exact⟨λe=>by rw[e],λe=>by injection e⟩
 | .int _,.str _,_,_=>by simp[beq]
 | .int _,.tup _,_,_=>by simp[beq]
 | .str _,.int _,_,_=>by simp[beq]
 | .str _,.tup _,_,_=>by simp[beq]
 | .tup _,.int _,_,_=>by simp[beq]
 | .tup _,.str _,_,_=>by simp[beq]
 | .ak,_,h,_=>by cases h
 | .bl _,_,h,_=>by cases h
 | .lst _,_,h,_=>by cases h
 | .bU _,_,h,_=>by cases h
 | .aK _,_,h,_=>by cases h
 | .ty _,_,h,_=>by cases h
 | .bV _,_,h,_=>by cases h
 | .exc _ _,_,h,_=>by cases h
 | .cR _ _ _,_,h,_=>by cases h
 |_,.ak,_,h=>by cases h
 |_,.bl _,_,h=>by cases h
 |_,.lst _,_,h=>by cases h
 |_,.bU _,_,h=>by cases h
 |_,.aK _,_,h=>by cases h
 |_,.ty _,_,h=>by cases h
 |_,.bV _,_,h=>by cases h
 |_,.exc _ _,_,h=>by cases h
 |_,.cR _ _ _,_,h=>by cases h
theorem Ci:∀xs ys:List D,gg xs=ό->gg ys=ό->(fO xs ys=ό↔xs=ys)
 | [],[],_,_=>by simp[fO]
 | [],_::_,_,_=>by simp[fO]
 |_::_,[],_,_=>by simp[fO]
 |x::xs,y::ys,h,g=>by
  erw[gg,Å] at h g;erw[fO,Å,YQ x y h.1 g.1,Ci xs ys h.2 g.2,ac0]
end
mutual
theorem KA.reads:∀(k:D) (v:È),KA h k v->∃as,Reads h v (py k) as
 | .int i,v,q=>by obtain⟨t,rfl⟩:=q;exact⟨_,.int i t⟩
 | .str x,v,q=>by obtain⟨t,rfl⟩:=q;exact⟨_,.str x t⟩
 | .tup Z,v,q=>by
  erw[KA] at q;obtain⟨a,o,its,n,rfl,Y,X,W,r⟩:=q;obtain⟨as,r⟩:=eI.reads Z _ r;exact⟨as,.tuple Y X W r⟩
 | .ak,_,q=>by cases q
 | .bl _,_,q=>by cases q
 | .lst _,_,q=>by cases q
 | .bU _,_,q=>by cases q
 | .aK _,_,q=>by cases q
 | .ty _,_,q=>by cases q
 | .bV _,_,q=>by cases q
 | .exc _ _,_,q=>by cases q
 | .cR _ _ _,_,q=>by cases q
theorem eI.reads:∀(ks:List D) (vs:List È),eI h ks vs->∃as,ReadsAll h vs (fQ ks) as
 | [],vs,q=>by cases q;exact⟨_,.nil⟩
 |k::ks,vs,q=>by
  obtain⟨v,r,rfl,Z,Y⟩:=q;obtain⟨as,Z⟩:=KA.reads k v Z;obtain⟨bs,Y⟩:=eI.reads ks r Y;exact⟨_,.cons Z Y⟩
end
mutual
theorem KA.keep (hk:∀a o,h.get? a=ϊ o->o.cls=.type "tuple"->(∃its n,o.data=.seq its n)->h'.get? a=ϊ o):∀(x:D) (v:È),KA h x v->KA h' x v
 | .int i,v,p=>p
 | .str i,v,p=>p
 | .tup X,v,p=>by
  erw[KA] at p |-;obtain⟨a,o,its,n,e,W,Z,Y,r⟩:=p;exact⟨a,o,its,n,e,hk a o W Z ⟨its,n,Y⟩,Z,Y,eI.keep hk X _ r⟩
 | .ak,_,q=>by cases q
 | .bl _,_,q=>by cases q
 | .lst _,_,q=>by cases q
 | .bU _,_,q=>by cases q
 | .aK _,_,q=>by cases q
 | .ty _,_,q=>by cases q
 | .bV _,_,q=>by cases q
 | .exc _ _,_,q=>by cases q
 | .cR _ _ _,_,q=>by cases q
theorem eI.keep (hk:∀a o,h.get? a=ϊ o->o.cls=.type "tuple"->(∃its n,o.data=.seq its n)->h'.get? a=ϊ o):∀(xs:List D) (vs:List È),eI h xs vs->eI h' xs vs
 | [],vs,p=>p
 |x::xs,vs,p=>by
  obtain⟨v,r,e,Z,Y⟩:=p;exact⟨v,r,e,KA.keep hk x v Z,eI.keep hk xs r Y⟩
end
def CU (h:k∈ks):dep k<=dY ks:=by
 induction ks with
 |nil=>cases h
 |cons x Z ih =>
  erw[dY]
  rcases Ï.mp h with rfl|h
  ·exact Nat.le_max_left _ _
  ·exact Ü (ih h) (aen _ _)
mutual
noncomputable def hs (w:Ď):D->Int
 | .int i=>hashInt i
 | .str x=>hashStr w x
 | .tup Z=>reduceHash (adq (mR w Z))
 |_=>0
noncomputable def mR (w:Ď):List D->List Int
 | []=>[]
 |k::Z=>hs w k::mR w Z
end
mutual
noncomputable def dr:D->Nat
 | .int _=>1
 | .str _=>1
 | .tup Z=>lT Z+1
 |_=>0
noncomputable def lT:List D->Nat
 | []=>0
 |k::Z=>dr k+lT Z
end
def Lg (w:Ď) (xs ys:List D):mR w (xs++ys)=mR w xs++mR w ys:=by
 induction xs with
 |nil=>rfl
 |cons x xs ih=>erw[ī,mR,ih]
def Lh (xs ys:List D):lT (xs++ys)=lT xs+lT ys:=by
 induction xs with
 |nil=>simp[lT]
 |cons x xs ih=>erw[ī,lT,ih,aeu]
section
variable {prog:ê} {w:Ď}
def UU (hu:A.units<aer) (ho:s.heap.get? a=ϊ o) (hc:o.cls=.type "tuple") (hd:o.data=.seq items m) (hi:eI s.heap ks items.toList)
 (ih:∀k∈ks,∀(A':ó) (s':Æ) (v:È) (E':È->Æ->Prop) (Q':Int->Æ->Prop),A'.units<=A.units+1->KA s'.heap k v->Q' (hs w k) { s' with toks:=s'.toks+dr k }->ß 2e3 A' (pyHash v) Q' E' s')
 (h:Q 3e6 { s with toks:=s.toks+dr (.tup ks) }):ß 2e3 A (pyHash 6e2) Q E s:=by
 have Z:s.TypeIs 6e2 "tuple":=⟨o,ho,hc⟩;delta pyHash
 first|delta pyHashByItsType|skip
 first|refine À (wpAny_cRoomFor_or (.inr hu) ?_)|skip
 refine À (acZ Z ade.lookup ?_)
 show ß _ _ (if (ϊ (Value.builtin "tuple.__hash__")==ϊ Value.none)=ό then _ else _) Q E s
 rw[Ö (by rw[beq_builtin_none];exact Ã)];calc À (acZ Z ade.lookup ?_);show ß _ _ (callSpecialIfBoundUnlessNone? 6e2 "__hash__" _ >>= _) Q E s;calc À (wpAny_callSpecialIfBoundUnlessNone?_slot Z ade (ě ade Z F.entry_tuple_hash ?_ (F.args_tuple_hash_1 _)));show ß _ _ (Ŷ 6e2 >>= _) _ _ s;calc À (wpAny_tupleItemsOf ho hd ?_);calc À ?_;rw[<- adT];refine acK _
  (λrest (b:Array Int) s'=>∃done left,ks=done++left/\eI s.heap left rest/\b.toList=mR w done/\s'={ s with toks:=s.toks+lT done })
  _ ?_ ?_ _ _ ⟨[],ks,rfl,hi,rfl,rfl⟩
 ·intro x rest b s' zzz;obtain⟨done,left,e,Y,X,rfl⟩:=zzz
  cases left with
  |nil=>cases Y
  |cons k left =>
   obtain⟨T,S,ex,U,V⟩:=Y;cases ex
   refine À (ih k (by rw[e];simp) _ { s with toks:=s.toks+lT done } _ _ _ ?_ U ?_)
   ·exact afn _
   ·first
     |exact Â ⟨done++[k],left,by simp[e],V,by simp[X,Lg,mR],by simp[aeu,Lh,lT]⟩
     |exact À (Â (Â ⟨done++[k],left,by simp[e],V,by simp[X,Lg,mR],by simp[aeu,Lh,lT]⟩))
 ·intro b s' zzz;obtain⟨done,left,e,Y,X,rfl⟩:=zzz
  cases left with
  |cons k left=>obtain⟨_,_,ex,_⟩:=Y;cases ex
  |nil =>
  rw[ć] at e;subst e;erw[hs,dr] at h;show ß _ _ (retInt (adq b.toList)) _ _ _;rw[X];generalize adq (mR w ks)=z at h |-;refine wpAny_ret_mkInt ?_
  show ß _ _ (if (ώ (-(2:Int) ^ 63<=z)&&ώ (z<2 ^ 63))=ό then _ else _) Q E _
  delta reduceHash at h;by_cases W:(ώ (-(2:Int) ^ 63<=z)&&ώ (z<2 ^ 63))=ό
  ·rw[Ô W]
   rw[Ô W] at h;exact Â (by simpa [aeu] using h)
  ·rw[Ö W]
   rw[Ö W] at h;exact À (ź (Â (by simpa [aeu] using h)))
def WJ:∀(n:Nat) (k:D),dep k<=n->∀(A:ó) (s:Æ) (v:È) (E:È->Æ->Prop) (Q:Int->Æ->Prop),KA s.heap k v->A.units+n<aer->Q (hs w k) { s with toks:=s.toks+dr k }->ß 2e3 A (pyHash v) Q E s:=by
 intro n
 induction n with
 |zero =>
  intro k Z A s v E Q q Y h
  cases k with
  |int i=>obtain⟨t,rfl⟩:=q;exact wpAny_pyHash_int h
  |str i=>obtain⟨t,rfl⟩:=q;exact wpAny_pyHash_str h
  |tup X=>simp[dep] at Z
  |_=>cases q
 |succ n ih =>
  intro k Z A s v E Q q Y h
  cases k with
  |int i=>obtain⟨t,rfl⟩:=q;exact wpAny_pyHash_int h
  |str i=>obtain⟨t,rfl⟩:=q;exact wpAny_pyHash_str h
  |tup X =>
   erw[dep] at Z;erw[KA] at q;obtain⟨a,o,items,m,rfl,W,V,U,hi⟩:=q;exact UU ⋯ W V U hi (λk T S R v P O L N M=>ih k (by have:=CU T;omega) S R v P O N ⋯ M) h
  |_=>cases q
def J6:∀(n:Nat) (k:D),dep k<=n->∀{A:ó} {s:Æ} {v:È} {E:È->Æ->Prop} {Q:Bool->Æ->Prop},KA s.heap k v->Q ό s->ß 2e3 A (eqIsQuiet n v) Q E s:=by
 intro n
 induction n with
 |zero =>
  intro k Z A s v E Q q h
  cases k with
  |int i=>obtain⟨t,rfl⟩:=q;rw[aeb _ rfl];exact Â h
  |str i=>obtain⟨t,rfl⟩:=q;rw[aeb _ rfl];exact Â h
  |tup W=>simp[dep] at Z
  |_=>cases q
 |succ n ih =>
  intro k Z A s v E Q q h
  cases k with
  |int i=>obtain⟨t,rfl⟩:=q;rw[aeb _ rfl];exact Â h
  |str i=>obtain⟨t,rfl⟩:=q;rw[aeb _ rfl];exact Â h
  |tup W =>
   erw[dep] at Z;erw[KA] at q;obtain⟨a,o,items,m,rfl,V,R,P,hi⟩:=q;have U:s.TypeIs 6e2 "tuple":=⟨o,V,R⟩;delta eqIsQuiet;calc À (acZ U F.slot_tuple_eq.lookup ?_);show ß _ _ (isInstance 6e2 (.type "tuple") >>= _) _ _ s;calc À (ael U isSubtype_tuple_tuple ?_);erw[ò,Ç,õ];calc À (ķ V P ?_);calc À ?_;show ß _ _ (forIn items _ _) _ _ s;rw[<- adT];refine acK _ (λrest r Y=>r.1=ϋ/\Y=s/\∃left,eI s.heap left rest/\∀k∈left,dep k<=n) _ ?_ ?_ _ _ ⟨rfl,rfl,W,hi,λk O=>by have:=CU O;omega⟩
   ·intro v rest r Y zzz;obtain⟨X,rfl,left,T,S⟩:=zzz
    cases left with
    |nil=>cases T
    |cons k left =>
     obtain⟨K,J,ex,N,M⟩:=T;cases ex;calc À (ih k (S k Õ) N ?_);erw[ò,Ç,õ];exact Â ⟨rfl,rfl,left,M,λu L=>S u (Ì _ L)⟩
   ·rintro ⟨I,H⟩ Y ⟨X,rfl,_⟩
    simp only at X;subst X;exact Â h
  |_=>cases q
def gY (h:Ŀ) (ks:List D) (a:Þ):Prop:=gg ks=ό/\dY ks<=6/\KA h (.tup ks) 6e2
instance afh:DecidableEq (List D):=λa b=>Classical.propDecidable (a=b)
def YR (hu:A.units+10<aer) (hx:gY s.heap x a) (hy:gY s.heap y b) (h:Q (ώ (x=y)) s):ß 2e3 A (PySem.eqBool 6e2 (.ref b)) Q E s:=by
 obtain⟨W,N,Z⟩:=hx;obtain⟨V,M,Y⟩:=hy;obtain⟨as,Z⟩:=KA.reads _ _ Z;obtain⟨bs,Y⟩:=KA.reads _ _ Y;have U:lay (.tup x)=ό:=by erw[lay];exact yN x W
 have T:lay (.tup y)=ό:=by erw[lay];exact yN y V
 obtain⟨S,R⟩:=kS _ U;obtain⟨P,O⟩:=kS _ T;have e:=SeqAt.eqAt_reads _ _ A s _ _ as bs Z Y S P (by rw[R,O];erw[dep];omega);rw[sM _ _ U T] at e;calc e prog w E Q ?_;have:beq (.tup x) (.tup y)=ώ (x=y):=by
  have:=Ci x y W V;erw[beq]
  cases X:fO x y with
  |true=>exact(Î (this.mp X)).symm
  |false=>exact(Û λz=>by rw[this.mpr z] at X;cases X).symm
 rw[this];exact h
end
end TK
namespace TK
open PySem PySem.W PyProof.Rows DI L2
def its:D->List D
 | .tup Z=>Z
 |_=>[]
section
variable {X:Cx} {π:List (Þ×Obj)} {σ:L2.St} {s:Æ} {w:Wd}
mutual
theorem aau (I:Inv X π σ w.H s):∀(d:D) (v:V) (u:È),kd d=ό->DI.DV X.K w d v->RelV v u->KA s.heap d u
 | .int i,v,u,_,h,r=>by cases h;exact r
 | .str x,v,u,_,h,r=>by cases h;exact r
 | .tup Z,v,u,k,h,r=>by
  erw[DI.DV] at h;obtain⟨a,Y,rfl,W,U⟩:=h;cases r;obtain⟨its,T,⟨o,S,R,n,Q⟩,_⟩:=I.tuple W;erw[kd] at k;erw[KA];exact⟨a,o,_,n,rfl,S,R,Q,zC I Z Y _ k U (by simpa using T)⟩
 | .ak,_,_,k,_,_=>by cases k
 | .bl _,_,_,k,_,_=>by cases k
 | .lst _,_,_,k,_,_=>by cases k
 | .bU _,_,_,k,_,_=>by cases k
 | .aK _,_,_,k,_,_=>by cases k
 | .ty _,_,_,k,_,_=>by cases k
 | .bV _,_,_,k,_,_=>by cases k
 | .exc _ _,_,_,k,_,_=>by cases k
 | .cR _ _ _,_,_,k,_,_=>by cases k
theorem zC (I:Inv X π σ w.H s):∀(ds:List D) (vs:List V) (us:List È),gg ds=ό->DI.aq X.K w ds vs->Vals vs us->eI s.heap ds us
 | [],vs,us,_,h,r=>by cases h;cases r;rfl
 |d::ds,vs,us,k,h,r=>by
  obtain⟨v,Z,rfl,Y,W⟩:=h;erw[gg,Å] at k
  cases r with
  |cons r U=>exact⟨_,_,rfl,aau I d v _ k.1 Y r,zC I ds Z _ k.2 W U⟩
end
end
end TK
namespace TK
open PySem PySem.W PyProof.Rows DI L2
open HT
section
variable {s:Æ}
def aav (kx:kd x=ό) (ky:kd y=ό) (hu:A.units+dep x<aer) (hx:KA s.heap x vx) (hy:KA s.heap y vy):SeqAt.EqAt A s vx vy (beq x y):=by
 obtain⟨as,Z⟩:=KA.reads _ _ hx;obtain⟨bs,Y⟩:=KA.reads _ _ hy;obtain⟨X,W⟩:=kS _ (qm _ kx);obtain⟨V,U⟩:=kS _ (qm _ ky);have:=SeqAt.eqAt_reads _ _ A s vx vy as bs Z Y X V (by rw[W];omega);rw[sM _ _ (qm _ kx) (qm _ ky)] at this;exact this
mutual
theorem aaw:∀(A:ó) (x y:D) (b:Bool) (vx vy:È),jw x y=ϊ b->kd x=ό->kd y=ό->A.units+5*dep x+5<aer->KA s.heap x vx->KA s.heap y vy->Ff A s vx vy b
 |A,.int i,y,b,vx,vy,h,_,_,_,Z,Y=>by
  cases y with
  |int j =>
   cases h;obtain⟨t,rfl⟩:=Z;obtain⟨X,rfl⟩:=Y;exact λprog w E Q q=>JR A s i t j X prog w E Q q
  |_=>cases h
 |A,.str i,y,b,vx,vy,h,_,_,_,Z,Y=>by
  cases y with
  |str j =>
   cases h;obtain⟨t,rfl⟩:=Z;obtain⟨X,rfl⟩:=Y;exact λprog w E Q q=>(PyProof.Rows.lt_str q:ß 2e3 A (Ğ .Lt (.str i t) (.str j X)) Q E s)
  |_=>cases h
 |A,.tup U,y,b,vx,vy,h,W,ky,T,Z,Y=>by
  cases y with
  |tup S =>
   erw[jw] at h;erw[KA] at Z Y;obtain⟨a,o,its,n,rfl,R,P,O,r⟩:=Z;obtain⟨G,N,V,M,rfl,L,K,J,I⟩:=Y;erw[dep] at T;erw[kd] at W ky;exact λprog w E Q q=>Lc ⟨o,R,P,n,O⟩ ⟨N,L,K,M,J⟩ (λH F=>DB H U S b _ _ h W ky ⋯ r I) ⋯ q
  |_=>cases h
 |_,.ak,_,_,_,_,_,k,_,_,_,_=>by cases k
 |_,.bl _,_,_,_,_,_,k,_,_,_,_=>by cases k
 |_,.lst _,_,_,_,_,_,k,_,_,_,_=>by cases k
 |_,.bU _,_,_,_,_,_,k,_,_,_,_=>by cases k
 |_,.aK _,_,_,_,_,_,k,_,_,_,_=>by cases k
 |_,.ty _,_,_,_,_,_,k,_,_,_,_=>by cases k
 |_,.bV _,_,_,_,_,_,k,_,_,_,_=>by cases k
 |_,.exc _ _,_,_,_,_,_,k,_,_,_,_=>by cases k
 |_,.cR _ _ _,_,_,_,_,_,k,_,_,_,_=>by cases k
theorem DB:∀(A:ó) (xs ys:List D) (b:Bool) (ps qs:List È),jQ xs ys=ϊ b->gg xs=ό->gg ys=ό->A.units+5*dY xs+5<aer->eI s.heap xs ps->eI s.heap ys qs->jB A s ps qs b
 |A,[],ys,b,ps,qs,h,_,_,_,V,Z=>by
  cases V
  cases ys with
  |nil=>cases h;cases Z;exact .nn
  |cons y ys=>cases h;obtain⟨v,r,rfl,_⟩:=Z;exact .nc _ _
 |A,x::xs,ys,b,ps,qs,h,Y,ky,T,V,Z=>by
  obtain⟨v,r,rfl,U,S⟩:=V
  cases ys with
  |nil=>cases h;cases Z;exact .cn _ _
  |cons y ys =>
   obtain⟨u,R,rfl,g1,g2⟩:=Z;erw[gg,Å] at Y ky;erw[dY] at T;have Q:=Nat.le_max_left (dep x) (dY xs);have P:=aen (dep x) (dY xs);have X:=aav (A:=A) Y.1 ky.1 ⋯ U g1;erw[jQ] at h;split at h
   ·rename_i W
    rw[W] at X;exact .eq X (DB A xs ys b _ _ h Y.2 ky.2 ⋯ S g2)
   ·rename_i W
    rw[ē] at W;rw[W] at X;exact .lt X (aaw A x y b _ _ h Y.1 ky.1 ⋯ U g1)
end
end
section
variable {prog:ê} {w:Ď} {A:ó} {E:È->Æ->Prop} {s:Æ}
def S8 (h:jB A s xs ys b):∀(i:Nat),fin=ώ (xs.length<ys.length)->Q b s->KatLex prog w A t fin Q (xs.zip ys) (i+1) s:=by
 induction h with
 |nn=>intro i Z q;rw[Z];exact q
 |nc y ys=>intro i Z q;rw[Z];exact q
 |cn x xs=>intro i Z q;rw[Z];exact q
 |eq Y _ ih =>
  intro i Z q;rw[Į];exact kat_cons (Y prog w _ _ (kat_yes (ih (i+1) (by rw[Z];simp) q)))
 |lt Y X =>
  intro i Z q;rw[Į];calc kat_cons (Y prog w _ _ (kat_no ?_));rw[show (t&&(i+1==0))=ύ by simp];exact kat_one _ _ (X prog w _ _ q)
def S9 (hs:x=y->jB A s xs ys b) (hf:fin=ώ (xs.length<ys.length)) (q:Q (if x=y then b else ώ (x.cps.toList<y.cps.toList)) s) :
  KatLex prog w A ό fin Q ((.str x t::xs).zip (.str y u::ys)) 0 s:=by
 rw[Į];calc kat_cons (wpAny_eqBool_str ?_);by_cases e:x=y
 ·rw[Ô e] at q
  rw[Î e];exact kat_yes (S8 (hs e) 0 hf q)
 ·rw[Ö e] at q
  rw[Û e];exact kat_no (oneLt_str q)
end
inductive Pg where
 |made (m d:Int) (h l:List Int)
 |bM (m d k:Int)
def ti (l:List Int):D:=.tup (l.map D.int)
def Pg.d:Pg->D
 | .made m d h l=>.tup [.str "made",.int m,.int d,.tup [ti h,ti l]]
 | .bM m d k=>.tup [.str "mended",.int m,.int d,.int k]
def Mm (h:ti a=ti b):a=b:=by
 injection h with h
 exact adU (λx y e=>by injection e) |>.mp h
def Pg.Nz {p q:Pg} (h:p.d=q.d):p=q:=by
 cases p<;>cases q<;>erw[Pg.d,D.tup.injEq,ac0,D.int.injEq,and_true,reduceCtorEq,and_false,false_and] at h
 ·obtain⟨_,Z,Y,X,W⟩:=h
  rw[Z,Y,Mm X,Mm W]
 ·obtain⟨_,Z,Y,X⟩:=h
  rw[Z,Y,X]
def encL:List Int->List Int
 | []=>[0]
 |x::Z=>1::x::encL Z
def Pg.enc:Pg->List Int
 | .made m d h l=>0::m::d::(encL h++encL l)
 | .bM m d k=>[1,m,d,k]
theorem Cj:∀{a b u v:List Int},encL a++u=encL b++v->a=b/\u=v
 | [],[],u,v,h=>by simpa [encL] using h
 | [],y::b,u,v,h=>by simp[encL] at h
 |x::a,[],u,v,h=>by simp[encL] at h
 |x::a,y::b,u,v,h=>by
  erw[encL,ī,ac0,true_and] at h;obtain⟨Z,Y⟩:=Cj h.2;exact⟨by rw[h.1,Z],Y⟩
def Pg.WK {p q:Pg} (h:p.enc=q.enc):p=q:=by
 cases p<;>cases q<;>erw[Pg.enc,ac0,and_true,true_and,reduceCtorEq,false_and,Int.reduceEq] at h
 ·obtain⟨Y,X,W⟩:=h
  have Z:=Cj (u:=encL _++[]) (v:=encL _++[]) (by simpa using W);have V:=Cj Z.2;rw[Y,X,Z.1,V.1]
 ·rw[h.1,h.2.1,h.2.2]
def bR:ST.Ord Pg where
 lt p q:=lexLt p.enc q.enc
 A0 p:=ST.CP _
 tr _ _ _ h g:=ST.YM _ _ _ h g
 df _ _ h g:=Pg.WK (ST.WI _ _ h g)
theorem yE:∀a b:List Int,fO (a.map D.int) (b.map D.int)=ώ (a=b)
 | [],[]=>rfl
 | [],_::_=>rfl
 |_::_,[]=>rfl
 |x::a,y::b=>by
  erw[ç,fO,beq,yE a b]
  by_cases e:x=y<;>simp[e]
theorem Jv:∀a b:List Int,jQ (a.map D.int) (b.map D.int)=ϊ (lexLt a b)
 | [],[]=>rfl
 | [],_::_=>rfl
 |_::_,[]=>rfl
 |x::a,y::b=>by
  erw[ç,jQ,beq,jw,ke,Jv a b]
  by_cases e:x=y<;>simp[e]
theorem CV:∀a b u v:List Int,lexLt (encL a++u) (encL b++v)=if a=b then lexLt u v else lexLt a b
 | [],[],u,v=>by simp[encL,ke]
 | [],y::b,u,v=>by simp[encL,ke];rfl
 |x::a,[],u,v=>by simp[encL,ke];rfl
 |x::a,y::b,u,v=>by
  erw[encL,ī,ke,ÿ,CV a b u v,ac0]
  by_cases e:x=y<;>simp[e]
def NA (p q:Pg):jw p.d q.d=ϊ (bR.lt p q):=by
 have T:¬ ((Ċ "made")=Ċ "mended"):=nofun
 have S:¬ ((Ċ "mended")=Ċ "made"):=nofun
 have R:ώ ((Ċ "made").cps.toList<(Ċ "mended").cps.toList)=ό:=nofun
 have Q:ώ ((Ċ "mended").cps.toList<(Ċ "made").cps.toList)=ύ:=nofun
 show _=ϊ (lexLt p.enc q.enc)
 cases p with
 |made m d h l =>
  cases q with
  |made Z Y V X =>
   erw[Pg.d,Pg.enc,jw,jQ,beq,fO,ti,ke,yE,Jv,CV,Ĝ,ÿ,aev];have:=CV l X [] [];erw[ć] at this;rw[this]
   by_cases e1:m=Z<;>by_cases e2:d=Y<;>by_cases W:h=V<;>by_cases P:l=X<;>simp[e1,e2,W,P,ST.CP]
  |bM Z Y U=>erw[Pg.d,Pg.enc,jw,jQ,beq,ke,beq_iff_eq,T,R,õ];simp
 |bM m d k =>
  cases q with
  |made Z Y V X=>erw[Pg.d,Pg.enc,jw,jQ,beq,ke,beq_iff_eq,S,Q,õ];simp
  |bM Z Y U =>
   erw[Pg.d,Pg.enc,jw,jQ,beq,ke,Ĝ,ÿ]
   by_cases e1:m=Z<;>by_cases e2:d=Y<;>by_cases W:k=U<;>simp[e1,e2,W,ST.CP]
def WL (l:List Int):gg (l.map D.int)=ό:=by
 induction l with
 |nil=>rfl
 |cons x l ih=>simpa only [ç,gg,kd,ô] using ih
def UW (l:List Int):dY (l.map D.int)=0:=by
 induction l with
 |nil=>rfl
 |cons x l ih=>erw[ç,dY,dep,ih];rfl
def wF (p:Pg):kd p.d=ό:=by
 have Z:ã "made"=ό:=nofun
 have Y:ã "mended"=ό:=nofun
 cases p<;>erw[Pg.d,kd,gg,ti,WL,Z,Y,Ĳ]
def zD (p:Pg):dep p.d<=3:=by
 cases p<;>erw[Pg.d,dep,dY,ti,UW]<;>decide
def UX (p:Pg):∃(x:Str) (r:List D),p.d=.tup (.str x::r):=by
 cases p<;>exact⟨_,_,rfl⟩
def Eg {h:Ŀ} {p:Pg} {v:È} (q:KA h p.d v):∃(x:Str) (r:List D) (a:Þ) (o:Obj) (its:Array È) (n:Nat) (t:Tok) (us:List È),p.d=.tup (.str x::r)/\v=.ref a/\h.get? a=ϊ o/\o.cls=.type "tuple"/\o.data=.seq its n/\its.toList=.str x t::us/\eI h r us/\gg r=ό:=by
 obtain⟨x,r,e⟩:=UX p;have k:=wF p;rw[e] at q k;erw[KA] at q;obtain⟨a,o,its,n,e1,Z,Y,X,u,us,e2,⟨t,W⟩,V⟩:=q;erw[kd,gg,Å] at k;exact⟨x,r,a,o,its,n,t,us,e,e1,Z,Y,X,by rw[e2,W],V,k.2⟩
section
variable {prog:ê} {w:Ď} {A:ó} {E:È->Æ->Prop} {s:Æ}
def Ta:∀{ps:List Pg} {us:List È},eI s.heap 6e4 us->∃fs,KatTups s.heap us fs/\(∀v∈fs,∃x t,v=Value.str x t)/\fs.length=us.length:=by
 intro ps
 induction ps with
 |nil=>intro us h;cases h;exact⟨[],KatTups.nil,λv (hv:v∈[])=>(ì hv).elim,rfl⟩
 |cons p ps ih =>
  intro us h;obtain⟨v,r,rfl,Z,Y⟩:=h;obtain⟨fs,X,W,V⟩:=ih Y;obtain⟨x,_,a,o,its,n,t,R,_,rfl,U,T,S,hi,_⟩:=Eg Z;refine⟨.str x t::fs,.cons U T S (by rw[<- ù,hi];rfl) X,λv hv=>?_,by simp[V]⟩
  rcases Ï.mp hv with rfl|hv
  ·exact⟨x,t,rfl⟩
  ·exact W v hv
def kas_get:∀{ds:List D} {us:List È},eI h ds us->∀i,i<us.length->KA h (ds.getD i .ak) (us.getD i Value.none):=by
 intro ds
 induction ds with
 |nil=>intro us h i hi;cases h;cases hi
 |cons d ds ih =>
  intro us h i hi;obtain⟨v,r,rfl,Z,Y⟩:=h
  cases i with
  |zero=>exact Z
  |succ i=>exact ih Y i (by simpa using hi)
def WM:∀{ds:List D} {us:List È},eI h ds us->ds.length=us.length:=by
 intro ds
 induction ds with
 |nil=>intro us h;cases h;rfl
 |cons d ds ih=>intro us h;obtain⟨v,r,rfl,Y,Z⟩:=h;simp[ih Z]
def YS (hu:A.units+100<aer) (h1:KA s.heap p.d v) (h2:KA s.heap q.d u) (hC:C (bR.lt p q) s):ß 2e3 A (keyLt' (tuples' ό) v u) C E s:=by
 obtain⟨x,r,a,o,its,n,t,N,e,rfl,V,M,U,hi,T,k⟩:=Eg h1;obtain⟨Z,S,L,K,X,J,I,H,R,rfl,Q,G,P,W,Y,O⟩:=Eg h2;have dl:=zD p;rw[e] at dl;erw[dep,dY] at dl;have lt:=NA p q;rw[e,R] at lt;erw[jw,jQ] at lt;have be:beq 1e3 (.str Z)=ό↔x=Z:=by simp[beq]
 calc kat_lt V U Q P ?_;rw[hi,W];refine S9 (b:=bR.lt p q) (λex=>?_) ?_ ?_
 ·rw[Ô (be.mpr ex)] at lt
  exact DB A r S _ _ _ lt k O (by have:=aen (0:Nat) (dY r);omega) T Y
 ·simp[<- ë,hi,W]
 ·by_cases ex:x=Z
  ·rw[Ô ex];exact hC
  ·rw[Ö λz=>ex (be.mp z)] at lt
   rw[Ö ex,afo lt];exact hC
def UY {us:List È} {ps:List Pg} (t:eI s.heap 6e4 us) (h2:2<=us.length) (hu:A.units+100<aer) (d:Pg):ST.Ax prog w A bR (λi=>ps.getD i d) us s:=by
 obtain⟨fs,Z,Y,S⟩:=Ta t;have X:=WM t;rw[Ä] at X;have at_:∀i,i<us.length->KA s.heap (ps.getD i d).d (us.getD i Value.none):=λi hi=>by
  have:=kas_get t i hi;rwa [show (ps.map Pg.d).getD i .ak=(ps.getD i d).d by simp[ű,é,Ê (show i<ps.length by omega)]] at this
 delta ST.Ax;refine kat_kind (T:=.type "str") Z ⋯ (λv W=>?_) 0e0 ⟨rfl,λi j C hi V U=>?_⟩
 ·obtain⟨x,R,rfl⟩:=Y v W
  exact .of_pure rfl
 ·exact YS hu (at_ i hi) (at_ j V) U
end
end TK
namespace TK
open PySem PySem.W PyProof.Rows DI L2
open Classical in
def wG (xs:List D):Option D:=if h:∃Z:List Pg,xs=Z.map Pg.d then ϊ (.lst ((ST.cJ bR (Classical.choose h)).map Pg.d)) else ϋ
def IT:∀{a b:List Pg},a.map Pg.d=b.map Pg.d->a=b:=λh=>adU (λ_ _ e=>Pg.Nz e) |>.mp h
def Ck (ps:List Pg):wG 6e4=ϊ (.lst ((ST.cJ bR ps).map Pg.d)):=by
 delta wG;have h:∃Z:List Pg,ps.map Pg.d=Z.map Pg.d:=⟨ps,rfl⟩;rw[dif_pos h];have:=IT (Classical.choose_spec h);rw[<- this]
def kT (ds:List D) (s:ae):Res D:=match ds with
 | [d]=>match res d s with
  | .lst Z=>if Z.length<64 then bW (wG Z) s else ϋ
  |_=>ϋ
 |_=>ϋ
section
variable {X:Cx} {Ξ:Wd->bb->Prop}
def Li (ps:List Pg):gg 6e4=ό:=by
 induction ps with
 |nil=>rfl
 |cons p ps ih=>erw[ç,gg,wF,ih,Ĳ]
def CY (hr:ck k X.A):cC X (.builtin "sorted") (rC X.K Ξ kT):=by
 intro n s σ H N m Q I r zzz;obtain⟨w,l,rfl,S,Y,h⟩:=zzz;delta kT at h;split at h
 ·obtain⟨v,rfl,G⟩:=l9 Y
  split at h
  ·rename_i F e1
   obtain⟨a,N,rfl,E,Y⟩:=jz S G e1;split at h
   ·rename_i j
    obtain⟨g,e2,h⟩:=fI h;obtain⟨u,rfl,D⟩:=vals1 r;cases D;obtain⟨its,W,C,B⟩:=I.list (bN.of E);have R:its.length=F.length:=W.length.symm.trans Y.length.symm;have V:=e2;delta wG at V;split at V
    ·rename_i Z
     obtain⟨U,z⟩:=Z;clear V;subst z;rw[Ck] at e2;cases e2;have M:U.length=its.length:=by rw[R,Ä]
     calc ST.SX (O:=bR) (x:=λi=>U.getD i (.bM 0 0 0)) C.isList ⋯ (λy f P=>UY (eI.keep (λb o T _ _=>P b o T) _ _ (zC I _ _ _ (Li U) Y W)) y (by have:=hr.un;show X.A.units+1+1+100<aer;have:aer=9900:=rfl;omega) _) λq c b e Z L P T t=>?_;have J:∀i∈q.toList,i<(U.map Pg.d).length:=λi hi=>by rw[<- R];exact ø.mp (Z.2.mem_iff.mp hi)
     rw[<- M] at Z L;have p:=I.az.fresh T;refine⟨.ref b,_,I.laid (o:=.lst (q.toList.map λi=>N.getD i .ak)) (t':=s.toks) P T ⟨?_,_,e,S7 W (by rw[R];exact J),t⟩,rfl,?_⟩
     ·rw[Ä,ë,Z.1,M,W.length.symm];exact B
     ·refine tM S ?_ h b p
      rw[<- UT Z L];exact US Y J
    ·cases V
   ·exact h.elim
  ·exact h.elim
 ·exact h.elim
end
def Eh (f:DI.afb D):DI.afb D:=λenv s=>aj 2e2 λx s=>aj (truth x s) λb s=>ok (.bl (!b)) s
def YT (ha:PE X a 1e0):PE X (.UnaryOp .Not a pos) (tE X.K Ξ (Eh f)):=by
 intro Y s σ H Q I zzz;obtain⟨w,env,rfl,S,U,h⟩:=zzz;refine UnaryOp_ (aJ (ha Y s σ w.H (λv W=>∃b,qG X.K v W b/\Q (.bl (!b)) W) I ⟨w,env,rfl,S,U,(Out.aj h).mono λE x D V T v R=>?_⟩) λv P ⟨x,O,N,M,b,L,J⟩=>?_)
 ·obtain⟨b,t,G⟩:=qG.of V R (Out.aj T)
  exact⟨b,t,ax V G _ rfl⟩
 ·refine not_of (ħ (LX Y P σ O x v (λc Z=>Q (.bl (!c)) Z) N M ⟨b,L,J⟩) (λc C ⟨Z,F,q⟩=>⟨.bl (!c),Z,F,rfl,q⟩) λ_ _ z=>z)
end TK
namespace ST
open PySem PySem.Spec PyProof.Rows
end ST
namespace DI
open PySem L2
end DI
namespace L2
open PySem PySem.Spec PyProof.Rows
def xi (acc:List (Key×V)) (p:Key×V):List (Key×V):=match p.2 with
 | .int n=>putK acc (.inl n) (kV p.1)
 |_=>acc
end L2
namespace DI
open PySem L2
end DI
namespace L2
open PySem PySem.Spec PyProof.Rows
end L2
namespace DI
open PySem L2
end DI
namespace L2
open PySem PySem.Spec PyProof.Rows
end L2
namespace DI
open PySem L2
section
variable {X:Cx} {Ξ:Wd->bb->Prop} {pos:Pos}
def YU:PE X (.Dict [] [] pos) (tE X.K Ξ (eC (.bU []))):=cB Uz fun σ H Q W=>by
 obtain⟨w,env,V,S,U,h⟩:=W;subst V;intro p Y;exact h (w.grow p (.dK [])) (Fw.grow Y).le (S.grow Y) rfl 7e3 ⟨p,rfl,(show ¬ w.Z p from kj S Y),cO⟩
end
end DI
namespace L2
open PySem PySem.Spec PyProof.Rows
end L2
namespace DI
open PySem L2
end DI
namespace L2
open PySem PySem.Spec PyProof.Rows
open AutoSeq1 (wpAny_loadPart')
end L2
namespace DI
open PySem L2
end DI
namespace L2
open PySem PySem.Spec PyProof.Rows
section
variable {X:Cx} {pos:Pos}
def aax (i j k:Nat) (ta:TA):TS:=λD σ H=>ta σ H λZ Y=>∃v w u,Z=[v,w,u]/\D.nx (((σ.set i (ϊ v)).set j (ϊ w)).set k (ϊ u)) Y
def vals3 (r:Vals [v,w,u] us):∃a b c,us=[a,b,c]/\RelV v a/\RelV w b/\RelV u c:=by
 cases r with
 |cons p q =>
  obtain⟨b,c,rfl,Z,Y⟩:=vals2 q;exact⟨_,b,c,rfl,p,Z,Y⟩
def WN {kt k2 i7} (hc:X.calm=ό) (hN:X.N.Nodup) (hi:X.N[i]?=ϊ x) (hj:X.N[j]?=ϊ y) (hk:X.N[k]?=ϊ z) (fC:i≠j) (rp:i≠k) (GB:j≠k)
 (hx:X.env.scope.names.lookup x=ϊ .local) (hy:X.env.scope.names.lookup y=ϊ .local) (hz:X.env.scope.names.lookup z=ϊ .local) (ha:PA X [a,b,c] ta)
 (hw:ac7 [.Tuple [.Name x px,.Name y py,.Name z pz] kt pt] (.Tuple [a,b,c] k2 i7) X.env=pure (ϊ [x,y,z]))
 (hs:ac6 [.Tuple [.Name x px,.Name y py,.Name z pz] kt pt] (.Tuple [a,b,c] k2 i7) pos.line X.env=pure ύ) :
  PS X (.Assign [.Tuple [.Name x px,.Name y py,.Name z pz] kt pt] (.Tuple [a,b,c] k2 i7) pos) (aax i j k ta):=by
 intro U s σ H D I h;rw[exec_Assign_arm];calc À (ž ?_);rw[hs];calc À (Â ?_);rw[Ö 0e0];calc À (Tuple_ (aJ (ha _ U s σ H _ I h) λB Z R=>?_));obtain⟨t,T,Q,P,v,w,u,e1,O⟩:=R;subst e1;obtain⟨Y,W,V,rfl,M,L,K⟩:=vals3 P;refine č ?_ (by show 3<=Ù;decide)
 have J:Inv X U σ T { Z with heap:=Z.heap.push { cls:=.type "tuple",data:=.seq [Y,W,V].toArray } }:=Q.kept (t':=Z.toks) λb o e=>Á _ e
 rw[hw];refine À (Â ?_)
 show ß 0e2 X.A (do rule "assign.swapped-stores";let items <- unpackItems (.ref Z.heap.objs.size) 3 ϋ;adH [λv=>aec X.env z v,λv=>aec X.env y v,λv=>aec X.env x v] items.reverse;pure Flow.next) _ _ _
 calc À (ź (À (unpackItems_tuple (items:=#[Y,W,V]) (I.ok.hd hc) (IsTup.new Z.heap _) λh' G=>?_)));have F:=J.kept (h':=h') (t':=Z.toks) λb o e=>G b o (á (Í e)) e
 show ß _ _ (adH [λv=>aec X.env z v,λv=>aec X.env y v,λv=>aec X.env x v] [V,W,Y] >>= λ_=>pure Flow.next) _ _ _
 calc À (Ž (aed (mY F hN hk (.inl hz) K (λr E=>?_) (.inr hz))));calc Ž (aed (mY E hN hj (.inl hy) L (λq C=>?_) (.inr hy)));calc Ž (aed (mY C hN hi (.inl hx) M (λp S=>assignInOrder_nil (Â ?_)) (.inr hx)));rw[List.set_comm _ _ (ŵ GB),List.set_comm _ _ (ŵ rp),List.set_comm _ _ (ŵ fC)] at S;exact⟨_,T,S,O⟩
end
end L2
namespace DI
open PySem L2
section
variable {X:Cx} {Ξ:Wd->bb->Prop} {a b c:ĳ} {pos:Pos} {fa:afb (List D)}
def tW (i j k:Nat) (fa:afb 4e7):afb Fl:=λenv s=>aj (fa env s) λZ s=>match Z with
 | [x,y,z]=>ok (.nx (((env.set i (ϊ x)).set j (ϊ y)).set k (ϊ z))) s
 |_=>ϋ
def Mn (i j k:Nat) {x y z:Str} {px py pz pt:Pos} {kt k2 i7} (hc:X.calm=ό) (hN:X.N.Nodup) (ha:PA X [a,b,c] 7e8) (hi:X.N[i]?=ϊ x:=by rfl) (hj:X.N[j]?=ϊ y:=by rfl) (hk:X.N[k]?=ϊ z:=by rfl) (fC:i≠j:=by decide) (rp:i≠k:=by decide) (GB:j≠k:=by decide)
  (hx:X.env.scope.names.lookup x=ϊ .local:=by rfl) (hy:X.env.scope.names.lookup y=ϊ .local:=by rfl) (hz:X.env.scope.names.lookup z=ϊ .local:=by rfl)
  (hw:ac7 [.Tuple [.Name x px,.Name y py,.Name z pz] kt pt] (.Tuple [a,b,c] k2 i7) X.env=pure (ϊ [x,y,z]):=by rfl)
  (hs:ac6 [.Tuple [.Name x px,.Name y py,.Name z pz] kt pt] (.Tuple [a,b,c] k2 i7) pos.line X.env=pure ύ:=by rfl) :
  PS X (.Assign [.Tuple [.Name x px,.Name y py,.Name z pz] kt pt] (.Tuple [a,b,c] k2 i7) pos) (tS X.K Ξ (tW i j k fa)):=kQ (WN hc hN hi hj hk fC rp GB hx hy hz ha hw hs) λM σ H W=>by
 obtain⟨w,env,V,S,Y,h⟩:=W;subst V;calc⟨w,env,rfl,S,Y,(Out.aj h).mono λL J U T Z I R=>?_⟩;split at Z
 ·obtain⟨v,r,rfl,Q,dr⟩:=R
  obtain⟨u,t,rfl,P,O⟩:=vN dr;exact⟨v,u,t,rfl,ax T Z _ ((((Y.le U).set Q i).set P j).set O k)⟩
 ·exact Z.elim
end
def yr:List D->ae->Res D:=aU 2 2 (aD (wX (eB tQ (af (cT 1 [1] (cV 0e4) (gN 0) eG (e2 dH 0e4 1e8)) ah))))
def va:List D->ae->Res D:=aU 1 3 (aw (bc (gU (fM (dO 7e5)) (aF (e2 cG (eB cM 2e4) 3e9))) (aD (eC 3e8)) bJ) (aw (aQ 0e4 (gT [(gN 1),(gN 2)])) (aD (eT (aE u7 4e8) (eT (aE u7 (af 6e6 ah)) (aE yr (af 1e8 (af 6e6 ah))))))))
def yx:List D->ae->Res D:=aU 1 1 (aD (aE rP (af 0e4 (af (eC (.int (4))) ah))))
def yO:List D->ae->Res D:=aU 1 1 (aD (aE rP (af 0e4 (af (eC (.int (31))) ah))))
def yF:List D->ae->Res D:=aU 1 5 (aw (bc (gU (fM (dO 7e5)) (aF (e2 cG (eB cM 2e4) (eC (.int 4))))) (aD (eC 3e8)) bJ) (aw (aQ 0e4 (gT [(gN 1),(gN 2),(gN 3),(gN 4)])) (aw (bc (gU (fM (dO (aE yx (af 6e6 ah)))) (fM (dO (aE yO (af (aa 3) ah))))) (aD (eC 3e8)) bJ) (aw (bc (aF (e2 aZ 1e8 (eC 6e5))) (aD (aE va (af (aa 4) ah))) bJ) (aD (eT (e2 aZ 1e8 (eC 7e0)) (aE rR (af (aa 4) ah))))))))
def yy:List D->ae->Res D:=aU 1 1 (aD (eT 7e5 (eT (e2 qJ (eB cM 2e4) (eC (.int (24)))) (eT (eB nG (af (cT 1 [] (cV 0e4) (gN 0) eG (aE yF 2e4)) ah)) (aE pW 2e4)))))
def n5:List D->ae->Res D:=aU 4 4 (aD (cT 1 [1,2,3] (cV 0e4) (gN 0) (fL (aF (e2 aZ 8e5 (eC 6e5))) (fL (aF (e2 aZ (e2 ar 0e4 1e1) 1e8)) (aF (e2 dH 6e6 (e2 ar (e2 ar 0e4 4e0) (aa 3)))))) (e2 ar 0e4 3e9)))
def yn:List D->ae->Res D:=aU 3 3 (aD (cT 1 [1,2] (cV 0e4) (gN 0) (fL (aF (e2 aZ 8e5 (eC 7e0))) (fL (aF (e2 aZ (e2 ar 0e4 1e1) 1e8)) (aF (e2 aZ (e2 ar 0e4 4e0) 6e6)))) (e2 ar 0e4 3e9)))
def yj:List D->ae->Res D:=aU 3 3 (aD (eB tQ (af (cT 1 [1,2] (cV 0e4) (gN 0) eG (uD jo qJ 1e8 0e4 6e6)) ah)))
def vd:List D->ae->Res D:=aU 3 5 (aw (aQ (aE n5 (af 0e4 (af 1e8 (af 6e6 (af (eC (.int (1))) ah))))) (gN 3)) (aw (aQ (aE yn (af 0e4 (af 1e8 (af 6e6 ah)))) (gN 4)) (aD (Mf 2 [3,4] (cV (e1 sa (aE n5 (af 0e4 (af 1e8 (af 6e6 (af (eC (.int (0))) ah))))))) (gN 0) eG (AQ (af 0e4 (af (eC (.int (31))) ah))) (gN 1) (fL (gU (aF (e2 dH 1e8 6e6)) (fL (aF (e2 aZ 1e8 0e4)) (aF (e2 dH 0e4 (aa 3))))) (fM (dO (aE yj (af (aa 3) (af 0e4 4e8)))))) (cU (af 0e4 4e8))))))
def yt:List D->ae->Res D:=aU 1 1 (aD (Mg 4 [0] (ik (af (eC (.int (4))) ah)) (gN 0) eG (ik (af (eC (.int (8))) ah)) (gN 1) eG (cV (aE vd (af (aa 4) (af 0e4 4e8)))) (gT [gN 2,gN 3]) eG (cU (af 0e4 (af 1e8 (af 6e6 (af (aa 3) ah)))))))
def rS:List D->ae->Res D:=aU 1 1 (aD (eT (aE yy 2e4) (TK.Eh (aE yt 2e4))))
def notStar:ĳ->Bool
 | .Starred ..=>ύ
 |_=>ό
def WO (h:notStar e=ό):Ð 8e7 env=(ύ,ŗ e env)::Ð es env:=by
 cases e<;>first|rfl|cases h
section
variable {X:Cx} {Ξ:Wd->bb->Prop} {e:ĳ} {es:List ĳ} {f:afb D} {fa:afb (List D)} {pos:Pos}
def eV (ha:PE X e 1e0) (hr:PA X es 7e8) (h:notStar e=ό):PA X 8e7 (tA X.K Ξ (af f fa)):=bE ha hr (WO h)
def YV {e1 e2 e3 e4 e5 e6 e7:ĳ} {f1 f2 f3 f4 f5 f6 f7:afb D} (h1:PE X e1 (tE X.K Ξ f1)) (h2:PE X e2 (tE X.K Ξ f2)) (h3:PE X e3 (tE X.K Ξ f3)) (h4:PE X e4 (tE X.K Ξ f4)) (h5:PE X e5 (tE X.K Ξ f5)) (h6:PE X e6 (tE X.K Ξ f6)) (h7:PE X e7 (tE X.K Ξ f7)) (s1:notStar e1=ό:=by rfl) (s2:notStar e2=ό:=by rfl) (s3:notStar e3=ό:=by rfl) (s4:notStar e4=ό:=by rfl) (s5:notStar e5=ό:=by rfl) (s6:notStar e6=ό:=by rfl) (s7:notStar e7=ό:=by rfl):PE X (.List [e1,e2,e3,e4,e5,e6,e7] pos) (tE X.K Ξ (cz (af f1 (af f2 (af f3 (af f4 (af f5 (af f6 (af f7 ah))))))))):=eJ (eV h1 (eV h2 (eV h3 (eV h4 (eV h5 (eV h6 (eV h7 dF s7) s6) s5) s4) s3) s2) s1)
end
end DI
namespace L2
open PySem
def cI {α:Type}:Sem α->Prop
 | .pure _=>True
 | .raise _=>True
 | .unsupported _=>True
 | .finish _=>True
 | .rule _ k=>cI (k ())
 | .at _ k=>cI (k ())
 | .load _ _ k=>∀o,cI (k o)
 | .update _ _ f k=>(∀o,(f o).dict=o.dict)/\cI (k ())
 | .loadIfAlive _ k=>∀o,cI (k o)
 | .point _ k=>cI (k ())
 | .register _ _=>True
 | .alloc _ k=>∀a,cI (k a)
 | .fresh k=>∀t,cI (k t)
 | .ask k=>∀t,cI (k t)
 | .choose _ _ k=>∀n,cI (k n)
 | .os _ _ k=>∀r,cI (k r)
 | .call ..=>False
 | .handled _ k=>∀v,cI (k v)
 | .genState _ k=>∀v,cI (k v)
 | .newGen _ k=>∀v,cI (k v)
 | .resume ..=>False
 | .yield ..=>True
 | .stack k=>∀v,cI (k v)
 | .fork ..=>True
 | .thread k=>∀v,cI (k v)
 | .await ..=>True
def Dk (h0 h:Ŀ):Prop:=h0.objs.size<=h.objs.size/\∀b o,h0.get? b=ϊ o->∀Z,h.get? b=ϊ Z->Z.dict=o.dict
def Dk.refl (h:Ŀ):Dk h h:=⟨afn _,λb o e Y Z=>by rw[e] at Z;cases Z;rfl⟩
theorem Dk.push {h0 h:Ŀ} (k:Dk h0 h) (o:Obj):Dk h0 (h.push o):=by
 calc⟨Ü k.1 (by rw[ý];exact adx _),λb p e X W=>k.2 b p e X ?_⟩;have Z:=Ë (Í e) k.1;obtain⟨Y,V⟩:=adV.mp W;calc adV.mpr ⟨?_,V⟩;have:(h.push o).objs[b]?=h.objs[b]?:=by
  show (h.objs.push o)[b]?=_;rw[Array.getElem?_push_lt Z,Array.getElem?_eq_getElem Z]
 rw[this] at Y;exact Y
def Dk.upd {h0 h:Ŀ} (k:Dk h0 h) {a:Þ} {f:Obj->Obj} (hf:∀o,(f o).dict=o.dict) (ha:(h.get? a).isSome):Dk h0 (h.update a f):=by
 calc⟨by rw[Heap.size_update];exact k.1,λb p e Y X=>?_⟩;by_cases U:b=a
 ·subst U
  obtain⟨W,e1⟩:=adB.mp ha;have T:=k.2 b p e W e1;obtain⟨Z,S⟩:=adV.mp X;obtain⟨V,R⟩:=adV.mp e1;have:Y=f W:=by
   obtain⟨objs,l⟩:=h;have Z:(objs.modify b f)[b]?=ϊ Y:=Z;have V:objs[b]?=ϊ W:=V;rw[Array.getElem?_modify,Ô rfl,V] at Z;exact(afo Z).symm
  rw[this,hf,T]
 ·rw[ady _ _ _ _ U] at X
  exact k.2 b p e Y X
def UZ {α:Type} (M:Model) (Γ:Ctx) (t:Sem α):∀{Q:α->Pos->Æ->Prop} {E:È->Pos->Æ->Prop} {p:Pos} {s:Æ},cI t->acL M Γ t Q E p s->∀{h0:Ŀ},Dk h0 s.heap ->
  acL M Γ t (λa p' s'=>Q a p' s'/\Dk h0 s'.heap) (λe p' s'=>E e p' s'/\Dk h0 s'.heap) p s:=by
 induction t with
 |pure a=>intro Q E p s d h h0 k;rw[acL] at h |-;exact⟨h,k⟩
 |raise e=>intro Q E p s d h h0 k;rw[acL] at h |-;exact⟨h,k⟩
 |unsupported w=>intro Q E p s d h h0 k;rw[acL] at h;exact h.elim
 |finish w=>intro Q E p s d h h0 k;rw[acL] at h;exact h.elim
 |rule t Z ih=>intro Q E p s d h h0 k;rw[acL] at h |-;exact ih () d h k
 | «at» t Z ih=>intro Q E p s d h h0 k;rw[acL] at h |-;exact ih () d h k
 |load a pt Z ih=>intro Q E p s d h h0 k;rw[acL] at h |-;obtain⟨o,e,h⟩:=h;exact⟨o,e,ih o (d o) h k⟩
 |loadIfAlive a Z ih=>intro Q E p s d h h0 k;rw[acL] at h |-;exact ih _ (d _) h k
 |point a Z ih=>intro Q E p s d h h0 k;rw[acL] at h |-;exact ih () d h k
 |register a Z ih=>intro Q E p s d h h0 k;rw[acL] at h;exact h.elim
 |fresh Z ih=>intro Q E p s d h h0 k;rw[acL] at h |-;exact ih _ (d _) h k
 |ask Z ih=>intro Q E p s d h h0 k;rw[acL] at h |-;exact ih _ (d _) h k
 |choose a n Z ih=>intro Q E p s d h h0 k;rw[acL] at h |-;exact⟨h.1,ih _ (d _) h.2 k⟩
 |os a n Z ih=>intro Q E p s d h h0 k;rw[acL] at h |-;exact ih _ (d _) h k
 |call a b c n Z ih=>intro Q E p s d h h0 k;exact Ī d
 |handled a Z ih=>intro Q E p s d h h0 k;rw[acL] at h |-;exact ih _ (d _) h k
 |genState a Z ih=>intro Q E p s d h h0 k;rw[acL] at h |-;obtain⟨o,e,h⟩:=h;exact⟨o,e,ih _ (d _) h k⟩
 |newGen a Z ih=>intro Q E p s d h h0 k;rw[acL] at h |-;exact ih _ (d _) h k
 |resume a b c Z ih=>intro Q E p s d h h0 k;exact Ī d
 |yield a b c Z ih=>intro Q E p s d h h0 k;rw[acL] at h;exact h.elim
 |stack Z ih=>intro Q E p s d h h0 k;rw[acL] at h |-;exact ih _ (d _) h k
 |fork a Z ih=>intro Q E p s d h h0 k;rw[acL] at h;exact h.elim
 |thread Z ih=>intro Q E p s d h h0 k;rw[acL] at h |-;exact ih _ (d _) h k
 |await a b c e Z ih=>intro Q E p s d h h0 k;rw[acL] at h;exact h.elim
 |alloc o Z ih=>intro Q E p s d h h0 k;rw[acL] at h |-;exact ih _ (d _) h (k.push o)
 |update a pt f Z ih=>intro Q E p s d h h0 k;rw[acL] at h |-;exact⟨h.1,ih () d.2 h.2 (k.upd d.1 h.1)⟩
def qa {α:Type} {M:Model} {A:ó} {t:Sem α} {Q:α->Æ->Prop} {E:È->Æ->Prop} {s:Æ} (d:cI t) (h:ß M A t Q E s):ß M A t (λa s'=>Q a s'/\Dk s.heap s'.heap) (λe s'=>E e s'/\Dk s.heap s'.heap) s :=
 fun Z p i=>UZ M Z t d (h Z p i) (Dk.refl _)
def fT {α β:Type} {t:Sem α} {f:α->Sem β} (h:cI t) (g:∀a,cI (f a)):cI (t >>= f):=by
 show cI (t.bind f)
 induction t with
 |pure a=>exact g a
 |raise e=>trivial
 |unsupported w=>trivial
 |finish w=>trivial
 |rule t k ih=>exact ih () h
 | «at» t k ih=>exact ih () h
 |load a p k ih=>exact λo=>ih o (h o)
 |loadIfAlive a k ih=>exact λo=>ih o (h o)
 |point a k ih=>exact ih () h
 |register a k ih=>trivial
 |fresh k ih=>exact λo=>ih o (h o)
 |ask k ih=>exact λo=>ih o (h o)
 |choose a n k ih=>exact λo=>ih o (h o)
 |os a n k ih=>exact λo=>ih o (h o)
 |call a b c n k ih=>exact h.elim
 |handled a k ih=>exact λo=>ih o (h o)
 |genState a k ih=>exact λo=>ih o (h o)
 |newGen a k ih=>exact λo=>ih o (h o)
 |resume a b c k ih=>exact h.elim
 |yield a b c k ih=>trivial
 |stack k ih=>exact λo=>ih o (h o)
 |fork a k ih=>trivial
 |thread k ih=>exact λo=>ih o (h o)
 |await a b c e k ih=>trivial
 |alloc o k ih=>exact λo=>ih o (h o)
 |update a p f k ih=>exact⟨h.1,ih () h.2⟩
def yP (v:È) (i:Nat):cI (field v i):=by
 delta field fieldsOf;refine fT ?_ λa=>?_
 ·cases v with
  |ref a =>
   refine fT (λo=>trivial) λo=>?_
   split<;>trivial
  |_=>trivial
 ·split<;>trivial
def U0 (g:Array È->Array È) (o:Obj):(Obj.mapFields g o).dict=o.dict:=by
 delta Obj.mapFields
 split<;>rfl
def DC (v:È) (i:Nat) (x:È):cI (setField v i x):=by
 delta setField
 cases v with
 |ref a =>
  show cI (updateField a i x);delta updateField;calc fT (λo=>trivial) λo=>?_;split
  ·split
   ·exact⟨U0 _,trivial⟩
   ·trivial
  ·trivial
 |_=>trivial
def YW (ty:String) (vs:List È):cI (newFields ty vs):=by
 show cI (if vs.toArray.size > Ù+2 then _ else newObjAsIs (.type ty) (.fields vs.toArray))
 split
 ·trivial
 ·exact λ_=>trivial
def yG (e:È) (f:Option Þ):cI (setFlight e f):=by
 delta setFlight;calc fT (yP _ _) λa=>?_;split
 ·exact DC _ _ _
 ·trivial
theorem J8:∀l:List PySem.Env,cI (readyFrames l)
 | []=>trivial
 |env::outer=>by
  delta readyFrames;split
  ·refine fT (λo=>trivial) λo=>?_
   split
   ·trivial
   ·refine fT ?_ λb=>fT ?_ λv=>fT ⟨λ_=>rfl,trivial⟩ λ_=>J8 outer
    ·delta behindIsImport
     split
     ·trivial
     ·split
      ·trivial
      ·exact fT (yP _ _) λ_=>trivial
    ·cases outer with
     |nil =>
      show cI (if (env.scope.isGenerator||env.scope.isCoroutine)=ό then pure Value.none else _)
      split
      ·trivial
      ·exact λ_=>trivial
     |cons _ _=>trivial
  ·trivial
def U1 (env:PySem.Env):cI (frameOf env):=by
 delta frameOf frameEnvs;refine fT (λ_=>trivial) λl=>fT ?_ λr=>?_
 ·generalize l.dropWhile _=Z
  cases Z with
  |nil=>trivial
  |cons a r=>exact fT (J8 _) λ_=>trivial
 ·split<;>trivial
def U2 (f:Þ) (b:Bool):cI (entryPlaceOf f b):=by
 delta entryPlaceOf;refine fT (λ_=>trivial) λa=>?_
 split<;>trivial
def CZ (e:È) (env:PySem.Env):cI (aeD e env):=by
 delta aeD;split
 ·refine fT (yP _ _) λZ=>?_
  rename_i L _;have jp:cI (frameOf env >>= λf=>entryPlaceOf L (Z != Value.none) >>= λY=>EntryCells.newEntry Z f Value.none (acz L) Value.none Y >>= λb=>setField e 1 b) :=
   fT (U1 env) λf=>fT (U2 _ _) λY=>fT (YW _ _) λb=>DC _ _ _
  show cI (if (Z != Value.none)=ό then _ else _)
  split
  ·refine fT (yP _ _) λx=>?_
   split
   ·trivial
   ·exact fT (DC _ _ _) λ_=>jp
  ·exact jp
 ·trivial
def J9 (env:PySem.Env) (e:È):cI (leaving env e):=by
 delta leaving;exact fT (CZ e env) λ_=>yG _ _
open PySem.Spec PyProof.Rows
structure mS (P:ê) (w:Ď) (outer:List Env) (H:Hp) (s:Æ) (H':Hp) (B:Ŀ) (a:Þ) (cls a0:È) (h:Ŀ):Prop where
 fl:ac1 B outer a cls a0 h
 old:∀b o,s.heap.get? b=ϊ o->H b=ϋ->b∉cm outer->B.get? b=ϊ o
 there:∀b o,s.heap.get? b=ϊ o->b∉cm outer->∃o',B.get? b=ϊ o'
 slot:∀b o,s.heap.get? b=ϊ o->b∈cm outer->∃sl,h.get? b=ϊ { o with slots:=sl }
 az:cN P w H' B
 free:∀b o,s.heap.get? b=ϊ o->H b=ϋ->H' b=ϋ
 fz:∀b xs,H b=ϊ (.tup xs)->H' b=ϊ (.tup xs)
 eR:∀b o u,H b=ϊ (.bz o u)->H' b=ϊ (.bz o u)
 fB:∀b ps,H b=ϊ (.eD ps)->∃more,H' b=ϊ (.eD (ps++more))
def Dm (h:Ŀ) (a:Þ) (m:Option Þ):Prop:=∀Z,m=ϊ Z->∃o,h.get? a=ϊ o/\o.dict=ϊ Z
def Dm.ak (h:Ŀ) (a:Þ):Dm h a ϋ:=λ_ z=>by cases z
def Dm.on {h h':Ŀ} {a:Þ} {m:Option Þ} (x:Dm h a m) (k:Dk h h') (t:∃o,h'.get? a=ϊ o):Dm h' a m:=λX e=>by
 obtain⟨o,e1,e2⟩:=x X e;obtain⟨Z,Y⟩:=t;exact⟨Z,Y,(k.2 a o e1 Z Y).trans e2⟩
def ip (P:ê) (w:Ď):jW:=λouter H s E e Z=>∃a cls X Y B m,e=.ref a/\Z.os=s.os/\ae4 Z.gens/\mS P w outer H s Y B a cls X Z.heap/\Dm Z.heap a m/\E cls m Y
section
variable {P:ê} {w:Ď} {outer:List Env} {H H':Hp} {s:Æ} {B h h':Ŀ} {a:Þ} {cls a0:È}
def mS.un (F:mS P w outer H s H' B a cls a0 h):Un (cm outer) [] H H' s.heap h where
 keep:=λb o e n Z _=>F.fl.1 b o (F.old b o e n Z)
 slot:=λb o e n Z _=>F.slot b o e Z
 free:=λb o e n _=>F.free b o e n
 there:=λb o e _=>by
  by_cases Z:b∈cm outer
  ·obtain⟨sl,q⟩:=F.slot b o e Z
   exact⟨_,q⟩
  ·obtain⟨Y,q⟩:=F.there b o e Z
   exact⟨Y,F.fl.1 b Y q⟩
 fz:=F.fz
 eR:=F.eR
 fB:=F.fB
def mS.held (F:mS P w outer H s H' B a cls a0 h):cN P w H' h:=F.az.kept λb o e=>F.fl.1 b o e
def mS.on (F:mS P w outer H s H' B a cls a0 h) (hf:ac1 B outer a cls a0 h') (hs:h.UpToSlots h'):mS P w outer H s H' B a cls a0 h' :=
 { F with
  fl:=hf
  slot:=λb o e Z=>by
   obtain⟨sl,q⟩:=F.slot b o e Z;obtain⟨_,U,Y,X⟩:=F.fl.2.2.1.mem Z;rw[q] at Y;cases Y;obtain⟨W,V⟩:=hs b _ q X;exact⟨W,V⟩ }
def dR.aay {o:HO} (x:dR P w H h a o):∃ob,h.get? a=ϊ ob:=by
 cases o with
 |lst Z=>obtain⟨_,_,_,_,e⟩:=x;exact⟨_,e⟩
 |tup Z=>obtain⟨_,_,_,ob,e,_⟩:=x;exact⟨ob,e⟩
 |dK Y=>obtain⟨_,_,_,_,o,_,_,e,_⟩:=x;exact⟨_,e⟩
 |dT Y=>obtain⟨_,_,_,_,o,_,_,e,_⟩:=x;exact⟨_,e⟩
 |set S n=>obtain⟨o,_,_,_,e,_⟩:=x;exact⟨_,e⟩
 |ins C X fs=>obtain⟨_,_,_,e,_⟩:=x;exact⟨_,e⟩
 |own y=>exact x
 |xd fs=>obtain⟨_,⟨_,_,_,e,_⟩,_⟩:=x;exact⟨_,e⟩
 |ei lo hi=>obtain⟨_,_,_,e⟩:=x;exact⟨_,e⟩
 |bz ob u=>obtain⟨e,_⟩:=x;exact⟨_,e⟩
 |eD W=>exact⟨_,x⟩
 |met f y=>exact⟨_,x⟩
 |ext V=>obtain⟨_,e,_⟩:=x;exact e
def mS.new (F:mS P w outer H s H' B a cls a0 h):H' a=ϋ:=by
 cases e:H' a with
 |none=>rfl
 |some o =>
  obtain⟨Y,Z⟩:=(F.az a o e).aay;rw[F.fl.2.1] at Z;cases Z
end
structure Lv (X:Cx) (E:XK):Prop where
 xe:X.xe=λe s'=>ß 0e2 X.A (leaving X.env e) (λ_ ff=>ip X.prog X.w X.outer X.mx X.c8 E e ff) (λe' ff=>ip X.prog X.w X.outer X.mx X.c8 E e' ff) s'
 jU:X.stack=X.env::X.outer
 fr:X.env.frame=ϊ X.env.locals
 ex:X.ex=[]
section
variable {X:Cx} {E:XK} {π:List (Þ×Obj)} {σ:St} {H:Hp} {s:Æ}
def Inv.sP (I:Inv X π σ H s) (L:Lv X E) {b:Þ} {o:Obj} (e:X.c8.heap.get? b=ϊ o) (hb:b∉cm X.outer):b∉cm X.stack:=λz=>by
 rcases Ï.mp (I.ki b z) with q|q
 ·exact absurd (Í e) (by rw[q];exact ae2.mpr I.ok.above)
 ·exact hb q
def vj (L:Lv X E) {b:Þ} (hb:b∈cm X.outer):b∈cm X.stack:=by
 rw[L.jU];delta cm;rw[Ů,L.fr];exact Ì _ hb
def Mo (L:Lv X E):Passes (ip X.prog X.w) X E:=by
 intro π σ H s e S I h;obtain⟨a,cls,R,M,B,m,rfl,os,bare,F,K,q⟩:=h;rw[L.xe];have fl:=F.fl;rw[L.jU] at fl
 refine ħ (qa (J9 _ _) (wpAny_leaves_onW (E:=λ_ _=>False) (Q:=λ_ P=>∃Y,P={ S with heap:=Y }/\ac1 B X.outer a cls R Y/\S.heap.UpToSlots Y) (by rw[I.ok.frames,L.jU]) L.fr fl λY V U=>⟨Y,rfl,V,U⟩)) (λ_ P z=>?_) λ_ _ z=>z.1.elim
 obtain⟨⟨Y,rfl,V,U⟩,J⟩:=z
 refine⟨a,cls,R,M,B,m,rfl,os.trans I.os,bare,⟨V,λb o e n Z=>?_,λb o e Z=>?_,λb o e Z=>?_,F.az,λb o e n=>?_,λb O e=>F.fz b O (I.base.fz b O e),λb o u e=>F.eR b o u (I.base.eR b o u e),λb G e=>?_⟩,K.on J (let ⟨o,e,_⟩:=V.there;⟨o,e⟩),q⟩
 ·exact F.old b o (I.base.keep b o e n Z (by rw[L.ex];simp)) (I.base.free b o e n (by rw[L.ex];simp)) (I.sP L e Z)
 ·obtain⟨T,W⟩:=I.base.there b o e (by rw[L.ex];simp)
  exact F.there b T W (I.sP L e Z)
 ·obtain⟨sl,W⟩:=I.base.slot b o e (I.ok.lF b Z) Z (by rw[L.ex];simp)
  obtain⟨v,e2⟩:=F.slot b _ W (vj L Z);obtain⟨_,t,N,D⟩:=F.fl.2.2.1.mem (vj L Z);rw[e2] at N;cases N;obtain⟨C,A⟩:=U b _ e2 D;exact⟨C,A⟩
 ·obtain⟨T,W⟩:=I.base.there b o e (by rw[L.ex];simp)
  exact F.free b T W (I.base.free b o e n (by rw[L.ex];simp))
 ·obtain⟨y,e1⟩:=I.base.fB b G e
  obtain⟨x,e2⟩:=F.fB b _ e1;exact⟨y++x,by rw[e2,aeI]⟩
def RW (L:Lv X E) (I:Inv X π σ H s) {h1:Ŀ} {e:Þ} {cls:È} {us:List È} (hm:Heap.MadeExcOf s.heap h1 e cls us) (q:E cls ϋ H):X.xe (.ref e) { s with heap:=h1 }:=by
 rw[L.xe];have V:=I.stack;have U:∀b u,H b=ϊ u->b∉cm X.stack:=λb u e z=>by rw[I.vB b z] at e;cases e
 refine wpAny_leaves_madeW (base:=PySem.W.hideAll s.heap (cm X.stack)) (h:=s.heap) (env:=X.env) (outer:=X.outer) (by rw[I.ok.frames,L.jU]) L.fr (λb o e=>PySem.W.of_hideAll _ e) ?_ hm λJ t S _ _ R=>⟨e,cls,_,H,PySem.W.hideAll s.heap (cm X.stack),ϋ,rfl,I.os,I.bare,⟨S,λb o e n Z=>?_,λb o e Z=>?_,λb o e Z=>?_,λb u e=>?_,λb o e n=>I.base.free b o e n (by rw[L.ex];simp),I.base.fz,I.base.eR,I.base.fB⟩,Dm.ak _ _,q⟩
 ·rw[<- L.jU]
  calc PySem.W.funFrames_hide V λenv Q a P=>?_;delta cm;exact Š.mpr ⟨env,Q,P⟩
 ·exact adv _ (I.base.keep b o e n Z (by rw[L.ex];simp)) (I.sP L e Z)
 ·obtain⟨O,Y⟩:=I.base.there b o e (by rw[L.ex];simp)
  exact⟨O,adv _ Y (I.sP L e Z)⟩
 ·obtain⟨sl,Y⟩:=I.base.slot b o e (I.ok.lF b Z) Z (by rw[L.ex];simp)
  obtain⟨_,G,T,N⟩:=V.mem (vj L Z);rw[Y] at T;cases T;obtain⟨M,K⟩:=R b _ (hm.keeps b _ Y) N;exact⟨M,K⟩
 ·refine(I.az b u e).gy (λc v hc z=>adv _ z ?_) (λ_ z=>z) λ_ _ z=>z
  rcases hc with rfl|hc
  ·exact U c _ e
  ·exact U c _ hc
def YX (X:Cx) (M:Mod X.K X.mg X.base) {x:Str} {C:Þ} {uM:List È} {newId:String} (eC:ð X.K Ú x=ϊ (ϊ 5e3)) (qC:ae8 X.K C uM newId=ό):OwnCls x C uM newId X.mg X.base:=by
 have KB:=M.lE;calc⟨Ņ KB M.glob eC,?_⟩;delta ae8 at qC;split at qC
 case h_2=>cases qC
 rename_i Q cd sl P;split at qC
 case h_2=>cases qC
 rename_i I bm Y a1 a2 V nw U T hs;erw[Å,beq_iff_eq,û] at qC;obtain⟨⟨⟨⟨⟨O,N⟩,S⟩,L⟩,Z⟩,R⟩:=qC;subst O N;cases cd;dsimp only at T S Z R;subst T S;have J:sl=#[Y,a1,a2,V,ϊ (.builtin nw),U]:=by cases sl;simp only at hs;rw[hs]
 subst J;exact⟨bm,_,_,_,_,_,_,_,_,_,Q,Y,a1,a2,V,U,_,KB _ _ P,.of_isNs (PySem.W.isNs_of_in KB Z),PySem.W.nsMap_none_of_in KB Z R,PySem.W.tail_of_in KB L⟩
def U3 {x:Str} {C:Þ} {uM:List È} {B newId YY:String} {np ba pos:Pos} {nI:ĳ} {rest:List ĳ} {t:TA} (L:Lv X E) (eC:ð X.K Ú x=ϊ (ϊ 5e3)) (qC:ae8 X.K C uM newId=ό) (FB:ExcBaseFacts B newId YY uM) (hc:X.calm=ό) (hg:Gl X x) (ha:PA X (nI::rest) t) (hd:0e8=ύ:=by decide)
  (he:Ð (nI::rest) X.env=(ύ,ŗ nI X.env)::Ð rest X.env:=by rfl) (gZ:(ŀ ba (Ð rest X.env)).any (·.1)=ύ:=by rfl) :
  PS X (.Raise (ϊ (.Call (.Name x np) (nI::rest) [] ba)) ϋ pos) (λ_ σ H=>t σ H λvs H1=>vs.length<=Ù/\E 5e3 ϋ H1):=by
 intro π s σ H D I h;have O:OwnCls x C uM newId X.mg X.base:=YX X I.ok.mod eC qC;obtain⟨W,N,nm,q,bs,hdct,sn,sub,ab,col,dd,k0,k1,k2,k3,k5,mN,V,U,S,T⟩:=O.obj;refine wpAny_Raise_call_subT (C:=C) (nm:=nm) (q:=q) (N:=N) (bs:=bs) (bm:=W) (hdct:=hdct) (sn:=sn) (sub:=sub) (ab:=ab) (col:=col) (dd:=dd) (k0:=k0) (k1:=k1) (k2:=k2) (k3:=k3) (k5:=k5)
  FB (mN:=mN) (T.hasType FB.hasBase) (I.ok.hd hc) (by rw[he];show (ύ||(ŀ ba (Ð rest X.env)).any (·.1))=ύ;rw[gZ];rfl) S (sj I hg O.bound ⟨rfl,?_⟩ hd)
 have Y:=ha ba π s σ H _ I h;rw[he] at Y |-;calc Calls.evalArgs_plain (aJ Y λP M ⟨vs,H1,Z,r,z,R⟩=>⟨rfl,by rw[<- r.length];exact z,Z.bk _ _ V,U.keeps Z.bk,T.keeps Z.bk,λJ e Q=>?_⟩);exact RW L Z Q R
end
end L2
namespace DI
open PySem L2
abbrev GG (K:İ) (mg:Str->Option È) (x:Str) (st:aeW) (ps:List Str):Prop:=∃f fd,Gd K mg x st ps f fd
abbrev cq (P:ê) (w:Ď) (K:İ) (mg:Str->Option È) (base:Ŀ) (x:Str) (st:aeW) (ps:List Str) (k:Nat) (fn:List D->ae->Res D):Prop:=∀{f:Þ} {fd:ĺ},Gd K mg x st ps f fd->dG P w K mg base dP k f fd ps (j5 K fn)
def qO (N ps:List Str) (sc:acB):Bool:=ώ (sc.kind=.function)&&!sc.isCoroutine&&!sc.isGenerator&&ώ N.Nodup&&ώ (N.take ps.length=ps)&&ps.all (λx=>ώ (sc.names.lookup x=ϊ .local\/sc.names.lookup x=ϊ .cell))&&sc.names.all (λy=>ώ (y.2≠.free))
def ma (h:qO N ps sc=ό):qe N ps sc:=by
 delta qO at h;erw[Å,û,É,ä] at h;obtain⟨⟨⟨⟨⟨⟨Z,Y⟩,X⟩,W⟩,V⟩,U⟩,T⟩:=h;exact⟨Z,Y,X,W,V,U,T⟩
def cw (G:Gd K mg x st ps f fd) (N:List Str) (S:qO N ps (cY st)=ό)
 (hb:N.Nodup->∀(bq:È) (A:ó) (outer:List PySem.Env) (s:Æ) (H:Hp) (E:XK),ck k 6e7->dq (iZ dP P w K mg base N x (cY st) f bq A outer s H E).nL (jd st) (tS K cA b)) :
  dG P w K mg base dP (k+1) f fd ps (j5 K (aU ps.length N.length b)):=Nd G.fn (ma S) (hb (ma S).nd)
section
variable {X:Cx} {Ξ:Wd->bb->Prop} {e a b c tg el src:ĳ} {es rest tests:List ĳ} {pos:Pos} {f g h:afb D} {fa:afb (List D)} {ft gt:afb Bool}
def aT {k n:Nat} {x:Str} {st:aeW} {ps:List Str} {fn:List D->ae->Res D} {p:Pos} (G:GG X.K X.mg x st ps) (F:cq X.prog X.w X.K X.mg X.base x st ps k fn) (hr:ck n X.A) (ha:PA X 8e7 7e8) (hk:k<=n:=by decide) (hg:Gl X x:=by rfl) (fe:0e8=ύ:=by decide)
  (he:Ð 8e7 X.env=5e5::Ð es X.env:=by rfl) (bP:(ŀ pos (Ð es X.env)).any (·.1)=ύ:=by rfl):PE X 2e1 (tE X.K Ξ (aE fn fa)):=by
 obtain⟨f,fd,G⟩:=G;exact Du (F G) (hr.mono hk) hg G.mg G.fn.kp G.b ha fe he bP
def ay (ha:PE X a 1e0) (hs:Ð [a] X.env=3e3::Ð [] X.env:=by rfl):PA X [a] (tA X.K Ξ (af f ah)):=bE ha dF hs
def aW (ha:PE X a 1e0) (hb:PE X b (tE X.K Ξ g)) (h1:Ð [a,b] X.env=3e3::Ð [b] X.env:=by rfl) (h2:Ð [b] X.env=(ύ,ŗ b X.env)::Ð [] X.env:=by rfl):PA X [a,b] (tA X.K Ξ (af f (af g ah))):=bE ha (bE hb dF h2) h1
def kU (ha:PE X a 1e0) (hb:PE X b (tE X.K Ξ g)) (hc:PE X c (tE X.K Ξ h)) (h1:Ð [a,b,c] X.env=3e3::Ð [b,c] X.env:=by rfl) (h2:Ð [b,c] X.env=(ύ,ŗ b X.env)::Ð [c] X.env:=by rfl) (h3:Ð [c] X.env=(ύ,ŗ c X.env)::Ð [] X.env:=by rfl):PA X [a,b,c] (tA X.K Ξ (af f (af g (af h ah)))):=bE ha (bE hb (bE hc dF h3) h2) h1
def ia {x:Str} {px:Pos} {sc:acB} {ps:Pos} (N:List Str) {cap:List Nat} {it:afb 4e7} (hi:PI X (.Name x px) src (fk X.K Ξ it))
  (hY:∀(cl:List (Str×Þ)) (C:Þ) (s:Æ) (H:Hp) (ex:List Þ) (pn:List (Þ×Obj)),PF 0e9 tests (tT X.K cA ft)/\PE 0e9 el (tE X.K cA f))
  (hc:X.calm=ό:=by rfl) (S:zB sc X.env.scope.names X.N N 1 cap=ό:=by kernel_rfl) (nd:N.Nodup:=by decide +kernel) (h0:N[0]?=ϊ x:=by rfl) (hx:∀cl C s H ex pn,(cp X N sc cl C s H ex pn).env.scope.names.lookup x=ϊ .local:=by intros;rfl) (hs:∀x,ă src X.env x=pure x:=by intro _;rfl) :
  PE X (.ListComp el [⟨.Name x px,src,tests,0⟩] sc ps) (tE X.K Ξ (cT 1 cap it (gN 0) ft f)) :=
 CQ hc (qA S) (lZ 0) hi (λcl C s H ex pn=>⟨iA nd h0 (.inl (hx cl C s H ex pn)) (.inr (hx cl C s H ex pn)),hY cl C s H ex pn⟩) hs
end
def iQ (mg:Str->Option È) (E:XK):Wd->bb->Prop:=λw x=>∃C,mg x.c=ϊ 5e3/\match x.many with
 |none=>E 5e3 ϋ w.H
 |some i=>∀Z Y t,w.H Z=ϋ->PySem.W.lookIn "many" Y=ϊ (ϊ (.int i t))->E 5e3 (ϊ Z) (upd w.H Z (.bz Y (.own Z)))
def A2 (mg:Str->Option È) (K:İ) (f:List D->ae->Res D):Sp:=λX H Q E=>∃w Z,w.H=H/\aS K w/\aq K w Z X/\Out K (iQ mg E) w (f Z w.aG) λY d=>∀v,DV K Y d v->Q v Y.H
def vV (c:Str) (fa:afb 4e7):afb Fl:=λenv s=>aj (fa env s) λZ s=>if ώ (Z.length<=10)=ό then ϊ (.error ⟨c,ϋ⟩,s) else ϋ
def Fh (K:İ) (mg:Str->Option È) (x:Str):Prop:=∃C,ð K Ú x=ϊ (ϊ 5e3)/\mg x=ϊ 5e3/\ae8 K C [.type "ValueError",.type "Exception",.type "BaseException",.type "object"] "ValueError.__new__"=ό
def md (fn:List D->ae->Res D) (fa:afb 4e7):afb D:=λenv s=>aj (fa env s) fn
section
variable {X:Cx} {E:XK} {Ξ:Wd->bb->Prop} {e a b c:ĳ} {es rest:List ĳ} {pos:Pos} {f g h:afb D} {fa:afb (List D)}
def zf {x:Str} {np ba:Pos} {nI:ĳ} (L:Lv X E) (hO:Fh X.K X.mg x) (ha:PA X (nI::rest) (tA X.K (iQ X.mg E) fa)) (hc:X.calm=ό:=by rfl) (hg:Gl X x:=by rfl) (hd:0e8=ύ:=by decide)
  (he:Ð (nI::rest) X.env=(ύ,ŗ nI X.env)::Ð rest X.env:=by rfl) (gZ:(ŀ ba (Ð rest X.env)).any (·.1)=ύ:=by rfl) :
  PS X (.Raise (ϊ (.Call (.Name x np) (nI::rest) [] ba)) ϋ pos) (tS X.K (iQ X.mg E) (vV x fa)) :=
 let ⟨C,eC,V,U⟩:=hO
 kQ (U3 L eC U PySem.F.excBase_ValueError hc hg ha hd he gZ) λN σ H T=>by
  obtain⟨w,env,R,S,Q,h⟩:=T;subst R;calc⟨w,env,rfl,S,Q,(Out.aj h).mono λW M J P Z I O=>?_⟩;split at Z
  ·rename_i Y
   have Y:=î Y;obtain⟨G,e1,q⟩:=Z W (Le.refl W) P rfl;rw[V] at e1;cases e1;exact⟨Ü (by rw[<- O.length];exact Y) 0e0,q⟩
  ·exact Z.elim
def WQ {k:Nat} {fA:Þ} {fd:ĺ} {xK:List Str} {fn:List D->ae->Res D} {x:Str} {p:Pos} (L:Passes (ip X.prog X.w) X E) (F:dG X.prog X.w X.K X.mg X.base (ip X.prog X.w) k fA fd xK (A2 X.mg X.K fn)) (hr:ck k X.A) (hg:Gl X x) (hm:X.mg x=ϊ (.ref fA)) (hk:θ X.K (.ref fA)=ό) (hb:Binds X.K fd xK [])
  (ha:PA X 8e7 (tA X.K (iQ X.mg E) fa)) (fe:0e8=ύ:=by decide) (he:Ð 8e7 X.env=5e5::Ð es X.env:=by rfl) (bP:(ŀ pos (Ð es X.env)).any (·.1)=ύ:=by rfl) :
  PE X 2e1 (tE X.K (iQ X.mg E) (md fn fa)):=cB (KS F hr hg hm hk hb .nil L ha fe he bP) fun σ H Q Y=>by
 obtain⟨w,env,W,S,V,h⟩:=Y;subst W;calc⟨w,env,rfl,S,V,(Out.aj h).mono λZ U N T R P O=>?_⟩;show A2 X.mg X.K fn (P++[]) Z.H Q E;rw[ć];exact⟨Z,U,rfl,T,O,R⟩
end
def Mp {P:ê} {w:Ď} {K:İ} {mg:Str->Option È} {base:Ŀ} {x:Str} {st:aeW} {f:Þ} {fd:ĺ} {ps:List Str} {k:Nat} {b:afb Fl} (G:Gd K mg x st ps f fd) (N:List Str) (S:qO N ps (cY st)=ό)
  (hb:N.Nodup->∀(bq:È) (A:ó) (outer:List PySem.Env) (s:Æ) (H:Hp) (E:XK),ck k 6e7->Lv (iZ (ip P w) P w K mg base N x (cY st) f bq A outer s H E) E->dq (iZ (ip P w) P w K mg base N x (cY st) f bq A outer s H E) (jd st) (tS K (iQ mg E) b)) :
  dG P w K mg base (ip P w) (k+1) f fd ps (A2 mg K (aU ps.length N.length b)):=by
 obtain⟨J,I,kV,doc,pm,an,bq,ct,F,rfl,lk,V⟩:=G.fn.ex;refine Ea lk V (ma S) (λU H Q E h=>?_) λA outer s H U Q E T h=>?_
 ·obtain⟨w,R,rfl,S,Y,h⟩:=h
  rw[<- Y.length];delta aU at h;split at h
  ·assumption
  ·exact h.elim
 ·obtain⟨X,R,rfl,O,Y,h⟩:=h
  calc⟨_,hb (ma S).nd bq A outer s X.H E T ⟨rfl,rfl,rfl,rfl⟩,?_⟩;delta aU at h;split at h
  ·rename_i M
   rw[<- M] at h;refine⟨X,_,rfl,O,Y.env N.length,(Out.aj h).mono λD L C W Z=>?_⟩
   cases L with
   |nx env=>intro B _;exact ax W Z _ rfl
   |rt d=>have q:=ax W Z;exact q
   |bk env=>exact Z.elim
   |ct env=>exact Z.elim
  ·exact h.elim
end DI
namespace L2
open PySem PySem.Spec PyProof.Rows PySem.W
structure aaz (env:Env) (names:List (Str×ξ)) (cl:List (Str×Þ)):Prop where
 wH:∀x c,cl.lookup x=ϊ c->env.cells.lookup x=ϊ c
 all:∀x,6e0∈names->∃c,cl.lookup x=ϊ c
theorem Cm {env:Env}:∀(names:List (Str×ξ)) (acc:List (Str×Þ)),(∀x,6e0∈names->∃c,env.cells.lookup x=ϊ c)->(∀x c,acc.lookup x=ϊ c->env.cells.lookup x=ϊ c) ->
  ∃cl,(forIn names acc λ(p:Str×ξ) (r:List (Str×Þ))=>(match p with | (name,kind)=>if kind==.free then (do let c <- cellOf env name;pure (Ő ((name,c)::r))) else pure (Ő r):Sem (ForInStep (List (Str×Þ)))))=pure cl /\
   (∀x c,cl.lookup x=ϊ c->env.cells.lookup x=ϊ c)/\(∀x,6e0∈names->∃c,cl.lookup x=ϊ c)/\∀x c,acc.lookup x=ϊ c->∃c,cl.lookup x=ϊ c
 | [],acc,_,Y=>⟨acc,by simp,Y,λ_ h=>(ì h).elim,λx c h=>⟨c,h⟩⟩
 |(y,k)::r,acc,W,Y=>by
  by_cases V:k=.free
  ·subst V
   obtain⟨c,e⟩:=W y Õ;have U:∀x Z,((y,c)::acc).lookup x=ϊ Z->env.cells.lookup x=ϊ Z:=λx Z h=>by
    rw[Ĵ] at h;split at h
    ·rename_i q
     have q:x=y:=by simpa using q
     cases h;rw[q];exact e
    ·exact Y x Z h
   obtain⟨cl,T,S,R,X⟩:=Cm r ((y,c)::acc) (λx h=>W x (Ì _ h)) U;have Q:∃c,cl.lookup y=ϊ c:=X y c (by rw[Ĵ];simp);refine⟨cl,?_,S,λx h=>?_,λx Z h=>?_⟩
   ·rw[adM]
    erw[Ĝ,ÿ,cellOf,e,pure_bind];exact T
   ·rcases Ï.mp h with q|q
    ·cases q;exact Q
    ·exact R x q
   ·by_cases q:x=y
    ·rw[q];exact Q
    ·exact X x Z (by rw[Ĵ,show (x==y)=ύ by simpa using q];exact h)
  ·obtain⟨cl,T,S,R,X⟩:=Cm r acc (λx h=>W x (Ì _ h)) Y
   refine⟨cl,?_,S,λx h=>?_,X⟩
   ·rw[adM]
    have P:(k==NameKind.free)=ύ:=by simpa using V
    erw[P,Ç,õ,pure_bind];exact T
   ·rcases Ï.mp h with q|q
    ·cases q;exact absurd rfl V
    ·exact R x q
def U4 {env:Env} {scope:acB} (hc:∀x,6e0∈scope.names->∃c,env.cells.lookup x=ϊ c):∃cl,closureFor scope env=pure cl/\aaz env scope.names cl:=by
 obtain⟨cl,Z,Y,X,_⟩:=Cm scope.names [] hc (λx c h=>by cases h);calc⟨cl,?_,Y,X⟩;delta closureFor;erw[pure_bind,bind_pure];exact Z
abbrev zE (q:Str) (params:aeZ) (body:ĳ) (scope:acB) (cl:List (Str×Þ)) (pm:È) (c':Þ) (ja:È):Obj:=kla_obj "<lambda>" q params body scope cl pm c' ja
section
variable {X:Cx} {π:List (Þ×Obj)} {σ:St} {H:Hp} {s:Æ}
def Inv.table {P c':Þ} {ps A3:Array È} {oc:Obj} {h':Ŀ} {t':Nat} (I:Inv X π σ H s) (hP:H P=ϊ (.eD ps)) (hx:adw P s.heap h') (hc:s.heap.objs.size<=c') (nK:h'.get? c'=ϊ oc) (ht:h'.get? P=ϊ (tabObj (ps++A3))) :
  Inv X π σ (upd (upd H c' (.bz oc (.own c'))) P (.eD (ps++A3))) { s with heap:=h',toks:=t' }:=by
 have Y:H c'=ϋ:=I.az.fresh hc;have U:c'≠P:=λz=>by rw[z,hP] at Y;cases Y
 have ne:∀b u,H b=u->u≠ϊ (.eD ps)->b≠P:=λb u e d z=>by rw[z,hP] at e;exact d e.symm
 have at_:∀b u,H b=ϊ u->b≠P->upd (upd H c' (.bz oc (.own c'))) P (.eD (ps++A3)) b=ϊ u:=λb u e n=>by rw[bx n,bx (dC e Y)];exact e
 refine I.un ⟨λb o e n _ _=>hx b o (ne b _ n (by intro z;cases z)) e,λb o e n _ _=>⟨o.slots,hx b o (ne b _ n (by intro z;cases z)) e⟩,λb o e n _=>?_,λb o e _=>?_,λb V e=>at_ b _ e (ne b _ e (by intro z;cases z)),λb o u e=>at_ b _ e (ne b _ e (by intro z;cases z)),λb T e=>?_⟩ λb u e=>?_
 ·rw[bx (ne b _ n (by intro z;cases z)),bx (á (Ë (Í e) hc))];exact n
 ·by_cases Z:b=P
  ·exact⟨_,Z ▸ ht⟩
  ·exact⟨o,hx b o Z e⟩
 ·by_cases Z:b=P
  ·subst Z
   rw[hP] at e;cases e;exact⟨A3,cO⟩
  ·exact⟨#[],by rw[at_ b _ e Z];simp⟩
 ·by_cases Z:b=P
  ·subst Z
   rw[cO] at e;cases e;exact ht
  ·rw[bx Z] at e
   by_cases W:b=c'
   ·subst W
    rw[cO] at e;cases e;exact⟨nK,oc,nK⟩
   ·rw[bx W] at e
    refine(I.az b u e).gy (λc v hc q=>hx c v ?_ q) (λc q=>at_ c _ q (ne c _ q (by intro z;cases z))) λc V q=>at_ c _ q (ne c _ q (by intro z;cases z))
    rcases hc with z|z
    ·rw[z];exact Z
    ·exact ne c _ z (by intro z;cases z)
def U5 {params:aeZ} {body:ĳ} {scope:acB} {ib:Pos} {cl:List (Str×Þ)} {c P:Þ} {ps:Array È} {E:È->Æ->Prop} {A:ó} {Q:È->Æ->Prop} (I:Inv X π σ H s) (di:closureFor scope X.env=pure cl) (zZ:X.env.code=.ref c) (C:CodeHd X.base c P) (hb:X.base.BuiltinsAt X.mg P)
  (hP:H P=ϊ (.eD ps)) (ht:TriplesOk ps.toList) (Fi:defaultsOf params X.env=([],[]))
  (abV:∀cv,codeAmong ib ps.toList=ϊ cv->∃c' oc vs t,cv=.ref c'/\H c'=ϊ (.bz oc (.own c'))/\oc.data=.fields vs/\vs[1]?=ϊ (.str (X.env.qual++"<lambda>") t))
  (h:∀(f c':Þ) (ja:È) (oc:Obj) (vs:Array È) (t:Tok) (H1:Hp) (s1:Æ),Inv X π σ H1 s1->s.heap.objs.size<=f->H1 f=ϋ->s1.heap.get? f=ϊ 7e1->H1 c'=ϊ (.bz oc (.own c'))->oc.data=.fields vs->vs[1]?=ϊ (.str (X.env.qual++"<lambda>") t) ->
   (H1=H\/(H c'=ϋ/\c'≠P/\H1=upd (upd H c' (.bz oc (.own c'))) P (.eD (ps++#[acz ib.line,acz ib.col,.ref c']))/\TriplesOk (ps++#[acz ib.line,acz ib.col,.ref c']).toList))->Q (.ref f) s1) :
  ß 0e2 A (ŗ (.Lambda params body scope ib) X.env) Q E s:=by
 have Y:s.heap.get? P=ϊ (tabObj ps):=I.az P _ hP;have G:CodeHd s.heap c P:=C.keeps I.bk
 have F:s.heap.BuiltinsAt X.mg P:=let ⟨bm,o,a1,a2,y,x,v,r⟩:=hb;⟨bm,o,a1,a2,y,x,I.bk _ _ v,r⟩
 have W:s.heap.Ns Ú X.mg:=I.ok.mod.glob.keeps I.bk;have V:Ú≠P:=λq=>by
  obtain⟨o,g,d,e,U,_⟩:=W;rw[q,Y] at e;cases e;cases U
 refine kla_eval Fi ?_
 cases T:codeAmong ib ps.toList with
 |some cv =>
  obtain⟨c',oc,vs,t,rfl,u,p,m⟩:=abV cv T;refine kla_makeFunctionHit di I.ok.glob W zZ G Y ht T F λja h' S l Z=>?_
  have R:Inv X π σ H { s with heap:=h'.push 7e1,toks:=S }:=I.kept λb o e=>Á _ (l b o e)
  exact h _ c' ja oc vs t H _ R Z (I.az.fresh Z) (Ò _ rfl) u p m 7e6
 |none =>
  calc kla_makeFunction di I.ok.glob W zZ G Y ht T V F λc' ja h' S k O D N M=>?_;obtain⟨c₂,oc,vs,t,e2,j,U,i⟩:=N;cases e2;have L:H c'=ϋ:=I.az.fresh O;have B:c'≠P:=λz=>by rw[z,hP] at L;cases L
  have R:=I.table (t':=S) hP (h':=h'.push 7e1) (λb o n e=>Á _ (k b o n e)) O (Á _ j) (Á _ M);have K:s.heap.objs.size<=h'.objs.size:=Ü O (Nat.le_of_lt D);have J:h'.objs.size≠P:=λz=>by have:=Í Y;rw[<- z] at this;exact absurd (Ë this K) (ñ _)
  refine h _ c' ja oc vs t _ _ R K ?_ (Ò _ rfl) ?_ U i (.inr ⟨L,B,rfl,?_⟩)
  ·rw[bx J,bx (Ş D)];exact I.az.fresh K
  ·rw[bx B,cO]
  ·rw[aeE]
   exact TriplesOk_snoc _ _ _ _ ht
end
def Tb {pos:Pos} {c cv:È} {a b:Int} (l:List È) (h:TriplesOk l) (e:codeAmong pos (l++[acz a,acz b,c])=ϊ cv):codeAmong pos l=ϊ cv\/cv=c:=by
 fun_induction TriplesOk l with
 |case1 =>
  erw[ł,codeAmong,acz] at e;split at e
  ·cases e;exact .inr rfl
  ·cases e
 |case2 a t b u x rest ih =>
  erw[ī,codeAmong] at e |-;split
  ·rename_i q;rw[Ô q] at e;exact .inl e
  ·rename_i q;rw[Ö q] at e;exact ih h e
 |case3 l Z Y=>exact h.elim
def uN (P:ê) (w:Ď) (K:İ) (mg:Str->Option È) (base:Ŀ) (N:List Str) (qual:Str) (scope:acB) (f:Þ) (cd:È) (cl:List (Str×Þ)) (A:ó) (outer:List Env) (s:Æ) (H:Hp) (E:XK):Cx where
 prog:=P
 w:=w
 K:=K
 mg:=mg
 base:=base
 A:=A.deeper (envX qual scope s.heap.objs.size f cd cl)
 N:=N
 c8:=s
 mx:=H
 env:=envX qual scope s.heap.objs.size f cd cl
 outer:=outer
 stack:=envX qual scope s.heap.objs.size f cd cl::outer
 ex:=[]
 calm:=ό
 fn:=λ_=>ύ
 pn:=[]
 xe:=λe Y=>ß 2e0 (A.deeper (envX qual scope s.heap.objs.size f cd cl)) (leaving (envX qual scope s.heap.objs.size f cd cl) e) (λ_ Z=>ip P w outer H s E e Z) (λX Z=>ip P w outer H s E X Z) Y
structure U6 (N:List Str) (scope:acB):Prop where
 co:scope.isCoroutine=ύ
 gen:scope.isGenerator=ύ
 kind:scope.kind=.function
 vK:∀x∈scope.names,x.2≠.cell
def YZ {P:ê} {w:Ď} {K:İ} {mg:Str->Option È} {base:Ŀ} {k:Nat} {f c':Þ} {N:List Str} {q:Str} {params:aeZ} {body:ĳ} {scope:acB} {cl:List (Str×Þ)} {pm ja:È} {vs:List V} {t:XK->TE} {oc:Obj} {fs:Array È} {tq:Tok}
  (S:U6 N scope) (ho:base.get? f=ϊ (zE q params body scope cl pm c' ja)) (hl:N.length=vs.length)
  (inj:∀x y c,cl.lookup x=ϊ c->cl.lookup y=ϊ c->x=y) (has:∀x,scope.names.lookup x=ϊ .free->∃c,cl.lookup x=ϊ c) (kZ:∀x c,cl.lookup x=ϊ c->∃v,base.IsCell c v)
  (hv:∀(i:Nat) x v,N[i]?=ϊ x->vs[i]?=ϊ v->scope.names.lookup x=ϊ .free/\∃c u,cl.lookup x=ϊ c/\base.IsCell c (ϊ u)/\RelV v u)
  (nV:oc.data=.fields fs) (gI:fs[1]?=ϊ (.str q tq))
  (k9:∀(A:ó) (outer:List Env) (s:Æ) (H:Hp) (E:XK),ck k (A.deeper (envX q scope s.heap.objs.size f (.ref c') cl))->Lv (uN P w K mg base N q scope f (.ref c') cl A outer s H E) E->PE (uN P w K mg base N q scope f (.ref c') cl A outer s H E) body (t E)) :
  dG P w K mg base (ip P w) (k+1) f (kla_fn "<lambda>" q params body scope cl pm (.ref c') ja) [] (λus H Q E=>us=[]/\H c'=ϊ (.bz oc (.own c'))/\t E (vs.map ϊ) H Q):=by
 calc⟨λus H Q E h=>by rw[h.1];rfl,λA outer s H args us GA Q E W Z L r G=>?_⟩;obtain⟨_,F,D⟩:=G;have lim:s.heap.NoLimit:=Z.mod.nolimit.keeps λb o e=>(Z.bs b o e).1;have bk:∀b o,base.get? b=ϊ o->s.heap.get? b=ϊ o:=λb o e=>(Z.bs b o e).1;have U:s.heap.CodeRec (.ref c') q:=⟨c',oc,fs,tq,rfl,(Z.az c' _ F).1,nV,gI⟩;calc kla_callFunE W.depth (bk _ _ ho) rfl S.co S.gen rfl U (L _ _ _ _ ?_);calc wpAny_newFunctionEnv S.vK (λx C=>absurd C ∅) (λM B T=>?_) S.kind;have Y:∀b o,s.heap.get? b=ϊ o->M.get? b=ϊ o:=λb o e=>T.extBut b o (á (Í e)) (Á _ e);calc⟨lim.keeps Y,?_⟩;show acN _ _ (.expr body (envX q scope s.heap.objs.size f (.ref c') cl)) _ _;have n:ck k (A.deeper (envX q scope s.heap.objs.size f (.ref c') cl)):=W.deeper _;have R:∀c v,base.IsCell c v->H c=ϋ:=λc v ⟨o,e,_⟩=>(Z.bs c o e).2;have O:∀b:Þ,b∉(uN P w K mg base N q scope f (.ref c') cl A outer s H E).ex:=λb z=>absurd (show b∈([]:List Þ) from z) ∅
 have I:Inv (uN P w K mg base N q scope f (.ref c') cl A outer s H E) [] (vs.map ϊ) H { s with heap:=M,toks:=s.toks+([]:List (Str×È)).length }:=by
  refine⟨⟨Z.mod,S.kind,rfl,rfl,afn _,inj,λy hy=>?_,λy c h=>absurd h Ã,λ_=>W.hd,Around.frames_deeper Z.frames,.inr 1e4,λb z=>absurd z (O b),Z.bs,Z.jq,λb _ _=>O b,λb z=>absurd z (O b),Z.jk,Z.lF⟩,
   rfl,Z.bare,Un.kept Y,⟨_,B,λi y v m X h3=>?_⟩,λy c h=>?_,Z.az.fresh 3e0,λy c h=>?_,λp l=>absurd (show p∈([]:List 2e7) from l) ∅,Z.az.kept Y,?_⟩
  ·have hy:scope.names.lookup y=ϊ .cell\/scope.names.lookup y=ϊ .free:=hy
   rcases hy with hy|hy
   ·exact absurd rfl (S.vK _ (ņ hy))
   ·exact has y hy
  ·have j:vs[i]?=ϊ v:=by
    rw[é] at X
    cases e:vs[i]? with
    |none=>rw[e] at X;cases X
    |some a=>rw[e] at X;cases X;rfl
   obtain⟨g,c,u,e1,e2,d⟩:=hv i y v m j;exact⟨u,d,.inr ⟨.inr g,c,e1,(e2.keeps bk).keeps Y⟩⟩
  ·obtain⟨v,e⟩:=kZ y c h
   exact⟨v,(e.keeps bk).keeps Y⟩
  ·obtain⟨v,e⟩:=kZ y c h
   exact R c v e
  ·rw[Ä];exact hl.symm
 calc kla_codeExpr (ħ (k9 A outer s H E n ⟨rfl,rfl,rfl,rfl⟩ [] _ (vs.map ϊ) H Q I D) (λu s' h=>?_) λe s' h=>h);obtain⟨v,H',J,rv,z⟩:=h;exact⟨v,H',J.os,J.bare,J.base,J.az,rv,z⟩
end L2
namespace DI
open PySem L2 PySem.W
def aaB (pre:Hp->Prop):Prop:=∀H Z:Hp,(∀b o u,H b=ϊ (.bz o u)->Z b=ϊ (.bz o u))->pre H->pre Z
def A6 (P:ê) (w:Ď) (K:İ) (mg:Str->Option È) (base:Ŀ) (k:Nat) (pre:Hp->Prop) (f:Þ) (vs:List V) (ds:List D) (th:ae->Res D):Prop :=
 aaB pre/\∃fd,(∃o,base.get? f=ϊ o/\o.data=.func fd)/\Binds K fd [] [] /\
  dG P w K mg base (ip P w) k f fd [] (λX H Q E=>X=[]/\pre H/\∃Z:Wd,Z.H=H/\aS K Z/\aq K Z ds vs/\Out K (iQ mg E) Z (th Z.aG) λY d=>∀v,DV K Y d v->Q v Y.H)
def uO (cl:D) (th:ae->Res D) (i:Nat):afb D:=λenv s=>open Classical in if env[i]?=ϊ (ϊ cl) then th s else ϋ
def spT (K:İ) (pre:Hp->Prop) (cl:D) (fn:List D->ae->Res D):Sp:=λY H Q _=>pre H/\∃w:Wd,w.H=H/\aS K w/\aq K w [cl] Y/\Out K cA w (fn [cl] w.aG) λZ d=>∀v,DV K Z d v->Q v Z.H
def aaC {P:ê} {w:Ď} {K:İ} {mg:Str->Option È} {base:Ŀ} {x:Str} {st:aeW} {f:Þ} {fd:ĺ} {ps:List Str} {k:Nat} {b:afb Fl} {pre:Hp->Prop} {cl:D} (G:Gd K mg x st ps f fd) (N:List Str) (S:qO N ps (cY st)=ό)
  (hb:N.Nodup->∀(bq:È) (A:ó) (outer:List PySem.Env) (s:Æ) (H:Hp) (E:XK),pre H->ck k 6e7->dq (iZ dP P w K mg base N x (cY st) f bq A outer s H E).nL (jd st) (tS K cA b)) :
  dG P w K mg base dP (k+1) f fd ps (spT K pre cl (aU ps.length N.length b)):=by
 refine G.fn.ok (ma S) (λW H Q E h=>?_) (λbq A outer s H W Q E V h=>?_)
 ·obtain⟨_,w,rfl,S,Y,h⟩:=h
  rw[<- Y.length];delta aU at h;split at h
  ·assumption
  ·exact h.elim
 ·obtain⟨U,w,rfl,T,Y,h⟩:=h
  calc⟨_,hb (ma S).nd bq A outer s w.H E U V,?_⟩;delta aU at h;split at h
  ·rename_i R
   rw[<- R] at h;refine⟨w,_,rfl,T,Y.env N.length,(Out.aj h).mono λM O L X Z=>?_⟩
   cases O with
   |nx env=>intro J _;exact ax X Z _ rfl
   |rt d=>have q:=ax X Z;exact q
   |bk env=>exact Z.elim
   |ct env=>exact Z.elim
  ·exact h.elim
def ny (env:Env):List Nat->Option 4e7
 | []=>ϊ []
 |i::r=>match env[i]?,ny env r with
  |some (ϊ d),ϊ Z=>ϊ (d::Z)
  |_,_=>ϋ
theorem Ka {K:İ} {w:Wd} {env:Env} {σ:St} (eo:cj K w env σ):∀{caps:List Nat} {ds:List D},ny env caps=ϊ ds->∃vs,aq K w ds vs/\∀(i:Nat) j v,caps[i]?=ϊ j->vs[i]?=ϊ v->σ[j]?=ϊ (ϊ v)
 | [],ds,h=>by cases h;exact⟨[],rfl,λi j v h=>by simp at h⟩
 |j::r,ds,h=>by
  delta ny at h;split at h
  ·rename_i d R e1 e2
   cases h;obtain⟨v,X,W⟩:=eo.val j d e1;obtain⟨vs,V,U⟩:=Ka eo e2;refine⟨v::vs,⟨v,vs,rfl,W,V⟩,λi T S Z Y=>?_⟩
   cases i with
   |zero=>cases Z;cases Y;exact X
   |succ i=>exact U i T S (by simpa using Z) (by simpa using Y)
  ·cases h
def qP (x:Str) (caps:List Nat) (fb:afb D) (g:D->(ae->Res D)->List D->ae->Res D):afb D:=λenv s=>match (ny env caps:Option 4e7) with
 |some Z=>match (s[0]?:Option Cell) with
  |some (.tb y)=>if ώ (y=x)=ό then ne (g .ak (fb (Z.map ϊ)) [.ak] s) else ϋ
  |_=>ϋ
 |none=>ϋ
def Mq (dN N:List Str) (caps:List Nat) (Pj sc:acB):Bool:=ώ (sc.kind=.function)&&!sc.isCoroutine&&!sc.isGenerator&&sc.names.all (λy=>ώ (y.2≠.cell))&&ώ (N.length=caps.length) &&
 (N.zip caps).all (λp=>ώ (dN[p.2]?=ϊ p.1)&&ώ (Pj.names.lookup p.1=ϊ .cell)&&ώ (sc.names.lookup p.1=ϊ .free))&&sc.names.all (λy=>ώ (y.2≠.free)||ώ (Pj.names.lookup y.1=ϊ .cell))
abbrev Pk (P:ê) (w:Ď) (K:İ) (mg:Str->Option È) (x:Str) (st:aeW) (ps:List Str) (k kt:Nat) (g:D->(ae->Res D)->List D->ae->Res D):Prop :=
 ∀{base:Ŀ} {pre:Hp->Prop} {f:Þ} {vs:List V} {ds:List D} {th:ae->Res D},A6 P w K mg base kt pre f vs ds th->∀{gA:Þ} {fd:ĺ},Gd K mg x st ps gA fd->dG P w K mg base dP k gA fd ps (spT K pre (.cR f vs ds) (g (.cR f vs ds) th))
section
variable {X:Cx} {Ξ:Wd->bb->Prop} {pos:Pos}
def jG (X:Cx) (H:Hp) (s:Æ):Ŀ:=hideAll s.heap (cm X.stack++ui s.heap H)
def yH {H:Hp} {s:Æ} {b:Þ} {o:Obj} (e:s.heap.get? b=ϊ o) (n:H b=ϋ) (hf:b∉cm X.stack):(jG X H s).get? b=ϊ o:=hideAll_get _ e λz=>by
 rcases Ć.mp z with z|z
 ·exact hf z
 ·delta ui at z
  have:=(Ł.mp z).2;rw[n] at this;cases this
def Kb {H:Hp} {s:Æ} {b:Þ} {o:Obj} (e:(jG X H s).get? b=ϊ o):s.heap.get? b=ϊ o/\H b=ϋ/\b∉cm X.stack:=by
 have e1:=of_hideAll _ e;refine⟨e1,?_,λz=>?_⟩
 ·cases q:H b with
  |none=>rfl
  |some u =>
   have:(jG X H s).get? b=ϋ:=hideAll_none _ (Ó _ (Ł.mpr ⟨ø.mpr (Í e1),by rw[q];rfl⟩));rw[e] at this;cases this
 ·have:(jG X H s).get? b=ϋ:=hideAll_none _ (Ā _ z)
  rw[e] at this;cases this
def _root_.L2.Inv.Y0 {π:List 2e7} {σ:St} {H:Hp} {s:Æ} (I:Inv X π σ H s):∀b o,X.base.get? b=ϊ o->(jG X H s).get? b=ϊ o:=λb o e=>yH (I.bs b o e).1 (I.bs b o e).2 λz=>by
 have:=(I.stack.mem z).1;rw[e] at this;cases this
def _root_.L2.Inv.aaD {π:List 2e7} {σ:St} {H:Hp} {s:Æ} (I:Inv X π σ H s):tI X.prog X.w X.K X.mg (jG X H s) X.A X.stack s H:=by
 have k:=I.Y0;refine⟨I.ok.frames,⟨I.ok.mod.lE.keeps k,I.ok.mod.glob.keeps k,?_,I.ok.mod.nolimit.keeps k⟩,λb o e=>⟨(Kb e).1,(Kb e).2.1⟩,aeP (hideAll_size _ _),?_,I.vB,I.az,I.bare⟩
 ·obtain⟨Z,Y,W⟩:=I.ok.mod.blt
  exact⟨Z,Y.keeps k,W⟩
 ·refine funFrames_hide I.stack λenv V a U=>Ā _ ?_
  delta cm;exact Š.mpr ⟨env,V,U⟩
def NB {x g:Str} {p ib:Pos} {params:aeZ} {body:ĳ} {sc:acB} {c P:Þ} {Pl:aeW} {Pn:List Str} {k n kb:Nat} {gf:D->(ae->Res D)->List D->ae->Res D} {fb:afb D} (N:List Str) {caps:List Nat}
  (zZ:X.env.code=.ref c) (NC:X.env.qual=x++".<locals>.") (ht:tabIn X.K x=ϊ (c,P)) (hC:codeHdIn X.K c P=ό) (hb:X.base.BuiltinsAt X.mg P)
  (G:GG X.K X.mg g Pl Pn) (F:Pk X.prog X.w X.K X.mg g Pl Pn k (kb+1) gf) (abY:∀cl th s,gf cl th [cl] s=gf .ak th [.ak] s) (hr:ck n X.A)
  (k9:∀(base:Ŀ) (q:Str) (f:Þ) (cd:È) (cl:List (Str×Þ)) (A:ó) (outer:List PySem.Env) (s:Æ) (H:Hp) (E:XK),ck kb (A.deeper (envX q sc s.heap.objs.size f cd cl))->Lv (uN X.prog X.w X.K X.mg base N q sc f cd cl A outer s H E) E->PE (uN X.prog X.w X.K X.mg base N q sc f cd cl A outer s H E) body (tE X.K (iQ X.mg E) fb))
  (hk:k<=n:=by decide) (Fj:Mq X.N N caps X.env.scope sc=ό:=by kernel_rfl) (xp:∀x,X.fn x=ό:=by intro _;rfl) (Ei:∀(cl:List (Str×Þ)) (pm:È) (c':Þ) (ja:È),bindArgs (kla_fn "<lambda>" (x++".<locals>."++"<lambda>") params body sc cl pm (.ref c') ja) ⟨[],[]⟩=pure []:=by intros;rfl)
  (Fi:defaultsOf params X.env=([],[]):=by rfl) (hg:Gl X g:=by rfl) (fe:(g==("__debug__":Str))=ύ:=by decide)
  (he:Ð [.Lambda params body sc ib] X.env=(ύ,ŗ (.Lambda params body sc ib) X.env)::Ð [] X.env:=by rfl) (bP:(ŀ pos (Ð [] X.env)).any (·.1)=ύ:=by rfl) :
  PE X (.Call (.Name g p) [.Lambda params body sc ib] [] pos) (tE X.K Ξ (qP x caps fb gf)):=by
 intro π s σ H Q I au;have C:=codeHd_of_K I.ok.mod.lE hC;obtain⟨w,env,eH,S,eo,h⟩:=au;subst eH;delta qP at h
 cases mI:ny env caps with
 |none=>rw[mI] at h;exact h.elim
 |some W =>
 rw[mI] at h
 cases U:w.aG[0]? with
 |none=>erw[U] at h;exact h.elim
 |some c0 =>
 erw[U] at h
 cases c0 with
 |dead=>exact h.elim
 |lst _=>exact h.elim
 |dK _=>exact h.elim
 |dT _=>exact h.elim
 |ins _ _=>exact h.elim
 |tb y =>
 dsimp only at h;by_cases hy:y=x
 case neg=>rw[Ö (by simpa using hy)] at h;exact h.elim
 rw[Ô (by simpa using hy)] at h;subst hy;obtain⟨vs,ai,hvs⟩:=Ka eo mI;obtain⟨a,ha⟩:∃a,w.ρ[0]?=ϊ a:=by
  have:=S.len
  cases hρ:w.ρ with
  |nil=>rw[hρ] at this;have h0:=(Ñ.mp U).1;rw[<- this] at h0;simp at h0
  |cons a r=>exact⟨a,rfl⟩
 have abZ:=S.cell 0 a _ ha U;obtain⟨c2,ps,t1,t2,t3,t4⟩:=abZ;rw[ht] at t1;cases t1;delta Mq at Fj;erw[Å,ψ,û,É,ä] at Fj;obtain⟨⟨⟨⟨⟨⟨k1,k2⟩,k3⟩,k4⟩,k5⟩,k6⟩,k7⟩:=Fj;obtain⟨cl,di,R⟩:=U4 (env:=X.env) (scope:=sc) λz hz=>by
  rcases k7 _ hz with q|q
  ·exact absurd rfl q
  ·exact I.ok.has z (.inl q)
 obtain⟨gA,fdg,G⟩:=G;calc acR (sj I hg G.mg ?_ fe);calc aeK (h₀:=X.base) I.ok.mod.lE G.fn.kp ?_ he bP;rw[he];show ß _ _ (spliced ((ύ,ŗ (.Lambda params body sc ib) X.env)::ŀ pos (Ð [] X.env))) _ _ s;refine adK (U5 I di zZ C hb t2 t3 Fi (λcv q=>?_) λf c' ja oc fs tq H1 J Y hf Ol GF js nV gI hH=>?_)
 ·rw[NC]
  obtain⟨c',oc,fs,t,r1,r2,r3,r4⟩:=t4 ib cv q;exact⟨c',oc,fs,t,r1,r2.2,r3,r4⟩
 rw[NC] at GF gI;calc Calls.spliced_nil ⟨Y.jr,?_⟩;have W1:∃V:Wd,V.H=H1/\aS X.K V/\Le X.K w V/\V.aG=w.aG:=by
  rcases hH with rfl | ⟨hn,A4,rfl,F2⟩
  ·exact⟨w,rfl,S,Le.refl w,rfl⟩
  ·have S2:=S.grow (o:=.bz oc (.own c')) hn
   have O:=(Fw.grow (K:=X.K) (o:=.bz oc (.own c')) hn).le;have l2:=(Fw.put (o:=.eD (ps++#[acz ib.line,acz ib.col,.ref c'])) (c:=.tb y) S2 ha U (by intro z;cases z)).le;refine⟨(w.grow c' (.bz oc (.own c'))).put 0 P (.eD (ps++#[acz ib.line,acz ib.col,.ref c'])) (.tb y),rfl,S2.E3 ha U (by intro z;cases z) ⟨c,_,ht,cO,F2,λpos cv e=>?_⟩,O.trans l2,?_⟩
   ·rw[aeE] at e
    rcases Tb _ t3 e with e|e
    ·obtain⟨c3,o3,v3,t3',r1,r2,r3⟩:=t4 pos cv e
     exact⟨c3,o3,v3,t3',r1,(O.trans l2).bz c3 o3 _ r2.1 r2.2,r3⟩
    ·refine⟨c',oc,fs,tq,e,?_,nV,gI⟩
     exact l2.bz c' oc _ (λz=>kj S hn z) cO
   ·exact υ λi=>by
     show (w.aG.set 0 (.tb y))[i]?=w.aG[i]?
     cases i with
     |zero=>rw[Đ (Ñ.mp U).1,U]
     |succ i=>rw[ā ⋯]
 obtain⟨V,rfl,S1,O,es⟩:=W1;have cells:∀z Z,cl.lookup z=ϊ Z->∀v,J.heap.IsCell Z v->(jG X V.H J).IsCell Z v:=λz Z e v ⟨o,ho,hd⟩=>by
  have e2:=R.wH z Z e;refine⟨o,yH ho (Y.jf z Z e2) λq=>?_,hd⟩
  rcases Ï.mp (Y.ki _ q) with q|q
  ·exact Y.kH z Z e2 q
  ·obtain⟨_,o2,iM,_⟩:=Y.ok.jk.mem q
   exact absurd (Í iM) (ae2.mpr (Y.ok.uj z Z (xp z) e2))
 have Om:f∉cm X.stack:=λq=>by
  obtain⟨_,o2,iM,_⟩:=I.stack.mem q;exact absurd (Í iM) (ae2.mpr hf)
 have nl:N.length=vs.length:=by
  have e1:=ai.length;have e2:∀(cs:List Nat) (W:List D),ny env cs=ϊ W->W.length=cs.length:=λcs=>by
   induction cs with
   |nil=>intro W h;cases h;rfl
   |cons i r ih =>
    intro W h;delta ny at h;split at h
    ·cases h;rename_i e;simp[ih _ e]
    ·cases h
  rw[k5,<- e2 caps W mI,e1]
 have T:A6 X.prog X.w X.K X.mg (jG X V.H J) (kb+1) (λH=>H c'=ϊ (.bz oc (.own c'))) f vs W (fb (W.map ϊ)):=by
  refine⟨λH H' st q=>st _ _ _ q,_,⟨_,yH GF Ol Om,rfl⟩,Binds.all λus hl=>?_,(YZ (t:=λE=>tE X.K (iQ X.mg E) fb) (vs:=vs) (oc:=oc) ⟨k2,k3,k1,k4⟩ (yH GF Ol Om) nl (λz1 z2 Z M B=>Y.ok.inj z1 z2 Z (R.wH _ _ M) (R.wH _ _ B)) (λz hz=>R.all z (ņ hz)) (λz Z e=>?_) (λi z v M B=>?_) nV gI
   (λA outer s H E hr L=>k9 _ _ f (.ref c') cl A outer s H E hr L)).imp λus H Q E h=>?_⟩
  ·have:us=[]:=List.eq_nil_of_length_eq_zero (by simpa using hl)
   subst this;exact Ei _ _ _ _
  ·obtain⟨v,q⟩:=Y.cell z Z (R.wH z Z e)
   exact⟨v,cells z Z e v q⟩
  ·have hi:i<caps.length:=by
    have:=(Ñ.mp M).1;rw[k5] at this;exact this
   obtain⟨j,hj⟩:∃j,caps[i]?=ϊ j:=⟨caps[i],Ê hi⟩;have hm:(z,j)∈N.zip caps:=by
    calc Ē (i:=i) ?_;rw[List.getElem?_zip_eq_some];exact⟨M,hj⟩
   obtain⟨⟨q1,q2⟩,q3⟩:=k6 _ hm;obtain⟨m,hn,hl⟩:=Y.loc;obtain⟨u,r,lk⟩:=hl j z v q1 (hvs i j v hj B) (.inr (.inl q2));refine⟨q3,?_⟩
   rcases lk with ⟨lk,_⟩ | ⟨_,Z,e1,e2⟩
   ·rw[show X.env.kindOf z=X.env.scope.names.lookup z from rfl,q2] at lk;cases lk
   ·obtain⟨c3,e3⟩:=R.all z (ņ q3)
    have e4:=R.wH z c3 e3;rw[e1] at e4;cases e4;exact⟨Z,u,e3,cells z Z e3 _ e2,r⟩
  ·obtain⟨M,B,w',rfl,S',mP,hh⟩:=h
   refine⟨M,B,w',W.map ϊ,rfl,S',⟨?_,λi d e=>?_⟩,hh⟩
   ·rw[Ä,Ä];exact mP.length
   ·rw[é] at e
    cases q:W[i]? with
    |none=>rw[q] at e;cases e
    |some d' =>
     rw[q] at e;cases e;obtain⟨v,e1,e2⟩:=mP.get' i d q;exact⟨v,by rw[é,e1];rfl,e2⟩
 have hq:=(h.from O).ne;rw[<- es,<- abY (.cR f vs W)] at hq;refine adA (Ŋ ((F T G).run X.A X.stack J V.H ⟨[.ref f],[]⟩ [.ref f] [.ref f] Q (λ_ _ _=>False) (hr.mono hk) Y.aaD (G.b J [.ref f] Y.jr ?_) (.cons rfl .nil) ⟨js,V,rfl,S1,⟨.ref f,[],rfl,⟨rfl,O.all ai⟩,rfl⟩,hq⟩) λr s' l=>?_)
 ·have:=(F T G).len [.ref f] V.H Q (λ_ _ _=>False) ⟨js,V,rfl,S1,⟨.ref f,[],rfl,⟨rfl,O.all ai⟩,rfl⟩,hq⟩
  simpa using this
 ·cases r with
  |error e=>exact l.elim
  |ok fl =>
   cases fl with
   |ret u=>exact Y.after l
   |next=>exact Ī l
   |brk=>exact Ī l
   |cont=>exact Ī l
end
end DI
namespace L2
open PySem PySem.Spec PyProof.Rows PySem.W
section
variable {X:Cx} {π:List (Þ×Obj)} {σ:St} {H:Hp} {s:Æ}
def zg {M:Model} {A:ó} {E:È->Æ->Prop} {i:Nat} {x:Str} {pos:Pos} {Q:Unit->Æ->Prop} (I:Inv X π σ H s) (hN:X.N.Nodup) (hi:X.N[i]?=ϊ x) (hk:X.env.scope.names.lookup x=ϊ .local) (h:∀s',Inv X π (σ.set i ϋ) H s'->Q () s') :
  ß M A (do aec X.env x .none;unbindBehindTheSuite X.env x pos) Q E s:=by
 obtain⟨m,V,S⟩:=id I.loc;have R:(X.env.scope.kind==.class||(X.env.scope.kind==.module&&X.env.locals != X.env.globals))=ύ:=by rw[I.ok.kind];rfl
 have kH:=I.kH;calc wpAny_nameGoes_keeps hk V R λw v P hs=>?_;obtain⟨u,_,_,t,_⟩:=id V;refine h _ ⟨I.ok,I.os,I.bare,⟨λb o e n Y Z=>?_,λb o e n Y Z=>?_,I.base.free,λb o e Z=>?_,I.base.fz,I.base.eR,I.base.fB⟩,⟨_,P,λj y O e1 e2 L=>?_⟩,λy c e=>?_,I.free,I.jf,λp K=>?_,λb J e=>?_,by rw[ģ];exact I.len⟩
 ·exact(hs.2 b (á (Ë (Í e) I.ok.above))).trans (I.base.keep b o e n Y Z)
 ·obtain⟨sl,e1⟩:=I.base.slot b o e n Y Z
  exact⟨sl,(hs.2 b (á (Ë (Í e) I.ok.above))).trans e1⟩
 ·obtain⟨G,e1⟩:=I.base.there b o e Z
  exact⟨G,(hs.2 b (á (Ë (Í e) I.ok.above))).trans e1⟩
 ·by_cases W:j=i
  ·subst W
   have U:=(Ñ.mp e2).1;rw[ģ] at U;rw[Đ U] at e2;cases e2
  ·rw[ā (ŵ W)] at e2
   obtain⟨F,D,q⟩:=S j y O e1 e2 L;refine⟨F,D,?_⟩
   rcases q with ⟨k,e⟩ | ⟨k,c,e,z⟩
   ·refine .inl ⟨k,?_⟩
    have:y≠x:=λe=>W (B5 hN e1 (e ▸ hi));simp[this,e]
   ·exact .inr ⟨k,c,e,z.sameBut hs (kH y c e)⟩
 ·obtain⟨T,z⟩:=I.cell y c e
  exact⟨T,z.sameBut hs (kH y c e)⟩
 ·obtain⟨e,n,ne,C,d⟩:=I.pin p K
  exact⟨(hs.2 p.1 ne).trans e,n,ne,C,d⟩
 ·refine(I.az b J e).gy (λc T B q=>(hs.2 c ?_).trans q) (λ_ q=>q) λ_ _ q=>q
  rintro rfl
  rcases B with z|z
  ·have:=I.free;rw[z,e] at this;cases this
  ·have:=I.free;rw[z] at this;cases this
abbrev Cx.held (X:Cx) (a:Þ):Cx:={ X with A:=X.A.mark (ϊ 6e2),calm:=ύ,xe:=λ_ _=>False }
theorem Inv.held (I:Inv X π σ H s) (a:Þ):Inv (X.held a) π σ H s:=by
 obtain⟨⟨a1,a2,Z,Y,W,V,U,T,w,S,R,Q,P,O,N,M,L,K⟩,J,G,F,E,D,C,B,A,y,x⟩:=I;exact⟨⟨a1,a2,Z,Y,W,V,U,T,λz=>absurd z Ã,S,R,Q,P,O,N,M,L,K⟩,J,G,F,E,D,C,B,A,y,x⟩
def Inv.zF {a:Þ} (ok:X.Ok) (I:Inv (X.held a) π σ H s):Inv X π σ H s:=by
 obtain⟨_,Z,Y,W,V,U,T,S,R,Q,P⟩:=I;exact⟨ok,Z,Y,W,V,U,T,S,R,Q,P⟩
def zG (X:Cx) (π:List 2e7) (σ:St) (E:XK) (e:È) (s':Æ):Prop:=∃Z Y,Inv X π σ Z Y/\ip X.prog X.w X.stack Z Y E e s'
def km {E:XK} {E':È->Æ->Prop} {e:È} {s':Æ} {cn n:Str} {np Fm:Pos} {xj:aeW} {wJ:List aeW} {j:Nat} {CM:Þ} {D:Ends} (Th:zG X π σ E e s') (L:X.stack=X.env::X.outer) (hf:X.env.frame=ϊ X.env.locals)
  (hN:X.N.Nodup) (hj:X.N[j]?=ϊ n) (pK:X.env.scope.names.lookup n=ϊ .local) (hg:Gl X cn) (hm:X.mg cn=ϊ (.ref CM)) (hd:(cn==("__debug__":Str))=ύ)
  (h:∀cls m H' ,E cls m H'->exmOne X.K cls (.ref CM)=ϊ ό/\∀(a:Þ) (o:Obj),H' a=ϋ->o.cls=cls->(notCls o=ό/\∀dx,m=ϊ dx->o.dict=ϊ dx)->∀s5,Inv (X.held a) π (σ.set j (ϊ 6e2)) (upd H' a (.bz o (.own a))) s5 ->
   ß 0e2 (X.held a).A (execs (xj::wJ) X.env) (SP (X.held a) π { nx:=fun aN H'=>D.nx (aN.set j ϋ) H',rt:=D.rt,bk:=fun aN H'=>D.bk (aN.set j ϋ) H',ct:=fun aN H'=>D.ct (aN.set j ϋ) H' }) (λ_ _=>False) s5) :
  ß 0e2 X.A (aeD e X.env) (λ_ kC=>ß 0e2 X.A (setFlight e ϋ) (λ_ ab0=>ß 0e2 X.A (handleBy e X.env [.ExceptHandler (ϊ (.Name cn np)) (ϊ n) (xj::wJ) Fm]) (SP X π D) E' ab0) E' kC) E' s':=by
 obtain⟨H1,t,W,a,cls,O,H',B,m,rfl,os,bare,F,dm,hE⟩:=Th;obtain⟨p,hh⟩:=h cls m H' hE
 refine ħ (qa (CZ _ _) (wpAny_looks_onW (E:=λ_ _=>False) (Q:=λ_ s2=>∃V,s2={ s' with heap:=V }/\Heap.HeldW B (X.env::X.outer) a cls O X.env.locals V/\s'.heap.UpToSlots V) (by rw[W.ok.frames,L]) hf (by have:=F.fl;rw[L] at this;exact this) λV x y=>⟨V,rfl,x,y⟩)) (λ_ s2 z=>?_) λ_ _ z=>z.1.elim
 obtain⟨⟨V,rfl,ND,l⟩,k⟩:=z
 refine ħ (qa (yG _ _) (wpAny_landsW (E:=λ_ _=>False) (Q:=λ_ s3=>∃Z,s3={ s' with heap:=Z }/\ac1 B (X.env::X.outer) a cls O Z/\V.UpToSlots Z) ND λZ x y=>⟨Z,rfl,x,y⟩)) (λ_ s3 z=>?_) λ_ _ z=>z.1.elim
 obtain⟨⟨Z,rfl,Oo,i⟩,g⟩:=z
 have GS:Dm Z a m:=(dm.on k (let ⟨o,e,_⟩:=ND.there;⟨o,e⟩)).on g (let ⟨o,e,_⟩:=Oo.there;⟨o,e⟩)
 have P:ac1 B X.stack a cls O Z:=by rw[L];exact Oo
 have I:=F.on P (l.trans i);have d:t.heap.get? a=ϋ:=by
  cases q:t.heap.get? a with
  |none=>rfl
  |some o =>
   by_cases S:a∈cm X.stack
   ·obtain⟨sl,e1⟩:=I.slot a o q S
    obtain⟨_,o2,e2,hd2⟩:=P.2.2.1.mem S
    obtain⟨H,ws,e3,_,e4,_⟩:=P.first
    rw[e3] at e2;cases e2;exact absurd e4 (hd2 _)
   ·obtain⟨o',e1⟩:=F.there a o q S
    rw[F.fl.2.1] at e1;cases e1
 have I3:Inv X π σ H' { s' with heap:=Z }:=W.sU (s':={ s' with heap:=Z }) (ch:=[]) os I.un I.held bare (λb z=>absurd z ∅)
 calc wpAny_handleBy_cons (codeAny_handlers_test ?_) (by intro q;cases q);refine(show ß 0e2 (X.held a).A (ŗ (.Name cn np) (X.held a).env) _ _ _ from sj (I3.held a) hg hm ?_ hd);obtain⟨ob,hob,lh⟩:=P.there;have LT:Looks 0e2 Z (typeOf 6e2) cls:=by subst lh;exact(Looks.ld hob).andThen .now
 refine(exm_one (M:=è X.prog X.w) (K:=X.K) (h:=Z) I3.jr LT p).here ?_;refine codeAny_handlers_suite_as ?_
 refine ħ (qa (yG _ _) (lands_againW (s:={ s' with heap:=Z }) (E:=λ_ _=>False) (Q:=λ_ s4=>∃Y,s4={ s' with heap:=Y }/\ac1 B X.stack a cls O Y/\Z.UpToSlots Y) P λY x y=>⟨Y,rfl,x,y⟩)) (λ_ s4 z=>?_) λ_ _ z=>z.1.elim
 obtain⟨⟨Y,rfl,G,up4⟩,GU⟩:=z
 have GV:Dm Y a m:=GS.on GU (let ⟨o,e,_⟩:=G.there;⟨o,e⟩)
 have F4:=I.on G up4;obtain⟨H,C,ab2⟩:=G.there;have R:H' a=ϋ:=F4.new
 have I4:Inv X π σ (upd H' a (.bz H (.own a))) { s' with heap:=Y }:=by
  have u:=F4.un;have fZ:∀b o,t.heap.get? b=ϊ o->b≠a:=λb o e z=>by rw[z,d] at e;cases e
  refine W.sU (s':={ s' with heap:=Y }) (ch:=[]) os ⟨u.keep,u.slot,λb o e n p=>?_,u.there,λb xs e=>?_,λb o v e=>?_,λb ps e=>?_⟩ (λb v e=>?_) bare (λb z=>absurd z ∅)
  ·rw[bx (fZ b o e)];exact u.free b o e n p
  ·have:=u.fz b xs e;rw[bx (dC this R)];exact this
  ·have:=u.eR b o v e;rw[bx (dC this R)];exact this
  ·obtain⟨more,this⟩:=u.fB b ps e;exact⟨more,by rw[bx (dC this R)];exact this⟩
  ·by_cases S:b=a
   ·subst S
    rw[cO] at e;cases e;exact⟨C,H,C⟩
   ·rw[bx S] at e
    refine(F4.held b v e).gy (λ_ _ _ q=>q) (λc q=>?_) λc xs q=>?_
    ·rw[bx (dC q R)];exact q
    ·rw[bx (dC q R)];exact q
 refine mY I4 hN hj (.inl pK) (v:=.ref a) (u:=.ref a) rfl (λs5 I5=>?_) (.inr pK)
 refine ħ (hh a H R ab2 ⟨by obtain⟨o2,vs,e1,_,e2,_⟩:=G.first;rw[C] at e1;cases e1;delta notCls;rw[e2],λdx e=>by obtain⟨o,e1,e2⟩:=GV dx e;rw[C] at e1;cases e1;exact e2⟩ s5 (I5.held a)) (λf s6 q=>?_) λ_ _ z=>z.elim
 cases f with
 |next =>
  obtain⟨aN,U,J,q⟩:=q;exact zg (J.zF W.ok) hN hj pK λs7 T=>⟨_,U,T,q⟩
 |brk =>
  obtain⟨aN,U,J,q⟩:=q;exact zg (J.zF W.ok) hN hj pK λs7 T=>⟨_,U,T,q⟩
 |cont =>
  obtain⟨aN,U,J,q⟩:=q;exact zg (J.zF W.ok) hN hj pK λs7 T=>⟨_,U,T,q⟩
 |ret u =>
  obtain⟨v,aN,U,J,r,q⟩:=q;exact zg (J.zF W.ok) hN hj pK λs7 T=>⟨v,_,U,T,r,q⟩
end
end L2
namespace DI
open PySem L2 PySem.W
def cj.unset {K:İ} {w:Wd} {env:Env} {σ:St} (h:cj K w env σ) (i:Nat):cj K w (env.set i ϋ) (σ.set i ϋ):=by
 calc⟨by rw[ģ,ģ];exact h.len,λj X e=>?_⟩;by_cases Z:i=j
 ·subst Z
  have Y:=(Ñ.mp e).1;rw[ģ] at Y;rw[Đ Y] at e;cases e
 ·rw[ā Z] at e
  rw[ā Z];exact h.val j X e
section
variable {X:Cx} {E:XK} {pos:Pos}
def Y1 {π:List 2e7} {σ:St} {s:Æ} {w:Wd} {env:Env} {Q:VK} {k i:Nat} {x:Str} {p:Pos} {pre:Hp->Prop} {f:Þ} {vs:List V} {ds:List D} {th:ae->Res D} (T:A6 X.prog X.w X.K X.mg X.base k pre f vs ds th) (h0:pre X.mx) (hr:ck k X.A)
  (hN:X.N[i]?=ϊ x) (hv:qW X.env.scope x) (hd:0e8=ύ) (fc:(x==("__classdict__":Str))=ύ)
  (I:Inv X π σ w.H s) (S:aS X.K w) (eo:cj X.K w env σ) (he:env[i]?=ϊ (ϊ (.cR f vs ds))) (h:Out X.K (iQ X.mg E) w (th w.aG) λw' d=>∀v,DV X.K w' d v->Q v w'.H) :
  ß 0e2 X.A (ŗ (.Call (.Name x p) [] [] pos) X.env) (EP X π σ Q) (zG X π σ E) s:=by
 obtain⟨M,fd,⟨o,L,J⟩,G,F⟩:=T;obtain⟨v,e1,e2⟩:=eo.val i _ he;obtain⟨rfl,C⟩:=e2;calc PySem.wpAny_Call_Name_kw ?_;have U:=(LQ (X:=X.eY λe O=>zG X π σ E e O) (pos:=p) hN hv hd fc π s σ w.H (λv B=>v=.ref f/\B=w.H) (I.eY _) ⟨_,e1,rfl,rfl⟩);calc aJ U λu R U=>?_;obtain⟨v,q,Z,r,rfl,rfl⟩:=U;have Z:=Z.l7;have r:u=.ref f:=r;subst r;have z:∀h:Ŀ,h.get? f=ϊ o->∃k,(k=Keeper.frame\/k=Keeper.machine\/k=Keeper.boundFrame)/\Looks 0e2 h (keeperOf (.ref f)) k:=λh e=>by
  obtain⟨n,m,y,os⟩:=o;cases J;exact⟨.frame,.inl rfl,(Looks.ld (part:=ϋ) e).andThen .now⟩
 calc PySem.W.callWith_of (P:=λh=>h.get? f=ϊ o) rfl z (PyProof.Rows.evalArgs_nil3 ⟨Z.bk _ _ L,?_⟩);refine adA (Ŋ (F.run X.A X.stack R w.H ⟨[],[]⟩ [] [] Q E hr Z.nF (G R [] Z.jr rfl) .nil ⟨rfl,M _ _ (λb o u e=>Z.base.eR b o u e) h0,w,rfl,S,C,h⟩) λr O Y=>?_)
 cases r with
 |error e=>exact⟨w.H,R,Z,Y⟩
 |ok t =>
  cases t with
  |ret u=>exact Z.after Y
  |next=>exact Ī Y
  |brk=>exact Ī Y
  |cont=>exact Ī Y
end
end DI
namespace L2
open PySem PySem.Spec PySem.Calls PyProof.Rows PySem.W PySem.Builtin PySem.Builtin.ObjectAttr PySem.Builtin.Getset_descriptor
section
variable {prog:ê} {w:Ď} {A:ó} {E:È->Æ->Prop} {s:Æ} {K:İ} {x C:Þ}
def oA (K:İ) (C:Þ):Bool:=(findIn K 5e3 "__getattribute__"==ϊ (ϊ (.builtin "BaseException.__getattribute__")))&&(findIn K 5e3 "__getattr__"==ϊ ϋ)&&(clsIn K C).isSome&&(findIn K 5e3 "__class__"==ϊ (ϊ (.builtin "object.__class__")))&&(specialIn K (.builtin "object.__class__") "__get__"==ϊ (ϊ (.builtin "getset_descriptor.__get__")))&&(takesIn K (.builtin "object.__class__")==ϊ ό)&&(mroIn K C (.type "object")==ϊ ό)&&(mroIn K C (.type "BaseException")==ϊ ό)
def Y2 {M:Model} {NF:È} {Q:Unit->Æ->Prop} (LT:Looks M s.heap (typeOf (.ref x)) 5e3) (M5:Looks M s.heap (isSubtype 5e3 (.type "BaseException")) ό) (hq:Q () s):ß M A (checkBuiltinCall "BaseException.__getattribute__" ⟨[.ref x,NF],[]⟩) Q E s:=by
 have Z:builtinKind "BaseException.__getattribute__"=ϊ .slot:=nofun
 have Y:splitId "BaseException.__getattribute__"=ϊ ("BaseException","__getattribute__"):=nofun
 have X:=F.args_bexc_ga (.ref x) NF;erw[checkBuiltinCall,Z,Y];calc À ?_;delta isInstance
 repeat (first|with_reducible refine LT.at ?_|with_reducible refine M5.at ?_|wp_step)
 exact hq
def cls_read {Q:Option È->Æ->Prop} (X:K.In s.heap) (LT:Looks 2e3 s.heap (typeOf (.ref x)) 5e3) (hc:oA K C=ό) (h:Q (ϊ 5e3) { s with toks:=s.toks+1 }) :
  ß 2e3 A (getAttr? (.ref x) "__class__") Q E s:=by
 delta oA at hc;erw[Å,beq_iff_eq] at hc;obtain⟨⟨⟨⟨⟨⟨⟨Y,W⟩,_⟩,V⟩,U⟩,T⟩,S⟩,R⟩:=hc;obtain⟨Z,g,d,t,os⟩:=s;have M1:=looks_findIn (M:=è prog w) X Y;have M2:=looks_findIn (M:=è prog w) X W;have P:Looks 2e3 Z (find (.ref x) 5e3 "__class__") (.bind (.builtin "getset_descriptor.__get__") (.builtin "object.__class__")) :=
  (looks_findIn X V).andThen ((looks_specialIn X U).andThen ((show Looks 2e3 Z (dataDescriptor? (ϊ (.builtin "object.__class__")) (ϊ (.builtin "getset_descriptor.__get__"))) (ϊ (.builtin "getset_descriptor.__get__",.builtin "object.__class__")) from (looks_takesIn X T).andThen .now).andThen (Looks.tag .now)))
 have L:=looks_mroIn (M:=è prog w) X S;have O:=looks_mroIn (M:=è prog w) X R;have N:=F.attr_ValueError.ga.bind (.ref x);delta getAttr? getAttrBy? getAttrBy;calc À (wpAny_mkText (À (acC (Ĉ (À (LT.at (À (M1.at ?_))))))));show ß _ _ (getAttrByItsOwn (.ref x) _ 5e3 (.builtin "BaseException.__getattribute__") ύ ύ) _ _ _;delta getAttrByItsOwn;calc À (M2.at (À (acC (Ĉ ?_))));show ß _ _ (boundAndCalled (.builtin "BaseException.__getattribute__") (.ref x) _) _ _ _;delta boundAndCalled;rw[N];calc À (Â (adA (ο F.attr_ValueError.ga.plain F.entry_bexc_ga ?_)));calc Y2 LT O ?_;delta Ÿ.«object.__getattribute__»;rw[show slotArgs "__getattribute__" 1 ⟨[.ref x]++[.str "__class__" t],[]⟩=pure (.ref x,[.str "__class__" t]) from rfl];calc À (Â ?_);dsimp only;rw[show attrName (.str "__class__" t)=pure ("__class__":Str) from rfl];calc À (Â (À (LT.at (À (P.at ?_)))));show ß _ _ (aej [Value.builtin "object.__class__"] (call (.builtin "getset_descriptor.__get__") [.builtin "object.__class__",.ref x,.ref C]) >>= ret) _ _ _;calc À (Ĉ (adA ?_));calc ο KF.slot_gs.plain KF.entry_gs (KF.slot_gs.check _ _ _ _ _ _ _ _ KF.type_class (KF.args_gs _ _ _) ?_);delta Ÿ.«getset_descriptor.__get__» descrGet;rw[dga_obj];calc À (Â ?_);delta descrGetter descrCheckInstance descrNameAndClass isInstance;erw[KF.owner_class]
 repeat lk
 calc⟨adP _ nofun,Ń KF.entry_class ?_⟩;delta Ÿ.«object.__class__» shownTypeOf
 repeat lk
 exact h
def U7 {o:Obj} (ho:o.cls=.ref C) (hc:oA K C=ό):KitX K (.ref x) 5e3 (λh=>h.get? x=ϊ o) where
 ty:=λM h _ e=>ho ▸ (Looks.ld e).andThen .now
 it:=λM h X _=>by
  delta oA at hc;erw[Å] at hc;have z:=hc.1.1.1.1.1.2;delta clsIn at z;split at z
  ·rename_i q
   intro W V U T k r;delta isType loadHead;exact À (wpAny_loadPart (k _ _ (X _ _ q)) (Â r))
  ·cases z
 ne:=λh Z S its n sl X Y=>by
  delta oA at hc;erw[Å] at hc;have z:=hc.1.1.1.1.1.2;calc Bool.eq_false_iff.mpr λq=>?_;have e:C=Z:=Value.ref.inj (beq_iff_eq.mp q);subst e;delta clsIn at z;split at z
  ·rename_i r
   have z:=(X _ _ r).symm.trans Y;cases z
  ·cases z
 ca:=λX e k=>cls_read X (ho ▸ (Looks.ld e).andThen .now) hc k
end
end L2
namespace DI
open PySem L2 PySem.W
def ef (cs:List Str) (yes:Str->Bool) (d:D) (s:ae):Res D:=match d with
 | .ak=>ok 3e8 s
 | .exc c _=>if ώ (c∈cs)=ό then ok (.bl (yes c)) s else ϋ
 |_=>ϋ
def sr (K:İ) (cs:List Str) (T:È) (yes:Str->Bool):Prop:=kitOne K (.type "NoneType") T=ϊ ύ/\∀c∈cs,∃C,nsIn K Ú c=ϊ (ϊ 5e3)/\oA K C=ό/\kitOne K 5e3 T=ϊ (yes c)
section
variable {X:Cx} {Ξ:Wd->bb->Prop} {a:ĳ} {pos:Pos} {f:afb D}
def Y4 {cs:List Str} {T:È} {yes:Str->Bool} (hc:sr X.K cs T yes) {vT:V} (hT:∀u,RelV vT u->u=T):cC X 6e3 (λxs H Q=>∃(w:Wd) (d:D) (x:V),w.H=H/\aS X.K w/\DV X.K w d x/\xs=[x,vT]/\Out X.K Ξ w (ef cs yes d w.aG) λw' d=>∀v,DV X.K w' d v->Q v w'.H):=by
 intro A s σ H y N Q I r zzz;obtain⟨w,d,x,rfl,S,U,rfl,h⟩:=zzz;obtain⟨Y,W,R,Z⟩:∃Y,RelV x Y/\∃R,N=[Y,R]/\RelV vT R:=by
  cases r with
  |cons W Z=>cases Z with|cons Z M=>cases M;exact⟨_,W,_,rfl,Z⟩
 obtain⟨rfl,Z⟩:=Z;cases hT _ Z
 cases d with
 |ak =>
  have e:x=.ak:=U;subst e;have e:Y=Value.none:=W;subst e;exact kia_one kitx_none I.jr trivial hc.1 (by intro z;cases z) λP=>⟨.bl ύ,w.H,I.tok P,rfl,ax S h _ rfl⟩
 |exc c _ =>
  erw[DV] at U;obtain⟨b,o,C,rfl,L,⟨J,G⟩,_⟩:=U;have e:Y=Ŧ b:=W;subst e;delta ef at h;dsimp only at h;split at h
  ·rename_i F
   obtain⟨t,O,E,B⟩:=hc.2 c (î F);rw[G] at O;cases O;exact kia_one (U7 J E) I.jr (I.az b _ L.2).1 B (by intro z;cases z) λP=>⟨.bl (yes c),w.H,I.tok P,rfl,ax S h _ rfl⟩
  ·exact h.elim
 |_=>exact h.elim
def Mr {cs:List Str} {T:È} {yes:Str->Bool} {vT:V} {cn:Str} {p np:Pos} (hc:sr X.K cs T yes) (hT:∀u,RelV vT u->u=T) (h1:PE X (.Name cn np) (tC vT)) (ha:PE X a 1e0) (hm:X.mg "isinstance"=ϋ) (hv:ü "isinstance"=ϊ 6e3) (hg:Gl X "isinstance":=by rfl)
  (hs:Ð [a,.Name cn np] X.env=3e3::Ð [.Name cn np] X.env:=by rfl) (fj:Ð [.Name cn np] X.env=(ύ,ŗ (.Name cn np) X.env)::Ð [] X.env:=by rfl) (bP:(ŀ pos (Ð [.Name cn np] X.env)).any (·.1)=ύ:=by rfl) :
  PE X (.Call (.Name "isinstance" p) [a,.Name cn np] [] pos) (tE X.K Ξ (e1 (ef cs yes) f)) :=
 cB (rW (Y4 (Ξ:=Ξ) hc hT) hg hm hv (gn ha (gn h1 iD fj) hs) 0e0 0e0 hs bP) fun σ H Q Z=>by
  obtain⟨w,env,Y,S,W,h⟩:=Z;subst Y;exact⟨w,env,rfl,S,W,(Out.aj h).mono λU x O R h1 v1 P=>⟨U,x,v1,rfl,R,P,rfl,h1⟩⟩
end
open PyProof.Rows PySem.SeqAt
def Fn (d:D) (s:ae):Res D:=match d with
 | .lst Z=>match il Z with
  |some bs=>ok (.int (bs.count ό:Nat)) s
  |none=>ϋ
 |_=>ϋ
def GW (d:D) (s:ae):Res D:=match d with
 | .lst Z=>match il Z with
  |some bs=>if (ώ (bs.idxOf ό<bs.length)&&ώ (bs.length<=100))=ό then ok (.int (bs.idxOf ό:Nat)) s else ϋ
  |none=>ϋ
 |_=>ϋ
theorem NG:∀(bs:List Bool) (m:Nat) (h:m<bs.length),m<bs.idxOf ό->bs[m]=ύ
 | [],m,h,_=>absurd h (aeF _)
 |true::r,m,h,g=>by simp at g
 |false::r,0,h,g=>rfl
 |false::r,m+1,h,g=>by
  have e:(ύ::r).idxOf ό=r.idxOf ό+1:=by rw[List.idxOf_cons];rfl
  rw[e] at g;exact NG r m (by simpa using h) ⋯
def tZ:È->Bool
 | .bool b=>b
 |_=>ύ
theorem BR:∀{bs:List Bool} {its:List È},Vals (bs.map V.bl) its->its=bs.map Ź
 | [],_,.nil=>rfl
 |b::r,_,.cons e t=>by
  have e:_=Ź b:=e;rw[e,BR t];rfl
theorem Lj:∀bs:List Bool,(bs.map Ź).countP tZ=bs.count ό
 | []=>rfl
 |b::r=>by
  rw[ç,List.countP_cons,List.count_cons,Lj r]
  cases b<;>rfl
def Ms {A:ó} {s:Æ} {bs:List Bool} (y:È) (hy:y∈(bs.map Ź).toArray):EqAt A s y (.bool ό) (tZ y):=by
 have hy:y∈bs.map Ź:=by simpa using hy
 obtain⟨b,_,rfl⟩:=å.mp hy;have h:=EqAt.bool_bool (A:=A) (s:=s) b ό
 cases b<;>exact h
section
variable {X:Cx} {Ξ:Wd->bb->Prop} {o:ĳ} {f:afb D} {p apos ba:Pos} {j:Nat}
def U8:uw X "list.count" (λx xs H Q=>∃(a:Þ) (bs:List Bool),x=.ref a/\xs=[.bl ό]/\bN X.K H a (bs.map V.bl)/\Q (.int (bs.count ό:Nat)) H):=by
 intro G s σ H x xs v U Q I T S zzz;obtain⟨a,bs,rfl,rfl,R,h⟩:=zzz;have e:v=Ŧ a:=T;subst e;obtain⟨u,rfl,rfl⟩:∃u,U=[u]/\u=Ź ό:=by
  cases S with|cons P O=>cases O;exact⟨_,rfl,P⟩
 obtain⟨its,N,M,_⟩:=I.list R;cases BR N;obtain⟨⟨cls,L,data,sl⟩,n,Z,Y,_,W⟩:=M;simp only at Y W;subst Y W;calc ac8 PySem.F.slot_list_count ⟨_,Z,rfl⟩ PySem.F.entry_list_count (PySem.F.args_list_count_2 _ _) (list_countAt a _ n L sl (.bool ό) tZ) ⟨Z,λy J=>Ms y J,?_⟩;rw[show (bs.map Ź).toArray.toList=bs.map Ź from rfl,Lj];exact⟨.int _,H,I.tok _,5e0,h⟩
def U9:uw X "list.index" (λx xs H Q=>∃(a:Þ) (bs:List Bool),x=.ref a/\xs=[.bl ό]/\bN X.K H a (bs.map V.bl)/\bs.idxOf ό<bs.length/\bs.length<=100/\Q (.int (bs.idxOf ό:Nat)) H):=by
 intro B s σ H x xs v T Q I S R zzz;obtain⟨a,bs,rfl,rfl,P,O,A,h⟩:=zzz;have e:v=Ŧ a:=S;subst e;obtain⟨u,rfl,rfl⟩:∃u,T=[u]/\u=Ź ό:=by
  cases R with|cons N M=>cases M;exact⟨_,rfl,N⟩
 obtain⟨its,L,J,_⟩:=I.list P;cases BR L;obtain⟨⟨cls,G,data,sl⟩,n,Z,Y,_,W⟩:=J;simp only at Y W;subst Y W;have sz:(bs.map Ź).toArray.size=bs.length:=by simp
 refine ac8 PySem.F.slot_list_index ⟨_,Z,rfl⟩ PySem.F.entry_list_index (PySem.F.args_list_index_2 _ _) (list_indexAt a _ n G sl (.bool ό) tZ (bs.idxOf ό) (by rw[sz];exact O) ⋯ ?_ ?_) ⟨Z,λy E=>Ms y E,?_⟩
 ·simp[tZ,List.getElem_idxOf]
 ·intro m U D
  have C:=NG bs m (by rw[sz] at U;exact U) D;simp[tZ,C]
 ·exact⟨.int _,H,I.tok _,5e0,h⟩
def Y5 (ho:PE X o 1e0)
  (jD:ſ o "count" X.env (ŗ o X.env)=ŗ o X.env:=by rfl)
  (jK:((ŀ ba (Ð [.Constant (.bool ό) j p] X.env)).all (λx=>!x.1)&&(aeL ba (acW [] X.env)).all (λx=>x.1.isSome)
   && ώ (([.Constant (.bool ό) j p]:List ĳ).length+([]:List acO).length+(if ([]:List acO).isEmpty then 0 else 1)<30))=ό:=by rfl)
  (jE:7e4=ό:=by rfl) (hs:Ð [.Constant (.bool ό) j p] X.env=(ύ,ŗ (.Constant (.bool ό) j p) X.env)::Ð [] X.env:=by rfl) (gZ:(ŀ ba (Ð [] X.env)).any (·.1)=ύ:=by rfl) :
  PE X (.Call (.Attribute o "count" apos) [.Constant (.bool ό) j p] [] ba) (tE X.K Ξ (e1 Fn f)) :=
 cB (sV adR PySem.F.slot_list_count PySem.F.type_list_count U8 ho (gn D8 iD hs) jD jK jE hs gZ) fun σ H Q V=>by
  obtain⟨w,env,U,S,T,h⟩:=V;subst U;refine⟨w,env,rfl,S,T,(Out.aj h).mono λO d N R Z v Y=>?_⟩
  cases d with
  |lst M =>
   delta Fn at Z;dsimp only at Z;split at Z
   ·rename_i bs P
    erw[DV] at Y;obtain⟨a,L,rfl,W,r⟩:=Y;cases vO P;cases r.vC;exact⟨.inl ⟨rfl,_,W.sq⟩,a,bs,rfl,rfl,W.sq,ax R Z _ rfl⟩
   ·exact Z.elim
  |_=>exact Z.elim
def aaE (ho:PE X o 1e0)
  (jD:ſ o "index" X.env (ŗ o X.env)=ŗ o X.env:=by rfl)
  (jK:((ŀ ba (Ð [.Constant (.bool ό) j p] X.env)).all (λx=>!x.1)&&(aeL ba (acW [] X.env)).all (λx=>x.1.isSome)
   && ώ (([.Constant (.bool ό) j p]:List ĳ).length+([]:List acO).length+(if ([]:List acO).isEmpty then 0 else 1)<30))=ό:=by rfl)
  (jE:7e4=ό:=by rfl) (hs:Ð [.Constant (.bool ό) j p] X.env=(ύ,ŗ (.Constant (.bool ό) j p) X.env)::Ð [] X.env:=by rfl) (gZ:(ŀ ba (Ð [] X.env)).any (·.1)=ύ:=by rfl) :
  PE X (.Call (.Attribute o "index" apos) [.Constant (.bool ό) j p] [] ba) (tE X.K Ξ (e1 GW f)) :=
 cB (sV adR PySem.F.slot_list_index PySem.F.type_list_index U9 ho (gn D8 iD hs) jD jK jE hs gZ) fun σ H Q U=>by
  obtain⟨w,env,T,S,R,h⟩:=U;subst T;refine⟨w,env,rfl,S,R,(Out.aj h).mono λN d M P Z v W=>?_⟩
  cases d with
  |lst L =>
   delta GW at Z;dsimp only at Z;split at Z
   ·rename_i bs O
    split at Z
    ·rename_i Y
     rw[Å,É,É] at Y;erw[DV] at W;obtain⟨a,J,rfl,V,r⟩:=W;cases vO O;cases r.vC;exact⟨.inl ⟨rfl,_,V.sq⟩,a,bs,rfl,rfl,V.sq,Y.1,Y.2,ax P Z _ rfl⟩
    ·exact Z.elim
   ·exact Z.elim
  |_=>exact Z.elim
end
end DI
namespace L2
open PySem PySem.Spec PyProof.Rows PySem.W
def Tc {Pr:ê} {w:Ď} {K:İ} {mg mb:Str->Option È} {CX:jW} {k:Nat} {fa a c P:Þ} {fd:ĺ} {x:Str} {sp:Sp} {bG:Æ} {vs:List È} {ns:List Int}
  (KX:K.In bG.heap) (pd:bG.heap.Ns Ú mg) (hb:bG.heap.Ns builtinsNs mb) (hbb:∀x:Str,x≠"__name__"->mb x=ü x) (ab3:bG.heap.NoLimit) (hg:bG.gens=#[])
  (ha:bG.heap.get? a=ϊ { cls:=.type "list",data:=.seq vs.toArray }) (hi:aek vs ns) (hl:ns.length<=Ù) (hr:ck k callerA)
  (CT:CodeHd bG.heap c P) (hP:bG.heap.get? P=ϊ (tabObj #[])) (GX:K.lookup P=ϋ) (GY:bG.heap.BuiltinsAt mg P)
  (F:∀base:Ŀ,K.In base->base.Ns Ú mg->base.BuiltinsAt mg P->dG Pr w K mg base CX k fa fd [x] sp) (Ei:∀(s:Æ) (u:È),BindsTo s fd ⟨[u],[]⟩ [(x,u)])
  (jY:∀H:Hp,H P=ϊ (.eD #[])->bN K H a (ns.map V.int)->sp [.ref a] H (λv _=>v=.bl ό) λ_ _ _=>False)
  (GZ:∀H e s',CX [] H bG (λ_ _ _=>False) e s'->False) :
  acN (è Pr w) callerA (.call (.ref fa) ⟨[.ref a],[]⟩) (λr s'=>r=.ok (.ret (.bool ό))/\OldK bG.heap s'.heap/\s'.os=bG.os/\ae4 s'.gens) bG:=by
 have O:=Jk hi;have U:=hi.length;have N:a≠P:=λz=>by rw[z,hP] at ha;cases ha
 have core:∀H:Hp,H P=ϊ (.eD #[])->(∀b,H b=ϋ\/b=P\/(b=a/\∃o T,H b=ϊ (.bz o (.lst T))))->bN K H a (ns.map V.int)->cN Pr w H bG.heap->(H a≠ϋ->K.lookup a=ϋ) ->
   acN (è Pr w) callerA (.call (.ref fa) ⟨[.ref a],[]⟩) (λr s'=>r=.ok (.ret (.bool ό))/\OldK bG.heap s'.heap/\s'.os=bG.os/\ae4 s'.gens) bG:=by
  intro H M S C L B;have free:∀{b:Þ} {o:Obj},bG.heap.get? b=ϊ o->o≠tabObj #[]->o≠{ cls:=.type "list",data:=.seq vs.toArray }->H b=ϋ:=λ{b o} e A y=>by
   rcases S b with z|z | ⟨z,_⟩
   ·exact z
   ·rw[z,hP] at e;exact absurd (afo e).symm A
   ·rw[z,ha] at e;exact absurd (afo e).symm y
  have X:∀{b:Þ} {m:Str->Option È},bG.heap.Ns b m->(nE bG.heap H).Ns b m:=λ{b m} ⟨o,t,p,e,d,r⟩=>⟨o,t,p,B4 e (free e (λz=>by rw[z] at d;cases d) λz=>by rw[z] at d;cases d),d,r⟩;have J:K.In (nE bG.heap H):=λb o e=>B4 (KX b o e) (by
   rcases S b with z|z | ⟨z,I,T,W⟩
   ·exact z
   ·rw[z,GX] at e;cases e
   ·subst z;rw[B (by rw[W];intro z;cases z)] at e;cases e)
  have l:Mod K mg (nE bG.heap H):=⟨J,X pd,⟨mb,X hb,hbb⟩,let ⟨j,i,g⟩:=ab3;⟨j,X i,g⟩⟩
  have f:(nE bG.heap H).BuiltinsAt mg P:=let ⟨bm,o,b1,b2,b3,b4,G,R,r⟩:=GY;⟨bm,o,b1,b2,b3,b4,B4 G (free G (λz=>by rw[z] at R;cases R) λz=>by rw[z] at r;cases r.2),R,r⟩
  have e0:tI Pr w K mg (nE bG.heap H) callerA [] bG H:=⟨rfl,l,λb o e=>V3 e,aeP (Sw _ _),trivial,λb hb=>absurd (show b∈([]:List Þ) from hb) ∅,L,.of_eq hg⟩;refine Ŋ ((F _ J (X pd) f).run callerA [] bG H ⟨[.ref a],[]⟩ [.ref a] [.ref a] _ _ hr e0 (Ei bG (.ref a)) (.cons rfl .nil) (jY H M C)) λr s' h=>?_
  cases r with
  |error e=>exact(GZ H e s' h).elim
  |ok fl =>
   cases fl with
   |next=>exact Ī h
   |brk=>exact Ī h
   |cont=>exact Ī h
   |ret u =>
    obtain⟨v,H',os,bare,un,E,r',q⟩:=h;have q':v=.bl ό:=q;subst q';obtain rfl:u=Ź ό:=r';have keep:∀b o,bG.heap.get? b=ϊ o->b≠P->s'.heap.get? b=ϊ o:=λb o e n=>by
     rcases S b with z|z | ⟨z,I,T,W⟩
     ·exact un.keep b o e z (by intro z;exact absurd (show b∈([]:List Þ) from z) ∅) ∅
     ·exact absurd z n
     ·obtain⟨e1,_⟩:=L b _ W
      obtain⟨e2,_⟩:=E b _ (un.eR b I _ W);rw[e] at e1;cases e1;exact e2
    obtain⟨more,hm⟩:=un.fB P _ M;have D:s'.heap.get? P=ϊ (tabObj (#[]++more)):=E P _ hm;refine⟨rfl,⟨λb o e=>?_,λb o e=>?_⟩,os,bare⟩
    ·by_cases hb:b=P
     ·subst hb
      rw[hP] at e;cases e;exact .inr (.inl ⟨(CT.tab hP).isCodeTable,rfl,#[],more,rfl,D⟩)
     ·exact .inl (keep b o e hb)
    ·by_cases hb:b=P
     ·subst hb;exact⟨_,D⟩
     ·exact⟨o,keep b o e hb⟩
 cases Q:K.lookup a with
 |some o =>
  have e:=KX a o Q;rw[ha] at e;cases e
  refine core (λb=>if b=P then ϊ (.eD #[]) else ϋ) (Ô rfl) (λb=>?_) (.inr ⟨_,vs.toArray,_,Q,rfl,rfl,rfl,by rw[Ý,U];exact hl,by simpa using O⟩) (λb u z=>?_) (λz=>absurd (Ö N) z)
  ·by_cases hb:b=P
   ·exact .inr (.inl hb)
   ·exact .inl (Ö hb)
  ·by_cases hb:b=P
   ·have Z:=(Ô hb).symm.trans z
    cases Z;subst hb;exact hP
   ·have Z:=(Ö hb).symm.trans z
    cases Z
 |none =>
  refine core (λb=>if b=P then ϊ (.eD #[]) else if b=a then ϊ (.bz { cls:=.type "list",data:=.seq vs.toArray } (.lst (ns.map V.int))) else ϋ) (Ô rfl) (λb=>?_) (.inl (.inr ⟨{ cls:=.type "list",data:=.seq vs.toArray },(Ö N).trans (Ô rfl)⟩)) (λb u z=>?_) (λ_=>Q)
  ·by_cases hb:b=P
   ·exact .inr (.inl hb)
   ·by_cases Y:b=a
    ·exact .inr (.inr ⟨Y,_,_,(Ö hb).trans (Ô Y)⟩)
    ·exact .inl ((Ö hb).trans (Ö Y))
  ·by_cases hb:b=P
   ·have Z:=(Ô hb).symm.trans z
    cases Z;subst hb;exact hP
   ·by_cases Y:b=a
    ·have Z:=((Ö hb).trans (Ô Y)).symm.trans z
     cases Z;subst Y;exact⟨ha,by rw[Ä];exact hl,vs,_,O,ha⟩
    ·have Z:=((Ö hb).trans (Ö Y)).symm.trans z
     cases Z
def Y6 {l:OpenLaw} {n k:Nat} {q:ê} {loose:List Str} {XP:(Str->Option È)->Ŀ->Prop} {YP:Ď->Ŀ->Prop} {d:DefRec} {K:Params->İ} {CX:Ď->jW} {sp:Ď->Þ->Sp} {x:Str}
  (hn:l.most=ϊ n) (hn2:n<=Ù) (xB:d.params.defaults=[]) (hr:ck k callerA)
  (hY:∀(w:Ď) (h:Ŀ),YP w h->(K w.params).In h) (hd:(recsOf q).find? (λe=>e.name==d.name)=ϊ d)
  (F:∀(w:Ď) (mg:Str->Option È) (fa:Þ) (h:Ŀ),(K w.params).In h->h.Ns Ú mg->mg d.name=ϊ (.ref fa) ->
   ∃(c P:Þ) (fd:ĺ),tabIn (K w.params) d.name=ϊ (c,P)/\(K w.params).lookup P=ϋ/\(∀(s:Æ) (u:È),BindsTo s fd ⟨[u],[]⟩ [(x,u)]) /\
    ∀base:Ŀ,(K w.params).In base->base.Ns Ú mg->base.BuiltinsAt mg P->dG l.prog w (K w.params) mg base (CX w) k fa fd [x] (sp w P))
  (jY:∀(w:Ď) (P:Þ) (H:Hp) (a:Þ) (ns:List Int),ns.length<=n->H P=ϊ (.eD #[])->bN (K w.params) H a (ns.map V.int)->sp w P [.ref a] H (λv _=>v=.bl ό) λ_ _ _=>False)
  (GZ:∀(w:Ď) (H:Hp) (s:Æ) (e:È) (s':Æ),CX w [] H s (λ_ _ _=>False) e s'->False) :
  WalkO q loose XP YP l.row.toRowW d [] (λf vs=>PySem.call f vs):=by
 calc OR.Q7 hn xB λw m S mg j fa o pm cd doc a vs ns G Y i O1 fc O N hints Z M=>?_;have W:=hY w _ Y;obtain⟨c,P,fd,L,J,I,E⟩:=F w mg fa _ W G.T.g O;obtain⟨D,R⟩:=tab_of G.T W hd L;have C:S.heap.BuiltinsAt mg P:=by
  obtain⟨bm,B,A,y,X,Q,t,U⟩:=G.T.bmain;refine⟨bm,B,A,y,λz=>?_,λz=>?_,X,Q,t,U⟩
  ·obtain⟨o,es,ep,e,hd,_⟩:=G.T.g
   rw[z,e] at X;cases X;rw[hd] at U;cases U
  ·rw[z,R] at X;cases X;cases Q
 exact Tc W G.T.g G.T.b G.T.builtins G.T.nolimit M N hints (Ü Z hn2) hr D R J C E I (λH r p=>jY w P H a ns Z r p) λH e s'=>GZ w H S e s'
end L2
namespace DI
open PySem L2 PySem.W
def aaF {P:ê} {w:Ď} {K:İ} {mg:Str->Option È} {base:Ŀ} {x:Str} {st:aeW} {f c T:Þ} {fd:ĺ} {ps:List Str} {k:Nat} {b:afb Fl} (G:Gd K mg x st ps f fd) (hx:nsIn K Ú x=ϊ (ϊ (.ref f))) (ht:tabIn K x=ϊ (c,T)) (N:List Str) (S:qO N ps (cY st)=ό)
  (hb:N.Nodup->∀(A:ó) (outer:List PySem.Env) (s:Æ) (H:Hp) (E:XK),ck k (A.deeper (ŝ x (cY st) s.heap.objs.size f (.ref c)))->dq (iZ dP P w K mg base N x (cY st) f (.ref c) A outer s H E).nL (jd st) (tS K cA b)) :
  dG P w K mg base dP (k+1) f fd ps (j5 K (aU ps.length N.length b)):=by
 obtain⟨D,C,kV,doc,pm,an,X,ct,B,rfl,lk,U⟩:=G.fn.ex;have R:X=.ref c:=by
  delta tabIn at ht;rw[hx] at ht;dsimp only at ht;rw[lk] at ht;dsimp only at ht
  cases X with
  |ref z =>
   dsimp only at ht;split at ht
   ·split at ht
    ·cases ht;rfl
    ·cases ht
   ·cases ht
  |_=>cases ht
 subst R;refine Ea lk U (ma S) (λO H Q E h=>?_) λA outer s H O Q E M h=>?_
 ·obtain⟨w,L,rfl,S,Y,h⟩:=h
  rw[<- Y.length];delta aU at h;split at h
  ·assumption
  ·exact h.elim
 ·obtain⟨W,L,rfl,J,Y,h⟩:=h
  calc⟨_,(hb (ma S).nd A outer s W.H E M).nL,?_⟩;delta aU at h;split at h
  ·rename_i I
   rw[<- I] at h;refine⟨W,_,rfl,J,Y.env N.length,(Out.aj h).mono λy F v V Z=>?_⟩
   cases F with
   |nx env=>intro u _;exact ax V Z _ rfl
   |rt d=>have q:=ax V Z;exact q
   |bk env=>exact Z.elim
   |ct env=>exact Z.elim
  ·exact h.elim
def zH (K:İ) (T:Þ):Sp:=λY H Q _=>∃(a:Þ) (Z:List Int),Y=[.ref a]/\bN K H a (Z.map V.int)/\Z.length<=63/\H T=ϊ (.eD #[])/\∀X,Q 6e1 X
def WR {P:ê} {w:Ď} {K:İ} {mg:Str->Option È} {base:Ŀ} {k:Nat} {f c T:Þ} {fd:ĺ} {x y:Str} {g:List D->ae->Res D} (F:dG P w K mg base dP k f fd [x] (j5 K g)) (ht:tabIn K y=ϊ (c,T))
  (h:∀ns:List Int,ns.length<=63->∃s,g [.bV ns] [.tb y]=ϊ (.ok 6e1,s)):dG P w K mg base dP k f fd [x] (zH K T):=F.imp λU H Q E ⟨a,ns,e,hS,X,Y,q⟩=>by
 subst e;obtain⟨s,hs⟩:=h ns X;have W:∀b,(⟨[T],[.tb y],H⟩:Wd).Z b->b=T:=λb ⟨k,c,e1,_,_⟩=>by
  cases k with
  |zero=>exact(afo e1).symm
  |succ k=>cases e1
 have S:aS K ⟨[T],[.tb y],H⟩:=by
  refine⟨rfl,by simp,λk a e=>?_,λk a R e1 e2=>?_⟩
  ·cases k with
   |zero=>cases e;show H T≠ϋ;rw[Y];intro z;cases z
   |succ k=>cases e
  ·cases k with
   |zero=>cases e1;cases e2;exact⟨c,#[],ht,Y,trivial,λpos O z=>by cases z⟩
   |succ k=>cases e1
 refine⟨⟨[T],[.tb y],H⟩,[.bV ns],rfl,S,aq.one ⟨a,rfl,?_⟩,?_⟩
 ·rcases hS with hS|hS
  ·refine .inl ⟨λz=>?_,hS⟩
   rw[W a z] at hS
   rcases hS with hS | ⟨_,hS⟩<;>(rw[Y] at hS;cases hS)
  ·exact .inr hS
 ·show Out K cA _ (g [.bV ns] [.tb y]) _
  rw[hs];intro N _ _ _ v V;have e:v=.bl ό:=V;subst e;exact q _
def QP:ü "ValueError"=ϊ (.type "ValueError"):=nofun
def isNm (n c:Str):Bool:=ώ (c=n)
def anyS (_:Str):Bool:=ό
abbrev G0 (P:ê) (w:Ď) (K:İ) (mg:Str->Option È) (base:Ŀ) (x:Str) (st:aeW) (ps:List Str) (k:Nat) (fn:List D->ae->Res D):Prop:=∀{f:Þ} {fd:ĺ},Gd K mg x st ps f fd->dG P w K mg base (ip P w) k f fd ps (A2 mg K fn)
def fS (K:İ) (mg:Str->Option È) (cs:List Str) (n:Str):Prop:=∃C,mg n=ϊ 5e3/\sr K cs 5e3 (isNm n)
def Pu (K:İ) (mg:Str->Option È) (cs:List Str) (n:Str):Prop:=∃Z,mg n=ϊ (.ref Z)/\∀c∈cs,∃C,nsIn K Ú c=ϊ (ϊ 5e3)/\mg c=ϊ 5e3/\exmOne K 5e3 (.ref Z)=ϊ ό
section
variable {X:Cx} {E:XK} {Ξ:Wd->bb->Prop} {e a b c:ĳ} {es rest:List ĳ} {pos:Pos} {f g h:afb D} {fa:afb (List D)}
def Ej {k n:Nat} {x:Str} {st:aeW} {ps:List Str} {fn:List D->ae->Res D} {p:Pos} (G:GG X.K X.mg x st ps) (F:G0 X.prog X.w X.K X.mg X.base x st ps k fn) (L:Passes (ip X.prog X.w) X E) (hr:ck n X.A) (ha:PA X 8e7 (tA X.K (iQ X.mg E) fa)) (hk:k<=n:=by decide) (hg:Gl X x:=by rfl) (fe:0e8=ύ:=by decide)
  (he:Ð 8e7 X.env=5e5::Ð es X.env:=by rfl) (bP:(ŀ pos (Ð es X.env)).any (·.1)=ύ:=by rfl):PE X 2e1 (tE X.K (iQ X.mg E) (md fn fa)):=by
 obtain⟨f,fd,G⟩:=G;exact WQ L (F G) (hr.mono hk) hg G.mg G.fn.kp G.b ha fe he bP
def gr {cs:List Str} {cn:Str} {p np:Pos} (hc:fS X.K X.mg cs cn) (ha:PE X a 1e0) (hm:X.mg "isinstance"=ϋ) (hg:Gl X "isinstance":=by rfl) (G1:Gl X cn:=by rfl) (hd:(cn==("__debug__":Str))=ύ:=by decide)
  (hs:Ð [a,.Name cn np] X.env=3e3::Ð [.Name cn np] X.env:=by rfl) (fj:Ð [.Name cn np] X.env=(ύ,ŗ (.Name cn np) X.env)::Ð [] X.env:=by rfl) (bP:(ŀ pos (Ð [.Name cn np] X.env)).any (·.1)=ύ:=by rfl) :
  PE X (.Call (.Name "isinstance" p) [a,.Name cn np] [] pos) (tE X.K Ξ (e1 (ef cs (isNm cn)) f)):=by
 obtain⟨C,Z,h⟩:=hc;exact Mr (vT:=.ref C) h (λu r=>r) (Cz G1 Z rfl hd) ha hm iy hg hs fj bP
def Y7 {cs:List Str} {p np:Pos} (hc:sr X.K cs (.type "ValueError") anyS) (ha:PE X a 1e0) (hm:X.mg "isinstance"=ϋ) (hmV:X.mg "ValueError"=ϋ) (hg:Gl X "isinstance":=by rfl) (G1:Gl X "ValueError":=by rfl)
  (hs:Ð [a,.Name "ValueError" np] X.env=3e3::Ð [.Name "ValueError" np] X.env:=by rfl) (fj:Ð [.Name "ValueError" np] X.env=(ύ,ŗ (.Name "ValueError" np) X.env)::Ð [] X.env:=by rfl) (bP:(ŀ pos (Ð [.Name "ValueError" np] X.env)).any (·.1)=ύ:=by rfl) :
  PE X (.Call (.Name "isinstance" p) [a,.Name "ValueError" np] [] pos) (tE X.K Ξ (e1 (ef cs anyS) f)) :=
 Mr (vT:=.ty "ValueError") hc (λu r=>r) (yY G1 hmV QP rfl) ha hm iy hg hs fj bP
end
def mf (K:İ) (cs asked:List Str) (km:Str):Bool :=
 cs.all (λc=>match nsIn K Ú c with
  |some (ϊ (.ref C))=>excIn K C [.type "ValueError",.type "Exception",.type "BaseException",.type "object"] "ValueError.__new__"&&oA K C&&(kitOne K 5e3 (.type "ValueError")==ϊ ό) &&
   (match nsIn K Ú km with|some (ϊ (.ref Z))=>exmOne K 5e3 (.ref Z)==ϊ ό | _=>ύ) &&
   asked.all (λn=>match nsIn K Ú n with|some (ϊ (.ref A))=>kitOne K 5e3 (.ref A)==ϊ (isNm n c) | _=>ύ)
  |_=>ύ) &&
 asked.all (λn=>match nsIn K Ú n with|some (ϊ (.ref A))=>kitOne K (.type "NoneType") (.ref A)==ϊ ύ | _=>ύ)&&(kitOne K (.type "NoneType") (.type "ValueError")==ϊ ύ) &&
 (match nsIn K Ú km with|some (ϊ (.ref _))=>ό | _=>ύ)
def DD (K:İ) (x:Str):Bool:=match tabIn K x with
 |some (c,P)=>codeHdIn K c P&&(K.lookup P).isNone
 |none=>ύ
def WS {K:İ} {x:Str} (h:DD K x=ό):∃c P,tabIn K x=ϊ (c,P)/\codeHdIn K c P=ό/\K.lookup P=ϋ:=by
 delta DD at h;split at h
 ·rename_i c P e
  rw[Å] at h;exact⟨c,P,e,h.1,Option.isNone_iff_eq_none.mp h.2⟩
 ·cases h
def vW {K:İ} {x:Str} {p:Þ->Bool} (h:(match nsIn K Ú x with|some (ϊ 5e3)=>p C | _=>ύ)=ό):∃C,nsIn K Ú x=ϊ (ϊ 5e3)/\p C=ό:=by
 split at h
 ·rename_i C e
  exact⟨C,e,h⟩
 ·cases h
section
variable {K:İ} {cs asked:List Str} {km:Str} {h:Ŀ} {mg:Str->Option È}
def x_at (f:mf K cs asked km=ό) {c:Str} (hc:c∈cs):∃C,nsIn K Ú c=ϊ (ϊ 5e3)/\excIn K C [.type "ValueError",.type "Exception",.type "BaseException",.type "object"] "ValueError.__new__"=ό/\oA K C=ό/\kitOne K 5e3 (.type "ValueError")=ϊ ό /\
  (∃CM,nsIn K Ú km=ϊ (ϊ (.ref CM))/\exmOne K 5e3 (.ref CM)=ϊ ό)/\∀n∈asked,∃A,nsIn K Ú n=ϊ (ϊ (.ref A))/\kitOne K 5e3 (.ref A)=ϊ (isNm n c):=by
 delta mf at f;erw[Å] at f;obtain⟨C,e,q⟩:=vW (ä.mp f.1.1.1 c hc);erw[Å,beq_iff_eq] at q;obtain⟨⟨⟨⟨X,W⟩,V⟩,Z⟩,Y⟩:=q;obtain⟨CM,U,Z⟩:=vW Z;calc⟨C,e,X,W,V,⟨CM,U,beq_iff_eq.mp Z⟩,λn T=>?_⟩;obtain⟨A,S,Y⟩:=vW (ä.mp Y n T);exact⟨A,S,beq_iff_eq.mp Y⟩
def ab5 (X:K.In h) (G:h.Ns Ú mg) (f:mf K cs asked km=ό) {c:Str} (hc:c∈cs):Fh K mg c:=by
 obtain⟨C,e,q,_⟩:=x_at f hc;exact⟨C,e,mg_of X G e,q⟩
def ab6 (X:K.In h) (G:h.Ns Ú mg) (f:mf K cs asked km=ό):Pu K mg cs km:=by
 have Z:=f;delta mf at Z;erw[Å] at Z;obtain⟨Y,e,_⟩:=vW Z.2;calc⟨Y,mg_of X G e,λc W=>?_⟩;obtain⟨C,e1,_,_,_,⟨V,e2,q⟩,_⟩:=x_at f W;rw[e] at e2;cases e2;exact⟨C,e1,mg_of X G e1,q⟩
def gE (X:K.In h) (G:h.Ns Ú mg) (f:mf K cs asked km=ό) {n:Str} (hn:n∈asked):fS K mg cs n:=by
 have Z:=f;delta mf at Z;erw[Å] at Z;obtain⟨A,e,q⟩:=vW (ä.mp Z.1.1.2 n hn);calc⟨A,mg_of X G e,beq_iff_eq.mp q,λc Y=>?_⟩;obtain⟨C,e1,_,W,_,_,V⟩:=x_at f Y;obtain⟨T,e2,U⟩:=V n hn;rw[e] at e2;cases e2;exact⟨C,e1,W,U⟩
def aaG (f:mf K cs asked km=ό):sr K cs (.type "ValueError") anyS:=by
 have Z:=f;delta mf at Z;erw[Å,beq_iff_eq] at Z;calc⟨Z.1.2,λc Y=>?_⟩;obtain⟨C,e1,_,X,W,_⟩:=x_at f Y;exact⟨C,e1,X,W⟩
end
end DI
namespace L2
open PySem PySem.Spec PyProof.Rows PySem.W
structure hV (k:Nat) (A:ó):Prop where
 dp:A.depth+3*k+5<recursionLimit
 un:A.units+16*k+200<aer
def ck.h {k:Nat} {A:ó} (r:ck k A):hV k A:=⟨r.dp,r.un⟩
def hV.mono {j k:Nat} {A:ó} (r:hV k A) (h:j<=k):hV j A:=⟨by have:=r.dp;omega,by have:=r.un;omega⟩
theorem hV.deeper {k:Nat} {A:ó} (r:hV (k+1) A) (env:Env):hV k (A.deeper env) :=
 ⟨by have:=r.dp;show A.depth+1+3*k+5 < _;omega,by have:=r.un;show A.units+3+16*k+200 < _;omega⟩
theorem hV.depth {k:Nat} {A:ó} (r:hV k A):A.depth<recursionLimit:=by have:=r.dp;omega
def hV.held {k:Nat} {A:ó} (r:hV k A) (v:Option È):hV k (A.mark v):=⟨r.dp,r.un⟩
structure z3 (P:ê) (w:Ď) (K:İ) (mg:Str->Option È) (base:Ŀ) (k:Nat) (f:Þ) (fd:ĺ) (ps:List Str) (sp:Sp):Prop where
 len:∀vs H Q E,sp vs H Q E->vs.length=ps.length
 run:∀(A:ó) (outer:List Env) (s:Æ) (H:Hp) (args:Args) (us:List È) (vs:List V) (Q:VK) (E:XK),hV k A->tI P w K mg base A outer s H->BindsTo s fd args (ps.zip us)->Vals vs us->sp vs H Q E ->
  acN 2e0 A (.call (.ref f) args) (CR dP outer P w H s Q E) s
abbrev _root_.PySem.Around.z9 (A:ó):ó:={ A with handled:=ϋ }
abbrev Cx.loud (X:Cx) (A:ó):Cx:={ X with A:=A,calm:=ύ,xe:=λ_ _=>False }
theorem Inv.loud {X:Cx} {π:List 2e7} {σ:St} {H:Hp} {s:Æ} (I:Inv X π σ H s) (A:ó) (h:A.frames=X.A.frames):Inv (X.loud A) π σ H s:=by
 obtain⟨⟨a1,a2,Z,Y,W,V,U,T,v,S,R,Q,P,O,N,M,L,K⟩,J,G,F,E,D,C,B,y,x,w⟩:=I;exact⟨⟨a1,a2,Z,Y,W,V,U,T,λz=>absurd z Ã,h.trans S,R,Q,P,O,N,M,L,K⟩,J,G,F,E,D,C,B,y,x,w⟩
def Y8 {P:ê} {w:Ď} {K:İ} {mg:Str->Option È} {base:Ŀ} {k:Nat} {f:Þ} {name qual:Str} {params:aeZ} {body:List aeW} {scope:acB} {dV kV doc pm bq ct oc:È} {an od:Option Þ}
  {jX:Array (Option È)} {N ps:List Str} {sp:Sp} (lk:K.lookup f=ϊ ⟨oc,od,.func 7e9,jX⟩) (fc:adl K bq qual=ό) (S:qe N ps scope)
  (len:∀vs H Q E,sp vs H Q E->vs.length=ps.length)
  (k9:∀(A:ó) (outer:List Env) (s:Æ) (H:Hp) (vs:List V) (Q:VK) (E:XK),hV k 5e8->sp vs H Q E ->
   ∃t,dq ((iZ dP P w K mg base N qual scope f bq A.z9 outer s H E).loud 5e8) body t/\t { nx:=λ_ H'=>Q .ak H',rt:=Q } (start N vs) H) :
  z3 P w K mg base (k+1) f 7e9 ps sp:=by
 calc⟨len,λA outer s H args p vs Q E T Z M r R=>?_⟩;have L:=len _ _ _ _ R;have O:K.In s.heap:=Z.mod.lE.keeps λb o e=>(Z.bs b o e).1;have lim:s.heap.NoLimit:=Z.mod.nolimit.keeps λb o e=>(Z.bs b o e).1;calc codeAny_call_function T.depth (O _ _ lk) rfl S.co S.gen rfl (PySem.W.codeRec_of O fc) (M _ _ _ _ ?_);refine wpAny_newFunctionEnv_cells S.kind (λy G=>?_) λenv F D x=>?_
 ·rcases S.par y.1 (aex G).1 with q|q
  ·exact .inl q
  ·exact .inr ⟨q,acP _ _ _ (.inl q)⟩
 subst F;calc⟨lim.keeps x.toInCall.keep,codeAny_func ?_⟩;obtain⟨t,C,B⟩:=k9 A outer s H vs Q E (T.deeper _) R;have I:=(Jj (CX:=dP) (P:=P) (w:=w) (A:=A.z9) (E:=E) S rfl ⟨Z.frames,Z.mod,Z.bs,Z.jq,Z.jk,Z.lF,Z.az,Z.bare⟩ L r x).loud 5e8 rfl;calc ħ (C [] D (start N vs) H _ I B) (λz X hs=>?_) λe X hs=>hs.elim;have fin:∀{Y:St} {H':Hp} {v:V} {u:È},Inv ((iZ dP P w K mg base N qual scope f bq A.z9 outer s H E).loud 5e8) [] Y H' X->RelV v u->Q v H'->CE outer P w H s Q u X :=
  λ{Y H' v u} J U q=>⟨v,H',J.os,J.bare,J.base,J.az,U,q⟩
 cases z with
 |ret u=>obtain⟨v,Y,H',J,U,q⟩:=hs;exact fin J U q
 |next=>obtain⟨Y,H',J,q⟩:=hs;exact fin (v:=V.ak) (u:=Value.none) J rfl q
 |brk=>obtain⟨_,_,_,q⟩:=hs;exact q.elim
 |cont=>obtain⟨_,_,_,q⟩:=hs;exact q.elim
section
variable {X:Cx} {k:Nat} {f:Þ} {fd:ĺ} {ps:List Str} {sp:Sp} {E:XK} {x:Str} {p pos:Pos} {e:ĳ} {es:List ĳ} {t:TA}
def Va (F:z3 X.prog X.w X.K X.mg X.base k f fd ps sp) (hr:hV k X.A) (hg:Gl X x) (hm:X.mg x=ϊ (.ref f)) (hk:θ X.K (.ref f)=ό) (hb:Binds X.K fd ps [])
  (ha:PA X 8e7 t) (fe:0e8=ύ:=by decide) (he:Ð 8e7 X.env=5e5::Ð es X.env:=by rfl) (bP:(ŀ pos (Ð es X.env)).any (·.1)=ύ:=by rfl) :
  PE X 2e1 (MW sp [] E0 t):=by
 intro S s σ H Q I h;calc acR (sj I hg hm ?_ fe);calc aeK (h₀:=X.base) I.ok.mod.lE hk (aJ (ha pos S s σ H _ I h) λZ V ⟨U,R,W,r,q⟩=>⟨W.jr,?_⟩) he bP;have T:Vals (U++[]) (Z++[]):=r.append .nil;have P:(Z++[]).length=ps.length:=by rw[<- T.length];exact F.len _ _ _ _ q
 refine adA (Ŋ (F.run X.A X.stack V R ⟨Z,[]⟩ (Z++[]) (U++[]) Q E0 hr W.nF (hb V Z W.jr P) T q) λr N Y=>?_)
 cases r with
 |error e=>exact Ī Y
 |ok O =>
  cases O with
  |ret u=>exact W.after Y
  |next=>exact Ī Y
  |brk=>exact Ī Y
  |cont=>exact Ī Y
end
end L2
namespace DI
open PySem L2 PySem.W
abbrev Pw (P:ê) (w:Ď) (K:İ) (mg:Str->Option È) (base:Ŀ) (x:Str) (st:aeW) (ps:List Str) (k:Nat) (fn:List D->ae->Res D):Prop:=∀{f:Þ} {fd:ĺ},Gd K mg x st ps f fd->z3 P w K mg base k f fd ps (j5 K fn)
def aaH {P:ê} {w:Ď} {K:İ} {mg:Str->Option È} {base:Ŀ} {x:Str} {st:aeW} {f:Þ} {fd:ĺ} {ps:List Str} {k:Nat} {b:afb Fl} (G:Gd K mg x st ps f fd) (N:List Str) (S:qO N ps (cY st)=ό)
  (hb:N.Nodup->∀(bq:È) (A:ó) (outer:List PySem.Env) (s:Æ) (H:Hp) (E:XK),hV k 6e7->dq ((iZ dP P w K mg base N x (cY st) f bq A.z9 outer s H E).loud 6e7) (jd st) (tS K cA b)) :
  z3 P w K mg base (k+1) f fd ps (j5 K (aU ps.length N.length b)):=by
 obtain⟨L,J,kV,doc,pm,an,bq,ct,I,rfl,lk,W⟩:=G.fn.ex;refine Y8 lk W (ma S) (λV H Q E h=>?_) λA outer s H V Q E U h=>?_
 ·obtain⟨w,T,rfl,S,Y,h⟩:=h
  rw[<- Y.length];delta aU at h;split at h
  ·assumption
  ·exact h.elim
 ·obtain⟨w,T,rfl,R,Y,h⟩:=h
  calc⟨_,hb (ma S).nd bq A outer s w.H E U,?_⟩;delta aU at h;split at h
  ·rename_i O
   rw[<- O] at h;refine⟨w,_,rfl,R,Y.env N.length,(Out.aj h).mono λF M D X Z=>?_⟩
   cases M with
   |nx env=>intro C _;exact ax X Z _ rfl
   |rt d=>have q:=ax X Z;exact q
   |bk env=>exact Z.elim
   |ct env=>exact Z.elim
  ·exact h.elim
def oB (cs:List Str) (told:Str) (f:afb D) (j:Nat) (b:afb Fl):afb Fl:=λenv s=>match f env s with
 |none=>ϋ
 |some (.ok d,s)=>ok (.rt (.tup [.str told,d])) s
 |some (.error x,s)=>if ώ (x.c∈cs)=ό then aj (b (env.set j (ϊ (.exc x.c x.many))) s) λZ s=>match Z with
   | .nx env=>ok (.nx (env.set j ϋ)) s
   | .rt d=>ok (.rt d) s
   |_=>ϋ else ϋ
section
variable {X:Cx} {E:XK} {Ξ:Wd->bb->Prop} {e a b c:ĳ} {es rest:List ĳ} {pos:Pos} {f g h:afb D} {fa:afb (List D)}
def aaI {k n:Nat} {x:Str} {st:aeW} {ps:List Str} {fn:List D->ae->Res D} {p:Pos} (G:GG X.K X.mg x st ps) (F:Pw X.prog X.w X.K X.mg X.base x st ps k fn) (hr:hV n X.A) (ha:PA X 8e7 7e8) (hk:k<=n:=by decide) (hg:Gl X x:=by rfl) (fe:0e8=ύ:=by decide)
  (he:Ð 8e7 X.env=5e5::Ð es X.env:=by rfl) (bP:(ŀ pos (Ð es X.env)).any (·.1)=ύ:=by rfl):PE X 2e1 (tE X.K Ξ (aE fn fa)):=by
 obtain⟨f,fd,G⟩:=G;calc cB (Va (F G) (hr.mono hk) hg G.mg G.fn.kp G.b ha fe he bP) fun σ H Q Y=>?_;obtain⟨w,env,W,S,V,h⟩:=Y;subst W;calc⟨w,env,rfl,S,V,(Out.aj h).mono λZ U N T R P O=>?_⟩;show j5 X.K fn (P++[]) Z.H Q E0;rw[ć];exact⟨Z,U,rfl,T,O,R.ne⟩
def G2:afb D:=λ_ _=>ϋ
def Ot:PE X e (tE X.K Ξ G2):=λ_ _ _ _ _ _ ⟨_,_,_,_,_,h⟩=>h.elim
def Ek (x y:D) (s:ae):Res D:=match x,y with
 | .int i,.int j=>ok (.bl (!(i==j))) s
 |_,_=>ϋ
def aaJ:bF X (Ğ .NotEq) (rO X.K Ξ Ek):=by
 intro Z s σ H x y v u Q I Y W zzz;obtain⟨w,R,P,rfl,S,U,T,h⟩:=zzz;delta Ek at h;split at h
 ·rename_i i j
  cases U;cases T;calc MV Z s σ w.H _ _ v u Q I Y W ⟨rfl,?_⟩;have:(!ώ (V.int i=V.int j))=!(i==j):=by
   congr 1;rw[ĝ];simp
  rw[this];exact ax S h _ rfl
 ·exact h.elim
def Y9 {k i j:Nat} {x cn n told:Str} {p ba wR ab7 np Fm c0:Pos} {k0 k1} {pre:Hp->Prop} {f:Þ} {vs:List V} {ds:List D} {th:ae->Res D} {xj:aeW} {wJ:List aeW} {b:afb Fl} {cs:List Str} (T:A6 X.prog X.w X.K X.mg X.base k pre f vs ds th) (h0:pre X.mx) (hr:ck k X.A)
  (hc:∃CM,X.mg cn=ϊ (.ref CM)/\∀c∈cs,∃C,nsIn X.K Ú c=ϊ (ϊ 5e3)/\X.mg c=ϊ 5e3/\exmOne X.K 5e3 (.ref CM)=ϊ ό)
  (hs:∀a,dq (X.held a) (xj::wJ) (tS X.K cA b)) (F1:X.N.Nodup)
  (L:X.stack=X.env::X.outer:=by rfl) (hf:X.env.frame=ϊ X.env.locals:=by rfl) (hj:X.N[j]?=ϊ n:=by rfl) (pK:X.env.scope.names.lookup n=ϊ .local:=by rfl) (hg:Gl X cn:=by rfl) (hdc:(cn==("__debug__":Str))=ύ:=by decide)
  (hN:X.N[i]?=ϊ x:=by rfl) (hv:qW X.env.scope x:=by first|exact adh rfl|exact Or.inr (adh rfl)|exact Or.inr (Or.inr rfl)) (hd:0e8=ύ:=by decide) (fc:(x==("__classdict__":Str))=ύ:=by decide)
  (h1:Ð [.Constant (.str told) k0 c0,.Call (.Name x p) [] [] ba] X.env=(ύ,ŗ (.Constant (.str told) k0 c0) X.env)::Ð [.Call (.Name x p) [] [] ba] X.env:=by rfl) (h2:Ð [.Call (.Name x p) [] [] ba] X.env=(ύ,ŗ (.Call (.Name x p) [] [] ba) X.env)::Ð [] X.env:=by rfl) :
  PS X (.Try [.Return (ϊ (.Tuple [.Constant (.str told) k0 c0,.Call (.Name x p) [] [] ba] k1 wR)) ab7] [.ExceptHandler (ϊ (.Name cn np)) (ϊ n) (xj::wJ) Fm] [] [] pos) (tS X.K cA (oB cs told (uO (.cR f vs ds) th i) j b)):=by
 intro π s σ H D I au;obtain⟨w,env,eH,S,eo,h⟩:=au;subst eH;obtain⟨CM,mK,iN⟩:=hc;delta oB uO at h;by_cases he:env[i]?=ϊ (ϊ (.cR f vs ds))
 case neg=>rw[Ö he] at h;exact h.elim
 rw[Ô he] at h;refine wpAny_Try_except ?_
 let E:XK:=λcls m U=>∃(Y:Wd) (c:Str) (C:Þ) (F:Option Int),Y.H=U/\aS X.K Y/\cj X.K Y env σ/\cls=.ref C/\c∈cs/\X.mg c=ϊ 5e3/\(∀i,F=ϊ i->∃W R t,m=ϊ W/\(¬ Y.Z W/\Y.H W=ϊ (.bz R (.own W)))/\lookIn "many" R=ϊ (ϊ (.int i t)))/\Out X.K cA Y (aj (b (env.set j (ϊ (.exc c F))) Y.aG) λB s=>match B with
   | .nx env=>ok (.nx (env.set j ϋ)) s
   | .rt d=>ok (.rt d) s
   |_=>ϋ) (Ap X.K D)
 have hth:Out X.K (iQ X.mg E) w (th w.aG) λY d=>∀v,DV X.K Y d v->∀q,Y.H q=ϋ->D.rt (.ref q) (upd Y.H q (.tup [.str told,v])):=by
  cases hr:th w.aG with
  |none=>rw[hr] at h;exact h.elim
  |some q =>
   obtain⟨q,s2⟩:=q;rw[hr] at h
   cases q with
   |ok d =>
    intro Y l P e v dv q hq;have l2:=(Fw.grow (K:=X.K) (o:=.tup [.str told,v]) hq).le;exact h (Y.grow q (.tup [.str told,v])) (l.trans l2) (P.grow hq) e (.ref q) ⟨q,_,rfl,bO.of cO,⟨.str told,[v],rfl,rfl,l2.all ⟨v,[],rfl,dv,rfl⟩⟩⟩
   |error y =>
    intro Y l P e;dsimp only at h;split at h
    ·rename_i g
     have g:=î g;obtain⟨C,_,h2,_⟩:=iN _ g;refine⟨C,h2,?_⟩
     cases hm:y.many with
     |none =>
      calc⟨Y,y.c,C,ϋ,rfl,P,eo.le l,rfl,g,h2,(λi z=>by cases z),?_⟩;rw[hm] at h;rw[e];exact h.from l
     |some i =>
      intro W R t O hl;have le:=(Fw.grow (K:=X.K) (o:=.bz R (.own W)) O).le;refine⟨Y.grow W (.bz R (.own W)),y.c,C,ϊ i,rfl,P.grow O,(eo.le l).le le,rfl,g,h2,λi' z=>?_,?_⟩
      ·cases z
       exact⟨W,R,t,rfl,⟨λz=>kj P O z,cO⟩,hl⟩
      ·rw[hm] at h
       show Out X.K cA _ (aj (b (env.set j (ϊ (.exc y.c (ϊ i)))) Y.aG) _) _;rw[e];exact(h.from l).from le
    ·exact h.elim
 have k9:=λ{M:Æ} (I:Inv X π σ w.H M)=>Y1 (pos:=ba) (p:=p) (Q:=λv U=>∀q,U q=ϋ->D.rt (.ref q) (upd U q (.tup [.str told,v]))) T h0 hr hN hv hd fc I S eo he hth;refine wpAny_execs_cons (ħ (wpAny_Return_some (Q:=SP X π { nx:=λ_ _=>False,rt:=D.rt }) (E:=zG X π σ E) (wpAny_Tuple_spliced ?_)) (λB M q=>?_) λe M q=>?_)
 ·rw[h1]
  calc adK (Calls.Constant_str (k:=k0) (pos:=c0) ?_);rw[h2];calc adK (aJ (k9 (I.tok _)) λu M hq=>Calls.spliced_nil ?_);obtain⟨v,H1,I1,r,q⟩:=hq;calc⟨show 2<=Ù by decide,?_⟩;have hf:H1 M.heap.objs.size=ϋ:=I1.az.fresh 3e0;calc⟨.ref M.heap.objs.size,σ,upd H1 M.heap.objs.size (.tup [.str told,v]),I1.laid (t':=M.toks) (λb u e=>Á _ e) 3e0 ?_,rfl,q _ hf⟩;exact⟨show 2<=Ù by decide,_,.cons 5e0 (.cons r .nil),⟨_,Ò _ rfl,rfl,_,rfl⟩⟩
 ·cases B with
  |next=>obtain⟨_,_,_,z⟩:=q;exact Ī z
  |ret v=>exact q
  |brk=>obtain⟨_,_,_,z⟩:=q;exact Ī z
  |cont=>obtain⟨_,_,_,z⟩:=q;exact Ī z
 ·refine km (D:=D) q L hf F1 hj pK hg mK hdc λcls m U hE=>?_
  obtain⟨Y,c,C,F,rfl,P,ju,rfl,AI,hmc,hmm,ho⟩:=hE;obtain⟨C2,k1,k2,k3⟩:=iN c AI;rw[hmc] at k2;cases k2;calc⟨k3,λa o O nK nV s5 I5=>?_⟩;have le:=(Fw.grow (K:=X.K) (o:=.bz o (.own a)) O).le;have S5:=P.grow (o:=.bz o (.own a)) O;have dv:DV X.K (Y.grow a (.bz o (.own a))) (.exc c F) (.ref a):=by
   erw[DV];calc⟨a,o,C,rfl,⟨λz=>kj P O z,cO⟩,⟨nK,k1⟩,λi hi=>?_⟩;obtain⟨W,R,t,q1,q2,q3⟩:=hmm i hi;exact⟨nV.1,W,R,t,nV.2 W q1,(Fw.grow (K:=X.K) (o:=.bz o (.own a)) O).bz W R _ q2.1 q2.2,q3⟩
  have hd:=hs a π s5 (σ.set j (ϊ 6e2)) _ { nx:=fun G U=>D.nx (G.set j ϋ) U,rt:=D.rt,bk:=fun G U=>D.bk (G.set j ϋ) U,ct:=fun G U=>D.ct (G.set j ϋ) U } I5
   ⟨Y.grow a (.bz o (.own a)),env.set j (ϊ (.exc c F)),rfl,S5,(ju.le le).set dv j,(Out.aj (ho.from le)).mono λw6 B l6 S6 q=>?_⟩
  ·exact hd
  ·cases B with
   |nx J=>exact fun G e'=>ax S6 q (G.set j ϋ) (e'.unset j)
   |rt d=>have z:=ax S6 q;exact z
   |bk J=>exact q.elim
   |ct J=>exact q.elim
end
end DI
namespace L2
open PySem PySem.Spec PyProof.Rows
def QQ {X:Cx}:cC X 6e3 (λxs H Q=>∃x k p,xs=[x,.ref p]/\pf X.K H x k/\H p=ϊ (.ext (sW p ["list","tuple"]))/\Q (.bl (ώ (k=.tup)||ώ (k=.lst))) H):=by
 intro P s σ H xs O Q I r h;obtain⟨x,k,p,rfl,W,V,q⟩:=h;obtain⟨u,c,rfl,U,rc⟩:=vals2 r;cases rc;obtain⟨N,T,Z,S,Y⟩:=Ys (K:=X.K) I W U;have R:dR X.prog X.w H s.heap p (.ext (sW p ["list","tuple"])):=I.az p _ V
 match T,Z,Y with
 | [M,y1],Z,Y =>
  calc IsiPair.tupleOfB (.cons Z.2.1 (.cons Z.1 .nil)) S R.1 ?_ λL=>⟨.bl _,H,I.tok _,rfl,q⟩;rw[<- Y];erw[List.any_cons,List.any_nil,Bool.or_false,id];exact Bool.or_comm _ _
end L2
namespace DI
open PySem L2
def WT {X:Cx} {Ξ:Wd->bb->Prop} {a:ĳ} {pos:Pos} {f:afb D} {p p1 p2 p3:Pos} {x1} (ha:PE X a 1e0) (hg:Gl X "isinstance") (hm:X.mg "isinstance"=ϋ) (hv:ü "isinstance"=ϊ 6e3) (h1:PE X (.Name "tuple" p1) (tC (.ty "tuple"))) (h2:PE X (.Name "list" p2) (tC (.ty "list")))
  (he:Ð (a::[.Tuple [.Name "list" p2,.Name "tuple" p1] x1 p3]) X.env=3e3::Ð [.Tuple [.Name "list" p2,.Name "tuple" p1] x1 p3] X.env:=by rfl) :
  PE X (.Call (.Name "isinstance" p) [a,.Tuple [.Name "list" p2,.Name "tuple" p1] x1 p3] [] pos) (tE X.K Ξ (e1 xb f)) :=
 cB (rW QQ hg hm hv (gn ha (gn (Ur (gn h2 (gn h1 iD))) iD) he) 0e0 0e0 he) fun σ H Q T=>by
  obtain⟨w,env,R,S,P,h⟩:=T;subst R;calc⟨w,env,rfl,S,P,(Out.aj h).mono λY d M O h1 v N=>?_⟩;calc⟨["list","tuple"],rfl,(by show 2<=Ù;decide),λp W=>?_⟩;obtain⟨L,e,h1⟩:=fI h1
  cases Z:kd d Y.aG with
  |none=>rw[Z] at e;cases e
  |some k =>
   rw[Z] at e;cases e;have V:=O.grow (o:=.ext (sW p ["list","tuple"])) W;have U:=(Fw.grow (K:=X.K) (o:=.ext (sW p ["list","tuple"])) W).le;exact⟨v,k,p,rfl,Nl (w:=Y.grow p _) V (U _ _ N) Z,cO,h1 _ U V rfl _ rfl⟩
end DI
namespace L2
open PySem PySem.Spec PyProof.Rows
end L2
namespace DI
open PySem L2
def t9 (ds:List D) (s:ae):Res D:=match ds with
 | [.bl b]=>ok (.int (if b then 1 else 0)) s
 |_=>ϋ
def NH {X:Cx} {Ξ:Wd->bb->Prop}:cC X (.type "int") (rC X.K Ξ t9):=by
 intro V s σ H U T Q I r zzz;obtain⟨w,R,rfl,S,Z,h⟩:=zzz;delta t9 at h;split at h
 ·rename_i b
  obtain⟨v,rfl,Y⟩:=l9 Z;have e:v=.bl b:=Y;subst e;obtain⟨u,rfl,W⟩:=vals1 r;have e:u=.bool b:=W;subst e;exact call_int_bool ⟨.int _,w.H,I.tok _,5e0,ax S h _ rfl⟩
 ·exact h.elim
def aC (ds:List D):afb (List D):=λ_ s=>ok ds s
section
variable {X:Cx} {Ξ:Wd->bb->Prop} {pos:Pos}
def WU {e1 e2 e3 e4 e5 e6 e7 e8 e9 uP uQ G3 G4 G5 G6 G7:ĳ} {f1 f2 f3 f4 f5 f6 f7 f8 f9 Px Py Pz PB PC PD PH:afb D} (h1:PE X e1 (tE X.K Ξ f1)) (h2:PE X e2 (tE X.K Ξ f2)) (h3:PE X e3 (tE X.K Ξ f3)) (h4:PE X e4 (tE X.K Ξ f4)) (h5:PE X e5 (tE X.K Ξ f5)) (h6:PE X e6 (tE X.K Ξ f6)) (h7:PE X e7 (tE X.K Ξ f7)) (h8:PE X e8 (tE X.K Ξ f8)) (h9:PE X e9 (tE X.K Ξ f9)) (h10:PE X uP (tE X.K Ξ Px)) (pq:PE X uQ (tE X.K Ξ Py)) (pk:PE X G3 (tE X.K Ξ Pz)) (Gq:PE X G4 (tE X.K Ξ PB)) (h14:PE X G5 (tE X.K Ξ PC)) (FN:PE X G6 (tE X.K Ξ PD)) (h16:PE X G7 (tE X.K Ξ PH)) (s1:notStar e1=ό:=by rfl) (s2:notStar e2=ό:=by rfl) (s3:notStar e3=ό:=by rfl) (s4:notStar e4=ό:=by rfl) (s5:notStar e5=ό:=by rfl) (s6:notStar e6=ό:=by rfl) (s7:notStar e7=ό:=by rfl) (s8:notStar e8=ό:=by rfl) (s9:notStar e9=ό:=by rfl) (s10:notStar uP=ό:=by rfl) (s11:notStar uQ=ό:=by rfl) (s12:notStar G3=ό:=by rfl) (s13:notStar G4=ό:=by rfl) (s14:notStar G5=ό:=by rfl) (s15:notStar G6=ό:=by rfl) (s16:notStar G7=ό:=by rfl):PE X (.List [e1,e2,e3,e4,e5,e6,e7,e8,e9,uP,uQ,G3,G4,G5,G6,G7] pos) (tE X.K Ξ (cz (af f1 (af f2 (af f3 (af f4 (af f5 (af f6 (af f7 (af f8 (af f9 (af Px (af Py (af Pz (af PB (af PC (af PD (af PH ah)))))))))))))))))):=eJ (eV h1 (eV h2 (eV h3 (eV h4 (eV h5 (eV h6 (eV h7 (eV h8 (eV h9 (eV h10 (eV pq (eV pk (eV Gq (eV h14 (eV FN (eV h16 dF s16) s15) s14) s13) s12) s11) s10) s9) s8) s7) s6) s5) s4) s3) s2) s1)
end
end DI
namespace L2
open PySem PySem.Spec PyProof.Rows
def pL (base:Ŀ) (l:List Env) (e:Þ) (cls a0 fl:È) (h:Ŀ):Prop:=base.StaysIn h/\base.get? e=ϋ/\h.FunFrames base l/\h.TracedAtW base e cls a0 fl
section
variable {M:Model} {A:ó} {E:È->Æ->Prop} {s:Æ} {base h h':Ŀ} {l:List Env} {e C:Þ} {cls a0 fl:È}
def Td (hfr:A.frames=ϊ (env::outer)) (hf:env.frame=ϊ L) (R:pL base (env::outer) e cls a0 fl s.heap)
 (hQ:∀h',ac1 base outer e cls a0 h'->s.heap.UpToSlots h'->Q () { s with heap:=h' }):ß M A (leaving env (.ref e)) Q E s:=by
 obtain⟨f1,f2,U,f4⟩:=R;by_cases S:fl=acz L
 ·subst S
  delta leaving;exact À (wpAny_noteFrame_againW hf f4 (wpAny_landsW (l:=env::outer) ⟨f1,f2,U,f4⟩ λh' k sl=>hQ h' ⟨k.1,k.2.1,k.2.2.1.2.2,k.2.2.2⟩ sl))
 ·obtain⟨v,P,T,u,H,O,⟨G,F⟩,N,K,D,C,X,W,J⟩:=f4
  subst G;delta leaving aeD;erw[hf];calc À (À (Ĺ O N K ?_));rw[Ô (show (Ŧ T != Value.none)=ό from by simp)];calc À (Ĺ X W J ?_);rw[Ö (show ¬ ((fl==acz L)=ό) from λz=>S (by simpa using z))];calc À (Ũ X W (Ħ.mp J).1 ?_);have other:∀b,b≠T->(s.heap.update T (Obj.mapFields (·.setIfInBounds 3 Value.none))).get? b=s.heap.get? b:=λb Z=>ŕ _ _ (ŵ Z);have I:∀b o,s.heap.get? b=ϊ o->(∀P,o.data≠.fields P)->b≠T:=λb o Z Y q=>by
   rw[q,X] at Z;cases Z;exact Y H W
  refine wpAny_newEntryW hfr (U.of_keeps λb o Z Y=>⟨o,(other b (I b o Z Y)).trans Z,rfl⟩) hf ((other e (ŵ C)).trans O)
   (λb o V=>(other b λq=>by rw[q,D] at V;cases V).trans (f1 b o V)) f2 N (Ħ.mp K).1 F
   λh' ⟨B,y,x,w⟩=>hQ h' ⟨B,f2,y.2.2,x⟩ λb o Z Y=>w b o ((other b (I b o Z Y)).trans Z) Y
def Vb {α:Type} {Q:α->Æ->Prop} (R:pL base l e cls a0 fl s.heap)
 (h:∀h' xZ,pL base l e cls a0 xZ h'->s.heap.UpToSlots h'->Dk s.heap h'->E (.ref e) { s with heap:=h' }):ß M A (PySem.passOn afi (.ref e) env:Sem α) Q E s:=by
 obtain⟨W,V,D,C,U,T,w,K,S,B,P,O,J,I,N,X,y⟩:=R;have H:3<K.size:=(Ħ.mp y).1;have G:∀b o,s.heap.get? b=ϊ o->(∀U,o.data≠.fields U)->b≠T:=λb o Z Y q=>by
  rw[q,N] at Z;cases Z;exact Y K X
 delta PySem.passOn;calc À (Ĺ S P O ?_);rw[Ö (show ¬ (Ŧ T==Value.none)=ό from by simp)]
 refine À (ħ (qa (yG _ _) (E:=λ_ _=>False) (Q:=λ_ F=>∃h' xZ,F={ s with heap:=h' }/\pL base l e cls a0 xZ h'/\s.heap.UpToSlots h') ?_) (λ_ F z=>?_) λ_ _ z=>z.1.elim)
 ·delta setFlight
  calc À (Ĺ S P O ?_);rw[Ô (show (Ŧ T != Value.none)=ό from by simp)];have other:∀b,b≠T->(s.heap.update T (Obj.mapFields (·.setIfInBounds 3 (env.frame.elim Value.none λf=>acz f)))).get? b=s.heap.get? b:=λb Z=>ŕ _ _ (ŵ Z);refine Ũ N X H ⟨_,env.frame.elim Value.none λf=>acz f,rfl,⟨λb o L=>(other b λq=>by rw[q,J] at L;cases L).trans (W b o L),V,
   D.of_keeps λb o Z Y=>⟨o,(other b (G b o Z Y)).trans Z,rfl⟩,?_⟩,λb o Z Y=>⟨o.slots,(other b (G b o Z Y)).trans Z⟩⟩
  exact⟨C,U,T,_,_,(other e (ŵ I)).trans S,B,P,O,J,I,ġ _ N (ŋ (đ X _)),đ X _,by simp[H]⟩
 ·obtain⟨⟨h',xZ,rfl,R,sl⟩,x⟩:=z
  exact wpAny_throw (h h' xZ R sl x)
theorem IU:∀{l:List Env},h.FunFrames base l->C∉cm l->ı C h h'->h'.FunFrames base l
 | [],_,_,_=>trivial
 |env::r,⟨W,⟨L,o,Y,V,U,T⟩,S⟩,Z,X=>by
  have e:cm (env::r)=L::cm r:=by delta cm;rw[Ů,Y]
  rw[e,Ï,not_or] at Z;exact⟨W,⟨L,o,Y,V,(X.2 L (ŵ Z.1)).trans U,T⟩,IU S Z.2 X⟩
def pL.but (R:pL base l e cls a0 fl h) (hC:h.get? C=ϊ oC) (hd:∀vs,oC.data≠.fields vs) (hl:C∉cm l) (sb:ı C h h'):pL (base.hide C) l e cls a0 fl h':=by
 obtain⟨f1,f2,X,V,vs,T,U,S,Q,P,Z,O,N,M,L,Y,K⟩:=R;have k:(base.hide C).StaysIn base:=λb o q=>Heap.of_hide q;have ne:∀{b o vs},h.get? b=ϊ o->o.data=.fields vs->h'.get? b=ϊ o:=λ{b o vs} e1 e2=>(sb.2 b λz=>by rw[z,hC] at e1;cases e1;exact hd _ e2).trans e1;refine⟨λb o q=>(sb.2 b λz=>by rw[z,Heap.hide_self] at q;cases q).trans (f1 b o (k b o q)),PySem.W.fresh_of_stays k f2,IU (PySem.W.funFrames_base k X) hl sb,V,vs,T,U,S,ne Q Z,P,Z,O,PySem.W.fresh_of_stays k N,M,ne L Y,Y,K⟩
end
section
variable {X:Cx} {E:XK} {N:List Str} {sc:acB}
def A9 (X:Cx) (E:XK) (Y:Cx) (e:È) (s':Æ):Prop:=∃Z W H s,Inv Y Z W H s/\ip X.prog X.w X.stack H s E e s'
def Vc (L:Lv X E) (π:List 2e7) (σ:St) (R:È->Æ->Prop) (cl:List (Str×Þ)) (C:Þ) (s2:Æ) (H2:Hp) (fp:List Þ) (D:Þ) (x:È) (s':Æ) (I2:Inv X π σ H2 s2) (fY:s2.heap.objs.size<=C) (f2:∀b∈fp,eZ X π H2 b)
  (z:A9 X E (cp X N sc cl C s2 H2 fp (X.pn++π)) x s'):notedBy 0e2 X.A (aeM sc cl C X.env) (λx ff=>aeQ 0e2 X.A X.xe ϋ R 8e8 C (.error x) ff) x s':=by
 obtain⟨MR,τ,H,s,Y,a,cls,S,H',B,m,rfl,os,bare,F,dm,q⟩:=z;have I:Inv X π σ H s:=I2.sU (ch:=fp) Y.os Y.base Y.az Y.bare λb Z=>by
  obtain⟨_,f1,_,f3,f4,f5⟩:=f2 b Z;exact⟨f3,f1,f4,f5⟩
 have P:C∉cm X.stack:=λz=>by
  rcases Ï.mp (I2.ki C z) with e|e
  ·exact absurd (Ë I2.lt fY) (by rw[e];exact ñ _)
  ·exact I2.tG fY e
 obtain⟨mC,O,_⟩:=Y.loc;obtain⟨U,es,ep,j,i,gG⟩:=O;have h:H C=ϋ:=Y.free;have g:=F.old C U j h P;have aC:a≠C:=λe=>by
  have:=F.fl.2.1;rw[e,g] at this;cases this
 have old:∀{b o},X.c8.heap.get? b=ϊ o->b≠C:=λ{b o} e z=>absurd (Ë (Í e) (Ü I2.sz fY)) (by rw[z];exact ñ _);have hidden:∀{b o},B.get? b=ϊ o->b≠C->(B.hide C).get? b=ϊ o:=λ{b o} e n=>(Heap.hide_ne B n).trans e;have f:=F.fl;rw[L.jU] at f P;show ß _ _ (aeD 6e2 X.env) _ _ s'
 refine ħ (qa (CZ _ _) (wpAny_looks_onW (E:=λ_ _=>False) (Q:=λ_ s2=>∃W,s2={ s' with heap:=W }/\Heap.HeldW B (X.env::X.outer) a cls S X.env.locals W/\s'.heap.UpToSlots W) (by rw[I.ok.frames,L.jU]) L.fr f λW x sl=>⟨W,rfl,x,sl⟩)) (λ_ s3 z=>?_) λ_ _ z=>z.1.elim
 obtain⟨⟨W,rfl,M,sl⟩,dk⟩:=z;have d:=M.1 C U g;have K:∀c,U.data≠.fields c:=λc z=>by rw[i] at z;cases z
 refine⟨mC,⟨U,es,ep,d,i,gG⟩,λh3 J afj _=>?_⟩
 have G:=dm.on dk (let ⟨o,e,_⟩:=M.there;⟨o,e⟩)
 have GS:Dm h3 a m:=λdx e=>let ⟨o,e1,e2⟩:=G dx e;⟨o,(J.2 a aC).trans e1,e2⟩
 refine Vb (pL.but (l:=X.env::X.outer) M d K P J) λh4 fl4 T4 y GU=>?_
 have GV:=GS.on GU (let ⟨o,e,_⟩:=T4.2.2.2.there;⟨o,e⟩)
 rw[L.xe]
 refine ħ (qa (J9 _ _) (Td (E:=λ_ _=>False) (Q:=λ_ s2=>∃V,s2={ s' with heap:=V }/\ac1 (B.hide C) X.outer a cls S V/\h4.UpToSlots V) (by rw[I.ok.frames,L.jU]) L.fr T4 λV x sl=>⟨V,rfl,x,sl⟩)) (λ_ s6 z=>?_) λ_ _ z=>z.1.elim
 obtain⟨⟨V,rfl,PK,v⟩,t⟩:=z
 refine⟨a,cls,S,H',B.hide C,m,rfl,os.trans I.os,bare,⟨PK,λb o e n Z=>?_,λb o e Z=>?_,λb o e Z=>?_,?_,λb o e n=>?_,λb xs e=>F.fz b xs (I.base.fz b xs e),λb o u e=>F.eR b o u (I.base.eR b o u e),λb ps e=>?_⟩,GV.on t (let ⟨o,e,_⟩:=PK.there;⟨o,e⟩),q⟩
 ·exact hidden (F.old b o (I.base.keep b o e n Z (by rw[L.ex];simp)) (I.base.free b o e n (by rw[L.ex];simp)) (I.sP L e Z)) (old e)
 ·obtain⟨r,T⟩:=I.base.there b o e (by rw[L.ex];simp)
  obtain⟨o2,e2⟩:=F.there b r T (I.sP L e Z);exact⟨o2,hidden e2 (old e)⟩
 ·obtain⟨sl0,T⟩:=I.base.slot b o e (I.ok.lF b Z) Z (by rw[L.ex];simp)
  obtain⟨sl1,e2⟩:=F.slot b _ T (vj L Z);obtain⟨_,o2,ho,p⟩:=F.fl.2.2.1.mem (vj L Z);rw[e2] at ho;cases ho;obtain⟨_,e3⟩:=sl b _ e2 p;obtain⟨_,e4⟩:=y b _ ((J.2 b (old e)).trans e3) p;obtain⟨k,e5⟩:=v b _ e4 p;exact⟨k,e5⟩
 ·exact F.az.but (F.free C U j h) ⟨Heap.hide_size _ _,λb n=>Heap.hide_ne B n⟩
 ·obtain⟨r,T⟩:=I.base.there b o e (by rw[L.ex];simp)
  exact F.free b r T (I.base.free b o e n (by rw[L.ex];simp))
 ·obtain⟨m1,e1⟩:=I.base.fB b ps e
  obtain⟨m2,e2⟩:=F.fB b _ e1;exact⟨m1++m2,by rw[e2,aeI]⟩
end
end L2
namespace DI
open PySem L2
def ua (f:afb D):List D->ae->Res 4e7
 | [],s=>ok [] s
 |d::Z,s=>aj (f [ϊ d] s) λx s=>aj (ua f Z s) λY s=>ok (x::Y) s
def qo (it:afb 4e7) (f:afb D):afb D:=λenv s=>aj (it env s) λZ s=>jg Z (aj (ua f Z s) λY s=>ok (.lst Y) s)
section
variable {X:Cx} {E:XK} {Ξ:Wd->bb->Prop} {src el:ĳ} {f:afb D} {K:İ} {it:afb (List D)}
def Te (σ:St) (H:Hp) (Q:VK):tE K Ξ (qo it f) σ H Q->nr (fk K Ξ it) 1 [] (gD K (gN 0)) (tT K cA eG) (tE K Ξ f) σ H Q:=by
 intro h;obtain⟨w,env,rfl,S,A,h⟩:=h;calc⟨w,env,rfl,S,A,(Out.aj h).mono λF V l k E J z=>?_⟩;obtain⟨hz,E⟩:=rY E;refine⟨λi m T u=>m=V.length-i/\i<=V.length/\T.length<=i/\∃X Y,X.H=u/\Le K F X/\aS K X/\aq K X Y T/\Out K Ξ X (ua f (V.drop i) X.aG) λW O=>∀U,aq K W (Y++O) U->∀p,W.H p=ϋ->Q 7e3 (upd W.H p (.lst U)),
  ⟨V.length,rfl,ą _,ą _,F,[],rfl,Le.refl _,k,rfl,(Out.aj E).mono λW O N M j U L p R=>j (W.grow p (.lst U)) (Fw.grow R).le (M.grow R) rfl 7e3 ⟨p,U,rfl,⟨(show ¬ W.Z p from kj M R),cO⟩,(Fw.grow R).le.all L⟩⟩,λi m T u q=>?_⟩
 obtain⟨rfl,hi,ha,X,Y,rfl,I,D,t,P⟩:=q;by_cases C:i<V.length
 ·right
  obtain⟨g,c⟩:=(z X I D i).1 _ (Ê C);rw[ń C] at P;refine⟨g,by omega,λB s=>B.length<=i+1/\∃X Y,X.H=s/\Le K F X/\aS K X/\aq K X Y B/\Out K Ξ X (ua f (V.drop (i+1)) X.aG) λW O=>∀U,aq K W (Y++O) U->∀p,W.H p=ϋ->Q 7e3 (upd W.H p (.lst U)),
   λB s q=>⟨V.length-(i+1),by omega,rfl,C,q.1,q.2⟩,λo x b a y=>?_⟩
  obtain⟨W,rfl,N,M,es,dv⟩:=c x b y;calc⟨W,_,V[i],[ϊ V[i]],rfl,M,(A.le (l.trans (I.trans N))).block 1 [] o a,dv,rfl,fun mG r=>?_⟩;rw[<- es] at P;calc⟨W,[ϊ V[i]],rfl,M,r,λw3 G S3 e3=>⟨w3,[ϊ V[i]],rfl,S3,r.le G,?_⟩⟩;rw[<- e3] at P;exact(Out.aj (P.from (N.trans G))).mono λw4 d n S4 h4 v xJ=>⟨by rw[à];simp;omega,w4,Y++[d],rfl,I.trans (N.trans (G.trans n)),S4,aq.append ((N.trans (G.trans n)).all t) (aq.one xJ),(Out.aj h4).mono λw5 O l5 S5 h5 U L p R=>ax S5 h5 U (by rw[ś] at L;exact L) p R⟩
 ·left
  have e:i=V.length:=by omega
  subst e;rw[aem] at P;exact⟨(z X I D _).2 3e0,by omega,λp R=>ax D P T (by rw[ć];exact t) p R⟩
def ab8 {x:Str} {px:Pos} {sc:acB} {ps:Pos} (L:Lv X E) (hi:PI X (.Name x px) src (fk X.K (iQ X.mg E) it))
  (hY:∀(cl:List (Str×Þ)) (C:Þ) (s:Æ) (H:Hp) (ex:List Þ) (pn:List (Þ×Obj)),Passes (ip X.prog X.w) ((cp X [x] sc cl C s H ex pn).eY (A9 X E (cp X [x] sc cl C s H ex pn))) E->PE ((cp X [x] sc cl C s H ex pn).eY (A9 X E (cp X [x] sc cl C s H ex pn))) el (tE X.K (iQ X.mg E) f))
  (hc:X.calm=ό:=by rfl) (S:zB sc X.env.scope.names X.N [x] 1 []=ό:=by kernel_rfl) (hx:(ae5 sc X.env).names.lookup x=ϊ .local:=by rfl) (hs:∀x,ă src X.env x=pure x:=by intro _;rfl) :
  PE X (.ListComp el [⟨.Name x px,src,[],0⟩] sc ps) (tE X.K (iQ X.mg E) (qo it f)) :=
 cB (UQ hc (qA S) (lZ (K:=X.K) 0).lQ hi (A9 X E) (λcl C s H ex pn=>⟨iA ∅ rfl (.inl hx) (.inr hx),fW,hY cl C s H ex pn λZ Y H s e V I h=>⟨Z,Y,H,s,I.l7,h⟩⟩) (Vc L) hs) fun σ H Q h=>BB (lZ (K:=X.K) 0 (nt:=1)).imp (λR W i h=>Ca R W i h) (Te σ H Q h)
end
end DI
namespace L2
open PySem
abbrev Pr:=SetTable.Probe
def iq (mask:Nat) (p:Pr):Pr:=if p.more > 0 then { p with j:=p.j+1,more:=p.more-1 } else { p with j:=(acG mask p.i p.perturb).1,more:=ğ mask (acG mask p.i p.perturb).1-(acG mask p.i p.perturb).1,i:=(acG mask p.i p.perturb).1,perturb:=(acG mask p.i p.perturb).2 }
def iu (mask i pb:Nat):Pr:={ j:=i,more:=ğ mask i-i,i,perturb:=pb,dummy:=ϋ }
def sq (mask:Nat) (p:Pr):Nat->Pr
 |0=>p
 |n+1=>iq mask (sq mask p n)
theorem vX (mask:Nat) (p:Pr) (n:Nat):∀m,sq mask p (n+m)=sq mask (sq mask p n) m
 |0=>rfl
 |m+1=>by show iq mask (sq mask p (n+m))=iq mask _;rw[vX mask p n m]
theorem DE (mask:Nat):∀(m:Nat) (p:Pr),p.more=m->sq mask p (m+1)=iu mask (acG mask p.i p.perturb).1 (acG mask p.i p.perturb).2\/p.dummy≠ϋ
 |0,p,h=>by
  by_cases Z:p.dummy=ϋ
  ·left
   show iq mask p=_;delta iq;rw[Ö ⋯,Z];rfl
  ·exact .inr Z
 |m+1,p,h=>by
  have e:sq mask p (m+1+1)=sq mask (iq mask p) (m+1):=by rw[show m+1+1=1+(m+1) by omega,vX];rfl
  have a:iq mask p={ p with j:=p.j+1,more:=m }:=by delta iq;rw[Ô ⋯,h];rfl
  rcases DE mask m (iq mask p) (by rw[a]) with q|q
  ·rw[a] at q e
   exact .inl (e.trans q)
  ·rw[a] at q
   exact .inr q
def Mt (mask i:Nat):ğ mask i-i<=9:=by delta ğ;split<;>omega
def tn (mask:Nat) (i pb:Nat):Nat->Nat×Nat
 |0=>(i,pb)
 |n+1=>acG mask (tn mask i pb n).1 (tn mask i pb n).2
theorem Lk (mask i pb:Nat):∀k,∃n,n<=10*k/\sq mask (iu mask i pb) n=iu mask (tn mask i pb k).1 (tn mask i pb k).2
 |0=>⟨0,afn _,rfl⟩
 |k+1=>by
  obtain⟨n,Z,e⟩:=Lk mask i pb k;have r:=Mt mask (tn mask i pb k).1;calc⟨n+((ğ mask (tn mask i pb k).1-(tn mask i pb k).1)+1),by omega,?_⟩;rw[vX,e]
  rcases DE mask _ (iu mask (tn mask i pb k).1 (tn mask i pb k).2) rfl with q|q
  ·exact q
  ·exact absurd rfl q
theorem NI (mask i pb:Nat):∀k,(tn mask i pb k).2=pb / 32 ^ k
 |0=>by simp[tn]
 |k+1=>by
  show (tn mask i pb k).2 / 32=_;rw[NI mask i pb k,Nat.div_div_eq_div_mul,Nat.pow_succ]
def kG (mask:Nat) (i:Nat):Nat->Nat
 |0=>i
 |n+1=>(kG mask i n*5+1) % (mask+1)
theorem C0 (mask i pb:Nat) (h:pb<2 ^ 64):∀k,(tn mask i pb (13+k)).1=kG mask (tn mask i pb 13).1 k
 |0=>rfl
 |k+1=>by
  show ((tn mask i pb (13+k)).1*5+1+(tn mask i pb (13+k)).2 / 32) % (mask+1)=(kG mask (tn mask i pb 13).1 k*5+1) % (mask+1);rw[C0 mask i pb h k,NI,Nat.pow_add,<- Nat.div_div_eq_div_mul];have z:pb / 32 ^ 13=0:=Nat.div_eq_of_lt (Ë h 0e0);rw[z];simp
def NJ (mask i pb:Nat) (hi:i<=mask):∀k,(tn mask i pb k).1<=mask
 |0=>hi
 |k+1=>by
  show (_:Nat) % (mask+1)<=mask;exact adf (aew _ (aeR _))
theorem yQ (m i a:Nat):∀n,kG m i (a+n)=kG m (kG m i a) n
 |0=>rfl
 |n+1=>by show (kG m i (a+n)*5+1) % (m+1)=_;rw[yQ m i a n];rfl
def Round (m:Nat):Prop:=(∀j,j<=m->∃a,a<=m/\kG m 0 a=j)/\kG m 0 (m+1)=0
def Cn {m:Nat} (h:∀j:Fin (m+1),∃a:Fin (m+1),kG m 0 a.val=j.val) (h0:kG m 0 (m+1)=0):Round m:=⟨λj Z=>by
 obtain⟨a,e⟩:=h ⟨j,by omega⟩;exact⟨a.val,by have:=a.isLt;omega,e⟩,h0⟩
def Za:Round 7:=Cn nofun nofun
def WV:Round 31:=Cn nofun nofun
def Vd:Round 127:=Cn nofun nofun
def Round.go {m:Nat} (R:Round m) {i j:Nat} (hi:i<=m) (hj:j<=m):∃n,n<=m/\kG m i n=j:=by
 obtain⟨a,Z,e⟩:=R.1 i hi;obtain⟨b,Y,e2⟩:=R.1 j hj;by_cases h:a<=b
 ·refine⟨b-a,by omega,?_⟩
  rw[<- e,<- yQ,show a+(b-a)=b by omega,e2]
 ·refine⟨b+(m+1)-a,by omega,?_⟩
  rw[<- e,<- yQ,show a+(b+(m+1)-a)=(m+1)+b by omega,yQ,R.2,e2]
def Ll (h:Int):ĕ h<2 ^ 64:=by
 delta ĕ;have:=ε h (show (0:Int)<2 ^ 64 by decide);have:=ac2 h (show (2 ^ 64:Int)≠0 by decide);omega
def aH (m:Nat) (h:Int) (n:Nat):Pr:=sq m (iu m (ĕ h % (m+1)) (ĕ h)) n
def WW {m:Nat} (R:Round m) (h:Int) {j:Nat} (hj:j<=m):∃n,n<10*Ė m/\(aH m h n).j=j:=by
 have hi:ĕ h % (m+1)<=m:=adf (aew _ (aeR _));obtain⟨k,Z,e⟩:=R.go (NJ m (ĕ h % (m+1)) (ĕ h) hi 13) hj;obtain⟨n,Y,e2⟩:=Lk m (ĕ h % (m+1)) (ĕ h) (13+k);calc⟨n,by delta Ė;omega,?_⟩;delta aH;rw[e2];show (tn m _ _ (13+k)).1=j;rw[C0 _ _ _ (Ll h),e]
theorem Jw (m:Nat) (h:Int):∀n,(aH m h n).dummy=ϋ
 |0=>rfl
 |n+1=>by
  show (iq m (aH m h n)).dummy=ϋ;delta iq
  split<;>exact Jw m h n
def kf (t:ő) (h:Int) (n:Nat):Prop:=t.slot (aH t.mask h n).j=.empty/\∀i,i<n->∃e,t.slot (aH t.mask h i).j=.live e
def RX {t:ő} (R:Round t.mask) (hd:t.dummies=#[]) {j:Nat} (hj:j<=t.mask) (hs:t.slot j=.empty) (h:Int):∃n,n<10*Ė t.mask/\kf t h n:=by
 obtain⟨n,Z,e⟩:=WW R h hj;have Y:∀j,t.slot j≠.dummy:=λj z=>by
  delta aes at z;erw[hd] at z;split at z
  ·cases z
  ·split at z
   ·rename_i q;simp[SetTable.has] at q
   ·cases z
 have ex:∃n,t.slot (aH t.mask h n).j=.empty:=⟨n,by rw[e];exact hs⟩;have:∀n,t.slot (aH t.mask h n).j=.empty->∃m,m<=n/\kf t h m:=by
  intro n
  induction n using Nat.strongRecOn with
  |_ n ih =>
   intro Z;by_cases q:∃i,i<n/\t.slot (aH t.mask h i).j=.empty
   ·obtain⟨i,hi,X⟩:=q
    obtain⟨m,W,f⟩:=ih i hi X;exact⟨m,by omega,f⟩
   ·refine⟨n,afn _,Z,λi hi=>?_⟩
    cases hs:t.slot (aH t.mask h i).j with
    |empty=>exact absurd ⟨i,hi,hs⟩ q
    |dummy=>exact absurd hs (Y _)
    |live e=>exact⟨e,rfl⟩
 obtain⟨m,W,f⟩:=this n (by rw[e];exact hs);exact⟨m,by omega,f⟩
open TS
theorem Kc (F:kf t h N):∀(fuel n:Nat),n<=N->N<n+fuel ->
  (∃i e,n<=i/\i<N/\t.slot (aH t.mask h i).j=.live e/\ha e=h/\(∀k,n<=k->k<i->∀e,t.slot (aH t.mask h k).j=.live e->ha e≠h)/\SetTable.probe.go t ha h fuel (aH t.mask h n)=ϊ (.candidate (aH t.mask h i).j e (aH t.mask h (i+1)))) \/
  ((∀k,n<=k->k<N->∀e,t.slot (aH t.mask h k).j=.live e->ha e≠h)/\SetTable.probe.go t ha h fuel (aH t.mask h n)=ϊ (.empty (aH t.mask h N).j ϋ))
 |0,n,U,T=>by omega
 |fuel+1,n,U,T=>by
  by_cases e:n=N
  ·subst e
   calc .inr ⟨λk a b=>by omega,?_⟩;delta SetTable.probe.go;rw[F.1,Jw]
  ·obtain⟨q,Z⟩:=F.2 n ⋯
   by_cases Y:ha q=h
   ·refine .inl ⟨n,q,afn _,by omega,Z,Y,λk a b=>by omega,?_⟩
    delta SetTable.probe.go;rw[Z];erw[Y,Ĝ,ÿ];rfl
   ·have W:SetTable.probe.go t ha h (fuel+1) (aH t.mask h n)=SetTable.probe.go t ha h fuel (aH t.mask h (n+1)):=by
     conv=>lhs;unfold SetTable.probe.go
     rw[Z];have:(ha q==h)=ύ:=by simpa using Y
     erw[this,Ç,õ];rfl
    have here:∀e,t.slot (aH t.mask h n).j=.live e->ha e≠h:=λe V=>by rw[Z] at V;cases V;exact Y
    rcases Kc F fuel (n+1) ⋯ ⋯ with ⟨i,e,a1,a2,S,R,Q,P⟩ | ⟨a1,a2⟩
    ·refine .inl ⟨i,e,by omega,a2,S,R,λk O X=>?_,W.trans P⟩
     by_cases z:k=n
     ·subst z;exact here
     ·exact Q k ⋯ X
    ·refine .inr ⟨λk O X=>?_,W.trans a2⟩
     by_cases z:k=n
     ·subst z;exact here
     ·exact a1 k ⋯ X
def BS {t:ő} (hr:hX t.place.toList) (hd:t.dummies=#[]) (j:Nat):(∃e,t.slot j=.live e/\t.place[e]?=ϊ j)↔j∈t.place.toList:=by
 refine⟨λ⟨e,_,q⟩=>?_,λY=>?_⟩
 ·exact Ē (by rw[ù];exact q)
 ·obtain⟨T,X,W⟩:=yw t.place j hr
  obtain⟨e,Z,q⟩:=Ų Y;have V:ú t.place j=e:=by
   have g:t.place.toList.getD e 0=j:=by rw[ď,Ê Z,Option.getD_some,q]
   by_cases z:e<ú t.place j
   ·have:=X e z;omega
   ·by_cases U:ú t.place j<e
    ·have S:=qg hr U Z
     have R:=W _ 3e0 ⋯;omega
    ·omega
  have g:t.place[e]?=ϊ j:=by rw[<- ù,Ê Z,q]
  calc⟨e,?_,g⟩;delta aes;erw[V,g,Ĝ,ÿ]
def BD {t:ő} (hr:hX t.place.toList) (hd:t.dummies=#[]) {j:Nat} (hj:j∉t.place.toList):t.slot j=.empty:=by
 cases q:t.slot j with
 |empty=>rfl
 |dummy =>
  delta aes at q;erw[hd] at q;split at q
  ·cases q
  ·split at q
   ·rename_i z;simp[SetTable.has] at z
   ·cases q
 |live e =>
  calc absurd ?_ hj;delta aes at q;simp only at q;split at q
  ·rename_i z
   have:t.place[ú t.place j]?=ϊ j:=by simpa using z
   exact Ē (by rw[ù];exact this)
  ·split at q<;>cases q
theorem BE:∀(k:Nat) (l:List Nat),(∀j,j<k->j∈l)->k<=l.length
 |0,_,_=>ą _
 |k+1,l,h=>by
  have ih:=BE k (l.filter λx=>ώ (x<k)) λj Z=>Ł.mpr ⟨h j ⋯,by simpa using Z⟩;have c:=List.length_eq_countP_add_countP (λx=>ώ (x<k)) (l:=l);rw[List.countP_eq_length_filter] at c;have p:0<l.countP (λx=>!ώ (x<k)):=List.countP_pos_iff.mpr ⟨k,h k ⋯,by simp⟩;have e:(l.countP λa=>decide ¬ώ (a<k)=ό)=l.countP (λx=>!ώ (x<k)):=by
   congr 1;funext a
   by_cases z:a<k<;>simp[z]
  rw[e] at c;omega
def Kd {α:Type} (xs:Array α) (p:Nat) (x:α):(χ xs p x).toList=xs.toList.take p++x::xs.toList.drop p:=by
 delta χ;simp[aeE,ac9];exact ų ∅
structure Tp (t:ő) (hs:List Int):Prop where
 size:t.place.toList.length=hs.length
 rise:hX t.place.toList
 le:∀j∈t.place.toList,j<=t.mask
 dm:t.dummies=#[]
 room:hs.length<=t.mask
 round:Round t.mask
 way:∀(e:Nat) (h:Int),hs[e]?=ϊ h->∃n,n<10*Ė t.mask/\t.place.toList[e]?=ϊ (aH t.mask h n).j/\∀i,i<n->(aH t.mask h i).j∈t.place.toList
def Tp.free (T:Tp t hs) (h:Int):∃n,n<10*Ė t.mask/\kf t h n:=by
 have:∃j,j<=t.mask/\j∉t.place.toList:=by
  calc Ģ λq=>?_;have:=BE (t.mask+1) t.place.toList λj Z=>Ģ λz=>q ⟨j,by omega,z⟩;have s:=T.size;have r:=T.room;omega
 obtain⟨j,Z,Y⟩:=this;exact RX T.round T.dm Z (BD T.rise T.dm Y) h
def kf.not (T:Tp t hs) (F:kf t h n):(aH t.mask h n).j∉t.place.toList:=λz=>by
 obtain⟨e,q,_⟩:=(BS T.rise T.dm _).mpr z;rw[F.1] at q;cases q
def kf.ahead (T:Tp t hs) (F:kf t h n) (hi:i<n):(aH t.mask h i).j∈t.place.toList:=by
 obtain⟨e,q⟩:=F.2 i hi;calc Ģ λz=>?_;rw[BD T.rise T.dm z] at q;cases q
def Tp.met (T:Tp t hs) (F:kf t h N) (he:hs[e]?=ϊ h):∃i,i<N/\t.slot (aH t.mask h i).j=.live e:=by
 obtain⟨n,Q,Z,W⟩:=T.way e h he;have m:(aH t.mask h n).j∈t.place.toList:=Ē Z;obtain⟨Y,V,X⟩:=(BS T.rise T.dm _).mpr m;have U:Y=e:=by
  rw[<- ù] at X;have S:=(Ñ.mp X).1;have R:=(Ñ.mp Z).1;have g1:t.place.toList.getD Y 0=(aH t.mask h n).j:=by rw[ď,X];rfl
  have g2:t.place.toList.getD e 0=(aH t.mask h n).j:=by rw[ď,Z];rfl
  rcases Nat.lt_trichotomy Y e with z|z|z
  ·have:=qg T.rise z R;omega
  ·exact z
  ·have:=qg T.rise z S;omega
 subst U;refine⟨n,?_,V⟩
 rcases Nat.lt_trichotomy n N with z|z|z
 ·exact z
 ·subst z;exact absurd m (F.not T)
 ·exact absurd (W N z) (F.not T)
theorem Tp.put (T:Tp t hs) (hN:N<10*Ė t.mask) (F:kf t h N) (M0:hs.length+1<=t.mask) (hj:(aH t.mask h N).j<=t.mask) :
  Tp (t.put (aH t.mask h N).j).1 (hs.take (ú t.place (aH t.mask h N).j)++h::hs.drop (ú t.place (aH t.mask h N).j)):=by
 have I:=F.not T;have W:(t.put (aH t.mask h N).j).1.place.toList=t.place.toList.take (ú t.place (aH t.mask h N).j)++(aH t.mask h N).j::t.place.toList.drop (ú t.place (aH t.mask h N).j):=by
  delta SetTable.put;exact Kd _ _ _
 have S:(t.put (aH t.mask h N).j).1.mask=t.mask:=rfl;obtain⟨R,_,_⟩:=yw t.place (aH t.mask h N).j T.rise;generalize H:ú t.place (aH t.mask h N).j=p at R W |-;have sz:=T.size;have O:p<=hs.length:=by omega
 have mem:∀j,j∈(t.put (aH t.mask h N).j).1.place.toList↔j=(aH t.mask h N).j\/j∈t.place.toList:=λj=>by
  rw[W,Ć,Ï];constructor
  ·rintro (z|z|z)
   ·exact .inr (adi z)
   ·exact .inl z
   ·exact .inr (adj z)
  ·rintro (z|z)
   ·exact .inr (.inl z)
   ·rw[<- ac3 p t.place.toList,Ć] at z
    rcases z with z|z
    ·exact .inl z
    ·exact .inr (.inr z)
 have idx:∀{α:Type} (l:List α) (x:α) (e:Nat) (y:α),p<=l.length->(l.take p++x::l.drop p)[e]?=ϊ y->(e=p/\y=x)\/∃V:Nat,l[V]?=ϊ y/\∀{β:Type} (Z:List β) (Y:β),p<=Z.length->(Z.take p++Y::Z.drop p)[e]?=Z[V]?:=by
  intro α l x e y Q X
  rcases Nat.lt_trichotomy e p with z|z|z
  ·refine .inr ⟨e,?_,λ{β} Z Y U=>?_⟩
   ·rw[â (by rw[ĉ];omega),adC z] at X;exact X
   ·rw[â (by rw[ĉ];omega),adC z]
  ·subst z
   rw[í (by rw[ĉ];omega),ĉ,Nat.min_eq_left Q,Nat.sub_self] at X;exact .inl ⟨rfl,(afo X).symm⟩
  ·have go:∀{β:Type} (Z:List β) (Y:β),p<=Z.length->(Z.take p++Y::Z.drop p)[e]?=Z[e-1]?:=λ{β} Z Y U=>by
    rw[í (by rw[ĉ];omega),ĉ,Nat.min_eq_left U,show e-p=(e-1-p)+1 by omega,List.getElem?_cons_succ,List.getElem?_drop,show p+(e-1-p)=e-1 by omega]
   exact .inr ⟨e-1,by rw[<- go l x Q];exact X,λZ Y U=>go Z Y U⟩
 refine⟨?_,?_,λj M=>?_,?_,?_,by rw[S];exact T.round,λe P X=>?_⟩
 ·rw[W]
  erw[à,æ,ĉ,Ŕ];omega
 ·have:=JW (j:=(aH t.mask h N).j) T.rise (BL (.inl F.1))
  exact this
 ·rcases(mem j).mp M with z|z
  ·rw[z];exact hj
  ·exact T.le j z
 ·delta SetTable.put
  erw[T.dm];simp[SetTable.has]
 ·rw[S]
  erw[à,æ,ĉ,Ŕ];omega
 ·rw[S]
  rcases idx hs h e P O X with ⟨rfl,rfl⟩ | ⟨V,L,K⟩
  ·refine⟨N,hN,?_,λi hi=>(mem _).mpr (.inr (F.ahead T hi))⟩
   rw[W,í (by rw[ĉ];omega),ĉ,Nat.min_eq_left R,Nat.sub_self];rfl
  ·obtain⟨n,a1,a2,J⟩:=T.way V P L
   calc⟨n,a1,?_,λi hi=>(mem _).mpr (.inr (J i hi))⟩;rw[W,K t.place.toList (aH t.mask h N).j R];exact a2
theorem NK (m:Nat):∀(k:Nat) (p:Pr),k<=p.more->(sq m p k).j=p.j+k/\(sq m p k).more=p.more-k
 |0,p,_=>1e4
 |k+1,p,h=>by
  obtain⟨a,b⟩:=NK m k p ⋯;show (iq m (sq m p k)).j=_/\(iq m (sq m p k)).more=_;delta iq;rw[Ô ⋯];exact⟨by show (sq m p k).j+1=_;omega,by show (sq m p k).more-1=_;omega⟩
theorem Lm (i0 pb:Nat):∀(fuel k n:Nat),n<=10*k->sq m (iu m i0 pb) n=iu m (tn m i0 pb k).1 (tn m i0 pb k).2->(∀i,i<n->(owner.getD (sq m (iu m i0 pb) i).j (ϊ 0)).isNone=ύ) ->
  ∀j,SetTable.layClean.free m owner fuel (tn m i0 pb k).1 (tn m i0 pb k).2=ϊ j->∃N,N<10*(k+fuel)/\(sq m (iu m i0 pb) N).j=j/\(owner.getD j (ϊ 0)).isNone=ό/\∀i,i<N->(owner.getD (sq m (iu m i0 pb) i).j (ϊ 0)).isNone=ύ
 |0,k,n,_,_,_,j,h=>by delta SetTable.layClean.free at h;cases h
 |fuel+1,k,n,L,W,V,j,h=>by
  have K:=Mt m (tn m i0 pb k).1;delta SetTable.layClean.free at h;have Y:∀q,q<=ğ m (tn m i0 pb k).1-(tn m i0 pb k).1->(sq m (iu m i0 pb) (n+q)).j=(tn m i0 pb k).1+q:=λq U=>by
   rw[vX,W];exact(NK m q (iu m (tn m i0 pb k).1 (tn m i0 pb k).2) U).1
  have le:(tn m i0 pb k).1<=ğ m (tn m i0 pb k).1:=by delta ğ;split<;>omega
  cases Z:(ö (ğ m (tn m i0 pb k).1+1-(tn m i0 pb k).1)).find? λq=>(owner.getD ((tn m i0 pb k).1+q) (ϊ 0)).isNone with
  |some q =>
   rw[Z] at h;cases h;obtain⟨T,as,bs,X,S⟩:=List.find?_eq_some_iff_append.mp Z;have U:q<ğ m (tn m i0 pb k).1+1-(tn m i0 pb k).1:=by
    have:=List.mem_of_find?_eq_some Z;simpa using this
   have R:∀r,r<q->(owner.getD ((tn m i0 pb k).1+r) (ϊ 0)).isNone=ύ:=λr J=>by
    have:r∈as:=by
     have e:=ĵ (λl=>l[r]?) X;have e2:=ĵ (λl=>l[as.length]?) X;erw[í 3e0,Nat.sub_self,List.getElem?_cons_zero] at e2;rw[acD (by have:=ĵ List.length X;simp at this;omega)] at e2;have eq:as.length=q:=afo e2;erw[â (show r<as.length by omega)] at e;rw[acD ⋯] at e;exact Ē e.symm
    have:=S r this;simpa using this
   calc⟨n+q,by omega,Y q ⋯,T,λi hi=>?_⟩;by_cases z:i<n
   ·exact V i z
   ·have:=R (i-n) ⋯
    rw[<- Y (i-n) ⋯,show n+(i-n)=i by omega] at this;exact this
  |none =>
   rw[Z] at h;have Q:=List.find?_eq_none.mp Z;have P:sq m (iu m i0 pb) (n+((ğ m (tn m i0 pb k).1-(tn m i0 pb k).1)+1))=iu m (tn m i0 pb (k+1)).1 (tn m i0 pb (k+1)).2:=by
    rw[vX,W]
    rcases DE m _ (iu m (tn m i0 pb k).1 (tn m i0 pb k).2) rfl with q|q
    ·exact q
    ·exact absurd rfl q
   suffices O:∀i,i<n+((ğ m (tn m i0 pb k).1-(tn m i0 pb k).1)+1)->(owner.getD (sq m (iu m i0 pb) i).j (ϊ 0)).isNone=ύ by
    obtain⟨N,I,M⟩:=Lm i0 pb fuel (k+1) _ ⋯ P O j h;exact⟨N,by omega,M⟩
   intro i hi;by_cases z:i<n
   ·exact V i z
   ·have:=Q (i-n) (by simp;omega)
    rw[<- Y (i-n) ⋯,show n+(i-n)=i by omega] at this
    cases q:(owner.getD (sq m (iu m i0 pb) i).j (ϊ 0)).isNone with
    |false=>rfl
    |true=>exact absurd q this
theorem Jx (i0 pb:Nat):∀(fuel k:Nat),SetTable.layClean.free m owner fuel (tn m i0 pb k).1 (tn m i0 pb k).2=ϋ->∀q,q<fuel->(owner.getD (tn m i0 pb (k+q)).1 (ϊ 0)).isNone=ύ
 |0,_,_,q,Y=>by omega
 |fuel+1,k,h,q,Y=>by
  delta SetTable.layClean.free at h
  have le:(tn m i0 pb k).1<=ğ m (tn m i0 pb k).1:=by delta ğ;split<;>omega
  cases Z:(ö (ğ m (tn m i0 pb k).1+1-(tn m i0 pb k).1)).find? λq=>(owner.getD ((tn m i0 pb k).1+q) (ϊ 0)).isNone with
  |some q=>rw[Z] at h;cases h
  |none =>
   rw[Z] at h
   cases q with
   |zero =>
    have:=List.find?_eq_none.mp Z 0 (by simp;omega)
    cases z:(owner.getD (tn m i0 pb (k+0)).1 (ϊ 0)).isNone with
    |false=>rfl
    |true=>exact absurd z this
   |succ q =>
    have:=Jx i0 pb fuel (k+1) h q ⋯;rw[show k+(q+1)=k+1+q by omega];exact this
def WX (R:Round m) (hj:j0<=m) (h0:(owner.getD j0 (ϊ 0)).isNone=ό) (h:Int):∃N,N<10*Ė m/\SetTable.layClean.free m owner (Ė m) (ĕ h % (m+1)) (ĕ h)=ϊ (aH m h N).j/\(owner.getD (aH m h N).j (ϊ 0)).isNone=ό/\∀i,i<N->(owner.getD (aH m h i).j (ϊ 0)).isNone=ύ:=by
 cases Z:SetTable.layClean.free m owner (Ė m) (ĕ h % (m+1)) (ĕ h) with
 |none =>
  have hi:ĕ h % (m+1)<=m:=adf (aew _ (aeR _));obtain⟨k,W,e⟩:=R.go (NJ m (ĕ h % (m+1)) (ĕ h) hi 13) hj;have:=Jx (owner:=owner) (ĕ h % (m+1)) (ĕ h) (Ė m) 0 Z (13+k) (by delta Ė;omega);rw[Nat.zero_add,C0 _ _ _ (Ll h),e,h0] at this;cases this
 |some j =>
  obtain⟨N,a1,a2,Y,X⟩:=Lm (owner:=owner) (ĕ h % (m+1)) (ĕ h) (Ė m) 0 0 3e0 rfl (λi hi=>by omega) j Z;refine⟨N,by omega,?_,?_,X⟩
  ·rw[show (aH m h N).j=j from a2]
  ·rw[show (aH m h N).j=j from a2];exact Y
structure Ow (m:Nat) (hs:List Int) (owner:Array (Option Nat)):Prop where
 size:owner.size=m+1
 slot:∀(e:Nat) (h:Int),hs[e]?=ϊ h->∃N,N<10*Ė m/\owner[(aH m h N).j]?=ϊ (ϊ e)/\∀i,i<N->(owner.getD (aH m h i).j (ϊ 0)).isNone=ύ
 own:∀(j e:Nat),owner[j]?=ϊ (ϊ e)->e<hs.length
 one:∀(j j' e:Nat),owner[j]?=ϊ (ϊ e)->owner[j']?=ϊ (ϊ e)->j=j'
def Ow.nil (m:Nat):Ow m [] (Array.replicate (m+1) ϋ):=⟨by simp,λe h z=>by simp at z,λj e z=>by
 rw[Array.getElem?_replicate] at z
 split at z<;>simp at z,λj Z e z=>by
 rw[Array.getElem?_replicate] at z
 split at z<;>simp at z⟩
def getD_none {owner:Array (Option Nat)} {j:Nat} (h:(owner.getD j (ϊ 0)).isNone=ό):owner[j]?=ϊ ϋ:=by
 rw[Ę] at h
 cases q:owner[j]? with
 |none=>rw[q] at h;cases h
 |some o =>
  rw[q] at h
  cases o with
  |none=>rfl
  |some e=>cases h
def Ow.snoc {m:Nat} {hs:List Int} {owner:Array (Option Nat)} (O:Ow m hs owner) {h:Int} {N:Nat} (hN:N<10*Ė m) (h0:(owner.getD (aH m h N).j (ϊ 0)).isNone=ό) (ha:∀i,i<N->(owner.getD (aH m h i).j (ϊ 0)).isNone=ύ) :
  Ow m (hs++[h]) (owner.setIfInBounds (aH m h N).j (ϊ hs.length)):=by
 have W:=getD_none h0;have X:(aH m h N).j<owner.size:=(Ħ.mp W).1
 have get:∀j,(owner.setIfInBounds (aH m h N).j (ϊ hs.length))[j]?=if j=(aH m h N).j then ϊ (ϊ hs.length) else owner[j]?:=λj=>by
  rw[Array.getElem?_setIfInBounds];by_cases z:(aH m h N).j=j
  ·subst z;simp[X]
  ·rw[Ö z,Ö (ŵ z)]
 have keep:∀j,(owner.getD j (ϊ 0)).isNone=ύ->((owner.setIfInBounds (aH m h N).j (ϊ hs.length)).getD j (ϊ 0)).isNone=ύ:=λj X=>by
  rw[Ę,get];split
  ·rfl
  ·rw[<- Ę];exact X
 refine⟨by simp[O.size],λe U Z=>?_,λj e z=>?_,λj V e z Y=>?_⟩
 ·by_cases q:e<hs.length
  ·rw[â q] at Z
   obtain⟨n,a1,a2,T⟩:=O.slot e U Z;calc⟨n,a1,?_,λi hi=>keep _ (T i hi)⟩;rw[get,Ö (λz=>by rw[z,W] at a2;cases a2)];exact a2
  ·have:e=hs.length:=by have:=(Ñ.mp Z).1;simp at this;omega
   subst this;rw[í 3e0,Nat.sub_self] at Z;cases Z;exact⟨N,hN,by rw[get,Ô rfl],λi hi=>keep _ (ha i hi)⟩
 ·rw[get] at z
  rw[à];split at z
  ·cases z;simp
  ·have:=O.own j e z;omega
 ·rw[get] at z Y
  split at z<;>split at Y
  ·rename_i a b;rw[a,b]
  ·cases z;have:=O.own V _ Y;omega
  ·cases Y;have:=O.own j _ z;omega
  ·exact O.one j V e z Y
def Ow.free (O:Ow m hs owner) (hl:hs.length<=m):∃j,j<=m/\(owner.getD j (ϊ 0)).isNone=ό:=by
 calc Ģ λq=>?_;have all:∀j,j<=m->∃e,owner[j]?=ϊ (ϊ e):=λj Y=>by
  have l:j<owner.size:=by rw[O.size];omega
  cases z:owner[j]? with
  |none=>rw[Array.getElem?_eq_none_iff] at z;omega
  |some o =>
   cases o with
   |some e=>exact⟨e,rfl⟩
   |none=>exact absurd ⟨j,Y,by rw[Ę,z];rfl⟩ q
 have:=BE (m+1) ((ö hs.length).filterMap λe=>owner.toList.findIdx? λo=>o==ϊ e) λj Y=>by
  obtain⟨e,Z⟩:=all j ⋯;calc Š.mpr ⟨e,ø.mpr (O.own j e Z),?_⟩;have W:(ϊ e)∈owner.toList:=Ē (by rw[ù];exact Z)
  cases f:owner.toList.findIdx? λo=>o==ϊ e with
  |none =>
   have:=List.findIdx?_eq_none_iff.mp f _ W;simp at this
  |some X =>
   obtain⟨V,U,_⟩:=List.findIdx?_eq_some_iff_getElem.mp f;have e1:owner[X]?=ϊ (ϊ e):=by rw[<- ù,Ê V];simpa using U
   rw[O.one X j e e1 Z]
 have le:((ö hs.length).filterMap λe=>owner.toList.findIdx? λo=>o==ϊ e).length<=hs.length:=by
  have:=List.length_filterMap_le (λe=>owner.toList.findIdx? λo=>o==ϊ e) (ö hs.length);rw[adb] at this;exact this
 omega
def Az (m:Nat) (acc:Option (Array (Option Nat)×Nat)) (h:Int):Option (Array (Option Nat)×Nat):=do
 let (owner,k) <- acc
 let j <- SetTable.layClean.free m owner (Ė m) (ĕ h % (m+1)) (ĕ h)
 pure (owner.setIfInBounds j (ϊ k),k+1)
theorem Ln (R:Round m):∀(more hs:List Int) (owner:Array (Option Nat)),Ow m hs owner->hs.length+more.length<=m->∃zI,more.foldl (Az m) (ϊ (owner,hs.length))=ϊ (zI,(hs++more).length)/\Ow m (hs++more) zI
 | [],hs,owner,O,_=>⟨owner,by rw[ć];rfl,by rw[ć];exact O⟩
 |h::more,hs,owner,O,Y=>by
  rw[æ] at Y;obtain⟨S,X,W⟩:=O.free ⋯;obtain⟨N,a1,a2,V,U⟩:=WX R X W h;have T:=O.snoc a1 V U;obtain⟨zI,e,Z⟩:=Ln R more (hs++[h]) _ T (by rw[à,æ,ĥ];omega);rw[ś] at e Z;calc⟨zI,?_,Z⟩;rw[acX];have s:Az m (ϊ (owner,hs.length)) h=ϊ (owner.setIfInBounds (aH m h N).j (ϊ hs.length),(hs++[h]).length):=by
   delta Az;erw[Option.bind_eq_bind,Option.bind_some,a2];simp
  rw[s];exact e
def Ve (R:Round m) (hl:hs.length<=m):∃owner,ae1 m hs.toArray=ϊ owner/\Ow m hs owner:=by
 obtain⟨owner,e,O⟩:=Ln R hs [] _ (Ow.nil m) (by simpa using hl);calc⟨owner,?_,O⟩;delta ae1;rw[List.foldl_toArray];show (hs.foldl (Az m) (ϊ (Array.replicate (m+1) ϋ,0))).map (·.1)=_;rw[show (0:Nat)=([]:List Int).length from rfl,e];rfl
def Mu (h:i<=m):i+(ğ m i-i)<=m:=by delta ğ;split<;>omega
theorem DF (m:Nat) (h:Int):∀n,(aH m h n).j+(aH m h n).more<=m
 |0=>Mu (adf (aew _ (aeR _)))
 |n+1=>by
  have ih:=DF m h n;show (iq m (aH m h n)).j+(iq m (aH m h n)).more<=m;delta iq;split
  ·show (aH m h n).j+1+((aH m h n).more-1)<=m
   omega
  ·exact Mu (adf (aew _ (aeR _)))
def iK (m:Nat) (owner:Array (Option Nat)):List (Nat×Nat):=(ö (m+1)).filterMap λj=>(owner.getD j ϋ).map (j,·)
def n6 (hs:owner.size=m+1):p∈iK m owner↔owner[p.1]?=ϊ (ϊ p.2):=by
 delta iK;rw[Š];constructor
 ·rintro ⟨j,_,e⟩
  obtain⟨o,q,rfl⟩:=Ŗ.mp e;rw[Ę] at q
  cases z:owner[j]? with
  |none=>rw[z] at q;cases q
  |some Z =>
   rw[z] at q;have Y:Z=ϊ o:=q;subst Y;rfl
 ·intro e
  calc⟨p.1,ø.mpr (by have:=(Ħ.mp e).1;omega),?_⟩;rw[Ę,e];rfl
def Jy (m:Nat) (owner:Array (Option Nat)):hX ((iK m owner).map (·.1)):=by
 delta iK;rw[adN];have:∀l:List Nat,hX l->hX (l.filterMap λj=>((owner.getD j ϋ).map (j,·)).map (·.1)):=λl h=>by
  calc List.Pairwise.filterMap _ (λa X h b Z W Y=>?_) h;erw[Option.map_map,Ŗ] at Z Y;obtain⟨_,_,rfl⟩:=Z;obtain⟨_,_,rfl⟩:=Y;exact h
 exact this _ ad2
def Tf (O:Ow m hs owner):((iK m owner).map (·.2)).Perm (ö hs.length):=by
 refine(List.perm_ext_iff_of_nodup ?_ List.nodup_range).mpr λe=>?_
 ·have:(iK m owner).Pairwise λp q=>p.2≠q.2:=by
   have r:=Jy m owner;have r:=List.pairwise_map.mp r;calc List.Pairwise.imp_of_mem (λ{p q} Z Y h z=>?_) r;have a:=(n6 O.size).mp Z;have b:=(n6 O.size).mp Y;rw[z] at a;have:=O.one _ _ _ a b;omega
  exact List.pairwise_map.mpr this
 ·rw[å,ø]
  constructor
  ·rintro ⟨p,Z,rfl⟩
   exact O.own _ _ ((n6 O.size).mp Z)
  ·intro h
   obtain⟨N,_,a,_⟩:=O.slot e _ (Ê h);exact⟨(_,e),(n6 O.size).mpr a,rfl⟩
def WY {m finger moves:Nat} {led plain:Bool} (R:Round m) {hs:List Int} (hl:hs.length<=m):∃(t:ő) (order:List Nat),SetTable.laid m finger moves led plain hs.toArray=ϊ (t,order.toArray)/\order.Perm (ö hs.length)/\t.mask=m/\t.led=led/\t.plain=plain/\t.moves=moves/\Tp t (order.filterMap (hs[·]?)):=by
 obtain⟨owner,e,O⟩:=Ve R hl;have pm:=Tf O;refine⟨{ mask:=m,place:=((iK m owner).map (·.1)).toArray,dummies:=#[],finger,led,moves,plain },(iK m owner).map (·.2),?_,pm,rfl,rfl,rfl,rfl,?_⟩
 ·delta SetTable.laid
  rw[e];rfl
 have all:∀p∈iK m owner,∃h,hs[p.2]?=ϊ h:=λp Z=>⟨_,Ê (O.own _ _ ((n6 O.size).mp Z))⟩;have X:((iK m owner).map (·.2)).filterMap (hs[·]?)=(iK m owner).map λp=>hs.getD p.2 0:=by
  rw[List.filterMap_map];generalize iK m owner=l at all
  induction l with
  |nil=>rfl
  |cons p l ih =>
   obtain⟨h,q⟩:=all p Õ;rw[Ů,ç];rw[<- ih λx W=>all x (Ì _ W)];erw[Function.comp,q,ď,Option.getD_some]
 rw[X];refine⟨by simp,by simpa using Jy m owner,λj Y=>?_,rfl,?_,R,λi h hi=>?_⟩
 ·have Y:j∈(iK m owner).map (·.1):=by simpa using Y
  obtain⟨p,Z,rfl⟩:=å.mp Y;have:=(Ħ.mp ((n6 O.size).mp Z)).1;have:=O.size;show p.1<=m;omega
 ·rw[Ä]
  have:=pm.length_eq;rw[Ä,adb] at this;show (iK m owner).length<=m;omega
 ·rw[é] at hi
  obtain⟨p,Z,rfl⟩:=Ŗ.mp hi;have a:=(n6 O.size).mp (Ē Z);obtain⟨h,q⟩:=all p (Ē Z);have V:hs.getD p.2 0=h:=by rw[ď,q];rfl
  rw[V];obtain⟨N,U,T,S⟩:=O.slot p.2 h q;have Q:p.1=(aH m h N).j:=O.one _ _ _ a T;refine⟨N,U,?_,λi hi=>?_⟩
  ·show ((iK m owner).map (·.1))[_]?=_
   rw[é,Z,<- Q];rfl
  ·show (aH m h i).j∈(iK m owner).map (·.1)
   have b:=S i hi
   cases z:owner[(aH m h i).j]? with
   |none =>
    rw[Array.getElem?_eq_none_iff] at z;have:=DF m h i;have:=O.size;omega
   |some o =>
    cases o with
    |none=>rw[Ę,z] at b;cases b
    |some e=>exact å.mpr ⟨((aH m h i).j,e),(n6 O.size).mpr z,rfl⟩
end L2
namespace TK
open PySem PySem.W PyProof.Rows DI L2 TS
section
variable {prog:ê} {w:Ď}
def Ke:∀(n:Nat) (k:D),dep k<=n->∀{A:ó} {s:Æ} {v:È} {E:È->Æ->Prop} {Q:Bool->Æ->Prop},KA s.heap k v->Q ύ s->ß 2e3 A (ofAClassStatement n v) Q E s:=by
 intro n
 induction n with
 |zero =>
  intro k Z A s v E Q q h
  cases k with
  |int i=>obtain⟨t,rfl⟩:=q;exact Â h
  |str i=>obtain⟨t,rfl⟩:=q;exact Â h
  |tup W=>simp[dep] at Z
  |_=>cases q
 |succ n ih =>
  intro k Z A s v E Q q h
  cases k with
  |int i=>obtain⟨t,rfl⟩:=q;exact Â h
  |str i=>obtain⟨t,rfl⟩:=q;exact Â h
  |tup W =>
   erw[dep] at Z;erw[KA] at q;obtain⟨a,o,items,m,rfl,V,S,R,hi⟩:=q;have P:s.TypeIs 6e2 "tuple":=⟨o,V,S⟩;delta ofAClassStatement;calc À (adE P ?_);show ß _ _ (pure ό >>= _) _ _ s;calc À (Â ?_);erw[ò,Ç,õ];calc À (ķ V R ?_);dsimp only;calc À ?_;show ß _ _ (forIn items _ _) _ _ s;rw[<- adT];refine acK _ (λrest r Y=>r.1=ϋ/\Y=s/\∃left,eI s.heap left rest/\∀k∈left,dep k<=n) _ ?_ ?_ _ _ ⟨rfl,rfl,W,hi,λk O=>by have:=CU O;omega⟩
   ·intro v rest r Y zzz;obtain⟨X,rfl,left,U,T⟩:=zzz
    cases left with
    |nil=>cases U
    |cons k left =>
     obtain⟨K,J,ex,N,M⟩:=U;cases ex;calc À (ih k (T k Õ) N ?_);erw[Ç,õ];exact Â ⟨rfl,rfl,left,M,λu L=>T u (Ì _ L)⟩
   ·rintro ⟨I,H⟩ Y ⟨X,rfl,_⟩
    simp only at X;subst X;exact Â h
  |_=>cases q
def Vf:∀(n:Nat) (k:D) {A:ó} {s:Æ} {v:È} {E:È->Æ->Prop} {Q:Bool->Æ->Prop},KA s.heap k v->(∀b,Q b s)->ß 2e3 A (hashByValue n v) Q E s:=by
 intro n
 induction n with
 |zero =>
  intro k A s v E Q q h
  cases k with
  |int i=>obtain⟨t,rfl⟩:=q;exact Â (h _)
  |str i=>obtain⟨t,rfl⟩:=q;exact Â (h _)
  |tup X =>
   erw[KA] at q;obtain⟨a,o,items,m,rfl,_⟩:=q;exact Â (h _)
  |_=>cases q
 |succ n ih =>
  intro k A s v E Q q h
  cases k with
  |int i=>obtain⟨t,rfl⟩:=q;exact Â (h _)
  |str i=>obtain⟨t,rfl⟩:=q;exact Â (h _)
  |tup X =>
   erw[KA] at q;obtain⟨a,o,items,m,rfl,W,U,T,hi⟩:=q;have S:s.TypeIs 6e2 "tuple":=⟨o,W,U⟩;delta hashByValue;calc À (acZ S ade.lookup ?_);dsimp only;calc À (ķ W T ?_);calc À ?_;show ß _ _ (forIn items _ _) _ _ s;rw[<- adT];refine acK _ (λrest r Z=>r.1=ϋ/\Z=s/\∃left,eI s.heap left rest) _ ?_ ?_ _ _ ⟨rfl,rfl,X,hi⟩
   ·intro v rest r Z zzz;obtain⟨Y,rfl,left,V⟩:=zzz
    cases left with
    |nil=>cases V
    |cons k left =>
     obtain⟨O,N,ex,R,P⟩:=V;cases ex;refine À (ih k R λb=>?_)
     cases b with
     |true=>exact Â ⟨rfl,rfl,left,P⟩
     |false=>exact Â (Â (h _))
   ·rintro ⟨M,L⟩ Z ⟨Y,rfl,_⟩
    simp only at Y;subst Y;exact Â (h _)
  |_=>cases q
def WZ (hx:gY s.heap x a) (hy:∀y∈ys,∃ks b,y=.ref b/\gY s.heap ks b) (h:Q ύ s):ß 2e3 A (searchCouldBeSeen 6e2 ys) Q E s:=by
 delta searchCouldBeSeen;calc À ?_;refine acK _ (λrest r Z=>r.1=ϋ/\Z=s/\∀y∈rest,∃ks b,y=.ref b/\gY s.heap ks b) _ ?_ ?_ _ _ ⟨rfl,rfl,hy⟩
 ·rintro v rest r Z ⟨Y,rfl,W⟩
  obtain⟨ks,b,rfl,X⟩:=W v Õ;have V:=λy hy=>W y (Ì _ hy);have U:dep (.tup x)<=8:=by erw[dep];have:=hx.2.1;omega
  have T:dep (.tup ks)<=8:=by erw[dep];have:=X.2.1;omega
  dsimp only;split
  ·exact Â ⟨rfl,rfl,V⟩
  ·refine À (J6 8 _ U hx.2.2 ?_)
   erw[ò,Ç,õ];calc À (J6 8 _ T X.2.2 ?_);erw[ò,Ç,õ];calc À (Ke 8 _ U hx.2.2 ?_);erw[Ç,õ];calc À (Ke 8 _ T X.2.2 ?_);erw[Ç,õ];exact Â ⟨rfl,rfl,V⟩
 ·rintro ⟨S,R⟩ Z ⟨Y,rfl,_⟩
  simp only at Y;subst Y;exact Â h
end
def ent (w:Ď) (x:List D×Þ):Int×È:=(hs w (.tup x.1),.ref x.2)
structure gF (w:Ď) (led:Bool) (t:ő) (es:Array (Int×È)) (xs:List (List D×Þ)):Prop where
 es:es.toList=xs.map (ent w)
 tab:iX led t
 tp:Tp t (xs.map λx=>hs w (.tup x.1))
 x9:t.mask=7\/t.mask=31\/t.mask=127
 full:xs.length*5<t.mask*3
 nd:(xs.map (·.1)).Nodup
section
variable {prog:ê} {w:Ď} {led:Bool} {t:ő} {es:Array (Int×È)} {xs:List (List D×Þ)}
theorem gF.size (T:gF w led t es xs):es.size=xs.length:=by rw[<- ë,T.es,Ä]
theorem gF.place (T:gF w led t es xs):t.place.size=xs.length:=by rw[<- ë,T.tp.size,Ä]
theorem gF.fits (T:gF w led t es xs):t.fits es.size=ό:=by
 delta SetTable.fits SetTable.fill;rw[T.tp.dm,T.place,T.size];have:=T.tp.room;rw[Ä] at this;simpa using this
def gF.ab9 (T:gF w led t es xs):t.gaveWay=ύ:=by
 delta SetTable.gaveWay
 rcases T.x9 with h|h|h<;>rw[h]<;>rfl
def gF.at {e:Nat} (T:gF w led t es xs) (h:xs[e]?=ϊ x):es[e]?=ϊ (ent w x):=by
 rw[<- ù,T.es,é,h];rfl
theorem gF.live (T:gF w led t es xs) (h:t.slot j=.live e):∃x,xs[e]?=ϊ x/\t.place[e]?=ϊ j:=by
 have X:j∈t.place.toList:=Ģ λz=>by rw[BD T.tp.rise T.tp.dm z] at h;cases h
 obtain⟨W,Z,Y⟩:=(BS T.tp.rise T.tp.dm j).mpr X;rw[h] at Z;cases Z;have:=(Ħ.mp Y).1;rw[T.place] at this;exact⟨_,Ê this,Y⟩
def Ti {E:È->Æ->Prop} {ep:Nat} {Q:SetFound->Æ->Prop} (hu:A.units+10<aer) (ho:s.heap.get? a=ϊ o) (hd:o.data=.set es ep t) (T:gF w led t es xs) (hk:∀x∈xs,gY s.heap x.1 x.2) (hx:gY s.heap ks b) {N:Nat} (F:kf t 3e6 N) (hN:N<10*Ė t.mask)
 (h1:ks∈xs.map (·.1)->Q (.there ϋ) s) (h2:ks∉xs.map (·.1)->Q (.free (aH t.mask 3e6 N).j ύ) s) :
  ∀(fuel n:Nat) (jG:Option SetTable.Probe),jG.getD (t.probeStart 3e6)=aH t.mask 3e6 n->n<=N->N<n+fuel->(∀k,k<n->∀e x,t.slot (aH t.mask 3e6 k).j=.live e->xs[e]?=ϊ x->x.1≠ks) ->
   ß 2e3 A (setSearchFrom a (.ref b) 3e6 ό fuel jG) Q E s:=by
 have L:∀(e:Nat) (x:List D×Þ),xs[e]?=ϊ x->(es[e]?.map (·.1)).getD 0=hs w (.tup x.1):=λe x hx=>by rw[T.at hx];rfl
 intro fuel
 induction fuel with
 |zero=>intro n jG K J v;omega
 |succ fuel ih =>
  intro n jG K J v I;delta setSearchFrom;calc À (ĸ ho hd T.fits ?_);dsimp only;rw[Ö (by rw[T.ab9];decide),K];have pr:t.probe (λi=>(es[i]?.map (·.1)).getD 0) 3e6 (aH t.mask 3e6 n)=SetTable.probe.go t (λi=>(es[i]?.map (·.1)).getD 0) 3e6 (10*Ė t.mask) (aH t.mask 3e6 n):=rfl
  rcases Kc (ha:=λi=>(es[i]?.map (·.1)).getD 0) F (10*Ė t.mask) n J ⋯ with ⟨i,e,a1,a2,S,a4,u,r⟩ | ⟨a1,a2⟩
  ·obtain⟨x,W,bP⟩:=T.live S
   have V:=Ē W
   rw (transparency:=.default)[pr.trans r]
   dsimp only;have eqs:∀k,k<i->∀e x,t.slot (aH t.mask (hs w (.tup ks)) k).j=.live e->xs[e]?=ϊ x->x.1≠ks:=λk H e x Y X=>by
    by_cases R:k<n
    ·exact I k R e x Y X
    ·intro z
     calc u k ⋯ H e Y ?_;rw[L e x X,z]
   have bar:∀{G C:Sem SetFound},ß (è prog w) A C Q E s->(t.led=ύ->ß (è prog w) A G Q E s)->ß (è prog w) A (if (!t.led)=ό then G else C) Q E s:=λh2 h1=>by
    cases q:t.led with
    |true=>exact h2
    |false=>exact h1 q
   have m:∀y∈(es.filter (λp=>p.1==hs w (.tup ks))).toList.map (λp=>p.2),∃ls c,y=Ŧ c/\gY s.heap ls c:=λy l=>by
    obtain⟨z,U,rfl⟩:=å.mp l;have U:z∈es.toList:=aep.mpr (Array.mem_filter.mp (aep.mp U)).1;rw[T.es] at U;obtain⟨P,h,rfl⟩:=å.mp U;exact⟨_,_,rfl,hk P h⟩
   refine bar ?_ λ_=>À (WZ hx m ?_)
   rotate_left
   all_goals (
    first|rw[Ö (by decide:¬ (ύ=ό))]|skip
    rw[T.at W];calc À (Ĉ (YR hu (hk x V) hx ?_));calc À (ĸ ho hd T.fits ?_);dsimp only;by_cases Z:x.1=ks
    ·rw[Î Z,Ô (by decide)]
     exact Â (h1 (å.mpr ⟨x,V,Z⟩))
    ·rw[Û Z,Ö (by decide)]
     have g:t.sameMemory t.moves t.mask=ϊ ό:=by delta SetTable.sameMemory;rw[Ô ∅]
     rw[g];dsimp only;rw[Ô rfl,S];dsimp only;rw[T.at W];dsimp only;calc À (wpAny_isSame_ref_self ?_);calc À (Â ?_);rw[Ô rfl];dsimp only;rw[Ö (by decide)];calc ih (i+1) (ϊ _) rfl ⋯ ⋯ λk H f P Y X=>?_;by_cases O:k=i
     ·subst O
      rw[S] at Y;cases Y;rw[W] at X;cases X;exact Z
     ·exact eqs k ⋯ f P Y X)
  ·rw (transparency:=.default)[pr.trans a2]
   dsimp only;calc Â (h2 λd=>?_);obtain⟨x,V,M⟩:=å.mp d;obtain⟨e,Z⟩:=List.getElem?_of_mem V;obtain⟨i,hi,B⟩:=T.tp.met F (e:=e) (by rw[é,Z];exact ĵ (λz=>ϊ (hs w (.tup z))) M);by_cases mM:i<n
   ·exact I i mM e x B Z M
   ·exact a1 i ⋯ hi e B (by rw[L e x Z,M])
end
def nJ (w:Ď) (led:Bool) (h0 h:Ŀ) (a:Þ) (xs:List (List D×Þ)):Prop:=∃o Z Y t,h.get? a=ϊ o/\o.ExactSet/\o.data=.set Z Y t/\gF w led t Z xs/\∀x∈xs,gY h0 x.1 x.2
section
variable {prog:ê} {w:Ď} {led:Bool} {t:ő} {es:Array (Int×È)} {xs:List (List D×Þ)}
def Fo {α:Type} {A:ó} {E:È->Æ->Prop} {s:Æ} {Q:α->Æ->Prop} {c:Prop} [Decidable c] {m1 m2:Sem α} (hc:¬ c) (h:ß 2e3 A m2 Q E s):ß 2e3 A (if c then m1 else m2) Q E s:=by rw[Ö hc];exact h
theorem gY.keep (x:gY h0 ks a) (old:∀c o,h0.get? c=ϊ o->h.get? c=ϊ o):gY h ks a:=⟨x.1,x.2.1,KA.keep (λb o Z _ _=>old b o Z) _ _ x.2.2⟩
def Lo {a:Þ} {u:Obj} {es es':Array (Int×È)} {ep:Nat} {t t':ő} {h:Ŀ} (hu:h.get? a=ϊ u) (hd:u.data=.set es ep t):(h.update a (adG es' t')).get? a=ϊ { u with data:=.set es' (ep+1) t' }:=by
 have:=ġ (adG es' t') hu (by rw[putSet_of es' t' hd];rfl);rw[putSet_of es' t' hd] at this;exact this
def Vg {hs:List Int} (T:Tp t hs) (b:Bool):Tp { t with plain:=b } hs:=⟨T.size,T.rise,T.le,T.dm,T.room,T.round,T.way⟩
def gF.more (T:gF w led t es xs) (hn:ks∉xs.map (·.1)) (hN:N<10*Ė t.mask) (F:kf t 3e6 N) (pl:Bool) :
  ∃p,(t.put (aH t.mask 3e6 N).j).2=p/\(χ es p (hs w (.tup ks),Ŧ b)).toList=(xs.take p++(ks,b)::xs.drop p).map (ent w)/\Tp { (t.put (aH t.mask 3e6 N).j).1 with plain:=pl } ((xs.take p++(ks,b)::xs.drop p).map λx=>hs w (.tup x.1))/\(xs.take p++(ks,b)::xs.drop p).Perm (xs++[(ks,b)]):=by
 have Z:(xs.map λx=>hs w (.tup x.1)).length+1<=t.mask:=by
  rw[Ä];have:=T.full
  rcases T.x9 with h|h|h<;>rw[h] at this |-<;>omega
 have P:=T.tp.put hN F Z (by have:=DF t.mask (hs w (.tup ks)) N;omega);refine⟨_,rfl,?_,?_,?_⟩
 ·rw[Kd,T.es,<- List.map_take,<- adW,ĩ,ç]
  rfl
 ·rw[ĩ,ç,List.map_take,adW]
  exact Vg P pl
 ·refine(List.perm_middle).trans ?_
  rw[ac3];exact(List.perm_append_singleton _ _).symm
def Vh (ho:s.heap.get? a=ϊ o) (hd:o.data=.set es ep t) (Ha:es.toList=xs.map (ent w)) (hf:t.fits es.size=ό) (acb:t.led=led)
 (hn:SetTable.sizeAbove n=m+1) (hl:m+1<=Ù) (R:Round m) (hm:m=31\/m=127) (hx:xs.length*5<m*3) (nd:(xs.map (·.1)).Nodup) (hz:es.size<=Ù)
 (h:∀es' t' (dA:List (List D×Þ)),dA.Perm xs->gF w led t' es' dA->Q () { s with heap:=s.heap.update a (adG es' t') }):ß 2e3 A (setRelay a n) Q E s:=by
 delta setRelay;calc À (ĸ ho hd hf ?_);dsimp only;calc Fo (by rw[hn];omega) ?_;have U:es.map (·.1)=(xs.map λx=>hs w (.tup x.1)).toArray:=by
  apply aeo.mp;rw[Array.toList_map,Ha,ę];rfl
 obtain⟨t',order,e,pm,X,S,O,_,T⟩:=WY (m:=m) (finger:=t.finger) (moves:=t.movedTo m) (led:=t.led) (plain:=t.plain) R (hs:=xs.map λx=>hs w (.tup x.1)) (by rw[Ä];omega);have P:t.relaid (es.map (·.1)) n=ϊ (t',order.toArray):=by
  delta SetTable.relaid;rw[hn,U];exact e
 rw[P];rw[Ä] at pm;have Y:xs.length=es.size:=by rw[<- ë,Ha,Ä]
 have W:(order.toArray.filterMap (es[·]?)).toList=(order.filterMap (xs[·]?)).map (ent w):=by
  rw[Array.toList_filterMap,adN];congr 1;funext i;rw[<- ù,Ha,é]
 have Z:(order.filterMap (xs[·]?)).Perm xs:=by
  refine(pm.filterMap _).trans ?_;rw[show (ö xs.length).filterMap (xs[·]?)=xs by
   apply υ;intro i;have hz:∀(l:List (List D×Þ)),(ö l.length).filterMap (l[·]?)=l:=λl=>by
    have:∀k,k<=l.length->(ö k).filterMap (l[·]?)=l.take k:=by
     intro k
     induction k with
     |zero=>intro _;simp
     |succ k ih =>
      intro N;rw[List.range_succ,List.filterMap_append,ih ⋯,List.take_succ];simp[Ê (show k<l.length by omega)]
    rw[this _ 3e0,List.take_length]
   rw[hz]]
 have V:(order.toArray.filterMap (es[·]?)).size=es.size:=by
  rw[<- ë,W,Ä,Z.length_eq,Y]
 calc À ?_;calc Fo (by rw[V];simp) ?_;calc Â ?_;dsimp only;refine ω ho hd (h _ _ (order.filterMap (xs[·]?)) Z ⟨W,⟨S.trans acb,λ_=>T.rise⟩,?_,?_,?_,?_⟩) (by rw[V];exact hz)
 ·rw[adN]
  have:(λi:Nat=>(xs.map λx=>hs w (.tup x.1))[i]?)=λi=>(xs[i]?).map λx=>hs w (.tup x.1):=by funext i;rw[é]
  rw[this] at T;exact T
 ·rw[X];exact .inr hm
 ·rw[X,Z.length_eq];exact hx
 ·exact((Z.map _).nodup_iff).mpr nd
def Zb (hu:A.units+10<aer) (S:nJ w led h0 s.heap a xs) (old:∀c o,h0.get? c=ϊ o->s.heap.get? c=ϊ o) (hx:gY h0 ks b) (hn:xs.length<70)
 (h:∀r h' dA,ı a s.heap h'->nJ w led h0 h' a dA->(dA.Perm (if ks∈xs.map (·.1) then xs else xs++[(ks,b)]))->Q r { s with heap:=h' }):ß 2e3 A (setAddHashed a (.ref b) 3e6) Q E s:=by
 obtain⟨o,es,e,t,R,hex,P,T,K⟩:=S;delta setAddHashed setAddHashedIn;calc Ĉ ?_;calc À (ĸ R P T.fits ?_);dsimp only;calc Fo (by delta byScan;simp[Value.scannable]) ?_;obtain⟨N,J,F⟩:=T.tp.free 3e6;delta setSearch
 refine À (Ti hu R P T (λx hx=>(K x hx).keep old) (hx.keep old) F J (λM=>?_) (λM=>?_) 100000 0 ϋ rfl (ą _) (by delta Ė at J;rcases T.x9 with z|z|z<;>rw[z] at J<;>omega) λk K=>by omega)
 ·dsimp only
  calc Â (h _ s.heap xs (Heap.SameBut.refl a s.heap) ⟨o,es,e,t,R,hex,P,T,K⟩ ?_);rw[Ô M]
 ·dsimp only
  rw[Ö M] at h;calc À (ĸ R P T.fits ?_);dsimp only;have sx:=T.size
  have fin:∀W:Bool,(W=ό->t.plain=ό)->ß 2e3 A (do
    storeSet a (χ es (t.put (aH t.mask 3e6 N).j).2 (hs w (.tup ks),Ŧ b)) { (t.put (aH t.mask 3e6 N).j).1 with plain:=W }
    if (!ύ&&SetTable.tooFull { (t.put (aH t.mask 3e6 N).j).1 with plain:=W })=ό then do
     setRelay a (μ (es.size+1))
     pure ό
    else pure ό) Q E s:=λW bP=>by
   obtain⟨p,Y,L,V,O⟩:=T.more (b:=b) M J F W;rw[Y];generalize d:xs.take p++(ks,b)::xs.drop p=X at L V O;generalize χ es p (hs w (.tup ks),Ŧ b)=U at L |-
   have I:({ (t.put (aH t.mask (hs w (.tup ks)) N).j).1 with plain:=W }:ő).mask=t.mask:=rfl
   have H:({ (t.put (aH t.mask (hs w (.tup ks)) N).j).1 with plain:=W }:ő).led=led:=T.tab.led
   generalize ({ (t.put (aH t.mask (hs w (.tup ks)) N).j).1 with plain:=W }:ő)=t1 at V I H |-
   have l1:X.length=xs.length+1:=by rw[O.length_eq,à];rfl
   have z1:U.size=X.length:=by rw[<- ë,L,Ä]
   have v:U.size<=Ù:=by rw[ţ];omega
   have u:(X.map (·.1)).Nodup:=by
    refine((O.map _).nodup_iff).mpr ?_;rw[ĩ,aea];calc⟨T.nd,by simp,λx G y hy=>?_⟩;have:y=ks:=by simpa using hy
    subst this;intro z;subst z;exact M G
   have n:∀x∈X,gY h0 x.1 x.2:=λx hx=>by
    rcases Ć.mp (O.mem_iff.mp hx) with q|q
    ·exact K x q
    ·rw[ċ.mp q];exact ‹gY h0 ks b›
   have D:t1.fill=X.length:=by
    delta SetTable.fill;have:=V.size;rw[Ä,ë] at this;rw[V.dm,this];rfl
   have C:t1.fits U.size=ό:=by
    have:=V.size;rw[Ä,ë] at this;have r:=V.room;rw[Ä] at r;delta SetTable.fits;rw[D,this,z1];simpa using r
   calc À (ω R P ?_ v);have g1:=Lo (es':=U) (t':=t1) R P;have l:=Ĥ s.heap a (adG U t1);by_cases Z:t1.tooFull=ό
   ·rw[Ô (by simpa using Z)]
    delta SetTable.tooFull at Z;rw[D,l1,I] at Z;have Z:=î Z;have full:=T.full
    have go:∀m,SetTable.sizeAbove (μ (es.size+1))=m+1->m+1<=Ù->Round m->m=31\/m=127->X.length*5<m*3->ß (è prog w) A (setRelay a (μ (es.size+1)) >>= λ_=>pure ό) Q E { s with heap:=s.heap.update a (adG U t1) }:=λm c1 c2 c3 c4 c5=>by
     refine À (Vh (s:={ s with heap:=s.heap.update a (adG U t1) }) (xs:=X) g1 rfl L C H c1 c2 c3 c4 c5 u v λes' t' dA i T'=>?_)
     exact Â (h _ _ dA (l.trans (Ĥ _ a _)) ⟨_,es',_,t',Lo g1 rfl,hex,rfl,T',λx hx=>n x (i.mem_iff.mp hx)⟩ (i.trans O))
    rcases T.x9 with z|z|z
    ·have B:es.size+1=5:=by rw[z] at Z full;omega
     rw[B] at go |-;exact go 31 nofun (by rw[ţ];omega) WV (.inl rfl) ⋯
    ·have B:es.size+1=19:=by rw[z] at Z full;omega
     rw[B] at go |-;exact go 127 nofun (by rw[ţ];omega) Vd (.inr rfl) ⋯
    ·rw[z] at Z;omega
   ·rw[Ö (by simpa using Z)]
    have xU:X.length*5<t1.mask*3:=by
     delta SetTable.tooFull at Z;rw[D] at Z;have:=of_decide_eq_false (ē _ ▸ Z);omega
    refine Â (h _ _ X l ⟨_,U,_,t1,g1,hex,rfl,⟨L,⟨H,λ_=>V.rise⟩,V,by rw[I];exact T.x9,xU,u⟩,n⟩ O)
  have g:(t.put (aH t.mask (hs w (.tup ks)) N).j).1.plain=t.plain:=rfl;by_cases Y:t.plain=ό
  ·rw[Ô (by rw[g];exact Y)]
   refine À (Vf 8 _ (hx.keep old).2.2 λbv=>?_)
   cases bv with
   |true =>
    rw[Ô rfl]
    have:({ (t.put (aH t.mask (hs w (.tup ks)) N).j).1 with plain:=ό }:ő)=(t.put (aH t.mask (hs w (.tup ks)) N).j).1:=by
     cases t;simp only at Y;subst Y;rfl
    have f:=fin ό λ_=>Y;rw[this] at f;exact f
   |false=>rw[Ö (by decide)];exact fin ύ λz=>by cases z
  ·rw[Ö (by rw[g];exact Y)]
   calc À (Â ?_);rw[Ô rfl]
   have:({ (t.put (aH t.mask (hs w (.tup ks)) N).j).1 with plain:=ύ }:ő)=(t.put (aH t.mask (hs w (.tup ks)) N).j).1:=by
    have Y:t.plain=ύ:=by simpa using Y
    cases t;simp only at Y;subst Y;rfl
   have f:=fin ύ λz=>by cases z
   rw[this] at f;exact f
end
open PySem.Spec
section
variable {P:ê} {w:Ď} {A:ó} {R:Result->Æ->Prop} {I:Þ} {fp wr:List Þ} {G:Array GenState->Array GenState->Prop} {n:Nat} {Pv:Nat->È->Prop} {St:Nat->Æ->Prop} {led:Bool} {h0:Ŀ}
def ace (w:Ď) (led:Bool):gF w led (.fresh 0 0 led) #[] []:=⟨rfl,BM led,⟨rfl,List.Pairwise.nil,λj Z=>by simp[SetTable.fresh] at Z,rfl,ą _,Za,λe h Y=>by simp at Y⟩,.inl rfl,by show 0*5<7*3;omega,adp⟩
def nJ.at {h h':Ŀ} {a:Þ} {xs:List (List D×Þ)} (x:nJ w led h0 h a xs) (k:∀o,h.get? a=ϊ o->h'.get? a=ϊ o):nJ w led h0 h' a xs:=by
 obtain⟨o,Z,Y,t,X,r⟩:=x;exact⟨o,Z,Y,t,k o X,r⟩
def Met (val:Nat->List D×Þ) (i:Nat) (xs:List (List D×Þ)):Prop:=(∀x∈xs,∃j,j<i/\val j=x)/\∀j,j<i->(val j).1∈xs.map (·.1)
def aaK (W:WalksS P w A.in1 I fp wr G n Pv St) (S:Þ) (pC:S∉fp)
  (val:Nat->List D×Þ) (E1:∀i v,Pv i v->v=.ref (val i).2/\gY h0 (val i).1 (val i).2) (Al:∀b∈S::wr,h0.get? b=ϋ) (hb:n<=70) (hu:A.in1.units+20<aer) :
  ∀(k i:Nat) (s:Æ) (xs:List (List D×Þ)),n-i=k->i<=n->St i s->nJ w led h0 s.heap S xs->xs.length<=i->(∀c o,h0.get? c=ϊ o->s.heap.get? c=ϊ o)->Met val i xs ->
   (∀s' dA,Moved (S::wr) G s s'->nJ w led h0 s'.heap S dA->Met val n dA->dA.length<=n->(∀c o,h0.get? c=ϊ o->s'.heap.get? c=ϊ o)->R (.ok (.ret .none)) s') ->
   acN 2e0 A (.builtin "set.update.loop" ⟨[.ref S,.ref I],[]⟩) R s:=by
 have nw:S∉wr:=λz=>pC (W.sub _ z);have sw:∀b∈wr,b∈S::wr:=λb z=>Ì _ z;have gy:∀{s s':Æ},Moved (S::wr) G s s'->(∀c o,h0.get? c=ϊ o->s.heap.get? c=ϊ o)->∀c o,h0.get? c=ϊ o->s'.heap.get? c=ϊ o:=λm old c o e=>m.heap c o (λz=>by rw[Al c z] at e;cases e) (old c o e);intro k
 induction k with
 |zero =>
  intro i s xs E hi Y T F old Z X;obtain rfl:i=n:=by omega
  calc Ń acF ?_;rw[œ Œ _];show ß _ A.in1 (acU (.ref I) >>= _) _ _ s;calc À (W.done s _ _ Y λs' m=>?_);show ß _ A.in1 (ret Value.none) _ _ s';exact Â (X s' xs (m.mono sw) (T.at λo e=>m.heap S o nw e) Z F (gy (m.mono sw) old))
 |succ k ih =>
  intro i s xs E hi Y T F old Z X;have lt:i<n:=by omega
  calc Ń acF ?_;rw[œ Œ _];show ß _ A.in1 (acU (.ref I) >>= _) _ _ s;calc À (W.item i s _ _ lt Y λv s' pv C m=>?_);obtain⟨rfl,V⟩:=E1 i v pv;have B:=T.at (h':=s'.heap) λo e=>m.heap S o nw e;have U:=gy (m.mono sw) old;show ß _ A.in1 (aej [Ŧ (val i).2] (setAdd S (.ref (val i).2)) >>= _) _ _ s';calc À (Ĉ ?_);delta setAdd;calc Ĉ ?_;refine À (WJ 7 (.tup (val i).1) (by erw[dep];have:=V.2.1;omega) _ _ _ _ _ (V.keep U).2.2 ⋯ ?_)
  refine Zb (s:={ s' with toks:=s'.toks+dr (.tup (val i).1) }) ⋯ B U V ⋯ λr h' dA Q y pm=>?_
  have O:∀c o,h0.get? c=ϊ o->h'.get? c=ϊ o:=λc o e=>by
   rw[Q.2 c λz=>by rw[z,Al S Õ] at e;cases e];exact U c o e
  refine Â ⟨aet Œ _,ih (i+1) _ dA ⋯ lt (W.frame _ s' _ _ C (Nat.le_add_right _ _) λb N o e=>?_) y ?_ O ?_ λu M t q L K J=>?_⟩
  ·rw[Q.2 b λz:b=S=>pC (z ▸ N)];exact e
  ·rw[pm.length_eq]
   split
   ·omega
   ·rw[à];show _ + 1<=_;omega
  ·refine⟨λx hx=>?_,λj l=>?_⟩
   ·have hx:=pm.mem_iff.mp hx
    split at hx
    ·obtain⟨j,p,H⟩:=Z.1 x hx;exact⟨j,by omega,H⟩
    ·rcases Ć.mp hx with hx|hx
     ·obtain⟨j,p,H⟩:=Z.1 x hx;exact⟨j,by omega,H⟩
     ·exact⟨i,by omega,(ċ.mp hx).symm⟩
   ·rw[(pm.map _).mem_iff]
    by_cases e:j=i
    ·subst e
     split
     ·assumption
     ·rw[ĩ];exact Ó _ ∅
    ·have:=Z.2 j ⋯
     split
     ·exact this
     ·rw[ĩ];exact Ā _ this
  ·refine X u M (Moved.trans W.gtrans ((m.mono sw).then_heap (Nat.le_add_right _ _) λb o N e=>?_) t) q L K J
   rw[Q.2 b λz:b=S=>N (by rw[z];exact Õ)];exact e
end
section
variable {P:ê} {w:Ď} {A:ó} {E:È->Æ->Prop} {s:Æ}
def Vi {l:Þ} {its:Array È} {val:Nat->List D×Þ} {Q:È->Æ->Prop}
  (hh:A.handled=ϋ) (hu9:A.units+50<aer) (hl:s.heap.IsList l its) (hv:∀i v,its[i]?=ϊ v->v=.ref (val i).2/\gY s.heap (val i).1 (val i).2) (hb:its.size<=70)
  (h:∀(h':Ŀ) (tk:Nat) (dA:List (List D×Þ)),(nJ w (bH w) s.heap h' s.heap.objs.size dA/\Met val its.size dA/\dA.length<=its.size) ->
   (∀b o,b<s.heap.objs.size->s.heap.get? b=ϊ o->h'.get? b=ϊ o)->Q 0e7 { s with heap:=h',toks:=tk }) :
  ß 2e0 A (call (.type "set") [.ref l]) Q E s:=by
 obtain⟨c,tl,ur⟩:=ė.mro;have um:=ė.made;have ub:=ė.sub;calc adA (adO ?_);show ß _ _ (callAny (.type "set") _) _ _ _;calc Â ⟨adP _ nofun,Ń F.entry_type_call ?_⟩;rw[aeN (aeg "set" [.ref l] []) rfl];have h1:=ė.notType;have h2:=ė.canCreate;have OX:=F.typeCall_set_1 (.ref l)
 repeat (any_goals (first|assumption|wp_step))
 refine Ŋ (B7 (.ref l) (E:=E) (Q₁:=λobj V=>obj=.ref s.heap.objs.size/\V={ s with heap:=s.heap.push { cls:=.type "set",dict:=ϋ,data:=.set #[] 0 0e5 } }) 1e4) λr V Y=>?_
 cases r with
 |error e=>exact Y
 |ok M =>
  cases M with
  |ret obj =>
   obtain⟨rfl,rfl⟩:=Y;have v:(s.heap.push { cls:=.type "set",dict:=ϋ,data:=.set #[] 0 0e5 }).get? s.heap.objs.size=ϊ { cls:=.type "set",dict:=ϋ,data:=.set #[] 0 0e5 }:=Ò _ rfl
   have L:ae6 { s with heap:=s.heap.push { cls:=.type "set",dict:=ϋ,data:=.set #[] 0 0e5 } } 0e7 "set":=⟨_,v,rfl⟩
   have vl:=ė.init.lookup;have vb:=ė.init.bind 0e7
   repeat (any_goals (first|assumption|wp_step))
   refine Ŋ (ο (R:=wants (λr U=>r=.none/\∃h' tk dA,U={ s with heap:=h',toks:=tk } /\
     (nJ w (bH w) s.heap h' s.heap.objs.size dA/\Met val its.size dA/\dA.length<=its.size) /\
     (∀b o,b<s.heap.objs.size->s.heap.get? b=ϊ o->h'.get? b=ϊ o)) E) ė.init.plain F.entry_set_init (check_set_init_1 L ?_)) λK U X=>?_
   ·obtain⟨ol,T,S,nn,O⟩:=hl
    obtain⟨oc,J,oa,I⟩:=ol;simp only at S O;subst S;subst O;have H:(s.heap.push { cls:=.type "set",dict:=ϋ,data:=.set #[] 0 0e5 }).get? l=ϊ { cls:=.type "list",dict:=J,data:=.seq its nn,slots:=I }:=Á _ T;have u1:=F.sub_list_set;have u2:=F.sub_list_frozenset;have fZ:(ũ "list"==ũ "dict")=ύ:=by decide
    have ul:(s.heap.push { cls:=.type "set",dict:=ϋ,data:=.set #[] 0 0e5 }).IsList l its:=⟨_,H,rfl,nn,rfl⟩;delta Ÿ.«set.__init__» noKeywords acS;generalize G:ae9=PI
    wp_walk
    subst G;calc ū ul ?_;calc À (wpAny_runValue ?_);have N:l<s.heap.objs.size:=Í T;have C:A.in1.in1.in1.handled=ϋ:=by simp[hh]
    have B:l≠(s.heap.push { cls:=.type "set",dict:=ϋ,data:=.set #[] 0 0e5 }).objs.size:=by
     rw[ý];exact á (Ě N)
    have y:s.heap.objs.size∉[(s.heap.push { cls:=.type "set",dict:=ϋ,data:=.set #[] 0 0e5 }).objs.size,l]:=by
     rw[ý];erw[Ï,ċ,ì,or_false,not_or];exact⟨á (ť _),Ş N⟩
    refine aaK (led:=bH w) ((Walks.list C _ l B its).toS) s.heap.objs.size y (h0:=s.heap) val hv (λb hb=>?_) hb ?_ (its.size-0) 0 _ [] ⋯ (ą _) ⟨3e1,(ul.push _)⟩ ?v0 (ą _) (λb o e=>Á _ (Á _ e)) ⟨λx z=>by simp at z,λj z=>by omega⟩ ?vR
    ·have le:s.heap.objs.size<=b:=by
      erw[Ï,ċ,ì,or_false] at hb
      rcases hb with z|z
      ·rw[z];exact afn _
      ·rw[z,ý];exact adx _
     cases q:s.heap.get? b with
     |none=>rfl
     |some o=>exact absurd (Í q) (ae2.mpr le)
    ·show A.units+3+20<aer
     omega
    case v0 =>
     have u:((s.heap.push { cls:=.type "set",dict:=ϋ,data:=.set #[] 0 0e5 }).push { cls:=.type "list_iterator",data:=.fields #[.ref l,.int 0 0] }).get? s.heap.objs.size
       = ϊ { cls:=.type "set",dict:=ϋ,data:=.set #[] 0 0e5 }:=Á _ v
     exact⟨_,#[],0,_,u,⟨rfl,rfl,rfl⟩,rfl,ace w (bH w),λx t=>by simp at t⟩
    case vR =>
     intro p dA Z W n m vo;obtain⟨h',k,g,f,d⟩:=p;have a:k=s.gens:=Z.gens;have ed:g=s.drawn:=Z.drawn;have eo:d=s.os:=Z.os;subst a;subst ed;subst eo;show ß _ _ _ _ _ _;calc Â ?_;show ß _ _ (ret Value.none) _ _ _;calc Â ⟨rfl,h',f,dA,rfl,⟨W,n,m⟩,λb o hb e=>?_⟩;have v1:b≠s.heap.objs.size:=á hb;have v2:b≠(s.heap.push { cls:=.type "set",dict:=ϋ,data:=.set #[] 0 0e5 }).objs.size:=by
      rw[ý];exact á (Ě hb)
     exact Z.heap b o (by erw[Ï,ċ,ì,or_false,not_or];exact⟨v1,v2⟩) (Á _ (Á _ e))
   ·cases K with
    |error e=>exact X
    |ok wg =>
     cases wg with
     |ret r =>
      obtain⟨rfl,h',tk,dA,rfl,W,vk⟩:=X
      repeat (any_goals (first|assumption|wp_step))
      exact h _ _ _ W vk
     |_=>exact X.elim
  |_=>exact Y.elim
end
open Classical in
def iR:List Pg->List Pg
 | []=>[]
 |p::r=>if p∈r then iR r else p::iR r
theorem zh:∀{l:List Pg},p∈iR l↔p∈l
 | []=>Iff.rfl
 |q::r=>by
  delta iR;split
  ·rename_i h
   rw[zh,Ï];exact⟨.inr,λz=>z.elim (λe=>e ▸ h) id⟩
  ·rw[Ï,Ï,zh]
theorem BU:∀l:List Pg,(iR l).Nodup
 | []=>adp
 |q::r=>by
  delta iR;split
  ·exact BU r
  ·rename_i h
   exact Ű.mpr ⟨λz=>h (zh.mp z),BU r⟩
def yd (w:Ď) (p:Þ) (xs:List (List D×Þ)):Ŀ->Prop:=λh=>∃o Z Y t,h.get? p=ϊ o/\o.ExactSet/\o.data=.set Z Y t/\gF w (bH w) t Z xs
def Zc (hx:yd w p xs h):dR P w H h p (.ext (yd w p xs)):=by
 refine⟨hx,?_,λW V q k=>?_⟩
 ·obtain⟨o,_,_,_,Z,_⟩:=hx
  exact⟨o,Z⟩
 ·obtain⟨o,Y,X,t,Z,r⟩:=q
  exact⟨o,Y,X,t,k o Z,r⟩
def zJ (p:Pg):p.d=.tup (its p.d):=by cases p<;>rfl
section
variable {X:Cx} {Ξ:Wd->bb->Prop}
def pz:Pg:=.bM 0 0 0
def Tj (hr:ck k X.A) (hc:X.calm=ό):cC X (.type "set") (λxs H Q=>∃(w:Wd) (a:Þ) (ps:List Pg) (as:List Þ),w.H=H/\xs=[.ref a]/\bN X.K H a (as.map V.ref)/\DI.aq X.K w 6e4 (as.map V.ref)/\ps.length<=60 /\
  ∀p (zs:List (Pg×Þ)),H p=ϋ->(∀z∈zs,∃j,j<ps.length/\(ps.getD j pz,as.getD j 0)=z)->(∀q∈ps,q∈zs.map (·.1))->(zs.map (·.1)).Nodup->zs.length<=ps.length->Q 7e3 (upd H p (.ext (yd X.w p (zs.map λz=>(its z.1.d,z.2)))))):=by
 intro π s σ H xs us Q I r h;obtain⟨w,a,ps,as,rfl,rfl,B,E,hl,q⟩:=h;obtain⟨u,rfl,P⟩:=vals1 r;cases P;obtain⟨Z,O,p,_⟩:=I.list B;have len:ps.length=as.length:=by have:=E.length;simpa using this
 have li:Z.length=as.length:=by have:=O.length;simpa using this.symm
 have N:=zC I _ _ _ (Li ps) E O;have ev:∀i,i<as.length->Z.getD i Value.none=.ref (as.getD i 0):=by
  intro i hi;obtain⟨u,e,P⟩:=O.get (i:=i) (x:=V.ref (as.getD i 0)) (by rw[é,Ê hi];simp[ű,Ê hi]);cases P;rw[ď,e];rfl
 have Y:∀i v,Z.toArray[i]?=ϊ v->v=.ref ((λi=>(its (ps.getD i pz).d,as.getD i 0)) i).2/\gY s.heap ((λi=>(its (ps.getD i pz).d,as.getD i 0)) i).1 ((λi=>(its (ps.getD i pz).d,as.getD i 0)) i).2:=λi v Y=>by
  have Y:Z[i]?=ϊ v:=by simpa using Y
  have hi:=(Ñ.mp Y).1;have e1:Z.getD i Value.none=v:=by rw[ď,Y];rfl
  have e2:=ev i ⋯;rw[e1] at e2;have M:=kas_get N i hi;rw[e1,e2,show (ps.map Pg.d).getD i .ak=(ps.getD i pz).d by simp[ű,é,Ê (show i<ps.length by omega)]] at M;have kd:=wF (ps.getD i pz);have D:=zD (ps.getD i pz);rw[zJ] at kd D M;erw[TK.kd] at kd;erw[dep] at D;exact⟨e2,kd,by show dY (its (ps.getD i pz).d)<=6;omega,M⟩
 calc Vi (its:=Z.toArray) (val:=λi=>(its (ps.getD i pz).d,as.getD i 0)) (I.ok.hd hc) (by have:=hr.un;have:aer=9900:=rfl;omega) p.isList Y (by rw[Ý];omega) λh' n L J m=>?_;obtain⟨C,U,G⟩:=J;rw[Ý] at U G;have ex:∃zs:List (Pg×Þ),L=zs.map (λz=>(its z.1.d,z.2))/\∀z∈zs,∃j,j<ps.length/\(ps.getD j pz,as.getD j 0)=z:=by
  have:=U.1;clear U G C
  induction L with
  |nil=>exact⟨[],rfl,λz W=>by cases W⟩
  |cons x L ih =>
   obtain⟨zs,e,W⟩:=ih λy l=>this y (Ì _ l);obtain⟨j,h1,F⟩:=this x Õ;refine⟨(ps.getD j pz,as.getD j 0)::zs,by rw[e,<- F];rfl,λz mO=>?_⟩
   rcases Ï.mp mO with rfl|mO
   ·exact⟨j,by omega,rfl⟩
   ·exact W z mO
 obtain⟨zs,rfl,W⟩:=ex;obtain⟨o,g,f,t,c,hex,hd,T,_⟩:=C;refine⟨.ref _,_,I.laid (t':=n) (λb o e=>m b o (Í e) e) 3e0 (Zc ⟨o,g,f,t,c,hex,hd,T⟩),rfl,q _ zs (I.az.fresh 3e0) W (λp hp=>?_) ?_ ?_⟩
 ·obtain⟨j,hj,e⟩:=Ų hp
  have:=U.2 j ⋯;rw[ę,å] at this;obtain⟨z,rl,R⟩:=this;calc å.mpr ⟨z,rl,?_⟩;have e3:(ps.getD j pz)=p:=by rw[ď,Ê hj,e];rfl
  have R:its z.1.d=its (ps.getD j pz).d:=R;rw[e3] at R;exact Pg.Nz (by rw[zJ,R,<- zJ])
 ·have:=T.nd
  rw[ę] at this;have F:((zs.map (·.1)).map λp:Pg=>its p.d).Nodup:=by rw[ę];exact this
  exact List.Pairwise.of_map (S:=(·≠·)) (λp:Pg=>its p.d) (λa b h e=>h (by rw[e])) F
 ·rw[Ä] at G;omega
def W0 {w:Wd} {ps:List Pg}:∀{xs:List V},DI.aq X.K w 6e4 xs->∃as:List Þ,xs=as.map V.ref:=by
 induction ps with
 |nil=>intro xs h;cases h;exact⟨[],rfl⟩
 |cons p ps ih =>
  intro xs h;obtain⟨v,r,rfl,Z,Y⟩:=h;obtain⟨as,rfl⟩:=ih Y;rw[zJ] at Z;erw[DI.DV] at Z;obtain⟨a,_,rfl,_⟩:=Z;exact⟨a::as,rfl⟩
end
end TK
namespace DI
open PySem L2
end DI
namespace L2
open PySem PySem.Spec PyProof.Rows
def Hc (x:Str):It:=⟨λi _=>i<x.cps.size,λi H v Z=>Z=H/\∃c,x.cps[i]?=ϊ c/\v=.str 1e2,λi _=>x.cps.size<=i⟩
def Kf {P:ê} {w:Ď} {K:İ} {tg:ĳ} (it:Þ) (x:Str) (t:Tok) (b:Bool):Turn P w K tg (Hc x) [it] it (λi h=>h.IsStrIter it (if b then "str_ascii_iterator" else "str_iterator") x t i) where
 mem:=by simp
 obj:=λi h Y c T=>by
  have e:c=it:=by simpa using T
  subst e;obtain⟨o,S,y,L⟩:=Y;exact⟨o,S,λv z=>by rw[L] at z;cases z⟩
 keep:=λi h Z Y k=>let ⟨o,S,r⟩:=Y;⟨o,k it ∅ o S,r⟩
 item:=by
  intro X J hw G T i F s σ H E I O Y D;subst J hw G;obtain⟨f0,f1,f2,N,f4,M⟩:=O it ∅;have hi:i<x.cps.size:=D;have V:x.cps[i]?=ϊ x.cps[i]:=by simp[hi]
  have go:∀Z,Z.IsStrIter it (if b then "str_ascii_iterator" else "str_iterator") x t (i+1)->ı it s.heap Z->∃u,ϊ (Value.str ⟨#[x.cps[i]]⟩ s.toks)=ϊ u /\
    ß 0e2 X.A (ş tg 4e2 u) (λ_ q=>∃v C,Inv X F σ C q/\RelV v u/\(Hc x).uq i H v C/\q.heap.IsStrIter it (if b then "str_ascii_iterator" else "str_iterator") x t (i+1)/\∀b∈[it],C b=ϋ) E { s with heap:=Z,toks:=s.toks+1 }:=λZ U R=>by
   have p:Inv X F σ H { s with heap:=Z,toks:=s.toks+1 }:=I.turned (λb o W e=>R.extBut b o (by simpa using W) e) f0 f1 N f4 M
   obtain⟨o,S,y,L⟩:=id U
   refine⟨_,rfl,zU (s:={ s with heap:=Z,toks:=s.toks+1 }) (n:=if b then "str_ascii_iterator" else "str_iterator") S y L (by cases b<;>decide) ⟨.str ⟨#[x.cps[i]]⟩,H,p,5e0,⟨rfl,_,V,rfl⟩,U,λb W=>(O b W).1⟩⟩
  cases b with
  |true=>exact wpAny_pyNext_ascii_item Y V λZ U R=>go Z U R
  |false=>exact wpAny_pyNext_wide_item Y V λZ U R=>go Z U R
 done:=by
  intro X J hw G T i F s σ H E I O Y D;subst J hw G;obtain⟨f0,f1,f2,N,f4,M⟩:=O it ∅;have V:x.cps[i]?=ϋ:=by simp;exact D
  cases b with
  |true=>exact wpAny_pyNext_ascii_end (I.ok.hd T) Y V λZ B=>⟨rfl,I.turned (t':=s.toks) (λb o W e=>B b o W e) f0 f1 N f4 M⟩
  |false=>exact wpAny_pyNext_wide_end (I.ok.hd T) Y V λZ B=>⟨rfl,I.turned (t':=s.toks) (λb o W e=>B b o W e) f0 f1 N f4 M⟩
 self:=λA i s Q E Y h=>by
  cases b with
  |true=>exact wpAny_pyIter_striter_ascii Y h
  |false=>exact wpAny_pyIter_striter_wide Y h
def acj (tl:TE):TI:=fun σ H R=>tl σ H λx Z=>∃y,x=.str y/\R (Hc y) Z
def Zd {X:Cx} {tg l:ĳ} {tl:TE} (hl:PE X l tl):PI X tg l (acj tl):=by
 intro V s σ H R I h;calc aJ (hl V s σ H _ I h) λv Z ⟨x,W,Y,S,Q⟩=>?_;obtain⟨y,e,q⟩:=Q;subst e;obtain⟨t,rfl⟩:=S;have U:∀b∈[Z.heap.objs.size],eZ X V W b:=λb P=>by
  have e:b=Z.heap.objs.size:=by simpa using P
  subst e;exact Y.wQ 3e0 (Y.az.fresh 3e0)
 cases T:y.cps.all (· < 128) with
 |true=>exact wpAny_pyIter_ascii T ⟨Z.heap.objs.size,[Z.heap.objs.size],_,_,W,rfl,Y.kept (t':=Z.toks) λb o e=>Á _ e,Kf _ y t ό,3e1,U,q⟩
 |false=>exact wpAny_pyIter_wide T ⟨Z.heap.objs.size,[Z.heap.objs.size],_,_,W,rfl,Y.kept (t':=Z.toks) λb o e=>Á _ e,Kf _ y t ύ,3e1,U,q⟩
section
variable {X:Cx}
def rJoin (K:İ):V->List V->Hp->VK->Prop:=λx Z H Q=>∃(y:Str) (a:Þ) (zs:List Str),x=.str y/\Z=[.ref a]/\bN K H a (zs.map V.str)/\JoinOk y zs=ό/\Q (.str (Ŏ y zs)) H
theorem Jz:∀{zs:List Str} {us:List È},Vals (zs.map V.str) us->∃l:List (Str×Tok),us=strValues l/\l.map (·.1)=zs
 | [],_,.nil=>⟨[],rfl,rfl⟩
 |z::zs,_,.cons r Z=>by
  obtain⟨t,rfl⟩:=r;obtain⟨l,rfl,e⟩:=Jz Z;exact⟨(z,t)::l,rfl,by simp[e]⟩
def W2:uw X "str.join" (rJoin X.K):=by
 intro R s σ H x P v O Q I W V h;obtain⟨y,a,zs,rfl,rfl,U,Y,q⟩:=h;obtain⟨t,rfl⟩:=W;obtain⟨u,rfl,T⟩:=V.one;cases T;obtain⟨its,r,p,N⟩:=I.list U;obtain⟨l,rfl,e⟩:=Jz r;subst e;have Z:=Y;delta JoinOk at Z;rw[û] at Z;calc ac8 F.slot_str_join (ad6 s y t) F.entry_str_join (F.args_str_join_2 _ _) (meets_str_join_list y t a l Z) ⟨p.isList,post_join l ⟨joinOk_length Y,λS k=>?_⟩⟩;calc⟨.str _,H,I.tok k,⟨S,rfl⟩,?_⟩;show Q (.str (Txt.join y (l.map (·.1)))) H;rw[show Txt.join y (l.map (·.1))=Ŏ y (l.map (·.1)) from StrLaws.glued_eq_join _ _];exact q
def Ze:V->List V->Hp->VK->Prop:=λx Z H Q=>∃(a y:Str),x=.str a/\Z=[.str y]/\(y.length==0)=ύ/\a.length+2<=Ù/\∀p,H p=ϋ->Q 7e3 (upd H p (.lst ((Ă a y).map V.str)))
theorem Ih:∀(zs:List Str) (tk:Nat),Vals (zs.map V.str) (strsFrom tk zs)
 | [],_=>.nil
 |z::zs,tk=>.cons 5e0 (Ih zs (tk+1))
def Vj:uw X "str.split" Ze:=by
 intro R s σ H x M v L Q I P O h;obtain⟨a,y,rfl,rfl,T,S,q⟩:=h;obtain⟨t,rfl⟩:=P;obtain⟨u,rfl,N⟩:=O.one;obtain⟨U,rfl⟩:=N;have fresh:=I.az.fresh (afn s.heap.objs.size)
 have fin:∀(its:List È) (k:Nat),Vals ((Ă a y).map V.str) its->EP X R σ Q 0e7 { s with heap:=s.heap.push { cls:=.type "list",data:=.seq its.toArray },toks:=k }:=λits k r=>by
  have Y:((Ă a y).map V.str).length<=Ù:=by rw[Ä];exact Ü (aeh a y) S
  refine⟨.ref s.heap.objs.size,_,I.laid (o:=.lst ((Ă a y).map V.str)) (t':=k) (λb o e=>Á _ e) 3e0 ⟨Y,its,0,r,Ò _ rfl⟩,rfl,q _ fresh⟩
 by_cases Z:(ώ (a.length<y.length)||ώ (Builtin.Str.strKind a<Builtin.Str.strKind y))=ό
 ·refine ac8 F.slot_str_split (ad6 s a t) F.entry_str_split (F.args_str_split_2 _ _) (meets_str_split_cannot_occur a y t U Z) ?_
  have e:Ă a y=[a]:=by delta Ă;rw[Ô Z]
  have:=fin [.str a t] s.toks (by rw[e];exact .cons 5e0 .nil);exact this
 ·by_cases W:(Ą a y 0 a.length (a.length+1)).isEmpty=ό
  ·refine ac8 F.slot_str_split (ad6 s a t) F.entry_str_split (F.args_str_split_2 _ _) (meets_str_split_not_found a y t U (by simpa using Z) T W) ?_
   have e:Ă a y=[a]:=by delta Ă;rw[Ö Z,Ô W]
   have:=fin [.str a t] s.toks (by rw[e];exact .cons 5e0 .nil);exact this
  ·have e:Ă a y=Builtin.Str.partsBetween a (Ą a y 0 a.length (a.length+1)) y.length:=by delta Ă;rw[Ö Z,Ö W]
   calc ac8 F.slot_str_split (ad6 s a t) F.entry_str_split (F.args_str_split_2 _ _) (meets_str_split_sep a y t U (by simpa using Z) T (by simpa using W) ⋯ (by rw[<- e];exact Ü (aeh a y) S)) ?_;have:=fin (strsFrom s.toks (Ă a y)) (s.toks+(Ă a y).length) (Ih _ _);rw[e] at this;exact this
def QR:cC X (.type "int") (λxs H Q=>∃(x:Str) (n:Int),xs=[.str x]/\x.length<=640/\ads x=ϊ n/\Q (.int n) H):=by
 intro U s σ H xs T Q I r h;obtain⟨x,n,rfl,Z,Y,q⟩:=h;obtain⟨u,rfl,V⟩:=vals1 r;obtain⟨t,rfl⟩:=V;exact PySem.W.KIN.call_text Y Z ⟨.int n,H,I.tok _,5e0,q⟩
end
section
variable {prog:ê} {w:Ď} {A:ó} {E:È->Æ->Prop} {s:Æ}
theorem JA {it l:Þ} {items:Array È} (fZ:l≠it):∀(n i:Nat) (s:Æ) (Q:List È->Æ->Prop),s.heap.IsListIter it l i->s.heap.IsList l items->i+n<=items.size ->
  (∀h',h'.IsListIter it l (i+n)->ı it s.heap h'->Q ((items.toList.drop i).take n) { s with heap:=h' })->ß 2e3 A (draw 4e2 n) Q E s
 |0,i,s,Q,hit,_,_,Z=>by
  show ß _ _ (pure []) Q E s;exact Â (by simpa using Z s.heap hit (Heap.SameBut.refl ..))
 |n+1,i,s,Q,hit,W,hle,Z=>by
  have V:i<items.size:=by omega
  have T:items.toList.drop i=items[i]::items.toList.drop (i+1):=by simp[ń,V]
  show ß _ _ (acU 4e2 >>= _) Q E s;refine À (wpAny_pyNext_list_item hit W (x:=items[i]) (by simp[V]) λS R U=>?_)
  have P:S.IsList l items:=let ⟨o,e,r⟩:=W;⟨o,U.extBut l o fZ e,r⟩
  calc À (Ĉ (JA fZ n (i+1) _ _ R P ⋯ λO Y X=>Â ?_));have z:=Z O (by rw[show i+(n+1)=i+1+n by omega];exact Y) (U.trans X);rw[T,List.take_succ_cons] at z;exact z
def Rg {l:Þ} {items:Array È} {targets:List (Bool×(È->Sem Unit))} {Q:Unit->Æ->Prop} (hh:A.handled=ϋ) (hl:s.heap.IsList l items) (hn:targets.length=items.size) (hs:targets.findIdx? (·.1)=ϋ)
  (h:∀h',adw s.heap.objs.size s.heap h'->ß 2e3 A (adH (targets.map (·.2)) items.toList) Q E { s with heap:=h' }):ß 2e3 A (unpack (.ref l) targets) Q E s:=by
 have Y:l≠s.heap.objs.size:=by obtain⟨o,U,_⟩:=hl;exact á (Í U)
 have X:∀o,(s.heap.push o).IsList l items:=λo=>let ⟨u,e,r⟩:=hl;⟨u,Á _ e,r⟩
 delta unpack;rw[hn,hs];calc À (Ĉ ?_);delta unpackItems;calc À ?_;delta notIterableAtAll;calc À (acZ hl.typeIs slot_list_iter.lookup (Â ?_));rw[Ö 0e0];calc À (Ĉ (ū hl (À (Ĉ (JA Y items.size 0 _ _ 3e1 (X _) ⋯ λT S W=>?_)))));rw[ν,show List.take items.size items.toList=items.toList from ų ∅,Ö ∅]
 have R:T.IsList l items:=let ⟨o,e,r⟩:=X _;⟨o,W.extBut l o Y e,r⟩
 calc À (Ĉ (wpAny_pyNext_list_end hh S R ∅ λP Z=>?_));rw[Ö 0e0];exact Â (h P λb o V e=>Z b o V (W.extBut b o V (Á _ e)))
end
section
variable {X:Cx}
def ack (K:İ) (n:Nat) (t:jV):TG:=λv σ H Q=>∃a Z,v=.ref a/\bN K H a Z/\Z.length=n/\t Z σ H Q
def Zf {es:List ĳ} {k:Nat} {pos:Pos} {t:jV} {n:Nat} (hc:X.calm=ό) (h:kJ X es t)
  (hn:(Ř es X.env).length=n:=by rfl) (gG:(Ř es X.env).findIdx? (·.1)=ϋ:=by rfl):PG X (.Tuple es k pos) (ack X.K n t):=by
 intro Z s σ H v u Q I r hw;obtain⟨a,W,e1,V,U,hw⟩:=hw;subst e1;cases r;obtain⟨its,Y,T,O⟩:=I.list V;rw[assign_Tuple];refine À (ž (Rg (I.ok.hd hc) T.isList (by simp[hn,<- U,Y.length]) gG λS R=>?_))
 have P:Inv X Z σ H { s with heap:=S }:=I.kept (t':=s.toks) λb o e=>R b o (á (Í e)) e
 exact h Z _ σ H W _ Q P (by simpa using Y) hw
end
end L2
namespace DI
open PySem L2
section
variable {X:Cx} {Ξ:Wd->bb->Prop} {e a b o:ĳ} {es:List ĳ} {pos:Pos} {f g:afb D}
def gL (gs:List (D->Env->Option Env)):D->Env->Option Env:=λd env=>match d with
 | .lst Z=>gR gs Z env
 |_=>ϋ
def Ep {gl:List (D->Env->Option Env)} {k:Nat} (hc:X.calm=ό) (h:kJ X es (uE X.K (gR gl))) (hn:(Ř es X.env).length=gl.length:=by rfl) (gG:(Ř es X.env).findIdx? (·.1)=ϋ:=by rfl):PG X (.Tuple es k pos) (gD X.K (gL gl)) :=
 Ds (Zf hc h hn gG) λv σ H Q U=>by
  obtain⟨w,env,d,Z,T,S,R,W,Y,k⟩:=U
  cases d with
  |lst P =>
   erw[DV] at W;obtain⟨p,O,e1,N,V⟩:=W;subst T;exact⟨p,O,e1,N.sq,by rw[<- V.length];exact yL Y,w,env,P,Z,rfl,S,R,V,Y,k⟩
  |_=>cases Y
def Hd (x:Str):List D:=x.cps.toList.map λc=>D.str 1e2
def oF (f:afb D):afb (List D):=λenv s=>aj 2e2 λd s=>match d with
 | .str x=>ok (Hd x) s
 |_=>ϋ
def Aa {tg:ĳ} (hl:PE X a 1e0):PI X tg a (fk X.K Ξ (oF f)) :=
 vM (Zd hl) fun σ H R V=>by
  obtain⟨w,env,U,S,T,h⟩:=V;subst U;refine⟨w,env,rfl,S,T,(Out.aj h).mono λL d J Q W v P=>?_⟩
  cases d with
  |str x =>
   have e:v=.str x:=P;refine⟨x,e,ax Q W _ λO I N i=>⟨λd Z=>?_,λhl=>?_⟩⟩
   ·delta Hd at Z
    rw[é] at Z;obtain⟨c,Y,rfl⟩:=Ŗ.mp Z;rw[ù] at Y;calc⟨(Ħ.mp Y).1,λz G ⟨e1,F,e2,M⟩=>⟨O,e1.symm,Le.refl _,N,rfl,?_⟩⟩;rw[Y] at e2;cases e2;exact M
   ·show x.cps.size<=i
    delta Hd at hl;rw[Ä,ë] at hl;exact hl
  |_=>exact W.elim
def strs?:List D->Option (List Str)
 | []=>ϊ []
 | .str x::r=>(strs? r).map (x::·)
 |_=>ϋ
theorem Lq {K:İ} {w:Wd}:∀{ds:List D} {zs:List Str} {vs:List V},strs? ds=ϊ zs->aq K w ds vs->vs=zs.map V.str
 | [],zs,vs,h,Z=>by cases h;exact Z
 |d::ds,zs,vs,h,Z=>by
  obtain⟨v,r,rfl,Y,X⟩:=Z
  cases d with
  |str x =>
   delta strs? at h;obtain⟨W,U,rfl⟩:=Ŗ.mp h;rw[Lq U X,show v=.str x from Y];rfl
  |_=>cases h
theorem Kg {K:İ} {w:Wd}:∀zs:List Str,aq K w (zs.map D.str) (zs.map V.str)
 | []=>rfl
 |z::zs=>⟨.str z,_,rfl,rfl,Kg zs⟩
def dU (m:Str->D->ae->Res D) (f g:afb D):afb D:=λenv s=>aj 2e2 λd s=>match d with
 | .str y=>aj (g env s) λx s=>m y x s
 |_=>ϋ
def jH (y:Str) (x:D) (s:ae):Res D:=match res x s with
 | .lst Z=>match strs? Z with
  |some zs=>if JoinOk y zs=ό then ok (.str (Ŏ y zs)) s else ϋ
  |none=>ϋ
 |_=>ϋ
def iV (a:Str) (x:D) (s:ae):Res D:=match x with
 | .str y=>if (!(y.length==0)&&ώ (a.length+2<=Ù))=ό then ok (.lst ((Ă a y).map D.str)) s else ϋ
 |_=>ϋ
def sQ {apos ba:Pos} (ho:PE X o 1e0) (ha:PE X a (tE X.K Ξ g))
  (jD:ſ o "join" X.env (ŗ o X.env)=ŗ o X.env:=by rfl)
  (jK:((ŀ ba (Ð [a] X.env)).all (λx=>!x.1)&&(aeL ba (acW [] X.env)).all (λx=>x.1.isSome)
   && ώ 3e2)=ό:=by rfl)
  (jE:7e4=ό:=by rfl) (hs:Ð [a] X.env=3e3::Ð [] X.env:=by rfl) (gZ:(ŀ ba (Ð [] X.env)).any (·.1)=ύ:=by rfl) :
  PE X (.Call (.Attribute o "join" apos) [a] [] ba) (tE X.K Ξ (dU jH f g)) :=
 cB (sV ad3 PySem.F.slot_str_join PySem.F.type_str_join W2 ho (gn ha iD hs) jD jK jE hs gZ) fun σ H Q T=>by
  obtain⟨w,env,R,S,Y,h⟩:=T;subst R;refine⟨w,env,rfl,S,Y,(Out.aj h).mono λP d O N W v M=>?_⟩
  cases d with
  |str y =>
   have e:v=.str y:=M;subst e;calc⟨rfl,P,env,rfl,N,Y.le O,(Out.aj W).mono λD x C V Z u L=>?_⟩;delta jH at Z;split at Z
   ·rename_i B J
    split at Z
    ·rename_i zs I
     split at Z
     ·rename_i G
      obtain⟨p,A,rfl,U,E⟩:=jz V L J;rw[Lq I E] at U;exact⟨y,p,zs,rfl,rfl,bN.of U,G,ax V Z _ rfl⟩
     ·exact Z.elim
    ·exact Z.elim
   ·exact Z.elim
  |_=>exact W.elim
def m8 {apos ba:Pos} (ho:PE X o 1e0) (ha:PE X a (tE X.K Ξ g))
  (jD:ſ o "split" X.env (ŗ o X.env)=ŗ o X.env:=by rfl)
  (jK:((ŀ ba (Ð [a] X.env)).all (λx=>!x.1)&&(aeL ba (acW [] X.env)).all (λx=>x.1.isSome)
   && ώ 3e2)=ό:=by rfl)
  (jE:7e4=ό:=by rfl) (hs:Ð [a] X.env=3e3::Ð [] X.env:=by rfl) (gZ:(ŀ ba (Ð [] X.env)).any (·.1)=ύ:=by rfl) :
  PE X (.Call (.Attribute o "split" apos) [a] [] ba) (tE X.K Ξ (dU iV f g)) :=
 cB (sV ad3 PySem.F.slot_str_split PySem.F.type_str_split Vj ho (gn ha iD hs) jD jK jE hs gZ) fun σ H Q N=>by
  obtain⟨w,env,M,S,T,h⟩:=N;subst M;refine⟨w,env,rfl,S,T,(Out.aj h).mono λL d J I R v G=>?_⟩
  cases d with
  |str y =>
   have e:v=.str y:=G;subst e;calc⟨rfl,L,env,rfl,I,T.le J,(Out.aj R).mono λP x D O Y u E=>?_⟩;delta iV at Y;split at Y
   ·rename_i z
    split at Y
    ·rename_i W
     rw[Å,û,É] at W;have e:u=.str z:=E;subst e;calc⟨y,z,rfl,rfl,W.1,W.2,λp U=>?_⟩;exact Y (P.grow p (.lst ((Ă y z).map V.str))) (Fw.grow U).le (O.grow U) rfl 7e3 ⟨p,_,rfl,⟨(show ¬ P.Z p from kj O U),cO⟩,Kg _⟩
    ·exact Y.elim
   ·exact Y.elim
  |_=>exact R.elim
def mE (ds:List D) (s:ae):Res D:=match ds with
 | [.int i]=>if ώ (i.natAbs.log2<1920)=ό then ok (.str (toString i)) s else ϋ
 |_=>ϋ
def wM:cC X (.type "str") (rC X.K Ξ mE):=by
 intro Z s σ H U Y Q I r zzz;obtain⟨w,T,rfl,S,W,h⟩:=zzz;delta mE at h;split at h
 ·rename_i i
  split at h
  ·rename_i hi
   obtain⟨v,rfl,V⟩:=l9 W;have e:v=.int i:=V;subst e;exact QD Z s σ w.H _ Y Q I r ⟨i,rfl,î hi,ax S h _ rfl⟩
  ·exact h.elim
 ·exact h.elim
def nA (ds:List D) (s:ae):Res D:=match ds with
 | [.str x]=>if ώ (x.length<=640)=ό then (match ads x with
  |some n=>ok (.int n) s
  |none=>ϋ) else ϋ
 |_=>ϋ
def zK:cC X (.type "int") (rC X.K Ξ nA):=by
 intro Z s σ H T Y Q I r zzz;obtain⟨w,R,rfl,S,W,h⟩:=zzz;delta nA at h;split at h
 ·rename_i x
  split at h
  ·rename_i hi
   split at h
   ·rename_i n V
    obtain⟨v,rfl,U⟩:=l9 W;have e:v=.str x:=U;subst e;exact QR Z s σ w.H _ Y Q I r ⟨x,n,rfl,î hi,V,ax S h _ rfl⟩
   ·exact h.elim
  ·exact h.elim
 ·exact h.elim
def Er (x y:D) (s:ae):Res D:=match x,y with
 | .str i,.str j=>ok (.bl (!(Ą j i 0 j.length 1).isEmpty)) s
 |_,_=>ϋ
def aaP:bF X (Ğ .In) (rO X.K Ξ Er):=by
 intro Z s σ H x y v u Q I Y W zzz;obtain⟨w,T,R,rfl,S,V,U,h⟩:=zzz;delta Er at h;split at h
 ·rename_i i j
  have e1:x=.str i:=V;have e2:y=.str j:=U;subst e1 e2;exact SD Z s σ w.H _ _ v u Q I Y W 9e0
 ·exact h.elim
def Fs {x y:Str} (h:∃t,X.mg x=ϊ (.str y t)) (hg:Gl X x) (hd:0e8=ύ:=by decide):PE X (.Name x pos) (tE X.K Ξ (eC (.str y))):=by
 obtain⟨t,e⟩:=h;exact qw (v:=.str y) (Cz hg e ⟨t,rfl⟩ hd) λ_=>rfl
end
end DI
namespace L2
open PySem PySem.Spec PyProof.Rows
def de (st:Int) (x:Str) (lo hi:Option Int):Str:=if (st==1&&(ĭ lo hi st x.length).length==x.length)=ό then x else ⟨((ĭ lo hi st x.length).filterMap λi=>x.cps[i]?).toArray⟩
section
variable {X:Cx} {e:ĳ} {te:TE} {p2 p3 p4 pos:Pos}
def made_str {x:Str} {t:Tok} {l u st:Option (Int×Tok)} {i:Int} {Q:VK} {π:List 2e7} {σ:St} {H:Hp} {s:Æ} (I:Inv X π σ H s) (hi:(st.map (·.1)).getD 1=i) (hz:(de i x (l.map (·.1)) (u.map (·.1))).length<=Ù) (q:Q (.str (de i x (l.map (·.1)) (u.map (·.1)))) H):(sliceMade x t l u st).post (EP X π σ Q) s:=by
 subst hi;delta de at q hz;delta sliceMade slicePicked;split
 ·rename_i h
  rw[Ô h] at q;exact⟨.str x,H,I,5e0,q⟩
 ·rename_i h
  rw[Ö h] at q hz;exact⟨hz,.str _,H,I.tok _,5e0,q⟩
def part_of (h:IsPart v o):∃l:Option (Int×Tok),v=partValue l/\l.map (·.1)=o:=by
 cases h with
 |none=>exact⟨ϋ,rfl,rfl⟩
 |int i t=>exact⟨ϊ (i,t),rfl,rfl⟩
def acm:V->Option Int->Option Int->Hp->VK->Prop:=λx lo hi H Q=>∃y,x=.str y/\(de 1 y lo hi).length<=Ù/\Q (.str (de 1 y lo hi)) H
def Zg:rf X acm:=by
 intro V s σ H x v U T lo hi sl Q I Z hs Y pu h;obtain⟨y,rfl,W,q⟩:=h;obtain⟨t,rfl⟩:=Z;obtain⟨l,rfl,rfl⟩:=part_of Y;obtain⟨u,rfl,rfl⟩:=part_of pu;exact⟨"str",_,F.slot_str_getitem.lookup,ad6 s y t,wpAny_getItem_str_slice (st:=ϋ) hs rfl (made_str I rfl W q)⟩
def aaQ (te:TE):TE:=fun σ H Q=>te σ H λx Z=>∃y,x=.str y/\(de (-1) y ϋ ϋ).length<=Ù/\Q (.str (de (-1) y ϋ ϋ)) Z
def W3 (he:PE X e te):PE X (.Subscript e (.Slice ϋ ϋ (ϊ (.UnaryOp .USub (.Constant (.int 1) 0 p4) p3)) p2) pos) (aaQ te):=by
 intro Y s σ H Q I h;calc Subscript_ (aJ (he Y s σ H _ I h) λv T ⟨x,U,S,R,P⟩=>?_);obtain⟨y,rfl,O,q⟩:=P;obtain⟨t,rfl⟩:=R;calc wpAny_Slice ?_;rw[evalPart_none];calc Â (Â ?_);have step:PE X (.UnaryOp .USub (.Constant (.int 1) 0 p4) p3) (ON (rU λi=>.int (-i)) (tC (.int 1))):=MU LU LR;rw[evalPart_some];calc aJ (step Y T σ U (λy W=>y=.int (-1)/\W=U) S ⟨1,rfl,rfl,rfl⟩) λu Z ⟨J,W,N,M,e1,e2⟩=>?_;subst e1 e2;obtain⟨V,rfl⟩:=M
 have L:Inv X Y σ W { Z with heap:=Z.heap.push { cls:=.type "slice",data:=.fields #[.none,.none,.int (-1) V] } }:=N.kept (t':=Z.toks) λb G q=>Á _ q
 have K:Heap.IsSlice (Z.heap.push { cls:=.type "slice",data:=.fields #[.none,.none,.int (-1) V] }) Z.heap.objs.size ϋ ϋ (ϊ (-1,V)):=Heap.IsSliceOf.new ..;exact tail_any (ops:=[.str y t,.ref Z.heap.objs.size]) (ad6 _ y t) F.slot_str_getitem.lookup (wpAny_getItem_str_slice K rfl (made_str L rfl O q)) (by with_unfolding_all rfl)
def aaR:R2:=λx y H Q=>∃a n,x=.str a/\y=.int n/\MulOk a n/\Q (.str (Txt.mul a n)) H
def W4:bF X (ŏ .Mult) aaR:=by
 intro V s σ H x y v u Q I Z Y h;obtain⟨a,n,rfl,rfl,W,q⟩:=h;obtain⟨t,rfl⟩:=Z;obtain⟨U,rfl⟩:=Y;exact SB.mul W λT k=>⟨.str _,H,I.tok _,5e0,q⟩
end
end L2
namespace DI
open PySem L2
section
variable {X:Cx} {Ξ:Wd->bb->Prop} {e a b o:ĳ} {lo hi:Option ĳ} {p2 p3 p4 pos:Pos} {f g:afb D}
def He (d:D) (lo hi:Option Int) (s:ae):Res D:=match d with
 | .str x=>if ώ ((de 1 x lo hi).length<=Ù)=ό then ok (.str (de 1 x lo hi)) s else ϋ
 |_=>ϋ
def lC (f:afb D) (l h:afb (Option Int)):afb D:=λenv s=>aj 2e2 λd s=>aj (l env s) λlo s=>aj (h env s) λhi s=>He d lo hi s
def W5:rf X (λx lo hi H Q=>∃w dx,w.H=H/\aS X.K w/\DV X.K w dx x/\Out X.K Ξ w (He dx lo hi w.aG) λw' d=>∀v,DV X.K w' d v->Q v w'.H):=by
 intro Z s σ H x v Y W lo hi sl Q I V hs U pu zzz;obtain⟨w,dx,rfl,S,T,h⟩:=zzz
 cases dx with
 |str y =>
  have e1:x=.str y:=T;subst e1;delta He at h;dsimp only at h;split at h
  ·rename_i R
   exact Zg Z s σ w.H _ v Y W lo hi sl Q I V hs U pu ⟨y,rfl,î R,ax S h _ rfl⟩
  ·exact h.elim
 |_=>exact h.elim
def oH (he:PE X e 1e0) (hl:PO X lo (tP X.K Ξ fl)) (hu:PO X hi (tP X.K Ξ fh)):PE X (.Subscript e (.Slice lo hi ϋ p2) pos) (tE X.K Ξ (lC f fl fh)) :=
 cB (JS (W5 (Ξ:=Ξ)) he hl hu) fun σ H Q V=>by
  obtain⟨w,env,U,S,Z,h⟩:=V;subst U;exact⟨w,env,rfl,S,Z,(Out.aj h).mono λT d Y R P v O=>⟨T,env,rfl,R,Z.le Y,(Out.aj P).mono λN i W M L=>⟨N,env,rfl,M,Z.le (Y.trans W),(Out.aj L).mono λJ j I G F=>⟨J,d,rfl,G,(W.trans I) _ _ O,F⟩⟩⟩⟩
def xi (d:D) (s:ae):Res D:=match d with
 | .str x=>if ώ ((de (-1) x ϋ ϋ).length<=Ù)=ό then ok (.str (de (-1) x ϋ ϋ)) s else ϋ
 |_=>ϋ
def Zh (he:PE X e 1e0):PE X (.Subscript e (.Slice ϋ ϋ (ϊ (.UnaryOp .USub (.Constant (.int 1) 0 p4) p3)) p2) pos) (tE X.K Ξ (e1 xi f)):=cB (W3 he) fun σ H Q Y=>by
 obtain⟨w,env,W,S,V,h⟩:=Y;subst W;refine⟨w,env,rfl,S,V,(Out.aj h).mono λP d O U Z v T=>?_⟩
 cases d with
 |str y =>
  have e1:v=.str y:=T;subst e1;delta xi at Z;dsimp only at Z;split at Z
  ·rename_i R
   exact⟨y,rfl,î R,ax U Z _ rfl⟩
  ·exact Z.elim
 |_=>exact Z.elim
open Classical in
def ko (x y:D) (s:ae):Res D:=match x,y with
 | .str a,.int n=>if MulOk a n then ok (.str (Txt.mul a n)) s else ϋ
 |_,_=>ϋ
def Mv:bF X (ŏ .Mult) (rO X.K Ξ ko):=by
 intro Z s σ H x y v u Q I Y W zzz;obtain⟨w,R,P,rfl,S,V,U,h⟩:=zzz;delta ko at h;split at h
 ·rename_i i j
  have e1:x=.str i:=V;have e2:y=.int j:=U;subst e1 e2;split at h
  ·rename_i T
   exact W4 Z s σ w.H _ _ v u Q I Y W ⟨i,j,rfl,rfl,T,ax S h _ rfl⟩
  ·exact h.elim
 ·exact h.elim
def vq (x y:D) (s:ae):Res D:=match x,y with
 | .str a,.str b=>ok (.bl ((Ą b a 0 b.length 1).isEmpty)) s
 |_,_=>ϋ
def Vk:bF X (Ğ .NotIn) (rO X.K Ξ vq):=by
 intro U s σ H x y v u Q I Z Y zzz;obtain⟨w,T,R,rfl,S,W,V,h⟩:=zzz;delta vq at h;split at h
 ·rename_i i j
  have e1:x=.str i:=W;have e2:y=.str j:=V;subst e1 e2;obtain⟨t,rfl⟩:=Z;obtain⟨P,rfl⟩:=Y;calc SB.notContains ⟨.bl _,w.H,I,rfl,?_⟩;have q:=ax S h _ rfl;delta Txt.contains;simpa using q
 ·exact h.elim
end
end DI
namespace TK
open PySem PySem.Spec PySem.W PyProof.Rows DI L2 TS
section
variable {X:Cx} {Ξ:Wd->bb->Prop}
def Tn:cC X (.builtin "len") (λxs H Q=>∃(p:Þ) (zs:List (List D×Þ)),xs=[.ref p]/\H p=ϊ (.ext (yd X.w p zs))/\zs.length<=60/\Q (.int zs.length) H):=by
 intro P s σ H xs O Q I r h;obtain⟨p,zs,rfl,Z,Y,q⟩:=h;obtain⟨v,rfl,W⟩:=vals1 r;cases W;obtain⟨⟨u,V,N,t,U,S,R,T⟩,_⟩:=I.az p _ Z;have sz:V.size=zs.length:=T.size;rw[<- sz] at q Y;exact PySem.call_len_set U S R T.fits ⋯ ⟨.int _,H,I.tok _,5e0,q⟩
def wN (xs:List D):Option D:=@dite _ (∃Z:List Pg,xs=Z.map Pg.d) (Classical.propDecidable _) (λh=>ϊ (.int (iR (Classical.choose h)).length)) λ_=>ϋ
def Kh (ps:List Pg):wN 6e4=ϊ (.int (iR ps).length):=by
 delta wN;have h:∃Z:List Pg,ps.map Pg.d=Z.map Pg.d:=⟨ps,rfl⟩;rw[dif_pos h];have:=IT (Classical.choose_spec h);rw[<- this]
def zi (d:D) (s:ae):Res D:=match d with
 | .lst Z=>if Z.length<=60 then bW (wN Z) s else ϋ
 |_=>ϋ
def To {a:ĳ} {f:DI.afb D} {k:Nat} {p p2 pos jm:Pos} (hr:ck k X.A) (ha:PE X a 1e0) (hc:X.calm=ό) (hg:Gl X "len") (hm:X.mg "len"=ϋ) (hv:ü "len"=ϊ (.builtin "len")) (xO:Gl X "set") (xP:X.mg "set"=ϋ) (xQ:ü "set"=ϊ (.type "set"))
  (he:Ð [a] X.env=3e3::Ð [] X.env:=by rfl) (bP:(ŀ jm (Ð [] X.env)).any (·.1)=ύ:=by rfl)
  (pG:Ð [.Call (.Name "set" p2) [a] [] jm] X.env=(ύ,ŗ (.Call (.Name "set" p2) [a] [] jm) X.env)::Ð [] X.env:=by rfl) (xc:(ŀ pos (Ð [] X.env)).any (·.1)=ύ:=by rfl) :
  PE X (.Call (.Name "len" p) [.Call (.Name "set" p2) [a] [] jm] [] pos) (tE X.K Ξ (e1 zi f)) :=
 cB (rW Tn hg hm hv (gn (yD (Tj hr hc) xO xP xQ (gn ha iD he) 0e0 0e0 he bP) iD pG) 0e0 0e0 pG xc) fun σ H Q N=>by
  obtain⟨w,env,M,S,L,h⟩:=N;subst M;calc⟨w,env,rfl,S,L,(Out.aj h).mono λV d t J Z v U=>?_⟩;delta zi at Z;split at Z
  ·rename_i s
   split at Z
   ·rename_i T
    obtain⟨r,e2,Z⟩:=fI Z;erw[DI.DV] at U;obtain⟨p,o,rfl,I,R⟩:=U;have W:=e2;delta wN at W;split at W
    ·rename_i G
     obtain⟨Y,F⟩:=G;clear W;subst F;rw[Kh] at e2;cases e2;rw[Ä] at T;obtain⟨as,rfl⟩:=W0 R;calc⟨V,p,Y,as,rfl,rfl,I.sq,R,T,λq zs P E C B hle=>⟨q,_,rfl,cO,by rw[Ä];omega,?_⟩⟩;have e:(zs.map (λz=>(its z.1.d,z.2))).length=(iR Y).length:=by
      rw[Ä,<- Ä (f:=(·.1))];exact((List.perm_ext_iff_of_nodup B (BU Y)).mpr λz=>by
       rw[zh];calc⟨λx=>?_,C z⟩;obtain⟨y,u,rfl⟩:=å.mp x;obtain⟨j,O,rfl⟩:=E y u;show Y.getD j pz∈Y;rw[ď,Ê O];exact adt O).length_eq
     rw[e];exact Z (V.grow q (.ext (yd X.w q (zs.map λz=>(its z.1.d,z.2))))) (Fw.grow P).le (J.grow P) rfl _ rfl
    ·cases W
   ·exact Z.elim
  ·exact Z.elim
end
end TK
namespace L2
open PySem PySem.Spec PyProof.Rows
def acn:V->List V->Hp->VK->Prop:=λx Z H Q=>∃y z i r,x=.str y/\Z=[.str z]/\Ą y z 0 y.length 1=i::r/\Q 4e5 H
def Zi:uw X "str.index" acn:=by
 intro U s σ H x T v S Q I Z Y h;obtain⟨y,z,i,r,rfl,rfl,W,q⟩:=h;obtain⟨t,rfl⟩:=Z;obtain⟨u,rfl,V⟩:=vals1 Y;obtain⟨R,rfl⟩:=V;exact SC.index W ⟨.int _,H,I.tok _,5e0,q⟩
end L2
namespace DI
open PySem L2
section
variable {X:Cx} {Ξ:Wd->bb->Prop} {a:ĳ} {pos:Pos} {f:afb D}
def si (d:D) (s:ae):Res D:=match d with
 | .tup Y=>match oz Y with
  |some Z=>if ώ (Z.length<4000/\(dS Z).length<64)=ό then ok (.lst ((dS Z).map D.int)) s else ϋ
  |none=>ϋ
 |_=>ϋ
def RY {p p2 jm:Pos} (ha:PE X a 1e0) (hc:X.calm=ό) (hg:Gl X "sorted") (hm:X.mg "sorted"=ϋ) (hv:ü "sorted"=ϊ (.builtin "sorted")) (xO:Gl X "set") (xP:X.mg "set"=ϋ) (xQ:ü "set"=ϊ (.type "set"))
  (he:Ð [a] X.env=3e3::Ð [] X.env:=by rfl) (bP:(ŀ jm (Ð [] X.env)).any (·.1)=ύ:=by rfl)
  (pG:Ð [.Call (.Name "set" p2) [a] [] jm] X.env=(ύ,ŗ (.Call (.Name "set" p2) [a] [] jm) X.env)::Ð [] X.env:=by rfl) (xc:(ŀ pos (Ð [] X.env)).any (·.1)=ύ:=by rfl) :
  PE X (.Call (.Name "sorted" p) [.Call (.Name "set" p2) [a] [] jm] [] pos) (tE X.K Ξ (e1 si f)) :=
 cB (rW (Im hc) hg hm hv (gn (yD (RR hc) xO xP xQ (gn ha iD he) 0e0 0e0 he bP) iD pG) 0e0 0e0 pG xc) fun σ H Q J=>by
  obtain⟨w,env,I,S,G,h⟩:=J;subst I;calc⟨w,env,rfl,S,G,(Out.aj h).mono λT d B F W v P=>?_⟩;delta si at W;split at W
  ·rename_i A
   split at W
   ·rename_i Y E
    split at W
    ·rename_i U
     have U:=î U;erw[DV] at P;obtain⟨p,z,rfl,O,N⟩:=P;rw[Cc E] at N;rw[N.B9] at O;calc⟨p,Y,rfl,O,U.1,λq M=>?_⟩;calc⟨q,Y,rfl,cO,adS (J1 Y) U.2,λl y D hs C=>?_⟩;have e:=ym hs (u6 Y) λk=>(C k).trans lY.symm;subst e;have R:(T.grow q (.ext (i3 X.prog X.w q Y))).H l=ϋ:=D;have L:=F.grow (o:=.ext (i3 X.prog X.w q Y)) M;exact W ((T.grow q (.ext (i3 X.prog X.w q Y))).grow l (.lst ((dS Y).map V.int))) ((Fw.grow M).le.trans (Fw.grow R).le) (L.grow R) rfl (.ref l) ⟨l,_,rfl,⟨(show ¬ (T.grow q (.ext (i3 X.prog X.w q Y))).Z l from kj L R),cO⟩,aq.ints _⟩
    ·exact W.elim
   ·exact W.elim
  ·exact W.elim
end
def ye (a:Str) (x:D) (s:ae):Res D:=match x with
 | .str y=>match Ą a y 0 a.length 1 with
  |i::_=>ok 4e5 s
  | []=>ϋ
 |_=>ϋ
def aaS {X:Cx} {Ξ:Wd->bb->Prop} {o a:ĳ} {f g:afb D} {apos ba:Pos} (ho:PE X o 1e0) (ha:PE X a (tE X.K Ξ g))
  (jD:ſ o "index" X.env (ŗ o X.env)=ŗ o X.env:=by rfl)
  (jK:((ŀ ba (Ð [a] X.env)).all (λx=>!x.1)&&(aeL ba (acW [] X.env)).all (λx=>x.1.isSome)
   && ώ 3e2)=ό:=by rfl)
  (jE:7e4=ό:=by rfl) (hs:Ð [a] X.env=3e3::Ð [] X.env:=by rfl) (gZ:(ŀ ba (Ð [] X.env)).any (·.1)=ύ:=by rfl) :
  PE X (.Call (.Attribute o "index" apos) [a] [] ba) (tE X.K Ξ (dU ye f g)) :=
 cB (sV ad3 PySem.F.slot_str_index PySem.F.type_str_index Zi ho (gn ha iD hs) jD jK jE hs gZ) fun σ H Q V=>by
  obtain⟨w,env,U,S,Y,h⟩:=V;subst U;refine⟨w,env,rfl,S,Y,(Out.aj h).mono λT d R P W v O=>?_⟩
  cases d with
  |str y =>
   have e:v=.str y:=O;subst e;calc⟨rfl,T,env,rfl,P,Y.le R,(Out.aj W).mono λL x J N Z u M=>?_⟩;delta ye at Z;split at Z
   ·rename_i z
    split at Z
    ·rename_i i r ho
     have e:u=.str z:=M;subst e;exact⟨y,z,i,r,rfl,rfl,ho,ax N Z _ rfl⟩
    ·exact Z.elim
   ·exact Z.elim
  |_=>exact W.elim
end DI
namespace DI.bK
open PySem L2 DI
noncomputable section
def bS:List Str:=["NoText"]
def yR:List D->ae->Res D:=aU 2 3 (aw (aQ (aE u9 (af 0e4 4e8)) (gN 2)) (aw (bc (aF (e2 w9 6e6 (e2 wx (eC (.int 10)) (eC (.int 18))))) (aD (eNew (af (e2 oy 6e6 (e2 wx (eC (.int 10)) (eC (.int 18)))) (af (eC 6e1) ah)))) bJ) (aD (eNew (af (e2 nv 6e6 (eC (.int 2147483647))) (af (eC 3e8) ah))))))
def dW:List D->ae->Res D:=aU 2 4 (aw (bc (dO (e2 ar 0e4 1e1)) (aw (aQ (e2 nv 8e5 1e8) (gN 2)) (aw (qL (e2 wu 8e5 1e8) 0e4 1e9) (aD 6e6))) bJ) (aw (qL (e2 nv (e2 aY (e2 iJ 8e5 (eC (.int 48271))) (eC (.int 29))) (eC (.int 2147483647))) 0e4 1e9) (aw (aQ (e2 nv (e2 aY (e2 aY (e2 iJ 8e5 8e5) (e2 iJ (eC (.int 39373)) 8e5)) (eC (.int 7))) (eC (.int 2147483629))) (gN 3)) (aw (aQ (e2 nv (e2 aY (e2 iJ (aa 3) (aa 3)) (e2 iJ (eC (.int 16807)) (aa 3))) (eC (.int 2147483587))) (gN 3)) (aD (e2 nv (e2 wu (aa 3) (eC (.int 8))) 1e8))))))
def uY:List D->ae->Res D:=aU 1 1 (aD (jt (aF (e2 cG 0e4 (cU ah))) (dU jH (eC (.str "")) (cT 1 [] (cV 0e4) (gN 0) eG (eB mE 2e4))) (eC (.str "-"))))
def uZ:List D->ae->Res D:=aU 1 1 (aD (e2 aY (e2 aY (aE uY (af 8e5 ah)) (eC (.str "/"))) (aE uY (af (e2 ar 0e4 1e1) ah))))
def vF:List D->ae->Res D:=aU 1 2 (aw (aQ (jt (aF (e2 aZ 8e5 (eC 6e5))) (aE uZ (af (e2 ar 0e4 4e0) ah)) (eB mE (af (e2 ar 0e4 4e0) ah))) (gN 1)) (aD (e2 aY (e2 aY (e2 aY (e2 aY (e2 aY (e2 aY 8e5 (eC (.str " "))) (eB mE (af (e2 ar 0e4 1e1) ah))) (eC (.str " "))) (eB mE (af (e2 ar 0e4 3e9) ah))) (eC (.str " "))) 1e8)))
def yS:List D->ae->Res D:=aU 1 4 (aw (aQ (e2 ar (cz (af 3e9 (af (eC (.int 4)) (af (eC (.int 8)) ah)))) (aE dW (af 0e4 (af 4e0 ah)))) (gN 1)) (aw (aQ (cT 1 [0] (ik 4e8) (gN 0) eG (aE dW (af 1e8 (af 4e0 ah)))) (gN 2)) (aw (aQ (eB fJ (af (cT 1 [2] (ik 4e8) (gN 0) (aF (e2 aZ (e2 ar 1e8 0e4) 1e1)) 0e4) ah)) (gN 3)) (aD (cU (af (aa 3) (af (eB fJ (af (cT 1 [2] (ik 4e8) (gN 0) (aF (e2 aZ (e2 ar 1e8 0e4) 3e9)) 0e4) ah)) ah)))))))
def vG:List D->ae->Res D:=aU 2 4 (aw (tU 2 3 (af (e2 ar (cz (af 1e9 (af (aE dW (af 0e4 (af (eC (.int 4)) ah))) ah))) (aE dW (af 0e4 (af 3e9 ah)))) (af (aE dW (af 0e4 4e8)) ah))) (aw (bc (aF (e2 aZ (aE dW (af 0e4 (af 4e0 ah))) 1e9)) (aD (cU (af (eC 7e0) (af 6e6 (af (aa 3) (af (aE dW (af 0e4 (af (e2 ar (cz (af 3e9 (af (eC (.int 4)) (af (eC (.int 8)) ah)))) (aE dW (af 0e4 (af 4e0 ah)))) ah))) ah)))))) bJ) (aD (cU (af (eC 6e5) (af 6e6 (af (aa 3) (af (aE yS 2e4) ah))))))))
def vt:List D->ae->Res D:=aU 2 12 (aw (aQ (eC (.str " !\"#$&'()*+,-./0123456789:;<=>?@ABCDEFGHIJKLMNOPQRSTUVWXYZ[\\]^_`abcdefghijklmnopqrstuvwxyz{|}~\t\n")) (gN 2)) (aw (aQ (e2 aY 6e6 (e2 ko (eC (.str "0123456789 -/")) 4e0)) (gN 2)) (aw (tW 3 4 5 (af (e2 ar 6e6 (aE dW (af 0e4 (af (eB cM (af 6e6 ah)) ah)))) (af (aE dW (af 0e4 (af (e2 aY (eB cM 4e8) 1e1) ah))) (af (aE dW (af 0e4 (af (eC (.int 10)) ah))) ah)))) (aw (aQ (dU iV 1e8 8e6) (gN 6)) (aw (aQ (aE dW (af 0e4 (af (eB cM (af (aa 6) ah)) ah))) (gN 7)) (aw (bc (aF (e2 jo (aa 5) 3e9)) (aD (e2 aY (e2 aY (lC 1e8 cX (bQ (aa 4))) (aa 3)) (lC 1e8 (bQ (e2 aY (aa 4) (aa 5))) cX))) bJ) (aw (bc (aF (e2 aZ (aa 5) 3e9)) (aD (e2 aY (lC 1e8 cX (bQ (aa 4))) (lC 1e8 (bQ (e2 aY (aa 4) 1e1)) cX))) bJ) (aw (bc (aF (e2 aZ (aa 5) 4e0)) (aD (e2 aY (e2 aY (lC 1e8 cX (bQ (aa 4))) (e1 xi (lC 1e8 (bQ (aa 4)) (bQ (e2 aY (aa 4) 3e9))))) (lC 1e8 (bQ (e2 aY (aa 4) 3e9)) cX))) bJ) (aw (bc (aF (e2 aZ (aa 5) (eC (.int 4)))) (aD (dU jH 8e6 (e2 aY (dI (aa 6) cX (bQ (aa 7))) (dI (aa 6) (bQ (e2 aY (aa 7) 1e1)) cX)))) bJ) (aw (bc (aF (e2 aZ (aa 5) (eC (.int 5)))) (aD (dU jH 8e6 (e2 aY (e2 aY (dI (aa 6) cX (bQ (aa 7))) (dI (aa 6) (bQ (aa 7)) (bQ (e2 aY (aa 7) 1e1)))) (dI (aa 6) (bQ (aa 7)) cX)))) bJ) (aw (bc (aF (e2 aZ (aa 5) (eC (.int 6)))) (aD (e2 aY (e2 aY 1e8 (aE vF (af (aE vG (af 0e4 (af (eC (.int 31)) ah))) ah))) 8e6)) bJ) (aw (aQ (dU iV (e2 ar (aa 6) (aa 7)) (eC (.str " "))) (gN 8)) (aw (aQ (aE dW (af 0e4 (af (eB cM (af (aa 8) ah)) ah))) (gN 9)) (aw (aQ (cz (af (eC (.str "-")) (af (eC (.str "0")) (af (eC (.str "-0")) (af (eC (.str "31")) (af (eC (.str "4")) (af (eC (.str "8")) (af (eC (.str "-1")) (af (eC (.str "07")) (af (e2 ko (eC (.str "9")) (eC (.int 30))) (af (eC (.str "")) (af (eC (.str "0/1")) (af (eC (.str "-/-")) (af (eC (.str "10/-")) (af (eC (.str "0/0")) (af (eC (.str "8/-")) (af (eC (.str "1/")) ah))))))))))))))))) (gN 10)) (aw (aQ (e2 aY (aa 10) (cz (af (eC (.str "/")) (af (eC (.str "0/1/2")) ah)))) (gN 10)) (aw (bc (aF (e2 jo (aa 5) (eC (.int 9)))) (aw (aQ (dU jH (eC (.str " ")) (e2 aY (e2 aY (dI (aa 8) cX (bQ (aa 9))) (cz (af (e2 ar (aa 10) (aE dW (af 0e4 (af (eC (.int 18)) ah)))) ah))) (dI (aa 8) (bQ (e2 oy (e2 aY (aa 9) (aa 5)) (eC (.int 7)))) cX))) (gN 11)) (aD (dU jH 8e6 (e2 aY (e2 aY (dI (aa 6) cX (bQ (aa 7))) (cz (af (aa 11) ah))) (dI (aa 6) (bQ (e2 aY (aa 7) 1e1)) cX))))) bJ) (aD (e2 ar (cz (af (lC 1e8 cX (bQ (e1 ji 1e1))) (af (e2 aY 8e6 1e8) (af (e2 aY 1e8 (eC (.str "mended 0 0 1"))) (af (e2 aY 1e8 (eC (.str " "))) (af (e2 aY 1e8 8e6) ah)))))) (aE dW (af 0e4 (af (eC (.int 5)) ah)))))))))))))))))))))
def rT:List D->ae->Res D:=aU 2 3 (aw (aQ (cT 1 [0] (ik (af (e2 aY 1e8 1e1) ah)) (gN 0) (aF (e2 aZ (eB mE 2e4) 1e8)) 0e4) (gN 2)) (aD (jt (aF (e2 cG 6e6 (cz ah))) (e2 ar 6e6 1e9) (eC .ak))))
def yu:List D->ae->Res D:=aU 1 2 (aw (bc (aF (e2 aZ 0e4 (eC (.str "-")))) (aD (cU ah)) bJ) (aw (bc (gU (aF (e2 aZ 0e4 (eC (.str "")))) (aF (e2 cG (cT 1 [] (oF 0e4) (gN 0) (aF (e2 vq 0e4 (eC (.str "01234567")))) 0e4) (cz ah)))) (aD (eC .ak)) bJ) (aw (aQ (eB fJ (af (cT 1 [] (oF 0e4) (gN 0) eG (dU ye (eC (.str "01234567")) 0e4)) ah)) (gN 1)) (aD (jt (aF (e2 aZ (eB zY 4e8) (e1 si 1e8))) 1e8 (eC .ak))))))
def yz:List D->ae->Res D:=aU 1 6 (aw (aQ (dU iV 0e4 (eC (.str " "))) (gN 1)) (aw (bc (gU (aF (e2 cG (eB cM 4e8) (eC (.int 4)))) (aF (e2 gp (e2 ar 1e8 1e9) (cU (af (eC 6e5) (af (eC 7e0) ah)))))) (aD (eC .ak)) bJ) (aw (tU 2 3 (af (aE rT (af (e2 ar 1e8 1e1) (af 4e0 ah))) (af (aE rT (af (e2 ar 1e8 3e9) (af (eC (.int 30)) ah))) ah))) (aw (bc (aF (e2 aZ (e2 ar 1e8 1e9) (eC 7e0))) (aQ (aE rT (af (e2 ar 1e8 4e0) (af (eC (.int 7)) ah))) (gN 4)) (aw (aQ (cT 1 [] (cV (dU iV (e2 ar 1e8 4e0) (eC (.str "/")))) (gN 0) eG (aE yu 2e4)) (gN 5)) (aw (aQ (jt (fL (aF (e2 aZ (eB cM (af (aa 5) ah)) 3e9)) (aF (e2 gp (eC .ak) (aa 5)))) (eB fJ (af (aa 5) ah)) (eC .ak)) (gN 4)) (bc (fL (aF (e2 sO (aa 4) (eC .ak))) (aF (e2 cG (cT 1 [4] (cV (e2 ar (aa 4) 1e9)) (gN 0) (aF (e2 dH 0e4 (e2 ar 1e8 1e1))) 0e4) (cz ah)))) (aD (eC .ak)) bJ)))) (aD (jt (aF (e2 dH (eC .ak) (cU (af 6e6 (af (aa 3) (af (aa 4) ah)))))) (eC .ak) (cU (af (e2 ar 1e8 1e9) (af 6e6 (af (aa 3) (af (aa 4) ah)))))))))))
def Bn:afb Fl:=(aw (bc (fL (aF (e2 aZ (e2 ar (aa 6) 1e9) (eC 7e0))) (fL (aF (e2 aZ (e2 ar (aa 6) 1e1) 1e8)) (aF (e2 aZ (e2 ar (aa 6) 4e0) 6e6)))) (wo (xa (aa 5) (e2 ar (aa 6) 3e9))) bJ) (bc (fL (aF (e2 aZ (e2 ar (aa 6) 1e9) (eC 6e5))) (aF (e2 aZ (e2 ar (aa 6) 1e1) 1e8))) (aw (aQ (e2 aY (aa 3) (e2 iJ (cz (af (e2 ar (aa 6) 3e9) ah)) (eB t9 (af (e2 dH 6e6 (e2 ar (e2 ar (aa 6) 4e0) 1e9)) ah)))) (gN 3)) (aQ (e2 aY (aa 4) (e2 iJ (cz (af (e2 ar (aa 6) 3e9) ah)) (eB t9 (af (e2 dH 6e6 (e2 ar (e2 ar (aa 6) 4e0) 1e1)) ah)))) (gN 4))) bJ))
def Bo:afb Fl:=(aw (bc (fL (aF (e2 dH (aa 8) (aa 5))) (aF (e2 dH (aa 8) (aa 3)))) (aD (eC 3e8)) bJ) (aw (aQ (pE (e2 dH (aa 8) (aa 3)) (eT (aa 7) (e2 gp (aa 8) (aa 5)))) (gN 7)) (bc (fL (dO (aa 7)) (aF (e2 dH (aa 8) (aa 4)))) (aD (eC 3e8)) bJ)))
def yk:List D->ae->Res D:=aU 3 9 (aw (tW 3 4 5 (af (cz ah) (af (cz ah) (af (eNew ah) ah)))) (aw (lu (cV 0e4) (gN 6) Bn) (aw (aQ (eC 3e8) (gN 7)) (aw (lu (ik (af (eC (.int 31)) ah)) (gN 8) Bo) (aD (eC 6e1))))))
def IF:afb Fl:=(bc (fM (dO (aE yk (af 0e4 (af 1e8 (af 6e6 ah)))))) (aD (eC 3e8)) bJ)
def IG:afb Fl:=(lu (ik (af (eC (.int 8)) ah)) (gN 2) IF)
def vc:List D->ae->Res D:=aU 1 3 (aw (bc (aF (e2 Au (eB cM 2e4) (eC (.int 24)))) (aD (eC 3e8)) bJ) (aw (lu (ik (af (eC (.int 4)) ah)) (gN 1) IG) (aD (eC 6e1))))
def zj:List D->ae->Res D:=aU 1 3 (aw (aQ (dU iV 0e4 8e6) (gN 1)) (aw (aQ (cT 1 [] (cV (dI 1e8 cX (bQ (e1 ji 1e1)))) (gN 0) eG (aE yz 2e4)) (gN 2)) (aw (bc (gU (aF (e2 cG (e2 ar 1e8 (e1 ji 1e1)) (eC (.str "")))) (gU (aF (e2 dH (eC .ak) 6e6)) (gU (aF (e2 jo (e1 TK.zi 6e6) (eB cM (af 6e6 ah)))) (fM (dO (aE vc (af 6e6 ah))))))) (aD (eC .ak)) bJ) (aD (eB fJ (af (eB TK.kT (af 6e6 ah)) ah))))))
def IV:List D->ae->Res D:=aU 1 2 (aw (aQ (cz (af (e1 (ef bS (isNm "NoMarks")) 0e4) (af (e1 (ef bS (isNm "NoSheet")) 0e4) (af (e1 (ef bS (isNm "NoPage")) 0e4) (af (e1 (ef bS (isNm "NoBook")) 0e4) ah))))) (gN 1)) (aw (aQ (e2 aY 1e8 (cz (af (e1 (ef bS (isNm "NoMould")) 0e4) (af (e1 (ef bS (isNm "NoDay")) 0e4) (af (e1 (ef bS (isNm "NoSort")) 0e4) (af (e1 (ef bS (isNm "NoNumber")) 0e4) ah)))))) (gN 1)) (aw (aQ (e2 aY 1e8 (cz (af (e1 (ef bS (isNm "NoSheets")) 0e4) (af (e1 (ef bS (isNm "NoRun")) 0e4) (af (e1 (ef bS (isNm "NoLaying")) 0e4) (af (e1 (ef bS (isNm "NoHeap")) 0e4) ah)))))) (gN 1)) (aw (aQ (e2 aY 1e8 (cz (af (e1 (ef bS (isNm "NoCount")) 0e4) (af (e1 (ef bS (isNm "Clash")) 0e4) (af (e1 (ef bS (isNm "NoDeed")) 0e4) (af (e1 (ef bS (isNm "NoText")) 0e4) ah)))))) (gN 1)) (aD (e2 aY 1e8 (cz (af (e1 (ef bS (isNm "NoRow")) 0e4) (af (e1 (ef bS (isNm "TooMany")) 0e4) (af (e1 (ef bS (isNm "Lacking")) 0e4) ah))))))))))
def rQ:List D->ae->Res D:=aU 1 1 (aw (bc (aF (e2 aZ 0e4 (eC (.str "-")))) (aD (cU ah)) bJ) (aD (eB fJ (af (cT 1 [] (oF 0e4) (gN 0) eG (eB nA 2e4)) ah))))
def yA:List D->ae->Res D:=aU 1 3 (aw (aQ (dU iV 0e4 (eC (.str "/"))) (gL [(gN 1),(gN 2)])) (aD (cU (af (aE rQ 4e8) (af (aE rQ (af 6e6 ah)) ah)))))
def rV:List D->ae->Res D:=aU 1 6 (aw (aQ 0e4 (gL [(gN 1),(gN 2),(gN 3),(gN 4)])) (aw (aQ (jt (aF (e2 aZ 1e8 (eC 6e5))) (aE yA (af (aa 4) ah)) (eB nA (af (aa 4) ah))) (gN 5)) (aD (cU (af 1e8 (af (eB nA (af 6e6 ah)) (af (eB nA (af (aa 3) ah)) (af (aa 5) ah))))))))
def u0:List D->ae->Res D:=aU 1 1 (aD (eT (uD qJ qJ 1e1 (eB cM 2e4) (eC (.int (30)))) (eB nG (af (cT 1 [] (oF 0e4) (gN 0) eG (e2 Er 0e4 (eC (.str "0123456789")))) ah))))
def Bp:List D->ae->Res D:=aU 1 2 (aw (aQ (dU iV 0e4 (eC (.str "/"))) (gN 1)) (aD (eT (e2 aZ (eB cM 4e8) 3e9) (eB nG (af (cT 1 [] (cV 1e8) (gN 0) eG (pE (e2 aZ 0e4 (eC (.str "-"))) (aE u0 2e4))) ah)))))
def rM:List D->ae->Res D:=aU 1 1 (aD (eT (aE u0 2e4) (pE (e2 cG 8e5 (eC (.str "0"))) (e2 aZ 0e4 (eC (.str "0"))))))
def uX:List D->ae->Res D:=aU 1 5 (aw (bc (aF (e2 cG (eB cM 2e4) (eC (.int 4)))) (aD (eC 3e8)) bJ) (aw (aQ 0e4 (gL [(gN 1),(gN 2),(gN 3),(gN 4)])) (aw (bc (gU (fM (dO (aE rM (af 6e6 ah)))) (fM (dO (aE rM (af (aa 3) ah))))) (aD (eC 3e8)) bJ) (aw (bc (aF (e2 aZ 1e8 (eC 6e5))) (aD (aE Bp (af (aa 4) ah))) bJ) (aD (eT (e2 aZ 1e8 (eC 7e0)) (aE rM (af (aa 4) ah))))))))
def mV:List D->ae->Res D:=aU 1 2 (aw (aQ (dU iV 0e4 (eC (.str " "))) (gN 1)) (aw (bc (fM (dO (aE uX 4e8))) (vV "NoText" (af (eC (.str "each line has the words of a page")) ah)) bJ) (aD (aE rV 4e8))))
def pX:List D->ae->Res D:=aU 1 3 (aw (bc (fM (dO (eB dZ (af 0e4 (af (eC (.ty "str")) ah))))) (vV "NoText" (af (eC (.str "the text of a book is a text")) ah)) bJ) (aw (aQ (dU iV 0e4 8e6) (gN 1)) (aw (bc (aF (e2 cG (e2 ar 1e8 (e1 ji 1e1)) (eC (.str "")))) (vV "NoText" (af (eC (.str "behind each page stands a line end")) ah)) bJ) (aw (aQ (eB fJ (af (eB TK.kT (af (qo (cV (dI 1e8 cX (bQ (e1 ji 1e1)))) (md mV 2e4)) ah)) ah)) (gN 2)) (aw (bc (fM (dO (aE rS (af 6e6 ah)))) (vV "NoText" (af (eC (.str "the pages make no book")) ah)) bJ) (aD 6e6))))))
def je (cl:D) (th:ae->Res D):List D->ae->Res D:=aU 1 3 (oB bS "told" (uO cl th 0) 1 (aw (aQ (aE IV 4e8) (gN 2)) (aw (bc (gU (fM (dO (e1 (ef bS anyS) 1e8))) (aF (e2 Ek (e1 Fn 6e6) 1e1))) (aD (cU (af (eC (.str "other")) (af (eC .ak) ah)))) bJ) (aw (bc (dO (e2 ar 6e6 (eC (.int 17)))) (aD (cU (af (eC (.str "many")) (af G2 ah)))) bJ) (aw (bc (dO (e2 ar 6e6 (eC (.int 18)))) (aD (cU (af (eC (.str "lacking")) (af G2 ah)))) bJ) (aD (cU (af (eC (.str "refused")) (af (e1 GW 6e6) ah)))))))))
def iC:Nat->List D->ae->Res D
 |0=>λ_ _=>ϋ
 |n+1=>aU 2 2 (aw (bc (dO (e1 xb 1e8)) (aw (bc (gU (aF (e2 cG (eB dZ (af 0e4 (af (eC (.ty "list")) ah))) (eB dZ (af 1e8 (af (eC (.ty "list")) ah))))) (aF (e2 cG 7e5 (eB dZ (af 1e8 (af (eC (.ty "tuple")) ah)))))) (aD (eC 3e8)) bJ) (aw (bc (aF (e2 cG (eB cM 2e4) (eB cM 4e8))) (aD (eC 3e8)) bJ) (aD (e2 gp (eC 3e8) (cT 2 [] (qI (af 0e4 4e8)) (gT [gN 0,gN 1]) eG (aE (iC n) (af 0e4 4e8))))))) bJ) (aD (eT (e2 aZ (eB dZ (af 0e4 (af (eC (.ty "bool")) ah))) (eB dZ (af 1e8 (af (eC (.ty "bool")) ah)))) (e2 aZ 0e4 1e8))))
def Ki:afb Fl:=(aw (aQ (aE vG (af 0e4 (af (aa 3) ah))) (gN 5)) (bc (fL (aF (e2 gp (aa 5) 6e6)) (dO (aE vc (af (e2 aY 6e6 (cz (af (aa 5) ah))) ah)))) (wo (xa 6e6 (aa 5))) bJ))
def zk:List D->ae->Res D:=aU 2 6 (aw (tU 2 3 (af (eNew ah) (af (e2 ar (cz (af (eC (.int 31)) (af (eC (.int 6)) (af (eC (.int 12)) ah)))) (aE dW (af 0e4 (af 4e0 ah)))) ah))) (aw (lu (ik 4e8) (gN 4) Ki) (aD (eB fJ (af (eB TK.kT (af 6e6 ah)) ah)))))
def DG:afb Fl:=(aw (aQ (aE vt (af 6e6 (af (aa 3) ah))) (gN 5)) (aw (bc (aF (e2 aZ (aE dW (af 6e6 (af (eC (.int 4)) ah))) 1e9)) (aQ (aE vt (af 6e6 (af (aa 5) ah))) (gN 5)) bJ) (aw (aQ (aE zj (af (aa 5) ah)) (gN 6)) (bc (fM (dO (aE (iC 8) (af (qP "law" [5] (md pX 2e4) je) (af (jt (aF (e2 sZ (aa 6) (eC .ak))) (cU 8e9) (cU (af (eC (.str "told")) (af (aa 6) ah)))) ah))))) (aD (eC 3e8)) bJ))))
def DH:afb Fl:=(aw (aQ (aE yR (af 0e4 4e8)) (gN 2)) (aw (aQ (dU jH (eC (.str "")) (cT 1 [] (cV (aE zk (af 6e6 (af (aE dW (af 6e6 (af (eC (.int 22)) ah))) ah)))) (gN 0) eG (e2 aY (aE vF 2e4) 8e6))) (gN 3)) (aw (lu (ik (af (eC (.int 20)) ah)) (gN 4) DG) (aw (aQ (e2 ar (cz (af (eC .ak) (af 1e9 (af (eC 6e1) (af (cz (af (aa 3) ah)) (af (cU (af (aa 3) ah)) (af (eC (.bU [])) (af (cU ah) ah)))))))) (aE dW (af 6e6 (af (eC (.int 7)) ah)))) (gN 7)) (bc (aF (e2 cG (qP "law" [7] (md pX 2e4) je) (cU 8e9))) (aD (eC 3e8)) bJ)))))
def Ab:List D->ae->Res D:=aU 1 8 (aw (lu (ik (af (eB wA (af 1e1 (af (eB wB (af (eB cM 2e4) (af 3e9 ah))) ah))) ah)) (gN 1) DH) (aD (eC 6e1)))
end
end DI.bK
namespace DI
open PySem L2
def Wp {α:Type} (r:Res α) (Q:α->ae->Prop):Prop:=∃a s,r=ϊ (.ok a,s)/\Q a s
section
variable {α β:Type} {r:Res α} {k:α->ae->Res β} {Q Q':α->ae->Prop} {R:β->ae->Prop} {env:Env} {s:ae}
theorem Wp.ok {a:α} (h:Q a s):Wp (DI.ok a s) Q:=⟨a,s,rfl,h⟩
def Wp.mono (h:Wp r Q) (i:∀a s,Q a s->Q' a s):Wp r Q':=by
 obtain⟨a,s,e,q⟩:=h;exact⟨a,s,e,i a s q⟩
theorem Wp.aj (h:Wp r λa s=>Wp (k a s) R):Wp (DI.aj r k) R:=by
 obtain⟨a,s,e,b,Z,Y,q⟩:=h;exact⟨b,Z,by rw[e];exact Y,q⟩
theorem Wp.ne (h:Wp r Q):Wp (DI.ne r) Q:=by
 obtain⟨a,s,e,q⟩:=h;exact⟨a,s,by rw[e];rfl,q⟩
def afk (e:r=ϊ (.ok a,s)) (h:Q a s):Wp r Q:=⟨a,s,e,h⟩
def Wp.seq {f g:afb Fl} {Q:Fl->ae->Prop} (h:Wp 2e2 λfl s=>match fl with
  | .nx env=>Wp (g env s) Q
  |fl=>Q fl s):Wp (aw f g env s) Q:=by
 obtain⟨fl,Z,e,h⟩:=h;delta aw;rw[e]
 cases fl with
 |nx env=>exact h
 |rt d=>exact⟨_,_,rfl,h⟩
 |bk e=>exact⟨_,_,rfl,h⟩
 |ct e=>exact⟨_,_,rfl,h⟩
def Wp.qQ {Q:Fl->ae->Prop} (I:Nat->Env->ae->Prop) (all:List D) (h0:I 0 env s)
 (step:∀i d env s,all[i]?=ϊ d->I i env s->∃env',g d env=ϊ env'/\Wp (b env' s) λfl s=>match fl with
   | .nx e=>I (i+1) e s
   | .ct e=>I (i+1) e s
   | .bk e=>Q (.nx e) s
   | .rt d=>Q (.rt d) s) (fin:∀env s,I all.length env s->Q (.nx env) s):Wp (ml g b all env s) Q:=by
 have key:∀(Z:List D) (i:Nat) (env:Env) (s:ae),all.drop i=Z->i<=all.length->I i env s->Wp (ml g b Z env s) Q:=by
  intro Z
  induction Z with
  |nil =>
   intro i env s Y hi h;have e:i=all.length:=by
    have:=ĵ List.length Y;simp at this;omega
   subst e;exact Wp.ok (fin _ _ h)
  |cons d Z ih =>
   intro i env s Y hi h;have X:all[i]?=ϊ d:=by
    have:=ĵ (λl=>l[0]?) Y;simpa using this
   have W:all.drop (i+1)=Z:=by
    have:=ĵ (List.drop 1) Y;simpa [List.drop_drop] using this
   obtain⟨env',U,T⟩:=step i d env s X h;have V:=(Ñ.mp X).1;delta ml;rw[U];refine Wp.aj (T.mono λfl s q=>?_)
   cases fl with
   |nx e=>exact ih (i+1) e s W V q
   |ct e=>exact ih (i+1) e s W V q
   |bk e=>exact Wp.ok q
   |rt d=>exact Wp.ok q
 exact key all 0 env s rfl (ą _) h0
def W6 {nt:Nat} {t:afb Bool} {Q:List D->ae->Prop} (I:Nat->List D->ae->Prop) (all:List D) (h0:I 0 [] s)
 (step:∀i d acc s,all[i]?=ϊ d->I i acc s->∃env,g d (Ø nt ϋ++caps)=ϊ env/\Wp (t env s) λb s=>if b=ό then Wp 2e2 λx s=>I (i+1) (acc++[x]) s else I (i+1) acc s)
 (fin:∀acc s,I all.length acc s->Q acc s):Wp (hU nt caps g t f all s) Q:=by
 have key:∀(Z:List D) (i:Nat) (acc:List D) (s:ae),all.drop i=Z->i<=all.length->I i acc s->Wp (hU nt caps g t f Z s) λX s=>Q (acc++X) s:=by
  intro Z
  induction Z with
  |nil =>
   intro i acc s Y hi h;have e:i=all.length:=by
    have:=ĵ List.length Y;simp at this;omega
   subst e;exact Wp.ok (by rw[ć];exact fin _ _ h)
  |cons d Z ih =>
   intro i acc s Y hi h;have W:all[i]?=ϊ d:=by
    have:=ĵ (λl=>l[0]?) Y;simpa using this
   have V:all.drop (i+1)=Z:=by
    have:=ĵ (List.drop 1) Y;simpa [List.drop_drop] using this
   obtain⟨U,S,R⟩:=step i d acc s W h;have T:=(Ñ.mp W).1;delta hU;rw[S];refine Wp.aj (Wp.ne (R.mono λb s q=>?_))
   cases b with
   |true =>
    rw[Ô rfl] at q |-;calc Wp.aj (Wp.ne (q.mono λx s q=>?_));calc Wp.aj ((ih (i+1) (acc++[x]) s V T q).mono λX s q=>Wp.ok ?_);rw[ś] at q;exact q
   |false =>
    rw[Ö Ã] at q |-;exact ih (i+1) acc s V T q
 have:=key all 0 [] s rfl (ą _) h0;simpa using this
end
section
variable {α β:Type} {Q:D->ae->Prop} {QL:List D->ae->Prop} {QB:Bool->ae->Prop} {QF:Fl->ae->Prop} {QO:Option Int->ae->Prop} {env:Env} {s:ae} {f g h:afb D} {fa:afb (List D)} {c c':afb Bool} {st cx:afb Fl} {o o':D->D->ae->Res D} {u:D->ae->Res D} {bf:List D->ae->Res D}
def bL {a:α} {Q:α->ae->Prop}:Wp (ok a s) Q=Q a s:=propext ⟨λ⟨b,Z,e,q⟩=>by cases e;exact q,λq=>⟨a,s,rfl,q⟩⟩
def Zj {Q:α->ae->Prop}:Wp (ϊ (Except.ok a,s)) Q=Q a s:=bL
def cu {r:Res α} {k:α->ae->Res β} {R:β->ae->Prop}:Wp (aj r k) R=Wp r λa s=>Wp (k a s) R:=propext ⟨λ⟨b,Z,e,q⟩=>by
 obtain⟨a,s,e1,e2⟩:=sd e;exact⟨a,s,e1,b,Z,e2,q⟩,λh=>Wp.aj h⟩
def Es {Q:α->ae->Prop}:Wp (ne r) Q=Wp r Q:=propext ⟨λ⟨b,Z,e,q⟩=>⟨b,Z,CO e,q⟩,λh=>h.ne⟩
def bg {a:D} {r:Env}:Wp (aa 0 (ϊ a::r) s) Q=Q a s:=by rw[show aa 0 (ϊ a::r) s=ok a s from rfl,bL]
def bT {i:Nat} {a:Option D} {r:Env}:Wp (aa (i+1) (a::r) s) Q=Wp (aa i r s) Q:=by rw[show aa (i+1) (a::r) s=aa i r s from rfl]
def bu:Wp (eC d env s) Q=Q d s:=by rw[show eC d env s=ok d s from rfl,bL]
def Et:Wp (e1 u f env s) Q=Wp 2e2 λx s=>Wp (u x s) Q:=by delta e1;rw[cu]
def bA:Wp (e2 o f g env s) Q=Wp 2e2 λx s=>Wp (g env s) λy s=>Wp (o x y s) Q:=by delta e2;erw[cu]
def aV:Wp (ah env s) QL=QL [] s:=by delta ah;rw[bL]
def aI:Wp (af f fa env s) QL=Wp 2e2 λx s=>Wp (fa env s) λxs s=>QL (x::xs) s:=by delta af;erw[cu,bL]
def dJ:Wp (eB bf fa env s) Q=Wp (fa env s) λds s=>Wp (bf ds s) Q:=by delta eB;rw[cu]
def wp_call:Wp (aE fn fa env s) Q=Wp (fa env s) λds s=>Wp (fn ds s) Q:=by delta aE;erw[cu,Es]
def vv {Q:α->ae->Prop}:Wp (jg ds r) Q=(ds.length<=Ù/\Wp r Q):=propext ⟨λ⟨b,Z,e,q⟩=>by
 delta jg at e;split at e
 ·exact⟨by assumption,b,Z,e,q⟩
 ·(cases e),λ⟨Y,b,Z,e,q⟩=>⟨b,Z,by delta jg;rw[Ô Y];exact e,q⟩⟩
def kq:Wp (cU fa env s) Q=Wp (fa env s) λds s=>ds.length<=Ù/\Q (.tup ds) s:=by delta cU;erw[cu,vv,bL]
def mh:Wp (cz fa env s) Q=Wp (fa env s) λds s=>ds.length<=Ù/\Q (.lst ds) s:=by delta cz;erw[cu,vv,bL]
def Mw:Wp (eNew fa env s) Q=Wp (fa env s) λds s=>ds.length<=Ù/\Q (.aK s.length) (s++[.lst ds]):=by delta eNew;erw[cu,vv,bL]
def Zk:Wp (Od f env s) Q=Wp 2e2 λd s=>Wp (bz d s) Q:=by delta Od;rw[cu]
def dE:Wp (aF f env s) QB=Wp 2e2 λd s=>Wp (i4 d s) QB:=by delta aF;rw[cu]
def cy {b:Bool}:Wp (i4 (.bl b) s) QB=QB b s:=by rw[show i4 (.bl b) s=ok b s from rfl,bL]
def oq:Wp (dO f env s) QB=Wp 2e2 λd s=>Wp (truth d s) QB:=by delta dO;rw[cu]
def m9 {b:Bool}:Wp (truth (.bl b) s) QB=QB b s:=by rw[show truth (.bl b) s=ok b s from rfl,bL]
def qi:Wp (fL c c' env s) QB=Wp (c env s) λb s=>if b=ό then Wp (c' env s) QB else QB ύ s:=by
 delta fL;rw[cu];congr 1;funext b s
 cases b<;>simp[bL]
def qp:Wp (gU c c' env s) QB=Wp (c env s) λb s=>if b=ό then QB ό s else Wp (c' env s) QB:=by
 delta gU;rw[cu];congr 1;funext b s
 cases b<;>simp[bL]
def su:Wp (fM c env s) QB=Wp (c env s) λb s=>QB (!b) s:=by delta fM;erw[cu,bL]
def sv:Wp (eT f g env s) Q=Wp 2e2 λx s=>Wp (i4 x s) λb s=>if b=ό then Wp (g env s) Q else Q 3e8 s:=by
 delta eT;rw[cu];congr 1;funext x s;rw[cu];congr 1;funext b s
 cases b<;>simp[bL]
def zL:Wp (pE f g env s) Q=Wp 2e2 λx s=>Wp (i4 x s) λb s=>if b=ό then Q 6e1 s else Wp (g env s) Q:=by
 delta pE;rw[cu];congr 1;funext x s;rw[cu];congr 1;funext b s
 cases b<;>simp[bL]
def W7:Wp (wX f env s) Q=Wp 2e2 λx s=>Wp (i4 x s) λb s=>Q (.bl (!b)) s:=by delta wX;erw[cu,bL]
def kW:Wp (jt c f g env s) Q=Wp (c env s) λb s=>if b=ό then Wp 2e2 Q else Wp (g env s) Q:=by
 delta jt;rw[cu];congr 1;funext b s
 cases b<;>simp
def Mx:Wp (uD o o' f g h env s) Q=Wp 2e2 λx s=>Wp (g env s) λy s=>Wp (o x y s) λz s=>Wp (i4 z s) λb s=>if b=ό then Wp (h env s) λu s=>Wp (o' y u s) Q else Q 3e8 s:=by
 delta uD;erw[cu];congr 1;funext x s;congr 1;funext y s;congr 1;funext z s;congr 1;funext b s
 cases b<;>simp[bL,cu]
def dD:Wp (bJ env s) QF=QF (.nx env) s:=by delta bJ;rw[bL]
def cg:Wp (aD f env s) QF=Wp 2e2 λd s=>QF (.rt d) s:=by delta aD;erw[cu,bL]
def Kj:Wp (wo f env s) QF=Wp 2e2 λ_ s=>QF (.nx env) s:=by delta wo;erw[cu,bL]
def Vl:Wp (M9 env s) QF=QF (.ct env) s:=by delta M9;rw[bL]
def dh (st:afb Fl) (Q:Fl->ae->Prop):Fl->ae->Prop:=λfl s=>match fl with
 | .nx env=>Wp (st env s) Q
 |fl=>Q fl s
def Lr:Wp (aw st cx env s) QF=Wp (st env s) (dh cx QF):=propext ⟨λh=>by
 delta aw at h;rw[cu] at h;refine h.mono λZ s q=>?_
 cases Z with
 |nx e=>exact q
 |rt d=>have q:Wp (ok (Fl.rt d) s) QF:=q;rw[bL] at q;exact q
 |bk d=>have q:Wp (ok (Fl.bk d) s) QF:=q;rw[bL] at q;exact q
 |ct d=>have q:Wp (ok (Fl.ct d) s) QF:=q;rw[bL] at q;exact q,λh=>Wp.seq (h.mono λZ s q=>by cases Z<;>exact q)⟩
def afm (h:∀R,R=cx->Wp (st env s) (dh R QF)):Wp (aw st cx env s) QF:=by rw[Lr];exact h _ rfl
def bp:dh st QF (.nx env) s=Wp (st env s) QF:=rfl
def iW:dh st QF (.rt d) s=QF (.rt d) s:=rfl
def Zl:dh st QF (.ct env) s=QF (.ct env) s:=rfl
def kX:Wp (bc c st cx env s) QF=Wp (c env s) λb s=>if b=ό then Wp (st env s) QF else Wp (cx env s) QF:=by
 delta bc;rw[cu];congr 1;funext b s
 cases b<;>simp
def cS {gd:D->Env->Option Env}:Wp (aQ f gd env s) QF=Wp 2e2 λd s=>∃e,gd d env=ϊ e/\QF (.nx e) s:=by
 delta aQ;rw[cu];congr 1;funext d s
 cases h:gd d env with
 |none=>exact propext ⟨λ⟨_,_,e,_⟩=>(by cases e),λ⟨_,e,_⟩=>(by cases e)⟩
 |some e=>rw[bL];exact propext ⟨λq=>⟨e,rfl,q⟩,λ⟨Z,z,q⟩=>by cases z;exact q⟩
def dj {i:Nat} {P:Env->Prop}:(∃e,gN i d env=ϊ e/\P e)=P (env.set i (ϊ d)):=propext ⟨λ⟨e,z,q⟩=>by cases z;exact q,λq=>⟨_,rfl,q⟩⟩
def aaT {P:Env->Prop}:(∃e,gT gs (.tup ds) env=ϊ e/\P e)=∃e,gR gs ds env=ϊ e/\P e:=rfl
def W8 {P:Env->Prop}:(∃e,gR [] [] env=ϊ e/\P e)=P env:=propext ⟨λ⟨e,z,q⟩=>by cases z;exact q,λq=>⟨_,rfl,q⟩⟩
def Vm {i:Nat} {P:Env->Prop}:(∃e,gR (gN i::gs) (d::ds) env=ϊ e/\P e)=∃e,gR gs ds (env.set i (ϊ d))=ϊ e/\P e:=rfl
def zm {i j:Nat}:Wp (tU i j fa env s) QF=Wp (fa env s) λds s=>∃x y,ds=[x,y]/\QF (.nx ((env.set i (ϊ x)).set j (ϊ y))) s:=by
 delta tU;rw[cu];congr 1;funext ds s
 match ds with
 | [x,y] =>
  show Wp (ok (Fl.nx ((env.set i (ϊ x)).set j (ϊ y))) s) QF=_;rw[bL];exact propext ⟨λq=>⟨x,y,rfl,q⟩,λ⟨Z,Y,e,q⟩=>by cases e;exact q⟩
 | []=>exact propext ⟨λ⟨_,_,e,_⟩=>(by cases e),λ⟨_,_,e,_⟩=>(by cases e)⟩
 | [_]=>exact propext ⟨λ⟨_,_,e,_⟩=>(by cases e),λ⟨_,_,e,_⟩=>(by cases e)⟩
 |_::_::_::_=>exact propext ⟨λ⟨_,_,e,_⟩=>(by cases e),λ⟨_,_,e,_⟩=>(by cases e)⟩
def Zm {P:D->D->Prop}:(∃x' y',[x,y]=[x',y']/\P x' y')=P x y:=propext ⟨λ⟨_,_,e,q⟩=>by cases e;exact q,λq=>⟨x,y,rfl,q⟩⟩
def oi:Wp (lu it gd st env s) QF=Wp (it env s) λds s=>Wp (ml gd st ds env s) QF:=by delta lu;rw[cu]
def W9 {fo fi:afb D}:Wp (qL f fo fi env s) QF=Wp 2e2 λx s=>Wp (fo env s) λd s=>Wp (fi env s) λn s=>∃s',oU d n x s=ϊ s'/\QF (.nx env) s':=by
 delta qL;erw[cu];congr 1;funext x s;congr 1;funext d s;congr 1;funext n s
 cases h:oU d n x s with
 |none=>exact propext ⟨λ⟨_,_,e,_⟩=>(by cases e),λ⟨_,e,_⟩=>(by cases e)⟩
 |some e=>erw[bL];exact propext ⟨λq=>⟨e,rfl,q⟩,λ⟨Z,z,q⟩=>by cases z;exact q⟩
def My:Wp (xa f g env s) Q=Wp 2e2 λd s=>qK d s=ό/\Wp (g env s) λx s=>Wp (tR d x s) Q:=by
 delta xa;rw[cu];congr 1;funext d s
 cases h:qK d s with
 |true=>rw[Ô rfl,cu];simp
 |false=>rw[Ö Ã];exact propext ⟨λ⟨_,_,e,_⟩=>(by cases e),λ⟨e,_⟩=>(by cases e)⟩
def xk (Q:D->ae->Prop):Fl->ae->Prop:=λZ s=>match Z with
 | .rt d=>Q d s
 | .nx _=>Q .ak s
 |_=>False
def eO:Wp (aU np ns st ds s) Q=(ds.length=np/\Wp (st (ds.map ϊ++Ø (ns-np) ϋ) s) (xk Q)):=by
 delta aU;by_cases h:ds.length=np
 ·rw[Ô h,cu]
  refine propext ⟨λq=>⟨h,q.mono λZ s q=>?_⟩,λ⟨_,q⟩=>q.mono λZ s q=>?_⟩
  ·cases Z with
   |rt d=>exact(show Wp (ok d s) Q from q) |> λz=>by rw[bL] at z;exact z
   |nx e=>exact(show Wp (ok D.ak s) Q from q) |> λz=>by rw[bL] at z;exact z
   |bk e=>obtain⟨_,_,e,_⟩:=q;cases e
   |ct e=>obtain⟨_,_,e,_⟩:=q;cases e
  ·cases Z with
   |rt d=>exact Wp.ok q
   |nx e=>exact Wp.ok q
   |bk e=>exact q.elim
   |ct e=>exact q.elim
 ·rw[Ö h]
  exact propext ⟨λ⟨_,_,e,_⟩=>(by cases e),λ⟨e,_⟩=>absurd e h⟩
def fK:xk Q (.rt d) s=Q d s:=rfl
def Zn:xk Q (.nx env) s=Q .ak s:=rfl
def kg:Wp (cT nt cap it gd c f env s) Q=Wp (it env s) λds s=>ds.length<=Ù/\Wp (hU nt (kA cap env) gd c f ds s) λxs s=>Q (.lst xs) s:=by
 delta cT;erw[cu,vv,bL]
def NM:Wp (dI f l' h' env s) Q=Wp 2e2 λd s=>Wp (l' env s) λlo s=>Wp (h' env s) λhi s=>Wp (ql d lo hi s) Q:=by delta dI;erw[cu]
def Mz:Wp (cX env s) QO=QO ϋ s:=by delta cX;rw[bL]
def C3 {i:Int} (hi:f env s=ok 4e5 s):Wp (bQ f env s) QO=QO (ϊ i) s:=by delta bQ;rw[hi,cL,bL]
end
open DI.bK
def Xa {cl:D} {th:ae->Res D} {r:Env} {s:ae}:uO cl th 0 (ϊ cl::r) s=th s:=Ô rfl
def NN (b:afb Fl) (cl:D) (r:Res D) (s:ae):Res D:=aj (oB bS "told" (λ_ _=>r) 1 b [ϊ cl,ϋ,ϋ] s) λZ s=>match Z with
 | .rt d=>ok d s
 | .nx _=>ok .ak s
 |_=>ϋ
def sy {cl:D} {th:ae->Res D} {s:ae} {b:afb Fl}:aU 1 3 (oB bS "told" (uO cl th 0) 1 b) [cl] s=NN b cl (th s) s:=by
 show aj (oB bS "told" (uO cl th 0) 1 b [ϊ cl,ϋ,ϋ] s) _=_;delta oB;rw[Xa];rfl
def DJ {cl d:D} {th:ae->Res D} {s s':ae} (h:th s=ϊ (.ok d,s')):je cl th [cl] s=ok (.tup [.str "told",d]) s':=by
 delta je;rw[sy,h];rfl
def yB {cl:D} {th:ae->Res D} {s s':ae} {m:Option Int} (h:th s=ϊ (.error ⟨"NoText",m⟩,s')):je cl th [cl] s=ok (.tup [.str "refused",.int 15]) s':=by
 delta je;rw[sy,h]
 kernel_rfl
def Kk (cl:D) (th:ae->Res D) (s:ae):je cl th [cl] s=je .ak th [.ak] s:=by
 cases h:th s with
 |none=>delta je;rw[sy,sy,h];rfl
 |some q =>
  obtain⟨q,Y⟩:=q
  cases q with
  |ok d=>rw[DJ h,DJ h]
  |error x =>
   obtain⟨c,m⟩:=x;by_cases Z:ώ (c∈bS)=ό
   ·rw[É] at Z
    have e1:c="NoText":=by simpa [bS] using Z
    rcases e1 with rfl
    ·rw[yB h,yB h]
   ·delta je
    rw[sy,sy,h];delta NN oB;dsimp only;rw[Ö Z,Ö Z]
end DI
namespace DI.bK
open PySem L2 DI
def top (i:Nat):aeW:=PySem.Challenge.pw_twinmoulds_k50_texts_put_otherwise.main.body.getD i (.Pass ⟨0,0,0,0⟩)
abbrev xl:List Str:=[afq,"_law_k"]
abbrev AA:List Str:=[afp,afw]
abbrev Ft:List Str:=["_law_marks"]
abbrev Fu:List Str:=["_law_sheet_here"]
abbrev Ox:List Str:=[afx]
abbrev Oy:List Str:=[afp]
abbrev Oz:List Str:=[afp,"_law_days"]
abbrev OA:List Str:=[afp,afu]
abbrev OB:List Str:=[afs,"_law_most"]
abbrev OC:List Str:=[afs]
abbrev NO:List Str:=[afy]
abbrev NP:List Str:=[aft,afz,afr]
abbrev NQ:List Str:=[aft]
abbrev NR:List Str:=[afu]
abbrev NS:List Str:=["_law_e"]
abbrev Eu:List Str:=["things"]
abbrev dX:List Str:=["thing"]
abbrev Ew:List Str:=["thing","many"]
abbrev Ey:List Str:=["marks","others"]
abbrev Ez:List Str:=["pages","mould","mark","half"]
abbrev wO:List Str:=["pages","mould","mark"]
abbrev EA:List Str:=["days","day","later"]
abbrev EB:List Str:=["pages"]
abbrev jI:List Str:=["word"]
abbrev Ad:List Str:=["words"]
abbrev NT:List Str:=["line"]
abbrev NU:List Str:=["text"]
abbrev NV:List Str:=["_law_call"]
abbrev aaU:List Str:=[afA,afv]
abbrev NW:List Str:=[afq]
structure bX (K:İ) (mg:Str->Option È):Prop where
 Qz:mg "ValueError"=ϋ
 vZ:mg "all"=ϋ
 MA:mg "any"=ϋ
 C4:mg "bool"=ϋ
 qq:mg "int"=ϋ
 cK:mg "isinstance"=ϋ
 gu:mg "len"=ϋ
 zp:mg "list"=ϋ
 Zo:mg "max"=ϋ
 Zp:mg "min"=ϋ
 jy:mg "range"=ϋ
 DK:mg "set"=ϋ
 ve:mg "sorted"=ϋ
 sR:mg "str"=ϋ
 iS:mg "tuple"=ϋ
 MB:mg "zip"=ϋ
 RZ:fS K mg bS "NoMarks"
 R0:fS K mg bS "NoSheet"
 Tq:fS K mg bS "NoPage"
 Tr:fS K mg bS "NoBook"
 R3:fS K mg bS "NoMould"
 Vn:fS K mg bS "NoDay"
 Tt:fS K mg bS "NoSort"
 Rh:fS K mg bS "NoNumber"
 Ri:fS K mg bS "NoSheets"
 Vo:fS K mg bS "NoRun"
 Rj:fS K mg bS "NoLaying"
 Tu:fS K mg bS "NoHeap"
 R4:fS K mg bS "NoCount"
 Vp:fS K mg bS "Clash"
 Tv:fS K mg bS "NoDeed"
 Tw:fS K mg bS "NoText"
 Vq:fS K mg bS "NoRow"
 R5:fS K mg bS "TooMany"
 R6:fS K mg bS "Lacking"
 QA:sr K bS (.type "ValueError") anyS
 yI:Fh K mg "NoText"
 QC:Pu K mg bS "MouldError"
 yT:∃t,mg "MARKS"=ϊ (.int (8) t)
 yJ:∃t,mg "MOULDS"=ϊ (.int (4) t)
 zq:∃t,mg "DAYS"=ϊ (.int (31) t)
 Co:∃t,mg "PAGES"=ϊ (.int (24) t)
 DL:∃t,mg "HAS"=ϊ (.int (0) t)
 Cp:∃t,mg "LACKS"=ϊ (.int (1) t)
 BF:∃t,mg "LONGEST"=ϊ (.int (30) t)
 yC:∃t,mg "NOTHING"=ϊ (.str "-" t)
 BG:∃t,mg "FIGURES"=ϊ (.str "0123456789" t)
 Rk:GG K mg "_law_cell_at" (top 60) xl
 Tz:GG K mg "_law_state" (top 61) xl
 gk:GG K mg "_law_take" (top 62) AA
 Ia:GG K mg  afE (top 71) Ft
 Qp:GG K mg  afF (top 72) Fu
 Kl:GG K mg "_law_line" (top 73) Ox
 TB:GG K mg "_law_sheet" (top 63) Oy
 Km:GG K mg "_law_page" (top 64) Oz
 JB:GG K mg "_law_other" (top 78) OA
 BH:GG K mg "_law_number" (top 74) OB
 QS:GG K mg "_law_marks_in" (top 75) OC
 Rl:GG K mg "_law_page_in" (top 76) NO
 Qj:GG K mg  afG (top 65) NP
 IH:GG K mg "_law_is_book" (top 66) NQ
 Vr:GG K mg "_law_read" (top 77) NR
 Rm:GG K mg "_law_classes" (top 68) NS
 Io:GG K mg "is_rising" (top 30) Eu
 QT:GG K mg "is_number" (top 25) dX
 Bw:GG K mg "is_below" (top 26) Ew
 IW:GG K mg "is_mark" (top 27) dX
 Ip:GG K mg "are_marks" (top 35) dX
 QU:GG K mg "are_apart" (top 37) Ey
 Rn:GG K mg "is_sheet" (top 36) dX
 Ro:GG K mg "is_mould" (top 28) dX
 TC:GG K mg "is_day" (top 29) dX
 R7:GG K mg "is_page" (top 38) dX
 Rp:GG K mg "are_laid" (top 39) dX
 Iq:GG K mg "days_seen" (top 44) Ez
 Qq:GG K mg "days_mended" (top 45) wO
 Qe:GG K mg "is_any_behind" (top 43) EA
 R8:GG K mg "clashes" (top 42) wO
 QV:GG K mg "faults_of" (top 41) EB
 R9:GG K mg "is_book" (top 40) dX
 II:GG K mg "marks_of" (top 58) jI
 Rq:GG K mg "sheet_of" (top 57) jI
 Sa:GG K mg "page_of" (top 56) Ad
 Ib:GG K mg "are_figures" (top 55) jI
 Qf:GG K mg "is_sheet_word" (top 54) jI
 Bl:GG K mg "is_number_word" (top 53) jI
 Qb:GG K mg "are_page_words" (top 52) Ad
 QW:GG K mg "read_page" (top 51) NT
 Ir:GG K mg "read_book" (top 50) NU
 Ls:GG K mg "_law_met" (top 69) NV
 Vs:GG K mg "_law_same" (top 70) aaU
 Vt:GG K mg "_law_book" (top 67) AA
section
variable {P:ê} {w:Ď} {K:İ} {mg:Str->Option È} {base:Ŀ}
def Rr (F:bX K mg):cq P w K mg base "_law_cell_at" (top 60) xl 1 u9:=λ{_ _} G =>
 cw G xl 0e3 λY _ _ _ _ _ _ Z=>(aA (b9 (bh (qN Z) 2e6 5e1 5e4) (aB (aM (bt 0e6 2e6))) cb) (aB (aM ao)))
def TF (F:bX K mg):cq P w K mg base "_law_state" (top 61) xl 2 yR:=λ{_ _} G =>
 cw G [afq,"_law_k","_law_cell"] 0e3 λZ _ _ _ _ _ _ Y=>(aA (bY 2 Z (aT F.Rk (Rr F) Y (aW 0e6 2e6))) (aA (b9 (bh Og 8e0 (aX Nh ao ao) 5e4) (aB (aM (zX (aW (aX Nf 8e0 (aX Nh ao ao)) fN)))) cb) (aB (aM (zX (aW (aX sY 8e0 ao) fN))))))
def gm (F:bX K mg):cq P w K mg base "_law_take" (top 62) AA 1 dW:=λ{_ _} G =>
 cw G [afp,afw,"_law_found","_law_mixed"] 0e3 λZ _ _ _ _ _ _ Y=>(aA (b9 (fV 5e9) (aA (bY 2 Z (aX sY 5e9 2e6)) (aA (Nk (aX Ng 5e9 2e6) 0e6 ao) (aB (aM 8e0)))) cb) (aA (Nk (aX sY (aX bI (aX qy 5e9 ao) ao) ao) 0e6 ao) (aA (bY 3 Z (aX sY (aX bI (aX bI (aX qy 5e9 5e9) (aX qy ao 5e9)) ao) ao)) (aA (bY 3 Z (aX sY (aX bI (aX qy (ag 3) (ag 3)) (aX qy ao (ag 3))) ao)) (aB (aM (aX sY (aX Ng (ag 3) ao) 2e6)))))))
def Ic (F:bX K mg):cq P w K mg base  afE (top 71) Ft 1 uY:=λ{_ _} G =>
 cw G Ft 0e3 λY _ _ _ _ _ _ Z=>(aB (aM (oQ (bh (i5 Z) 0e6 (fv dF) 5e4) (sQ aO (ia [afr] (iI 0e6) (λ_ _ _ _ _ _=>⟨fW,(fU wM rfl F.sR tj (ay 0e6))⟩))) aO)))
def Qr (F:bX K mg):cq P w K mg base  afF (top 72) Fu 2 uZ:=λ{_ _} G =>
 cw G Fu 0e3 λY _ _ _ _ _ _ Z=>(aB (aM (aX bI (aX bI (aT F.Ia (Ic F) Z (ay 5e9)) aO) (aT F.Ia (Ic F) Z (ay 5e9)))))
def Ko (F:bX K mg):cq P w K mg base "_law_line" (top 73) Ox 3 vF:=λ{_ _} G =>
 cw G [afx,"_law_last"] 0e3 λY _ _ _ _ _ _ Z=>(aA (bY 1 Y (oQ (bh (cE Z) 5e9 aO 5e4) (aT F.Qp (Qr F) Z (ay 5e9)) (fU wM rfl F.sR tj (ay 5e9)))) (aB (aM (aX bI (aX bI (aX bI (aX bI (aX bI (aX bI 5e9 aO) (fU wM rfl F.sR tj (ay 5e9))) aO) (fU wM rfl F.sR tj (ay 5e9))) aO) 2e6))))
def TH (F:bX K mg):cq P w K mg base "_law_sheet" (top 63) Oy 2 yS:=λ{_ _} G =>
 cw G [afp,afw,afB,"_law_has"] 0e3 λY _ _ _ _ _ _ Z=>(aA (bY 1 Y (bt (eJ (kU ao ao ao)) 4e3)) (aA (bY 2 Y (ia [afr,afp] (kl rfl F.jy (ay 2e6)) (λ_ _ _ _ _ _=>⟨fW,(aT F.gk (gm F) Z (aW 2e6 ao))⟩))) (aA (bY 3 Y (fU oh rfl F.iS iT (ay (ia [afr,afB] (kl rfl F.jy (ay 2e6)) (λ_ _ _ _ _ _=>⟨(ox (bh (cE Z) (bt 2e6 0e6) ao 5e4)),0e6⟩))))) (aB (aM (fv (aW (ag 3) (fU oh rfl F.iS iT (ay (ia [afr,afB] (kl rfl F.jy (ay 2e6)) (λ_ _ _ _ _ _=>⟨(ox (bh (cE Z) (bt 2e6 0e6) ao 5e4)),0e6⟩)))))))))))
def Kq (F:bX K mg):cq P w K mg base "_law_page" (top 64) Oz 3 vG:=λ{_ _} G =>
 cw G [afp,"_law_days",afz,"_law_day"] 0e3 λY _ _ _ _ _ _ Z=>(aA (Dw 2 3 rfl Y (aW (bt (eJ (aW ao 4e3)) 4e3) (aT F.gk (gm F) Z (aW 0e6 2e6)))) (aA (b9 (bh (cE Z) 4e3 ao 5e4) (aB (aM (fv (bE aO (bE 8e0 (bE (ag 3) (bE (aT F.gk (gm F) Z (aW 0e6 (bt (eJ (kU ao ao ao)) 4e3))) dF))))))) cb) (aB (aM (fv (bE aO (bE 8e0 (bE (ag 3) (bE (aT F.TB (TH F) Z (ay 0e6)) dF)))))))))
def JC (F:bX K mg):cq P w K mg base "_law_other" (top 78) OA 4 vt:=λ{_ _} G =>
 cw G [afp,afu,"_law_signs","_law_sign","_law_at","_law_way","_law_lines","_law_spot","_law_words","_law_place","_law_news",afy] 0e3 λY _ _ _ _ _ _ Z=>(aA (bY 2 Y aO) (aA (bY 2 Y (aX bI 8e0 (aX Mv aO ao))) (aA (Mn 3 4 5 rfl Y (kU (bt 8e0 (aT F.gk (gm F) Z (aW 0e6 (cf gQ rfl F.gu gw (ay 8e0))))) (aT F.gk (gm F) Z (aW 0e6 (aX bI (cf gQ rfl F.gu gw (ay 2e6)) ao))) 4e3)) (aA (bY 6 Y (m8 2e6 aO)) (aA (bY 7 Y (aT F.gk (gm F) Z (aW 0e6 (cf gQ rfl F.gu gw (ay (ag 6)))))) (aA (b9 (bh (qN Z) (ag 5) ao 5e4) (aB (aM (aX bI (aX bI (oH 2e6 gS (fy (ag 4))) (ag 3)) (oH 2e6 (fy (aX bI (ag 4) (ag 5))) gS)))) cb) (aA (b9 (bh (cE Z) (ag 5) ao 5e4) (aB (aM (aX bI (oH 2e6 gS (fy (ag 4))) (oH 2e6 (fy (aX bI (ag 4) ao)) gS)))) cb) (aA (b9 (bh (cE Z) (ag 5) ao 5e4) (aB (aM (aX bI (aX bI (oH 2e6 gS (fy (ag 4))) (Zh (oH 2e6 (fy (ag 4)) (fy (aX bI (ag 4) ao))))) (oH 2e6 (fy (aX bI (ag 4) ao)) gS)))) cb) (aA (b9 (bh (cE Z) (ag 5) ao 5e4) (aB (aM (sQ aO (aX bI (kE (ag 6) gS (fy (ag 7))) (kE (ag 6) (fy (aX bI (ag 7) ao)) gS))))) cb) (aA (b9 (bh (cE Z) (ag 5) ao 5e4) (aB (aM (sQ aO (aX bI (aX bI (kE (ag 6) gS (fy (ag 7))) (kE (ag 6) (fy (ag 7)) (fy (aX bI (ag 7) ao)))) (kE (ag 6) (fy (ag 7)) gS))))) cb) (aA (b9 (bh (cE Z) (ag 5) ao 5e4) (aB (aM (aX bI (aX bI 2e6 (aT F.Kl (Ko F) Z (ay (aT F.Km (Kq F) Z (aW 0e6 ao))))) aO))) cb) (aA (bY 8 Y (m8 (bt (ag 6) (ag 7)) aO)) (aA (bY 9 Y (aT F.gk (gm F) Z (aW 0e6 (cf gQ rfl F.gu gw (ay (ag 8)))))) (@aA _ _ _ _ _ _ (@bY _ _ _ _ _ 10 _ _ Y (@WU _ _ _ _ _ _ _ _ _ _ _ _ _ _ _ _ _ _ _ _ _ _ _ _ _ _ _ _ _ _ _ _ _ _ _ aO aO aO aO aO aO aO aO (@aX _ _ _ _ _ _ _ _ _ Mv aO ao) aO aO aO aO aO aO aO rfl rfl rfl rfl rfl rfl rfl rfl rfl rfl rfl rfl rfl rfl rfl rfl) rfl (adh rfl) rfl (adh rfl)) (aA (bY 10 Y (aX bI (ag 10) (eJ (aW aO aO)))) (aA (b9 (bh (qN Z) (ag 5) ao 5e4) (aA (bY 11 Y (sQ aO (aX bI (aX bI (kE (ag 8) gS (fy (ag 9))) (eJ (ay (bt (ag 10) 4e3)))) (kE (ag 8) (fy (aX Nf (aX bI (ag 9) (ag 5)) ao)) gS)))) (aB (aM (sQ aO (aX bI (aX bI (kE (ag 6) gS (fy (ag 7))) (eJ (ay (ag 11)))) (kE (ag 6) (fy (aX bI (ag 7) ao)) gS)))))) cb) (aB (aM (bt (eJ (bE (oH 2e6 gS (fy (wY wy ao))) (bE (aX bI aO 2e6) (bE (aX bI 2e6 aO) (bE (aX bI 2e6 aO) (bE (aX bI 2e6 aO) dF)))))) 4e3)))))))))))))))))))
def BI (F:bX K mg):cq P w K mg base "_law_number" (top 74) OB 1 rT:=λ{_ _} G=>by
 have Y:(["_law_number_here",afs]:List Str).Nodup:=nofun
 exact cw G [afs,"_law_most","_law_some"] 0e3 λX _ _ _ _ _ _ Z=>(aA (CS 2 (N:=["_law_number_here",afs]) (nt:=1) (cap:=[0]) X rfl (qA 0e3) (lZ 0) (kl rfl F.jy (ay (aX bI 2e6 ao))) (λcl C s H ex W=>⟨(iA (i:=0) Y rfl (adh rfl)),(ox (bh (cE Z) (fU wM rfl F.sR tj (ay 0e6)) 2e6 5e4)),0e6⟩)) (aB (aM (oQ (bh (i5 Z) 8e0 (eJ dF) 5e4) (bt 8e0 ao) iY))))
def QX (F:bX K mg):cq P w K mg base "_law_marks_in" (top 75) OC 1 yu:=λ{_ _} G =>
 cw G [afs,"_law_found"] 0e3 λY _ _ _ _ _ _ Z=>(aA (b9 (bh (cE Z) 0e6 aO 5e4) (aB (aM (fv dF))) cb) (aA (b9 (PW.pt (w_or (bh (cE Z) 0e6 aO 5e4) (mj (bh (i5 Z) (ia ["_law_sign"] (Aa 0e6) (λ_ _ _ _ _ _=>⟨(ox (bh Vk 0e6 aO rfl)),0e6⟩)) (eJ dF) 5e4)))) (aB (aM iY)) cb) (aA (bY 1 Y (fU oh rfl F.iS iT (ay (ia ["_law_sign"] (Aa 0e6) (λ_ _ _ _ _ _=>⟨fW,(aaS aO 0e6)⟩))))) (aB (aM (oQ (bh (cE Z) (fU YI rfl F.zp zA (ay 2e6)) (RY 2e6 rfl rfl F.ve vi rfl F.DK Ef) 5e4) 2e6 iY))))))
def Rt (F:bX K mg):cq P w K mg base "_law_page_in" (top 76) NO 2 yz:=λ{_ _} G=>by
 have X:(["_law_part"]:List Str).Nodup:=nofun
 exact cw G [afy,"_law_words",afz,"_law_day",afC,afB] 0e3 λY _ _ _ _ _ _ Z=>(aA (bY 1 Y (m8 0e6 aO)) (aA (b9 (PW.pt (w_or (bh (i5 Z) (cf gQ rfl F.gu gw (ay 2e6)) ao 5e4) (mj (bh (vD Z) (bt 2e6 ao) (fv (aW aO aO)) rfl)))) (aB (aM iY)) cb) (aA (Dw 2 3 rfl Y (aW (aT F.BH (BI F) Z (aW (bt 2e6 ao) ao)) (aT F.BH (BI F) Z (aW (bt 2e6 ao) ao)))) (aA (b9 (bh (cE Z) (bt 2e6 ao) aO 5e4) (aB (bY 4 Y (aT F.BH (BI F) Z (aW (bt 2e6 ao) ao)))) (aA (CS 5 (N:=["_law_part"]) (nt:=1) (cap:=[]) Y rfl (qA 0e3) (lZ 0) (iI (m8 (bt 2e6 ao) aO)) (λcl C s H ex W=>⟨(iA (i:=0) X rfl (adh rfl)),fW,(aT F.QS (QX F) Z (ay 0e6))⟩)) (aA (bY 4 Y (oQ (PW.pt (w_and (bh (cE Z) (cf gQ rfl F.gu gw (ay (ag 5))) ao 5e4) (kR (bh (vD Z) iY (ag 5) rfl)))) (fU oh rfl F.iS iT (ay (ag 5))) iY)) (aB (b9 (PW.pt (w_and (bh YF (ag 4) iY 5e4) (kR (bh (i5 Z) (ia [afr,afC] (iI (bt (ag 4) ao)) (λ_ _ _ _ _ _=>⟨(ox (bh (jN Z) 0e6 (bt 2e6 ao) rfl)),0e6⟩)) (eJ dF) 5e4)))) (aB (aM iY)) cb))))) (aB (aM (oQ (bh (jN Z) iY (fv (kU 8e0 (ag 3) (ag 4))) rfl) iY (fv (bE (bt 2e6 ao) (bE 8e0 (bE (ag 3) (bE (ag 4) dF))))))))))))
def Qk (F:bX K mg):cq P w K mg base  afG (top 65) NP 1 yk:=λ{_ _} G =>
 cw G [aft,afz,afr,"_law_shown","_law_lacked","_law_mended",afx,"_law_sure","_law_day"] 0e3 λY _ _ _ _ _ _ Z=>(aA (Mn 3 4 5 rfl Y (kU (eJ dF) (eJ dF) (zX dF))) (aA (qx acy rfl (iI 0e6) (eX 6 Y) (aA (b9 (PW.pt (w_and (bh (cE Z) (bt (ag 6) ao) aO 5e4) (w_and (bh (cE Z) (bt (ag 6) ao) 2e6 5e4) (kR (bh (cE Z) (bt (ag 6) ao) 8e0 5e4))))) (aB (L9 (Nj (ag 5) (bt (ag 6) ao)))) cb) (aB (b9 (PW.pt (w_and (bh (cE Z) (bt (ag 6) ao) aO 5e4) (kR (bh (cE Z) (bt (ag 6) ao) 2e6 5e4)))) (aA (bY 3 Y (aX bI (ag 3) (aX qy (eJ (ay (bt (ag 6) ao))) (fU NH rfl F.qq qz (ay (gv (jN Z) 8e0 (bt (bt (ag 6) ao) ao) rfl)))))) (aB (bY 4 Y (aX bI (ag 4) (aX qy (eJ (ay (bt (ag 6) ao))) (fU NH rfl F.qq qz (ay (gv (jN Z) 8e0 (bt (bt (ag 6) ao) ao) rfl)))))))) cb)))) (aA (bY 7 Y fN) (aA (qx acy rfl (kl rfl F.jy (ay ao)) (eX 8 Y) (aA (b9 (PW.pt (w_and (bh (jN Z) (ag 8) (ag 5) rfl) (kR (bh (jN Z) (ag 8) (ag 3) rfl)))) 9e1 cb) (aA (bY 7 Y (E4 (gv (jN Z) (ag 8) (ag 3) rfl) (iH (gP (ag 7) (iH (gv (vD Z) (ag 8) (ag 5) rfl)))))) (aB (b9 (PW.pt (w_and (fV (ag 7)) (kR (bh (jN Z) (ag 8) (ag 4) rfl)))) 9e1 cb))))) 9e1))))
def IJ (F:bX K mg):cq P w K mg base "_law_is_book" (top 66) NQ 2 vc:=λ{_ _} G =>
 cw G [aft,afz,afr] 0e3 λZ _ _ _ _ _ _ Y=>(aA (b9 (bh abP 5e1 ao 5e4) 9e1 cb) (aA (qx acy rfl (kl rfl F.jy (ay ao)) (eX 1 Z) (aB (qx acy rfl (kl rfl F.jy (ay ao)) (eX 2 Z) (aB (b9 (jh (fV (aT F.Qj (Qk F) Y (kU 0e6 2e6 8e0)))) 9e1 cb))))) 9e1))
def Vu (F:bX K mg):cq P w K mg base "_law_read" (top 77) NR 3 zj:=λ{_ _} G=>by
 have X:([afy]:List Str).Nodup:=nofun
 exact cw G [afu,"_law_lines",aft] 0e3 λY _ _ _ _ _ _ Z=>(aA (bY 1 Y (m8 0e6 aO)) (aA (CS 2 (N:=[afy]) (nt:=1) (cap:=[]) Y rfl (qA 0e3) (lZ 0) (iI (kE 2e6 gS (fy (wY wy ao)))) (λcl C s H ex W=>⟨(iA (i:=0) X rfl (adh rfl)),fW,(aT F.Rl (Rt F) Z (ay 0e6))⟩)) (aA (b9 (PW.pt (w_or (bh (i5 Z) (bt 2e6 (wY wy ao)) aO 5e4) (w_or (bh (jN Z) iY 8e0 rfl) (w_or (bh (qN Z) (TK.To Z 8e0 rfl rfl F.gu gw rfl F.DK Ef) (cf gQ rfl F.gu gw (ay 8e0)) 5e4) (mj (jh (fV (aT F.IH (IJ F) Z (ay 8e0))))))))) (aB (aM iY)) cb) (aB (aM (fU oh rfl F.iS iT (ay (cf (TK.CY Z) rfl F.ve vi (ay 8e0)))))))))
def Ru (F:bX K mg):Pw P w K mg base "_law_classes" (top 68) NS 1 IV:=λ{_ _} G =>
 aaH G ["_law_e","_law_found"] 0e3 λZ _ _ _ _ _ _ Y=>(aA (bY 1 Z (eJ (bE (gr F.RZ 0e6 F.cK) (bE (gr F.R0 0e6 F.cK) (bE (gr F.Tq 0e6 F.cK) (bE (gr F.Tr 0e6 F.cK) dF)))))) (aA (bY 1 Z (aX bI 2e6 (eJ (bE (gr F.R3 0e6 F.cK) (bE (gr F.Vn 0e6 F.cK) (bE (gr F.Tt 0e6 F.cK) (bE (gr F.Rh 0e6 F.cK) dF))))))) (aA (bY 1 Z (aX bI 2e6 (eJ (bE (gr F.Ri 0e6 F.cK) (bE (gr F.Vo 0e6 F.cK) (bE (gr F.Rj 0e6 F.cK) (bE (gr F.Tu 0e6 F.cK) dF))))))) (aA (bY 1 Z (aX bI 2e6 (eJ (bE (gr F.R4 0e6 F.cK) (bE (gr F.Vp 0e6 F.cK) (bE (gr F.Tv 0e6 F.cK) (bE (gr F.Tw 0e6 F.cK) dF))))))) (aB (aM (aX bI 2e6 (eJ (kU (gr F.Vq 0e6 F.cK) (gr F.R5 0e6 F.cK) (gr F.R6 0e6 F.cK))))))))))
def Iu (F:bX K mg):cq P w K mg base "is_rising" (top 30) Eu 1 pW:=λ{_ _} G=>by
 have Z:(["ahead","behind"]:List Str).Nodup:=nofun
 exact cw G Eu 0e3 λX _ _ _ _ _ _ Y=>(aB (aM (cf (wz rfl) rfl F.vZ wC (ay (CQ (N:=["ahead","behind"]) (nt:=2) (cap:=[]) rfl (qA 0e3) (Dt (rZ 0 (rZ 1 CN))) (Nc rfl F.MB (aW 0e6 (kE 0e6 (fy ao) gS))) (λcl C s H ex W=>⟨(zx rfl (p9 (iA (i:=0) Z rfl (adh rfl)) (p9 (iA (i:=1) Z rfl (adh rfl)) yZ))),fW,(gv (qN Y) 0e6 2e6 5e4)⟩))))))
def QY (F:bX K mg):cq P w K mg base "is_number" (top 25) dX 1 Bv:=λ{_ _} G =>
 cw G dX 0e3 λZ _ _ _ _ _ _ Y=>(aB (aM (gP (cf jF rfl F.cK iy (aW 0e6 (jO qz rfl F.qq))) (gP (M8 (cf jF rfl F.cK iy (aW 0e6 (jO Dy rfl F.C4)))) (iH (gv Og 0e6 ao 5e4))))))
def Bx (F:bX K mg):cq P w K mg base "is_below" (top 26) Ew 2 rP:=λ{_ _} G =>
 cw G Ew 0e3 λY _ _ _ _ _ _ Z=>(aB (aM (gP (aT F.QT (QY F) Z (ay 0e6)) (iH (gv (qN Z) 0e6 2e6 5e4)))))
def IZ (F:bX K mg):cq P w K mg base "is_mark" (top 27) dX 3 rR:=λ{_ _} G =>
 cw G dX 0e3 λY _ _ _ _ _ _ Z=>(aB (aM (aT F.Bw (Bx F) Z (aW 0e6 (my F.yT rfl)))))
def Iv (F:bX K mg):cq P w K mg base "are_marks" (top 35) dX 4 u7:=λ{_ _} G =>
 cw G dX 0e3 λY _ _ _ _ _ _ Z=>(aB (aM (gP 7e2 (gP (cf (wz rfl) rfl F.vZ wC (ay (ia ["mark"] (iI 0e6) (λ_ _ _ _ _ _=>⟨fW,(aT F.IW (IZ F) Z (ay 0e6))⟩)))) (iH (aT F.Io (Iu F) Z (ay 0e6)))))))
def QZ (F:bX K mg):cq P w K mg base "are_apart" (top 37) Ey 1 yr:=λ{_ _} G =>
 cw G Ey 0e3 λY _ _ _ _ _ _ Z=>(aB (aM (M8 (cf (Ni rfl) rfl F.MA Nr (ay (ia ["mark","others"] (iI 0e6) (λ_ _ _ _ _ _=>⟨fW,(gv (jN Z) 0e6 2e6 rfl)⟩)))))))
def Rv (F:bX K mg):cq P w K mg base "is_sheet" (top 36) dX 5 va:=λ{_ _} G =>
 cw G ["thing","has","lacks"] 0e3 λY _ _ _ _ _ _ Z=>(aA (b9 (PW.pt (w_or (jh (fV 7e2)) (mj (bh (i5 Z) 5e1 ao 5e4)))) 9e1 cb) (aA (wq 0e6 (Na rfl (iB (eX 1 Y) (iB (eX 2 Y) vL)))) (aB (aM (gP (aT F.Ip (Iv F) Z (ay 2e6)) (gP (aT F.Ip (Iv F) Z (ay 8e0)) (iH (aT F.QU (QZ F) Z (aW 2e6 8e0)))))))))
def Rw (F:bX K mg):cq P w K mg base "is_mould" (top 28) dX 3 yx:=λ{_ _} G =>
 cw G dX 0e3 λY _ _ _ _ _ _ Z=>(aB (aM (aT F.Bw (Bx F) Z (aW 0e6 (my F.yJ rfl)))))
def TJ (F:bX K mg):cq P w K mg base "is_day" (top 29) dX 3 yO:=λ{_ _} G =>
 cw G dX 0e3 λY _ _ _ _ _ _ Z=>(aB (aM (aT F.Bw (Bx F) Z (aW 0e6 (my F.zq rfl)))))
def Sb (F:bX K mg):cq P w K mg base "is_page" (top 38) dX 6 yF:=λ{_ _} G =>
 cw G ["thing","word","mould","day","what"] 0e3 λY _ _ _ _ _ _ Z=>(aA (b9 (PW.pt (w_or (jh (fV 7e2)) (mj (bh (i5 Z) 5e1 ao 5e4)))) 9e1 cb) (aA (wq 0e6 (Na rfl (iB (eX 1 Y) (iB (eX 2 Y) (iB (eX 3 Y) (iB (eX 4 Y) vL)))))) (aA (b9 (PW.pt (w_or (jh (fV (aT F.Ro (Rw F) Z (ay 8e0)))) (mj (jh (fV (aT F.TC (TJ F) Z (ay (ag 3)))))))) 9e1 cb) (aA (b9 (bh (cE Z) 2e6 aO 5e4) (aB (aM (aT F.Rn (Rv F) Z (ay (ag 4))))) cb) (aB (aM (gP (gv (cE Z) 2e6 aO 5e4) (iH (aT F.IW (IZ F) Z (ay (ag 4)))))))))))
def Rx (F:bX K mg):cq P w K mg base "are_laid" (top 39) dX 7 yy:=λ{_ _} G =>
 cw G dX 0e3 λY _ _ _ _ _ _ Z=>(aB (aM (gP 7e2 (gP (gv Av 5e1 (my F.Co rfl) 5e4) (gP (cf (wz rfl) rfl F.vZ wC (ay (ia ["page"] (iI 0e6) (λ_ _ _ _ _ _=>⟨fW,(aT F.R7 (Sb F) Z (ay 0e6))⟩)))) (iH (aT F.Io (Iu F) Z (ay 0e6))))))))
def Iw (F:bX K mg):cq P w K mg base "days_seen" (top 44) Ez 1 n5:=λ{_ _} G =>
 cw G Ez 0e3 λY _ _ _ _ _ _ Z=>(aB (aM (ia ["page","mould","mark","half"] (iI 0e6) (λ_ _ _ _ _ _=>⟨(ox (PW.pt (w_and (bh (cE Z) 5e9 aO 5e4) (w_and (bh (cE Z) 5e9 2e6 5e4) (kR (bh (jN Z) 8e0 (bt 5e9 (ag 3)) rfl)))))),5e9⟩))))
def Qs (F:bX K mg):cq P w K mg base "days_mended" (top 45) wO 1 yn:=λ{_ _} G =>
 cw G wO 0e3 λY _ _ _ _ _ _ Z=>(aB (aM (ia ["page","mould","mark"] (iI 0e6) (λ_ _ _ _ _ _=>⟨(ox (PW.pt (w_and (bh (cE Z) 5e9 aO 5e4) (w_and (bh (cE Z) 5e9 2e6 5e4) (kR (bh (cE Z) 5e9 8e0 5e4)))))),5e9⟩))))
def Qg (F:bX K mg):cq P w K mg base "is_any_behind" (top 43) EA 1 yj:=λ{_ _} G =>
 cw G EA 0e3 λY _ _ _ _ _ _ Z=>(aB (aM (cf (Ni rfl) rfl F.MA Nr (ay (ia ["other","day","later"] (iI 0e6) (λ_ _ _ _ _ _=>⟨fW,(K7 (qN Z) Av 2e6 0e6 8e0)⟩))))))
def Sd (F:bX K mg):cq P w K mg base "clashes" (top 42) wO 2 vd:=λ{_ _} G=>by
 have Y:(["day","later","lacked","mended"]:List Str).Nodup:=nofun
 exact cw G ["pages","mould","mark","lacked","mended"] 0e3 λX _ _ _ _ _ _ Z=>(aA (bY 3 X (aT F.Iq (Iw F) Z (bE 0e6 (bE 2e6 (bE 8e0 (bE (my F.Cp rfl) dF)))))) (aA (bY 4 X (aT F.Qq (Qs F) Z (kU 0e6 2e6 8e0))) (aB (aM (WE (N:=["day","later","lacked","mended"]) (nt:=2) (cap:=[3,4]) rfl (MZ 0e3) (lZ 0) (zd 0) (lZ 1) (zd 1) (iI (RU (aT F.Iq (Iw F) Z (bE 0e6 (bE 2e6 (bE 8e0 (bE (my F.DL rfl) dF))))) rfl rfl F.ve vi rfl F.DK Ef)) (λcl C s H ex W=>⟨(iA (i:=0) Y rfl (adh rfl)),fW,(YC rfl F.jy (aW 0e6 (my F.zq rfl))),(iA (i:=1) Y rfl (adh rfl)),(ox (PW.pt (w_and (PW.pt (w_or (bh (jN Z) 2e6 8e0 rfl) (mj (PW.pt (w_and (bh (cE Z) 2e6 0e6 5e4) (kR (bh (jN Z) 0e6 (ag 3) rfl))))))) (kR (jh (fV (aT F.Qe (Qg F) Z (kU (ag 3) 0e6 2e6)))))))),(fv (aW 0e6 2e6))⟩))))))
def Q0 (F:bX K mg):cq P w K mg base "faults_of" (top 41) EB 3 yt:=λ{_ _} G=>by
 have Z:(["mould","mark","day","later","pages"]:List Str).Nodup:=nofun
 exact cw G EB 0e3 λX _ _ _ _ _ _ Y=>(aB (aM (WG (N:=["mould","mark","day","later","pages"]) (nt:=4) (cap:=[0]) rfl (MZ 0e3) (lZ 0) (zd 0) (lZ 1) (zd 1) (Dt (rZ 2 (rZ 3 CN))) (Dl [2,3]) (kl rfl F.jy (ay (my F.yJ rfl))) (λcl C s H ex W=>⟨(iA (i:=0) Z rfl (adh rfl)),fW,(kl rfl F.jy (ay (my F.yT rfl))),(iA (i:=1) Z rfl (adh rfl)),fW,(iI (aT F.R8 (Sd F) Y (kU (ag 4) 0e6 2e6))),(zx rfl (p9 (iA (i:=2) Z rfl (adh rfl)) (p9 (iA (i:=3) Z rfl (adh rfl)) yZ))),fW,(fv (bE 0e6 (bE 2e6 (bE 8e0 (bE (ag 3) dF)))))⟩))))
def Se (F:bX K mg):cq P w K mg base "is_book" (top 40) dX 8 rS:=λ{_ _} G =>
 cw G dX 0e3 λY _ _ _ _ _ _ Z=>(aB (aM (gP (aT F.Rp (Rx F) Z (ay 0e6)) (iH (TK.YT (aT F.QV (Q0 F) Z (ay 0e6)))))))
def IK (F:bX K mg):cq P w K mg base "marks_of" (top 58) jI 1 rQ:=λ{_ _} G =>
 cw G jI 0e3 λY _ _ _ _ _ _ Z=>(aA (b9 (bh (cE Z) 0e6 (Fs F.yC rfl) 5e4) (aB (aM (fv dF))) cb) (aB (aM (fU oh rfl F.iS iT (ay (ia ["figure"] (Aa 0e6) (λ_ _ _ _ _ _=>⟨fW,(fU zK rfl F.qq qz (ay 0e6))⟩)))))))
def Ry (F:bX K mg):cq P w K mg base "sheet_of" (top 57) jI 2 yA:=λ{_ _} G =>
 cw G ["word","has","lacks"] 0e3 λZ _ _ _ _ _ _ Y=>(aA (wq (m8 0e6 aO) (Ep rfl (iB (eX 1 Z) (iB (eX 2 Z) vL)))) (aB (aM (fv (aW (aT F.II (IK F) Y (ay 2e6)) (aT F.II (IK F) Y (ay 8e0)))))))
def Sg (F:bX K mg):cq P w K mg base "page_of" (top 56) Ad 3 rV:=λ{_ _} G =>
 cw G ["words","word","mould","day","what","last"] 0e3 λZ _ _ _ _ _ _ Y=>(aA (wq 0e6 (Ep rfl (iB (eX 1 Z) (iB (eX 2 Z) (iB (eX 3 Z) (iB (eX 4 Z) vL)))))) (aA (bY 5 Z (oQ (bh (cE Y) 2e6 aO 5e4) (aT F.Rq (Ry F) Y (ay (ag 4))) (fU zK rfl F.qq qz (ay (ag 4))))) (aB (aM (fv (bE 2e6 (bE (fU zK rfl F.qq qz (ay 8e0)) (bE (fU zK rfl F.qq qz (ay (ag 3))) (bE (ag 5) dF)))))))))
def Ie (F:bX K mg):cq P w K mg base "are_figures" (top 55) jI 1 u0:=λ{_ _} G =>
 cw G jI 0e3 λZ _ _ _ _ _ _ Y=>(aB (aM (gP (K7 Av Av ao 5e1 (my F.BF rfl)) (iH (cf (wz rfl) rfl F.vZ wC (ay (ia ["sign"] (Aa 0e6) (λ_ _ _ _ _ _=>⟨fW,(gv aaP 0e6 (Fs F.BG rfl) rfl)⟩))))))))
def Qh (F:bX K mg):cq P w K mg base "is_sheet_word" (top 54) jI 2 Bp:=λ{_ _} G =>
 cw G ["word","halves"] 0e3 λY _ _ _ _ _ _ Z=>(aA (bY 1 Y (m8 0e6 aO)) (aB (aM (gP (gv (cE Z) (cf gQ rfl F.gu gw (ay 2e6)) ao 5e4) (iH (cf (wz rfl) rfl F.vZ wC (ay (ia ["half"] (iI 2e6) (λ_ _ _ _ _ _=>⟨fW,(E4 (gv (cE Z) 0e6 (Fs F.yC rfl) 5e4) (iH (aT F.Ib (Ie F) Z (ay 0e6))))⟩)))))))))
def Bm (F:bX K mg):cq P w K mg base "is_number_word" (top 53) jI 2 rM:=λ{_ _} G =>
 cw G jI 0e3 λY _ _ _ _ _ _ Z=>(aB (aM (gP (aT F.Ib (Ie F) Z (ay 0e6)) (iH (E4 (gv (i5 Z) 5e9 aO 5e4) (iH (gv (cE Z) 0e6 aO 5e4)))))))
def Qc (F:bX K mg):cq P w K mg base "are_page_words" (top 52) Ad 3 uX:=λ{_ _} G =>
 cw G ["words","word","mould","day","what"] 0e3 λY _ _ _ _ _ _ Z=>(aA (b9 (bh (i5 Z) 5e1 ao 5e4) 9e1 cb) (aA (wq 0e6 (Ep rfl (iB (eX 1 Y) (iB (eX 2 Y) (iB (eX 3 Y) (iB (eX 4 Y) vL)))))) (aA (b9 (PW.pt (w_or (jh (fV (aT F.Bl (Bm F) Z (ay 8e0)))) (mj (jh (fV (aT F.Bl (Bm F) Z (ay (ag 3)))))))) 9e1 cb) (aA (b9 (bh (cE Z) 2e6 aO 5e4) (aB (aM (aT F.Qf (Qh F) Z (ay (ag 4))))) cb) (aB (aM (gP (gv (cE Z) 2e6 aO 5e4) (iH (aT F.Bl (Bm F) Z (ay (ag 4)))))))))))
def Q2 (F:bX K mg):G0 P w K mg base "read_page" (top 51) NT 4 mV:=λ{_ _} G =>
 Mp G ["line","words"] 0e3 λY _ _ _ _ _ _ Z L=>(aA (bY 1 Y (m8 0e6 aO)) (aA (b9 (jh (fV (aT F.Qb (Qc F) Z (ay 2e6)))) (aB (zf L F.yI (ay aO))) cb) (aB (aM (aT F.Sa (Sg F) Z (ay 2e6))))))
def Iy (F:bX K mg):G0 P w K mg base "read_book" (top 50) NU 9 pX:=λ{_ _} G =>
 Mp G ["text","lines","book"] 0e3 λY _ _ _ _ _ _ Z L=>(aA (b9 (jh (fV (cf jF rfl F.cK iy (aW 0e6 (jO tj rfl F.sR))))) (aB (zf L F.yI (ay aO))) cb) (aA (bY 1 Y (m8 0e6 aO)) (aA (b9 (bh (i5 Z) (bt 2e6 (wY wy ao)) aO 5e4) (aB (zf L F.yI (ay aO))) cb) (aA (bY 2 Y (fU oh rfl F.iS iT (ay (cf (TK.CY Z) rfl F.ve vi (ay (ab8 L (iI (kE 2e6 gS (fy (wY wy ao)))) (λ_ _ _ _ _ _ X=>(Ej F.QW (Q2 F) X Z (ay 0e6))))))))) (aA (b9 (jh (fV (aT F.R9 (Se F) Z (ay 8e0)))) (aB (zf L F.yI (ay aO))) cb) (aB (aM 8e0)))))))
def Lu (F:bX K mg):Pk P w K mg "_law_met" (top 69) NV 11 10 je:=λ{_ _ _ _ _ _} T {_ _} G =>
 aaC G ["_law_call","_law_e","_law_some"] 0e3 λZ _ _ _ _ _ _ X Y=>(aB (Y9 T X (Y.mono 0e0) F.QC (λ_=>(aA (bY 2 Z (aaI F.Rm (Ru F) (Y.h.held _) (ay 2e6))) (aA (b9 (PW.pt (w_or (jh (fV (Y7 F.QA 2e6 F.cK F.Qz))) (mj (bh aaJ (Y5 8e0) ao 5e4)))) (aB (aM (fv (aW aO iY)))) cb) (aA (b9 (fV (bt 8e0 ao)) (aB (aM (fv (aW aO Ot)))) cb) (aA (b9 (fV (bt 8e0 ao)) (aB (aM (fv (aW aO Ot)))) cb) (aB (aM (fv (aW aO (aaE 8e0)))))))))) Z))
def Kr:qe [afA,afv] [afA,afv] (cY (top 70)):=⟨rfl,rfl,rfl,by decide +kernel,rfl,by decide +kernel,by decide +kernel⟩
theorem Ks (F:bX K mg) {f:Þ} {fd:ĺ} (G:Gd K mg "_law_same" (top 70) [afA,afv] f fd):∀n,dG P w K mg base dP (1+n) f fd [afA,afv] (j5 K (iC n))
 |0=>aar λ_ _=>rfl
 |n+1=>by
  have Y:(["_law_one",afD]:List Str).Nodup:=nofun
  have X:=Kr.nd;have ih:=Ks F G n;exact Nd G.fn Kr λW A outer s H E Z=>(aA (b9 (fV (WT 2e6 rfl F.cK iy (yY rfl F.iS iT rfl) (yY rfl F.zp zA rfl))) (aA (b9 (PW.pt (w_or (bh (i5 Z) (cf jF rfl F.cK iy (aW 0e6 (jO zA rfl F.zp))) (cf jF rfl F.cK iy (aW 2e6 (jO zA rfl F.zp))) 5e4) (mj (bh (i5 Z) 7e2 (cf jF rfl F.cK iy (aW 2e6 (jO iT rfl F.iS))) 5e4)))) 9e1 cb) (aA (b9 (bh (i5 Z) 5e1 (cf gQ rfl F.gu gw (ay 2e6)) 5e4) 9e1 cb) (aB (aM (gv (vD Z) fN (CQ (N:=["_law_one",afD]) (nt:=2) (cap:=[]) rfl (qA 0e3) (Dt (rZ 0 (rZ 1 CN))) (Nc rfl F.MB (aW 0e6 2e6)) (λcl C s H ex V=>⟨(zx rfl (p9 (iA (i:=0) Y rfl (adh rfl)) (p9 (iA (i:=1) Y rfl (adh rfl)) yZ))),fW,(Du ih Z rfl G.mg G.fn.kp G.b (aW 0e6 2e6))⟩)) rfl))))) cb) (aB (aM (gP (gv (cE Z) (cf jF rfl F.cK iy (aW 0e6 (jO Dy rfl F.C4))) (cf jF rfl F.cK iy (aW 2e6 (jO Dy rfl F.C4))) 5e4) (iH (gv (cE Z) 0e6 2e6 5e4))))))
def Vv (F:bX K mg):cq P w K mg base "_law_book" (top 67) AA 4 zk:=λ{_ _} G =>
 cw G [afp,afw,aft,"_law_days","_law_turn",afx] 0e3 λY _ _ _ _ _ _ Z=>(aA (Dw 2 3 rfl Y (aW (zX dF) (bt (eJ (kU ao ao ao)) 4e3))) (aA (qx acy rfl (kl rfl F.jy (ay 2e6)) (eX 4 Y) (aA (bY 5 Y (aT F.Km (Kq F) Z (aW 0e6 (ag 3)))) (aB (b9 (PW.pt (w_and (bh (vD Z) (ag 5) 8e0 rfl) (kR (fV (aT F.IH (IJ F) Z (ay (aX bI 8e0 (eJ (ay (ag 5)))))))))) (aB (L9 (Nj 8e0 (ag 5)))) cb)))) (aB (aM (fU oh rfl F.iS iT (ay (cf (TK.CY Z) rfl F.ve vi (ay 8e0))))))))
def Zq (F:bX K mg) {c T:Þ} (ht:ae7 K "law"=ϊ (c,T)) (hC:PySem.W.codeHdIn K c T=ό) (hB:base.BuiltinsAt mg T) {f:Þ} {fd:ĺ} (G:Gd K mg "law" (top 79) NW f fd) (hx:ð K Ú "law"=ϊ (ϊ (.ref f))):dG P w K mg base dP 12 f fd NW (j5 K Ab):=by
 obtain⟨_,_,X⟩:=F.Vs;exact aaF G hx ht [afq,"_law_k",afp,afu,"_law_turn",afD,afv,afC] 0e3 λY _ _ _ _ _ Z=>(aA (qx acy rfl (kl rfl F.jy (ay (cf (YG rfl) rfl F.Zo aap (aW ao (cf (YH rfl) rfl F.Zp aaq (aW 5e1 ao)))))) (eX 1 Y) (aA (bY 2 Y (aT F.Tz (TF F) Z (aW 0e6 2e6))) (aA (bY 3 Y (sQ aO (ia [afx] (iI (aT F.Vt (Vv F) Z (aW 8e0 (aT F.gk (gm F) Z (aW 8e0 ao))))) (λ_ _ _ _ _ _=>⟨fW,(aX bI (aT F.Kl (Ko F) Z (ay 0e6)) aO)⟩)))) (aA (qx acy rfl (kl rfl F.jy (ay ao)) (eX 4 Y) (aA (bY 5 Y (aT F.JB (JC F) Z (aW 8e0 (ag 3)))) (aA (b9 (bh (cE Z) (aT F.gk (gm F) Z (aW 8e0 ao)) ao 5e4) (aB (bY 5 Y (aT F.JB (JC F) Z (aW 8e0 (ag 5))))) cb) (aA (bY 6 Y (aT F.Vr (Vu F) Z (ay (ag 5)))) (aB (b9 (jh (fV (Du (Ks F X 8) (Z.mono 0e0) rfl X.mg X.fn.kp X.b (aW (NB [afD] rfl rfl ht hC hB F.Ls (Lu F) Kk Z (λ_ _ _ _ _ _ _ _ _ _ Z L=>(Ej F.Ir (Iy F) (Mo L) Z (ay 0e6)))) (oQ (bh aao (ag 6) iY 5e4) (fv (aW aO ao)) (fv (aW aO (ag 6)))))))) 9e1 cb)))))) (aA (bY 7 Y (bt (by refine' YV ?_ ?_ ?_ ?_ ?_ ?_ ?_;exact iY;exact ao;exact fN;exact(eJ (ay (ag 3)));exact(fv (ay (ag 3)));exact YU;exact(fv dF)) (aT F.gk (gm F) Z (aW 8e0 ao)))) (aB (b9 (bh (i5 Z) (NB [afC] rfl rfl ht hC hB F.Ls (Lu F) Kk Z (λ_ _ _ _ _ _ _ _ _ _ Z L=>(Ej F.Ir (Iy F) (Mo L) Z (ay 0e6)))) (fv (aW aO ao)) 5e4) 9e1 cb))))))) 9e1)
end
end DI.bK
namespace DI
open PySem L2
structure Ex (k:Nat) (s s':ae):Prop where
 len:s.length<=s'.length
 val:∀j,j<s.length->j≠k->s'[j]?=s[j]?
def Ex.refl (k:Nat) (s:ae):Ex k s s:=⟨afn _,λ_ _ _=>rfl⟩
theorem Ex.trans (h:Ex k a b) (g:Ex k b c):Ex k a c:=⟨Ü h.len g.len,λj Z Y=>(g.val j (Ë Z h.len) Y).trans (h.val j Z Y)⟩
theorem Ex.set (k:Nat) (s:ae) (c:Cell):Ex k s (s.set k c):=⟨by simp,λj _ Z=>ā (ŵ Z)⟩
def Ex.app (k:Nat) (s:ae) (c:List Cell):Ex k s (s++c):=⟨by simp,λj Z _=>â Z⟩
def Hf (x y:D) (k:Nat) (s:ae) (h:s[k]?=ϊ (.lst [x,y])):ar (.aK k) (.int 0) s=ok x s:=by
 simp[ar,pF,res,h,dw,gX,bW]
def PN (x y:D) (k:Nat) (s:ae) (h:s[k]?=ϊ (.lst [x,y])):ar (.aK k) (.int 1) s=ok y s:=by
 simp[ar,pF,res,h,dw,gX,bW]
def OD (x y z:D) (k:Nat) (s:ae) (h:s[k]?=ϊ (.lst [x,y])):oU (.aK k) (.int 0) z s=ϊ (s.set k (.lst [z,y])):=by
 simp[oU,h,gX]
@[simp] theorem zM {a:D} {r:Env} {s:ae}:aa 0 (ϊ a::r) s=ok a s:=rfl
@[simp] theorem zN {i:Nat} {a:Option D} {r:Env} {s:ae}:aa (i+1) (a::r) s=aa i r s:=rfl
def ltI (i j:Int) (s:ae):jo 4e5 (.int j) s=ok (.bl (ώ (i<j))) s:=rfl
def gtI (i j:Int) (s:ae):Au 4e5 (.int j) s=ok (.bl (ώ (j<i))) s:=rfl
def geI (i j:Int) (s:ae):w9 4e5 (.int j) s=ok (.bl (ώ (j<=i))) s:=rfl
def leI (i j:Int) (s:ae):qJ 4e5 (.int j) s=ok (.bl (ώ (i<=j))) s:=rfl
def OE (i j:Int) (s:ae):aY 4e5 (.int j) s=ok (.int (i+j)) s:=rfl
def aco (i j:Int) (s:ae):oy 4e5 (.int j) s=ok (.int (i-j)) s:=rfl
def eqI (i j:Int) (s:ae):aZ 4e5 (.int j) s=ok (.bl (i==j)) s:=rfl
def neI (i j:Int) (s:ae):cG 4e5 (.int j) s=ok (.bl (!(i==j))) s:=rfl
def ug {i j:Int} (s:ae) (h:0<j):nv 4e5 (.int j) s=ok (.int (i % j)) s:=by
 simp[nv,E8,h,bW]
def OF (s:ae) (h:0<j) (h2:j<1073741824):wu 4e5 (.int j) s=ok (.int (i / j)) s:=by
 simp[wu,E9,h,h2,bW]
def xm (s:ae) (h:wt i j=ό):iJ 4e5 (.int j) s=ok (.int (i*j)) s:=by
 simp[iJ,E7,h,bW]
def mulOk_of (h1:-(2 ^ 64)<i) (h2:i<2 ^ 64):wt i j=ό:=by
 delta wt;rw[Î h1,Î h2];rfl
def le_size (h:n<=1000000):n<=Ù:=Ü h 0e0
def Cq (h1:-1000000<=j) (h2:j<=1000000):mq j=ό:=by
 delta mq;rw[Î (show -(2 ^ 62)<=j by omega),Î (show j<2 ^ 62 by omega)];rfl
def v5 {α:Type} {xs:List α} {i:Int} (h0:0<=i) (h1:i<xs.length):∃x,dw xs i=ϊ x/\xs[i.toNat]?=ϊ x:=by
 have Z:i.toNat<xs.length:=by omega
 calc⟨xs[i.toNat],?_,Ê Z⟩;delta dw gX;rw[Ô h0,Ô h1];exact Ê Z
def Xb {ns:List Int} {i:Int} {s:ae} (h0:0<=i):∃c:Int,u9 [.bV ns,.int i] s=ok (.int c) s:=by
 by_cases h:i<(ns.length:Int)
 ·obtain⟨x,Z,_⟩:=v5 h0 h
  calc⟨x,?_⟩;have Y:ar (.bV ns) 4e5 s=ok (.int x) s:=by simp[ar,pF,res,Z,bW]
  erw[u9,aU,aw,bc,aF,e2,eB,af,ah,cM,tO,res,bW,zM,zN,eC,cL,ç,acA,ī,ł,æ,ĥ,ÿ,ltI,i4,Î h,aD,Y,Ø]
 ·refine⟨0,?_⟩
  erw[u9,aU,aw,bc,aF,e2,eB,af,ah,cM,tO,res,bW,zM,zN,eC,cL,ç,acA,ī,ł,æ,ĥ,ÿ,ltI,i4,Û h,Ç,õ,bJ,aD,Ø]
structure gK (m:Nat) (ns:List Int):Prop where
 lo:∀x∈ns,0<=x/\x<m
 up:ns.Pairwise (· < ·)
abbrev mD (ns:List Int):D:=.tup 2e8
def gK.len (h:gK m ns):ns.length<=m:=by
 have key:∀(l:List Int) (b:Int),l.Pairwise (· < ·)->(∀x∈l,b<=x/\x<m)->(l.length:Int)<=m-b\/l=[]:=by
  intro l
  induction l with
  |nil=>intro b _ _;exact .inr rfl
  |cons x l ih =>
   intro b X Z;obtain⟨W,V⟩:=þ.mp X;have U:=Z x Õ;left
   rcases ih (x+1) V (λy Y=>⟨by have:=W y Y;omega,(Z y (Ì _ Y)).2⟩) with h|h
   ·rw[æ];omega
   ·subst h
    simp;omega
 rcases key ns 0 h.up h.lo with h'|h'
 ·omega
 ·subst h';simp
def ku (h:fa env s=ok [.int n] s1) (hn:n<=1000000):ik fa env s=ok (ei 0 n) s1:=by
 delta ik;rw[h,cL]
 show (if mq (n:Int)=ό then ok (ei 0 (n:Int).toNat) s1 else ϋ)=_
 rw[Ô (Cq ⋯ ⋯),Ŝ]
def Xc {n:Nat} {i:Int} (h:fa env s=ok [.int i] s1) (hi:i=n) (hn:n<=1000000):ik fa env s=ok (ei 0 n) s1:=by
 subst hi;exact ku h hn
def Zr (h:fa env s=ok [.int i,.int j] s1) (h1:-1000000<=i) (h2:i<=1000000) (h3:-1000000<=j) (h4:j<=1000000):AQ fa env s=ok (ei i (j-i).toNat) s1:=by
 delta AQ;rw[h,cL]
 show (if (mq i&&mq j)=ό then ok (ei i (j-i).toNat) s1 else ϋ)=_
 rw[Ô (by rw[Cq h1 h2,Cq h3 h4];rfl)]
def DM:Wp (jo 4e5 (.int j) s) Q=Q (.bl (ώ (i<j))) s:=by rw[ltI,bL]
def Zs:Wp (Au 4e5 (.int j) s) Q=Q (.bl (ώ (j<i))) s:=by rw[gtI,bL]
def Zt:Wp (w9 4e5 (.int j) s) Q=Q (.bl (ώ (j<=i))) s:=by rw[geI,bL]
def zO:Wp (qJ 4e5 (.int j) s) Q=Q (.bl (ώ (i<=j))) s:=by rw[leI,bL]
def Xd:Wp (aY 4e5 (.int j) s) Q=Q (.int (i+j)) s:=by rw[OE,bL]
def Xe:Wp (oy 4e5 (.int j) s) Q=Q (.int (i-j)) s:=by rw[aco,bL]
def v7:Wp (aZ 4e5 (.int j) s) Q=Q (.bl (i==j)) s:=by rw[eqI,bL]
def DN:Wp (cG 4e5 (.int j) s) Q=Q (.bl (!(i==j))) s:=by rw[neI,bL]
end DI
def DI.VCr:=ï @DI.bL <| ï @DI.Zj <| ï @DI.Es <| ï @DI.bg <| ï @DI.bT <| ï @DI.bu <| ï @DI.Et <| ï @DI.bA <| ï @DI.aV <| ï @DI.aI <| ï @DI.dJ <| ï @DI.wp_call <| ï @DI.kq <| ï @DI.mh <| ï @DI.Mw <| ï @DI.Zk <| ï @DI.dE <| ï @DI.cy <| ï @DI.oq <| ï @DI.m9 <| ï @DI.qi <| ï @DI.qp <| ï @DI.su <| ï @DI.sv <| ï @DI.zL <| ï @DI.W7 <| ï @DI.kW <| ï @DI.Mx <| ï @DI.dD <| ï @DI.cg <| ï @DI.Kj <| ï @DI.Vl <| ï @DI.Lr <| ï @DI.kX <| ï @DI.cS <| ï @DI.dj <| ï @DI.W8 <| ï @DI.zm <| ï @DI.Zm <| ï @DI.oi <| ï @DI.W9 <| ï @DI.My <| ï @DI.eO <| ï @DI.kg <| ï @DI.NM <| ï @DI.Mz <| ï @DI.DM <| ï @DI.Zs <| ï @DI.Zt <| ï @DI.zO <| ï @DI.Xd <| ï @DI.Xe <| ï @DI.v7 <| @DI.DN
local macro_rules | `(tactic| simp only[VC])=>`(tactic| simp only[VC,true_and])
local macro_rules | `(tactic| simp only[VC,$xs,*])=>`(tactic| simp only[DI.VCr,DI.bp,DI.iW,DI.Zl,DI.aaT,DI.Vm,DI.fK,DI.Zn,List.map_cons,List.map_nil,List.cons_append,List.nil_append,List.length_cons,List.length_nil,List.set_cons_succ,List.set_cons_zero,List.replicate,true_and,Nat.reduceSub,Nat.reduceAdd,$xs,*])
namespace DI
open PySem L2
def afl {α:Type} {r:Res α} {d:α} {s:ae} (h:Wp r λa s'=>a=d/\s'=s):r=DI.ok d s:=by
 obtain⟨a,s',e,rfl,rfl⟩:=h;exact e
def n9 {f:afb D} {env:Env} {s s1:ae} {ds:List D} (h:f env s=ok (.tup ds) s1):cV f env s=ok ds s1:=by
 delta cV;rw[h];rfl
def og (h:f env s=ok (.lst ds) s1):cV f env s=ok ds s1:=by
 delta cV;rw[h];rfl
theorem mW:∀(ns:List Int),cD 2e8=ό
 | []=>rfl
 |n::ns=>by erw[ç,cD,lay,mW ns,Ĳ]
theorem JD:∀(ns:List Int),dY 2e8=0
 | []=>rfl
 |n::ns=>by erw[ç,dY,dep,JD ns,Nat.max_self]
def Lw (x:Int) (ns:List Int):((ns.map D.int).any λy=>beq y (.int x))=ώ (x∈ns):=by
 induction ns with
 |nil=>simp
 |cons n ns ih =>
  erw[ç,List.any_cons,ih,beq];by_cases h:n=x
  ·subst h;simp
  ·have Z:¬ x=n:=λe=>h e.symm
   simp[h,Z]
def sA {x:Int} {ns:List Int} {s:ae}:dH (.int x) (mD ns) s=ok (.bl (ώ (x∈ns))) s:=by
 have Z:mr 100 (.int x) 2e8=ό:=by erw[mr,lay,mW,dep,Ĳ,ą,ň]
 have e:inD (.int x) 2e8=ϊ (ώ (x∈ns)):=by delta inD;rw[Ô Z,Lw]
 delta dH;rw[show lg (mD ns) s=ϊ 2e8 from rfl];erw[e];rfl
def sub (a b:List Int):Bool:=a.all λx=>ώ (x∈b)
def sC {α:Type} (p:α->Bool) (xs:List α) (s:ae):nG [.lst (xs.map λx=>D.bl (p x))] s=ok (.bl (xs.all p)) s:=by
 have e:il (xs.map λx=>D.bl (p x))=ϊ (xs.map p):=by
  have:=WC (bs:=xs.map p);rw[ę] at this;exact this
 show bW ((il (xs.map λx=>D.bl (p x))).map λ(bs:List Bool)=>D.bl (bs.all id)) s=_;rw[e];show ok (D.bl ((xs.map p).all id)) s=_;rw[List.all_map];rfl
def filter_tt {α:Type} (xs:List α):xs.filter (λ_=>ό)=xs:=by simp
def BV {nt:Nat} {caps:Env} {g:D->Env->Option Env} {t:afb Bool} {f:afb D} {s:ae} (p:Int->Bool) (h:Int->D) (ns:List Int) (hh:∀n∈ns,∃env,g (.int n) (Ø nt ϋ++caps)=ϊ env/\t env s=ok (p n) s/\(p n=ό->f env s=ok (h n) s)) :
  hU nt caps g t f 2e8 s=ok ((ns.filter p).map h) s:=by
 induction ns with
 |nil=>rfl
 |cons n ns ih =>
  obtain⟨env,Y,X,W⟩:=hh n Õ;have ih:=ih λV U=>hh V (Ì _ U);rw[ç];delta hU;rw[Y];erw[X,sX,cL]
  cases Z:p n with
  |true=>erw[ÿ,W Z,sX,cL,ih,acM,Z,ç]
  |false=>erw[Ç,õ,ih,acM,Z]
def comp_map {α:Type} (d:α->D) (p:α->Bool) (h:α->D) (xs:List α) (hh:∀x∈xs,∃env,g (d x) (Ø nt ϋ++caps)=ϊ env/\t env s=ok (p x) s/\(p x=ό->f env s=ok (h x) s)) :
  hU nt caps g t f (xs.map d) s=ok ((xs.filter p).map h) s:=by
 induction xs with
 |nil=>rfl
 |cons n T ih =>
  obtain⟨env,Y,X,W⟩:=hh n Õ;have ih:=ih λV U=>hh V (Ì _ U);rw[ç];delta hU;rw[Y];erw[X,sX,cL]
  cases Z:p n with
  |true=>erw[ÿ,W Z,sX,cL,ih,acM,Z,ç]
  |false=>erw[Ç,õ,ih,acM,Z]
def TM:Bv [.int i] s=ok (.bl (ώ (0<=i))) s:=by
 rfl
def rX:rP [.int i,.int m] s=ok (.bl (ώ (0<=i)&&ώ (i<m))) s:=by
 calc afl ?_;delta rP;simp only[VC,TM];by_cases h:0<=i
 ·simp[h]
 ·simp[h]
def Lx:rR [.int i] s=ok (.bl (ώ (0<=i)&&ώ (i<8))) s:=by
 calc afl ?_;delta rR;simp only[VC,rX,true_and]
def Kt (xs:List D):cutD xs (ϊ 1) ϋ=xs.drop 1:=by
 delta cutD HT.aP
 cases xs with
 |nil=>simp
 |cons x xs =>
  erw[æ]
  have e:(if (1:Int)<0 then (1+((xs.length+1:Nat):Int)).toNat else min (1:Int).toNat (xs.length+1))=1:=by simp
  simp
def rise:List Int->Bool
 | []=>ό
 | [_]=>ό
 |a::b::r=>ώ (a<b)&&rise (b::r)
def Xf (h:ns.Pairwise (· < ·)):rise ns=ό:=by
 induction ns with
 |nil=>rfl
 |cons a ns ih =>
  cases ns with
  |nil=>rfl
  |cons b r =>
   obtain⟨Z,Y⟩:=þ.mp h;erw[rise,ih Y,aev];exact Î (Z b Õ)
theorem Ku:∀(ns:List Int),((ns.zip (ns.drop 1)).all λp=>ώ (p.1<p.2))=rise ns
 | []=>rfl
 | [_]=>rfl
 |a::b::r=>by
  have ih:=Ku (b::r);erw[aeG,ν,Į,adX,rise] at ih |-;rw[ih]
def TN (xs ys:List Int):iL (xs.map D.int) (ys.map D.int)=(xs.zip ys).map λp=>D.tup [.int p.1,.int p.2]:=by
 delta iL;rw[List.zip_map,ę];rfl
def Cr (h:fa env s=ok [.tup xs,.tup ys] s1):qI fa env s=ok (iL xs ys) s1:=by
 delta qI;rw[h];rfl
def TQ (hl:ns.length<=1000000):pW [mD ns] s=ok (.bl (rise ns)) s:=by
 calc afl ?_;delta pW;simp only[VC];have Z:qI (af 0e4 (af (dI 0e4 (bQ 1e1) cX) ah)) [ϊ (mD ns)] s=ok (iL 2e8 ((ns.drop 1).map D.int)) s:=by
  calc Cr (afl ?_);simp only[VC];rw[C3 (i:=1) rfl]
  try simp only[VC]
  calc afk (show ql (mD ns) (ϊ 1) ϋ s=ok (.tup (cutD 2e8 (ϊ 1) ϋ)) s from rfl) ⟨?_,rfl⟩;rw[Kt,adW]
 calc afk Z ⟨le_size (by rw[yM];erw[Ä];omega),?_⟩;rw[TN];calc afk (comp_map (λp:Int×Int=>D.tup [.int p.1,.int p.2]) (λ_=>ό) (λp=>.bl (ώ (p.1<p.2))) _ λp _=>⟨[ϊ (.int p.1),ϊ (.int p.2)],rfl,rfl,λ_=>rfl⟩) ?_;rw[filter_tt];exact afk (sC _ _ _) ⟨by rw[Ku],rfl⟩
def getD_some {α:Type} {xs:List α} {i:Nat} {d:α} (h:i<xs.length):xs[i]?=ϊ (xs.getD i d):=by
 rw[ď,Ê h];rfl
def C5 (lo:Int) (n:Nat):ei lo n=(ö n).map λi:Nat=>D.int (lo+i):=rfl
def Zu (rs:List (List Int)) (laid:List Int) (m:Int):Bool:=((ö laid.length).filter λi=>laid.getD i 0==m).all λi=>sub (rs.getD i []) (rs.getD laid.length [])
def v8 {α:Type} (d:α->D) (p:α->Bool) (h:α->List D) (xs:List α) (hh:∀x∈xs,∃env,g (d x) nF=ϊ env/\t env s=ok (p x) s/\(p x=ό->act env s=ok (h x) s)) :
  kF g t act nF (xs.map d) s=ok ((xs.filter p).flatMap h) s:=by
 induction xs with
 |nil=>rfl
 |cons n T ih =>
  obtain⟨env,Y,X,W⟩:=hh n Õ;have ih:=ih λV U=>hh V (Ì _ U);rw[ç];delta kF;rw[Y];erw[X,sX,cL]
  cases Z:p n with
  |true=>erw[ÿ,W Z,sX,cL,ih,acM,Z,List.flatMap_cons]
  |false=>erw[Ç,õ,ih,acM,Z]
def Kv :
  Wp (vQ nt cap it gd c act env s) Q=Wp (it env s) λds s=>Wp (kF gd c act (Ø nt ϋ++kA cap env) ds s) λxs s=>xs.length<=Ù/\Q (.lst xs) s:=by
 delta vQ;erw[cu,Es,vv,bL]
def step (rs:List (List Int)) (told:List (List Int)):List (List Int):=told.flatMap λlaid=>([0,1].filter λm=>Zu rs laid m).map λm=>laid++[m]
def brk (l:List Int):List Int:=((ö (l.length-1)).filter λi=>l.getD (i+1) 0==l.getD i 0).map λi:Nat=>1+(i:Int)
def Zv (h:xs≠[]):ar (.lst xs) (.int (-1)) s=ok (xs.getLast h) s:=by
 have e:dw xs (-1)=ϊ (xs.getLast h):=by
  conv=>lhs;rw[<- acT h]
  exact Uo _ _
 delta ar pF;rw[show res (.lst xs) s=.lst xs from rfl];erw[e];rfl
def aaV {ns:List Int}:aZ (.lst 2e8) (.lst []) s=ok (.bl ns.isEmpty) s:=by
 have Z:lay (.lst 2e8)=ό:=by erw[lay,mW]
 have e:fx (.lst 2e8) (.lst [])=ϊ ns.isEmpty:=by
  delta fx;rw[Ö (show ¬ (kL (.lst _)&&kL (.lst _))=ό from Ã),Ô (by rw[Z,show lay (.lst [])=ό from rfl,Î (Ü (Nat.min_le_right (dep (.lst 2e8)) (dep (.lst []))) 0e0)];rfl)]
  cases ns with
  |nil=>rfl
  |cons _ _=>rfl
 show (match fx (.lst 2e8) (.lst []) with|some b=>ok (D.bl b) s|none=>ϋ)=_
 rw[e]
def acp (h:xs.length+ys.length<=1000000):aY (.lst xs) (.lst ys) s=ok (.lst (xs++ys)) s:=by
 have e:As (.lst xs) (.lst ys)=ϊ (.lst (xs++ys)):=by
  show (if oS xs ys=ό then ϊ (D.lst (xs++ys)) else ϋ)=_
  have Z:oS xs ys=ό:=Î (le_size h);rw[Ô Z]
 show bW (As (.lst xs) (.lst ys)) s=_;rw[e];rfl
def Ex.get (h:Ex k s s') (e:s[j]?=ϊ c) (hj:j≠k):s'[j]?=ϊ c:=by
 rw[h.val j (Ñ.mp e).1 hj];exact e
theorem Ex.hi (h:Ex k s s') (hj:s.length<=j) (c:Cell):Ex k s (s'.set j c):=⟨by rw[ģ];exact h.len,λi hi Z=>by rw[ā ⋯];exact h.val i hi Z⟩
def gK.PQ (h:gK n l) (hn:n<=8):gK 8 l:=⟨λx Z=>by have:=h.lo x Z;omega,h.up⟩
open TK
def markB (i:Int):Bool:=ώ (0<=i)&&ώ (i<8)
def iE (i:Int):Bool:=ώ (0<=i)&&ώ (i<4)
def ic (i:Int):Bool:=ώ (0<=i)&&ώ (i<31)
def jC (ns:List Int):Bool:=ns.all markB&&rise ns
def ot (a b:List Int):Bool:=!(a.any λx=>ώ (x∈b))
def dM:Pg->Bool
 | .made m d h l=>iE m&&ic d&&(jC h&&(jC l&&ot h l))
 | .bM m d k=>iE m&&ic d&&markB k
def oW:Pg->Prop
 | .made _ _ h l=>h.length<=1000/\l.length<=1000
 | .bM _ _ _=>True
def Vw:il (bs.map D.bl)=ϊ bs:=by
 induction bs with
 |nil=>rfl
 |cons b bs ih=>erw[ç,il,ih];rfl
def Kw {α:Type} (p:α->Bool) (xs:List α) (s:ae):tQ [.lst (xs.map λx=>D.bl (p x))] s=ok (.bl (xs.any p)) s:=by
 have e:il (xs.map λx=>D.bl (p x))=ϊ (xs.map p):=by
  have:=Vw (bs:=xs.map p);rw[ę] at this;exact this
 erw[tQ,res,e,bW,acY,aeS,ŭ,id]
def Kx (hl:ns.length<=1000):u7 [mD ns] s=ok (.bl (jC ns)) s:=by
 calc afl ?_;delta u7;simp only[VC];calc afk (show dZ [mD ns,.ty "tuple"] s=ok 6e1 s from rfl) ?_;simp only[VC,ÿ];calc afk (n9 rfl) ⟨le_size (by rw[Ä];omega),?_⟩;refine afk (BV (λ_=>ό) (λx=>.bl (markB x)) ns λn _=>⟨[ϊ (.int n)],rfl,rfl,λ_=>?_⟩) ?_
 ·refine afl ?_
  simp only[VC,Lx,markB,true_and]
 ·rw[filter_tt]
  calc afk (sC _ _ _) ?_;simp only[VC];delta jC
  cases e:ns.all markB with
  |true =>
   erw[ÿ,ô];exact afk (TQ ⋯) 1e4
  |false=>simp
def Vx (ha:a.length<=1000):yr [mD a,mD b] s=ok (.bl (ot a b)) s:=by
 calc afl ?_;delta yr;simp only[VC];calc afk (n9 rfl) ⟨le_size (by rw[Ä];omega),?_⟩;refine afk (BV (λ_=>ό) (λx=>.bl (ώ (x∈b))) a λn _=>⟨[ϊ (.int n),ϊ (mD b)],rfl,rfl,λ_=>?_⟩) ?_
 ·refine afl ?_
  simp only[VC,sA,true_and]
 ·rw[filter_tt]
  calc afk (Kw _ _ _) ?_;simp only[VC];exact⟨rfl,trivial⟩
def Vy (h1:h.length<=1000) (h2:l.length<=1000):va [.tup [mD h,mD l]] s=ok (.bl (jC h&&(jC l&&ot h l))) s:=by
 calc afl ?_;delta va;simp only[VC];calc afk (show dZ [.tup [mD h,mD l],.ty "tuple"] s=ok 6e1 s from rfl) ?_;simp only[VC,ò,Ç,õ];calc afk (show cM [.tup [mD h,mD l]] s=ok (.int 2) s from rfl) ?_;simp only[VC];simp only[VC,Ĝ,ò,Ç,õ];calc afk (Kx h1) ?_;simp only[VC]
 cases jC h with
 |false=>simp
 |true =>
  erw[ÿ,ô];calc afk (Kx h2) ?_;simp only[VC]
  cases jC l with
  |false=>simp
  |true =>
   erw[ÿ,ô];exact afk (Vx h1) 1e4
def Vz:yx [.int i] s=ok (.bl (iE i)) s:=by
 calc afl ?_;delta yx;simp only[VC,rX,iE,Ţ]
def Zw:yO [.int i] s=ok (.bl (ic i)) s:=by
 calc afl ?_;delta yO;simp only[VC,rX,ic,Ţ]
def mT:aZ 1e3 (.str y) s=ok (.bl (ώ (x=y))) s:=by
 show ok (D.bl (x==y)) s=_
 by_cases e:x=y<;>simp[e]
def Xg:¬ (Ċ "made"=Ċ "mended"):=nofun
def C6:¬ (Ċ "mended"=Ċ "made"):=nofun
def Bb:afb Fl:=aw (bc (aF (e2 aZ 1e8 (eC 6e5))) (aD (aE va (af (aa 4) ah))) bJ) (aD (eT (e2 aZ 1e8 (eC 7e0)) (aE rR (af (aa 4) ah))))
def Ly {x:Str} {m d:Int} {w:D} {s:ae} {b:Bool} (h:Wp (Bb [ϊ (.tup [.str x,.int m,.int d,w]),ϊ 1e3,ϊ (.int m),ϊ (.int d),ϊ w] s) (xk λd s'=>d=.bl b/\s'=s)):yF [.tup [.str x,.int m,.int d,w]] s=ok (.bl (iE m&&ic d&&b)) s:=by
 calc afl ?_;show Wp (aU 1 5 (aw _ (aw _ (aw _ Bb))) _ s) _;simp only[VC];calc afk (show dZ [.tup [.str x,.int m,.int d,w],.ty "tuple"] s=ok 6e1 s from rfl) ?_;simp only[VC,ò,Ç,õ];calc afk (show cM [.tup [.str x,.int m,.int d,w]] s=ok (.int 4) s from rfl) ?_;simp only[VC,Ĝ,ò,Ç,õ];calc afk Vz ?_;simp only[VC]
 cases iE m with
 |false=>simp[iW,fK,cg,bu]
 |true =>
  erw[ò,Ç,õ,ô];calc afk Zw ?_;simp only[VC]
  cases ic d with
  |false=>simp[iW,fK,cg,bu]
  |true =>
   simp only[VC,ò,Ç,õ,ô];exact h
def Xh (hf:oW p):yF [p.d] s=ok (.bl (dM p)) s:=by
 cases p with
 |made m d h l =>
  calc Ly ?_;delta Bb;simp only[VC];calc afk mT ?_;simp only[VC,ň,ÿ];exact afk (Vy hf.1 hf.2) 1e4
 |bM m d k =>
  calc Ly ?_;delta Bb;simp only[VC];calc afk mT ?_;simp only[VC,Û C6,Ç,õ];calc afk mT ?_;simp only[VC,ň,ÿ];exact afk Lx 1e4
abbrev bD (ps:List Pg):D:=.tup 6e4
def Zx:jo p.d q.d s=ok (.bl (bR.lt p q)) s:=by
 delta jo;rw[Ô (by rw[qm _ (wF p),qm _ (wF q)];erw[Ĳ,ô,É];have:=zD p;omega),NA];rfl
def qB (ps:List Pg):Bool:=(ps.zip (ps.drop 1)).all λp=>bR.lt p.1 p.2
def VA (xs ys:List Pg):iL (xs.map Pg.d) (ys.map Pg.d)=(xs.zip ys).map λp=>D.tup [p.1.d,p.2.d]:=by
 delta iL;rw[List.zip_map,ę];rfl
def Sh (hl:ps.length<=1000):pW [bD ps] s=ok (.bl (qB ps)) s:=by
 calc afl ?_;delta pW;simp only[VC];have Z:qI (af 0e4 (af (dI 0e4 (bQ 1e1) cX) ah)) [ϊ (bD ps)] s=ok (iL 6e4 ((ps.drop 1).map Pg.d)) s:=by
  calc Cr (afl ?_);simp only[VC];rw[C3 (i:=1) rfl]
  try simp only[VC]
  calc afk (show ql (bD ps) (ϊ 1) ϋ s=ok (.tup (cutD 6e4 (ϊ 1) ϋ)) s from rfl) ⟨?_,rfl⟩;rw[Kt,adW]
 calc afk Z ⟨le_size (by rw[yM];erw[Ä];omega),?_⟩;rw[VA];refine afk (comp_map (λp:Pg×Pg=>D.tup [p.1.d,p.2.d]) (λ_=>ό) (λp=>.bl (bR.lt p.1 p.2)) _ λp _=>⟨[ϊ p.1.d,ϊ p.2.d],rfl,rfl,λ_=>?_⟩) ?_
 ·refine afl ?_
  simp only[VC,Zx,Ţ]
 rw[filter_tt];exact afk (sC _ _ _) 1e4
def jJ (ps:List Pg):Bool:=ώ (ps.length<=24)&&(ps.all dM&&qB ps)
def Xi (hl:ps.length<=1000) (hf:∀p∈ps,oW p):yy [bD ps] s=ok (.bl (jJ ps)) s:=by
 calc afl ?_;delta yy jJ;simp only[VC];calc afk (show dZ [bD ps,.ty "tuple"] s=ok 6e1 s from rfl) ?_;simp only[VC,ÿ];calc afk (show cM [bD ps] s=ok (.int ps.length) s from by show ok (D.int (ps.map Pg.d).length) s=_;rw[Ä]) ?_;simp only[VC];by_cases h:ps.length<=24
 ·have Z:(ps.length:Int)<=24:=by omega
  erw[h,Z,ň,ÿ,ô];calc afk (n9 rfl) ⟨le_size (by rw[Ä];omega),?_⟩;refine afk (comp_map Pg.d (λ_=>ό) (λp=>.bl (dM p)) ps λp Y=>⟨[ϊ p.d],rfl,rfl,λ_=>?_⟩) ?_
  ·refine afl ?_
   simp only[VC,Xh (hf p Y),Ţ]
  ·rw[filter_tt]
   calc afk (sC _ _ _) ?_;simp only[VC]
   cases ps.all dM with
   |false=>simp
   |true =>
    erw[ÿ,ô];exact afk (Sh hl) 1e4
 ·have Z:¬ (ps.length:Int)<=24:=by omega
  simp[h,Z]
def _root_.TK.Pg.day:Pg->Int
 | .made _ d _ _=>d
 | .bM _ d _=>d
def pM (m k:Int):Pg->Bool
 | .made Z _ h _=>ώ (Z=m)&&ώ (k∈h)
 |_=>ύ
def pN (m k:Int):Pg->Bool
 | .made Z _ _ l=>ώ (Z=m)&&ώ (k∈l)
 |_=>ύ
def nX (m k:Int):Pg->Bool
 | .bM Z _ Y=>ώ (Z=m)&&ώ (Y=k)
 |_=>ύ
def shown (ps:List Pg) (m k:Int):List Int:=(ps.filter (pM m k)).map Pg.day
def iF (ps:List Pg) (m k:Int):List Int:=(ps.filter (pN m k)).map Pg.day
def gO (ps:List Pg) (m k:Int):List Int:=(ps.filter (nX m k)).map Pg.day
abbrev lI (ns:List Int):D:=.lst 2e8
def kN (a b c d:D) (s:ae):ar (.tup [a,b,c,d]) (.int 0) s=ok a s/\ar (.tup [a,b,c,d]) (.int 1) s=ok b s/\ar (.tup [a,b,c,d]) (.int 2) s=ok c s/\ar (.tup [a,b,c,d]) (.int 3) s=ok d s:=⟨rfl,rfl,rfl,rfl⟩
def PR (a b:D) (s:ae):ar (.tup [a,b]) (.int 0) s=ok a s/\ar (.tup [a,b]) (.int 1) s=ok b s:=1e4
def Hg (p:Pg) (s:ae):ar p.d (.int 1) s=ok (.int (match p with | .made m _ _ _=>m | .bM m _ _=>m)) s/\ar p.d (.int 2) s=ok (.int p.day) s:=by cases p<;>exact⟨rfl,rfl⟩
def Lz (hl:ps.length<=1000):n5 [bD ps,.int m,.int k,.int 0] s=ok (lI (shown ps m k)) s/\n5 [bD ps,.int m,.int k,.int 1] s=ok (lI (iF ps m k)) s:=by
 constructor
 ·refine afl ?_
  delta n5;simp only[VC];calc afk (n9 rfl) ⟨le_size (by rw[Ä];omega),?_⟩;refine afk (comp_map Pg.d (pM m k) (λp=>.int p.day) ps λp Y=>⟨[ϊ p.d,ϊ (.int m),ϊ (.int k),ϊ (.int 0)],rfl,?_,λ_=>?_⟩) ?_
  ·refine afl ?_
   cases p with
   |made Z d h l =>
    simp only[VC,Pg.d];rw[(kN _ _ _ _ s).1];simp only[VC,mT,ň,ÿ];rw[(kN _ _ _ _ s).2.1];simp only[VC,pM];by_cases e:Z=m
    ·erw[e,Ĝ,ÿ,ň,ô]
     rw[(kN _ _ _ _ s).2.2.2];simp only[VC];rw[(PR _ _ s).1];simp only[VC];calc afk (sA (ns:=h)) ?_;simp only[VC,Ţ]
    ·simp[e]
   |bM Z d X =>
    simp only[VC,Pg.d];rw[(kN _ _ _ _ s).1];simp only[VC,mT,Û C6,Ç,õ,pM,Ţ]
  ·refine afl ?_
   simp only[VC,(Hg p s).2,Ţ]
  ·erw[shown,lI,ę,ŭ,Ţ]
 ·refine afl ?_
  delta n5;simp only[VC];calc afk (n9 rfl) ⟨le_size (by rw[Ä];omega),?_⟩;refine afk (comp_map Pg.d (pN m k) (λp=>.int p.day) ps λp Y=>⟨[ϊ p.d,ϊ (.int m),ϊ (.int k),ϊ (.int 1)],rfl,?_,λ_=>?_⟩) ?_
  ·refine afl ?_
   cases p with
   |made Z d h l =>
    simp only[VC,Pg.d];rw[(kN _ _ _ _ s).1];simp only[VC,mT,ň,ÿ];rw[(kN _ _ _ _ s).2.1];simp only[VC,pN];by_cases e:Z=m
    ·erw[e,Ĝ,ÿ,ň,ô]
     rw[(kN _ _ _ _ s).2.2.2];simp only[VC];rw[(PR _ _ s).2];simp only[VC];calc afk (sA (ns:=l)) ?_;simp only[VC,Ţ]
    ·simp[e]
   |bM Z d X =>
    simp only[VC,Pg.d];rw[(kN _ _ _ _ s).1];simp only[VC,mT,Û C6,Ç,õ,pN,Ţ]
  ·refine afl ?_
   simp only[VC,(Hg p s).2,Ţ]
  ·erw[iF,lI,ę,ŭ,Ţ]
def Xj (hl:ps.length<=1000):yn [bD ps,.int m,.int k] s=ok (lI (gO ps m k)) s:=by
 calc afl ?_;delta yn;simp only[VC];calc afk (n9 rfl) ⟨le_size (by rw[Ä];omega),?_⟩;refine afk (comp_map Pg.d (nX m k) (λp=>.int p.day) ps λp X=>⟨[ϊ p.d,ϊ (.int m),ϊ (.int k)],rfl,?_,λ_=>?_⟩) ?_
 ·refine afl ?_
  cases p with
  |bM Z d Y =>
   simp only[VC,Pg.d];rw[(kN _ _ _ _ s).1];simp only[VC,mT,ň,ÿ];rw[(kN _ _ _ _ s).2.1];simp only[VC,nX];by_cases e:Z=m
   ·erw[e,Ĝ,ÿ,ň,ô]
    rw[(kN _ _ _ _ s).2.2.2];simp only[VC]
    by_cases e:Y=k<;>simp[e]
   ·simp[e]
  |made Z d h l =>
   simp only[VC,Pg.d];rw[(kN _ _ _ _ s).1];simp only[VC,mT,Û Xg,Ç,õ,nX,Ţ]
 ·refine afl ?_
  simp only[VC,(Hg p s).2,Ţ]
 ·erw[gO,lI,ę,ŭ,Ţ]
def MC (h:n<=1000):n<=Ù:=le_size ⋯
def aaW:dH (.int x) (lI ns) s=ok (.bl (ώ (x∈ns))) s:=by
 show dH (.int x) (mD ns) s=_;exact sA
def AB (ds:List Int) (a b:Int):Bool:=ds.any λx=>ώ (a<x)&&ώ (x<=b)
def TR (hl:ds.length<=1000):yj [lI ds,.int a,.int b] s=ok (.bl (AB ds a b)) s:=by
 calc afl ?_;delta yj;simp only[VC];calc afk (og rfl) ⟨MC (by rw[Ä];omega),?_⟩;refine afk (BV (λ_=>ό) (λx=>.bl (ώ (a<x)&&ώ (x<=b))) ds λn _=>⟨[ϊ (.int n),ϊ (.int a),ϊ (.int b)],rfl,rfl,λ_=>?_⟩) ?_
 ·refine afl ?_
  simp only[VC]
  by_cases e:a<n<;>simp[e,bL,zO,bT,bg]
 ·rw[filter_tt]
  exact afk (Kw _ _ _) 1e4
def pO (ps:List Pg) (m k d l:Int):Bool:=(ώ (l∈iF ps m k)||(ώ (l=d)&&ώ (d∈gO ps m k)))&&!AB (gO ps m k) d l
def qr (d:Int):List Int:=(ö (31-d).toNat).map λi:Nat=>d+(i:Int)
def mi (ps:List Pg) (m k:Int):List (Int×Int):=(dS (shown ps m k)).flatMap λd=>((qr d).filter (pO ps m k d)).map λl=>(d,l)
def yU {ps:List Pg} {f:Pg->Bool}:((ps.filter f).map Pg.day).length<=ps.length:=by rw[Ä];exact ac4 _ _
theorem vw {α β:Type} {f:α->List β} {b:Nat}:∀{l:List α},(∀x∈l,(f x).length<=b)->(l.flatMap f).length<=l.length*b
 | [],_=>by simp
 |x::l,h=>by
  rw[List.flatMap_cons,à,æ,Nat.succ_mul];have Y:=h x Õ;have X:=vw (l:=l) λy Z=>h y (Ì _ Z);omega
def I0 (d:Int) (h:0<=d):(qr d).length<=31:=by delta qr;rw[Ä,adb];omega
structure qR (ps:List Pg):Prop where
 len:ps.length<=24
 lo:∀p∈ps,0<=p.day/\p.day<31
def qR.of (h:qR ps) (hx:x∈(ps.filter f).map Pg.day):0<=x/\x<31:=by
 obtain⟨p,Z,rfl⟩:=å.mp hx;exact h.lo p (Ł.mp Z).1
def Si {ps:List Pg} {m k:Int} {s:ae} (h:qR ps):vd [bD ps,.int m,.int k] s=ok (.lst ((mi ps m k).map λp=>D.tup [.int p.1,.int p.2])) s:=by
 have Y:=h.len;have S:(shown ps m k).length<=24:=Ü yU Y;have R:(iF ps m k).length<=24:=Ü yU Y;have Q:(gO ps m k).length<=24:=Ü yU Y;calc afl ?_;delta vd;simp only[VC];calc afk (Lz ⋯).2 ?_;calc afk (Xj ⋯) ?_;rw[Kv];have hs:cV (e1 sa (aE n5 (af 0e4 (af 1e8 (af 6e6 (af (eC (.int (0))) ah)))))) [ϊ (bD ps),ϊ (.int m),ϊ (.int k),ϊ (lI (iF ps m k)),ϊ (lI (gO ps m k))] s=ok ((dS (shown ps m k)).map D.int) s:=by
  calc og (afl ?_);simp only[VC];calc afk (Lz ⋯).1 ?_;calc afk (show sa (lI (shown ps m k)) s=ok (lI (dS (shown ps m k))) s from ?_) 1e4;delta sa;erw[Js];rw[Ô (by have:=BO (shown ps m k);rw[É];omega)]
 calc afk hs ?_;have day:∀d∈dS (shown ps m k),0<=d/\d<31:=λd Z=>h.of (lY.mp Z);refine afk (v8 D.int (λ_=>ό) (λd=>((qr d).filter (pO ps m k d)).map λl=>D.tup [.int d,.int l]) _ λd Z=>⟨[ϊ (.int d),ϋ,ϊ (lI (iF ps m k)),ϊ (lI (gO ps m k))],rfl,rfl,λ_=>?_⟩) ?_
 ·have Z:=day d Z
  delta more;rw[Zr (i:=d) (j:=31) rfl ⋯ ⋯ ⋯ ⋯,cL];have T:ei d (31-d).toNat=(qr d).map D.int:=by delta qr;rw[C5,ę];rfl
  rw[T];rw[v8 D.int (pO ps m k d) (λl=>[D.tup [.int d,.int l]]) (qr d) λl Y=>⟨[ϊ (.int d),ϊ (.int l),ϊ (lI (iF ps m k)),ϊ (lI (gO ps m k))],rfl,?_,λ_=>?_⟩]
  ·rw[<- List.map_eq_flatMap]
  ·refine afl ?_
   simp only[VC,aaW];delta pO;have X:=TR (ds:=gO ps m k) (a:=d) (b:=l) (s:=s) ⋯;by_cases W:l∈iF ps m k
   ·simp only[VC,W,ň,ÿ,Bool.true_or,ô]
    exact afk X (by simp only[VC,Ţ])
   ·erw[W,decide_false,Ç,õ,Bool.false_or]
    by_cases V:l=d
    ·subst V
     simp only[VC,Ĝ,ÿ,ň,ô];by_cases U:l∈gO ps m k
     ·erw[U,ň,ÿ,ô]
      exact afk X (by simp only[VC,Ţ])
     ·simp[U]
    ·simp[V]
  ·refine afl ?_
   delta emit;rw[cu];simp only[VC];exact⟨by decide,trivial⟩
 ·rw[filter_tt]
  refine⟨?_,?_,rfl⟩
  ·refine MC (Ü (vw (b:=31) λd Z=>?_) ?_)
   ·rw[Ä]
    exact Ü (ac4 _ _) (I0 d (day d Z).1)
   ·have:=BO (shown ps m k)
    have:(dS (shown ps m k)).length<=24:=by omega
    omega
  ·delta mi
   erw[List.map_flatMap,ę,ŭ]
def m4:List Int:=(ö 4).map λi:Nat=>(i:Int)
def k8:List Int:=(ö 8).map λi:Nat=>(i:Int)
def ni (ps:List Pg):List (Int×Int×Int×Int):=m4.flatMap λm=>k8.flatMap λk=>(mi ps m k).map λp=>(m,k,p.1,p.2)
def fD (p:Int×Int×Int×Int):D:=.tup [.int p.1,.int p.2.1,.int p.2.2.1,.int p.2.2.2]
def TU {ps:List Pg} (h:qR ps) (m k:Int):(mi ps m k).length<=744:=by
 have Y:(shown ps m k).length<=24:=Ü yU h.len;have:=BO (shown ps m k);calc Ü (vw (b:=31) λd Z=>?_) ⋯;rw[Ä];exact Ü (ac4 _ _) (I0 d (h.of (lY.mp Z)).1)
def TV {ps:List Pg} {s:ae} (h:qR ps):yt [bD ps] s=ok (.lst ((ni ps).map fD)) s:=by
 calc afl ?_;delta yt;erw[eO,cg,fK,ç,acA,ī,ł,æ,ĥ,Ø,true_and,Nat.reduceSub,Nat.reduceAdd];rw[Kv];calc afk (ku (n:=4) rfl 0e0) ?_;have Z:ei 0 4=m4.map D.int:=rfl;have Y:ei 0 8=k8.map D.int:=rfl;rw[Z];refine afk (v8 D.int (λ_=>ό) (λm=>k8.flatMap λk=>(mi ps m k).map λp=>fD (m,k,p.1,p.2)) m4 λm X=>⟨[ϊ (.int m),ϋ,ϋ,ϋ,ϊ (bD ps)],rfl,rfl,λ_=>?_⟩) ?_
 ·delta more
  rw[ku (n:=8) rfl 0e0,cL,Y];rw[v8 D.int (λ_=>ό) (λk=>(mi ps m k).map λp=>fD (m,k,p.1,p.2)) k8 λk W=>⟨[ϊ (.int m),ϊ (.int k),ϋ,ϋ,ϊ (bD ps)],rfl,rfl,λ_=>?_⟩]
  ·rw[filter_tt]
  ·have hi:cV (aE vd (af (aa 4) (af 0e4 4e8))) [ϊ (.int m),ϊ (.int k),ϋ,ϋ,ϊ (bD ps)] s=ok ((mi ps m k).map λp=>D.tup [.int p.1,.int p.2]) s:=by
    calc og (afl ?_);simp only[VC];exact afk (Si h) 1e4
   rw[hi,cL];rw[v8 (λp:Int×Int=>D.tup [.int p.1,.int p.2]) (λ_=>ό) (λp=>[fD (m,k,p.1,p.2)]) (mi ps m k) λp V=>⟨[ϊ (.int m),ϊ (.int k),ϊ (.int p.1),ϊ (.int p.2),ϊ (bD ps)],rfl,rfl,λ_=>?_⟩]
   ·rw[filter_tt,<- List.map_eq_flatMap]
   ·refine afl ?_
    delta emit;rw[cu];simp only[VC];exact⟨by decide,rfl,trivial⟩
 ·rw[filter_tt]
  refine⟨?_,?_,rfl⟩
  ·refine le_size (Ü (vw (b:=8*744) λm X=>?_) 0e0)
   calc Ü (vw (b:=744) λk W=>?_) 0e0;rw[Ä];exact TU h m k
  ·delta ni
   erw[List.map_flatMap,ę,ŭ]
def eQ (ps:List Pg):Bool:=jJ ps&&(ni ps).isEmpty
def JE (h:jJ ps=ό):qR ps:=by
 delta jJ at h;erw[Å,É,ä] at h;calc⟨h.1,λp Z=>?_⟩;have:=h.2.1 p Z
 cases p<;>erw[dM,ic,Å,É] at this<;>exact this.1.2
def Xk (hl:ps.length<=1000) (hf:∀p∈ps,oW p):rS [bD ps] s=ok (.bl (eQ ps)) s:=by
 calc afl ?_;delta rS;simp only[VC];calc afk (Xi hl hf) ?_;simp only[VC];delta eQ
 cases h:jJ ps with
 |false=>simp
 |true =>
  erw[ÿ,ô];delta Eh;simp only[VC,cu];calc afk (TV (JE h)) ?_;calc afk (show truth (.lst ((ni ps).map fD)) s=ok (!((ni ps).map fD).isEmpty) s from rfl) ?_;erw[bL];refine⟨?_,trivial⟩
  cases ni ps<;>rfl
def zP:m∈m4↔0<=m/\m<4:=by
 delta m4;rw[å];constructor
 ·rintro ⟨i,hi,rfl⟩
  have:=ø.mp hi;omega
 ·rintro ⟨Z,Y⟩
  exact⟨m.toNat,ø.mpr ⋯,by omega⟩
def zQ:m∈k8↔0<=m/\m<8:=by
 delta k8;rw[å];constructor
 ·rintro ⟨i,hi,rfl⟩
  have:=ø.mp hi;omega
 ·rintro ⟨Z,Y⟩
  exact⟨m.toNat,ø.mpr ⋯,by omega⟩
def VB (h:eQ ps=ό) (hm:0<=m/\m<4) (hk:0<=k/\k<8) (hd:d∈shown ps m k) (h1:d<=l) (h2:l<31):pO ps m k d l=ύ:=by
 delta eQ at h;rw[Å,List.isEmpty_iff] at h
 cases Z:pO ps m k d l with
 |false=>rfl
 |true =>
  exfalso;have Y:(d,l)∈mi ps m k:=by
   calc List.mem_flatMap.mpr ⟨d,lY.mpr hd,å.mpr ⟨l,Ł.mpr ⟨?_,Z⟩,rfl⟩⟩;exact å.mpr ⟨(l-d).toNat,ø.mpr ⋯,by omega⟩
  have:(m,k,d,l)∈ni ps:=List.mem_flatMap.mpr ⟨m,zP.mpr hm,List.mem_flatMap.mpr ⟨k,zQ.mpr hk,å.mpr ⟨(d,l),Y,rfl⟩⟩⟩;rw[h.2] at this;cases this
theorem LA:∀{ns:List Int},rise ns=ό->ns.Pairwise (· < ·)
 | [],_=>.nil
 | [a],_=>by simp
 |a::b::r,h=>by
  erw[rise,Å,É] at h;have ih:=LA h.2;refine þ.mpr ⟨λx hx=>?_,ih⟩
  rcases Ï.mp hx with rfl|hx
  ·exact h.1
  ·have:=(þ.mp ih).1 x hx
   omega
def pZ (h:jC ns=ό):gK 8 ns:=by
 delta jC at h;rw[Å,ä] at h;calc⟨λx Z=>?_,LA h.2⟩;have:=h.1 x Z;delta markB at this;erw[Å,É] at this;exact this
def BJ (h:gK n ns) (hn:n<=8):jC ns=ό:=by
 delta jC;rw[Å,ä];calc⟨λx Z=>?_,Xf h.up⟩;have:=h.lo x Z;delta markB;erw[Å,É];omega
def TX (hm:0<=m/\m<4) (hd:0<=d/\d<31) (hk:0<=k/\k<8):dM (.bM m d k)=ό:=by
 erw[dM,iE,ic,markB,Å,É];omega
def TY (hm:0<=m/\m<4) (hd:0<=d/\d<31) (h1:gK n h) (h2:gK n l) (hn:n<=8) (ha:∀x∈h,x∉l):dM (.made m d h l)=ό:=by
 erw[dM,iE,ic,Å,É,ot,û,List.any_eq_false];exact⟨⟨hm,hd⟩,BJ h1 hn,BJ h2 hn,ha⟩
def TZ (h:dM p=ό):oW p:=by
 cases p with
 |made m d Z l =>
  erw[dM,Å] at h;exact⟨by have:=(pZ h.2.1).len;omega,by have:=(pZ h.2.2.1).len;omega⟩
 |bM m d k=>trivial
theorem LB:∀{ps:List Pg},ps.Pairwise (λa b=>bR.lt a b=ό)->qB ps=ό
 | [],_=>rfl
 | [a],_=>rfl
 |a::b::r,h=>by
  obtain⟨Z,Y⟩:=þ.mp h;have ih:=LB Y;delta qB at ih |-;erw[aeG,ν,Į,adX,Å] at ih |-;exact⟨Z b Õ,ih⟩
def VD (h:ps.Nodup):(ST.cJ bR ps).Pairwise λa b=>bR.lt a b=ό:=by
 have Y:=ST.J5 (O:=bR) ps;have X:(ST.cJ bR ps).Nodup:=(ST.pY ps).nodup_iff.mpr h;refine(Y.and X).imp λ{a b} Z=>?_
 cases W:bR.lt a b with
 |true=>rfl
 |false=>exact(Z.2 (bR.df a b W Z.1)).elim
def Wp.aaX (h:Wp (fa env s) λds s=>∃x y z,ds=[x,y,z]/\QF (.nx (((env.set i (ϊ x)).set j (ϊ y)).set k (ϊ z))) s):Wp (tW i j k fa env s) QF:=by
 delta tW;calc Wp.aj (h.mono λds s ⟨x,y,z,e,q⟩=>?_);subst e;exact Wp.ok q
structure Laid (ps:List Pg):Prop where
 pg:∀p∈ps,dM p=ό
 up:ps.Pairwise λa b=>bR.lt a b=ό
theorem Laid.jJ (h:Laid ps) (hl:ps.length<=24):jJ ps=ό:=by
 delta DI.jJ;rw[Î hl,ä.mpr h.pg,LB h.up];rfl
def Sf (s:ae) (k:Nat):Prop:=∃(a:Int) (b:Bool),s[k]?=ϊ (.lst [.int a,.bl b])/\0<=a/\(b=ύ->a<2147483647)
def Sf.lt (h:Sf s k):k<s.length:=by
 obtain⟨a,b,e,_⟩:=h;exact(Ñ.mp e).1
def kY (h:Sf s k) (h1:0<m) (h2:m<1073741824):Wp (bK.dW [.aK k,.int m] s) λd s'=>∃r:Int,d=.int r/\0<=r/\r<m/\Sf s' k/\Ex k s s':=by
 obtain⟨a,b,e,V,Y⟩:=h;have X:=(Ñ.mp e).1
 cases b with
 |true =>
  have Z:(s.set k (.lst [.int (a / m),.bl ό]))[k]?=ϊ (.lst [.int (a / m),.bl ό]):=Đ X;calc⟨.int (a % m),s.set k (.lst [.int (a / m),.bl ό]),?_,a % m,rfl,ac2 _ ⋯,ε _ h1,⟨a / m,ό,Z,Int.ediv_nonneg V ⋯,λz=>by cases z⟩,Ex.set _ _ _⟩;erw[bK.dW,aU,aw,bc,dO,truth,e2,zM,zN,eC,cL,ç,acA,ī,ł,Hf _ _ k s e,PN _ _ k s e,æ,ĥ,ÿ,aQ,gN,ug s h1,qL,OF s h1 h2,OD _ _ _ k s e,aD,Ļ,ļ,Ø]
 |false =>
  have Y:=Y rfl;have ex:0<=(a*48271+29) % 2147483647/\(a*48271+29) % 2147483647<2147483647:=⟨ac2 _ 0e0,ε _ 0e0⟩;generalize U:(a*48271+29) % 2147483647=x at ex;have Z:(s.set k (.lst [.int x,.bl ύ]))[k]?=ϊ (.lst [.int x,.bl ύ]):=Đ X;generalize W:(x*x+39373*x+7) % 2147483629=y;have N:0<=y/\y<2147483629:=by rw[<- W];exact⟨ac2 _ 0e0,ε _ 0e0⟩
  generalize T:(y*y+16807*y) % 2147483587=z;calc⟨.int (z / 8 % m),s.set k (.lst [.int x,.bl ύ]),?_,_,rfl,ac2 _ ⋯,ε _ h1,⟨x,ύ,Z,ex.1,λ_=>ex.2⟩,Ex.set _ _ _⟩;have S:iJ (.int a) (.int 48271) s=ok (.int (a*48271)) s:=xm s (mulOk_of ⋯ ⋯);have R:∀s',iJ (.int x) (.int x) s'=ok (.int (x*x)) s':=λs'=>xm s' (mulOk_of ⋯ ⋯);have Q:∀s',iJ (.int 39373) (.int x) s'=ok (.int (39373*x)) s':=λs'=>xm s' (mulOk_of 0e0 0e0);have m4:∀s',iJ (.int y) (.int y) s'=ok (.int (y*y)) s':=λs'=>xm s' (mulOk_of ⋯ ⋯);have P:∀s',iJ (.int 16807) (.int y) s'=ok (.int (16807*y)) s':=λs'=>xm s' (mulOk_of 0e0 0e0);have O:∀n:Int,ar (.aK k) (.int 0) (s.set k (.lst [.int x,.bl ύ]))=ok (.int x) (s.set k (.lst [.int x,.bl ύ])):=λ_=>Hf _ _ k _ Z;erw[bK.dW,aU,aw,bc,dO,truth,e2,zM,zN,eC,cL,ç,acA,ī,ł,Hf _ _ k s e,PN _ _ k s e,æ,ĥ,Ç,õ,ÿ,bJ,aQ,gN,qL,OD _ _ _ k s e,aD,Ļ,ļ,Ø,S,R,Q,m4,P,OE,ug _ (show (0:Int)<2147483647 by decide),ug _ (show (0:Int)<2147483629 by decide),ug _ (show (0:Int)<2147483587 by decide),OF _ (show (0:Int)<8 by decide) 0e0,ug _ h1,U,W,T,O 0]
def Xl (h0:0<=i):Wp (bK.yR [.bV ns,.int i] s) λd s'=>d=.aK s.length/\Sf s' s.length/\∃c,s'=s++[c]:=by
 obtain⟨c,Y⟩:=Xb (ns:=ns) (s:=s) h0;have Z:∀s,wx (.int 10) (.int 18) s=ok (.int (10 ^ 18)) s:=λs=>by
  have e:Fb (.int 10) (.int 18)=ϊ (.int (10 ^ 18)):=by
   show (if (ώ ((0:Int)<=18)&&ώ ((18:Int)<=1000000)&&ώ ((10:Int).natAbs<2 ^ 64))=ό then ϊ (D.int (10 ^ (18:Int).toNat)) else ϋ)=_
   rw[Ô 0e0];rfl
  erw[wx,e,bW]
 delta bK.yR;simp only[VC,Y,Z];by_cases h:(10:Int) ^ 18<=c
 ·rw[Î h]
  simp only[VC,Z,ÿ];exact⟨by decide,⟨_,ό,by simp;rfl,by omega,λz=>by cases z⟩,_,rfl⟩
 ·rw[Û h]
  simp only[VC,Ç,õ,ug _ (show (0:Int)<2147483647 by decide)];exact⟨by decide,⟨_,ύ,by simp;rfl,ac2 _ 0e0,λ_=>ε _ 0e0⟩,_,rfl⟩
def tB (h0:0<=r) (h1:r<ds.length):∃d∈ds,ar (.lst ds) (.int r) s=ok d s:=by
 obtain⟨x,e,e2⟩:=v5 h0 h1;exact⟨x,Ē e2,by erw[ar,pF,res,e,bW]⟩
def PV (h0:0<=k) (h1:k<3):∃n:Nat,ar (.lst [.int 2,.int 4,.int 8]) (.int k) s=ok (.int n) s/\2<=n/\n<=8:=by
 obtain⟨d,Z,e⟩:=tB (ds:=[.int 2,.int 4,.int 8]) (s:=s) h0 h1;erw[Ï,ì,or_false] at Z
 rcases Z with rfl|rfl|rfl
 ·exact⟨2,e,by decide,by decide⟩
 ·exact⟨4,e,by decide,by decide⟩
 ·exact⟨8,e,by decide,by decide⟩
def VE (h:Sf s k):Wp (hU 1 [ϊ (.aK k)] (gN 0) eG (aE bK.dW (af 1e8 (af 4e0 ah))) (ei 0 n) s) λxs s'=>∃ns:List Int,xs=ns.map D.int/\ns.length=n/\Sf s' k/\Ex k s s':=by
 refine W6 (λi Z s'=>∃ns:List Int,Z=ns.map D.int/\ns.length=i/\Sf s' k/\Ex k s s') (ei 0 n) ⟨[],rfl,rfl,h,Ex.refl _ _⟩ (λi d Z s' Y X=>?_) λZ s' X=>?_
 ·obtain⟨ns,rfl,W,V,U⟩:=X
  rw[qh] at Y;split at Y
  ·cases Y
   calc⟨[ϊ (.int (0+i)),ϊ (.aK k)],rfl,?_⟩;simp only[VC];calc afk (show eG _ s'=ok ό s' from rfl) ?_;erw[ÿ];refine(kY V 0e0 0e0).mono λd R Y=>?_;obtain⟨r,rfl,Q,P,T,S⟩:=Y;exact⟨ns++[r],by simp,by rw[à,W];rfl,T,U.trans S⟩
  ·cases Y
 ·rw[l0] at X
  exact X
def pick (ns:List Int) (c:Int) (n:Nat):List Int:=((ö n).filter λi=>ώ (ns.getD i 0=c)).map λi:Nat=>(i:Int)
def Ky (ns:List Int) (c:Int) (n:Nat):gK n (pick ns c n):=by
 refine⟨λx Z=>?_,?_⟩
 ·obtain⟨i,hi,rfl⟩:=å.mp Z
  have:=ø.mp (Ł.mp hi).1;omega
 ·delta pick
  rw[List.pairwise_map];exact(ad2.filter _).imp λh=>by omega
def LC:hU 1 [ϊ (.lst 2e8)] (gN 0) (aF (DI.e2 aZ (DI.e2 ar 1e8 0e4) (eC (.int c)))) 0e4 (ei 0 ns.length) s=ok ((pick ns c ns.length).map D.int) s:=by
 rw[C5];have:=comp_map (nt:=1) (caps:=[ϊ (.lst 2e8)]) (g:=gN 0) (t:=aF (DI.e2 aZ (DI.e2 ar 1e8 0e4) (eC (.int c)))) (f:=aa 0) (s:=s) (λi:Nat=>D.int (0+(i:Int))) (λi=>ώ (ns.getD i 0=c)) (λi:Nat=>D.int i) (ö ns.length) λi hi=>⟨[ϊ (.int (0+(i:Int))),ϊ (.lst 2e8)],rfl,?_,λ_=>?_⟩
 ·rw[this]
  delta pick;rw[ę];rfl
 ·have hi:=ø.mp hi
  rw[ac5];calc afl ?_;simp only[VC];refine afk (show ar (.lst 2e8) 4e5 s=ok (.int (ns.getD i 0)) s from ?_) ?_
  ·delta ar pF res
   simp only[];rw[Wk (by rw[é,getD_some (d:=0) hi];rfl)];rfl
  ·simp only[VC]
   exact⟨by rw[ĝ];simp,trivial⟩
 ·rw[ac5];rfl
def Xm (h:x∈pick ns 1 n) (g:x∈pick ns 2 n):False:=by
 delta pick at h g;obtain⟨i,hi,rfl⟩:=å.mp h;obtain⟨j,Z,e⟩:=å.mp g;have:i=j:=by omega
 subst this;have Y:=(Ł.mp hi).2;have X:=(Ł.mp Z).2;erw[É] at Y X;omega
def Xn (h:Sf s k):Wp (bK.yS [.aK k] s) λd s'=>∃a b,d=.tup [mD a,mD b]/\gK 8 a/\gK 8 b/\(∀x∈a,x∉b)/\Sf s' k/\Ex k s s':=by
 delta bK.yS;calc eO.symm ▸ ⟨rfl,afm λR Y=>?_⟩;simp only[VC];calc⟨by decide,?_⟩;refine(kY h 0e0 0e0).mono λd T S=>?_;obtain⟨r,rfl,Q,P,W,O⟩:=S;obtain⟨n,e,K,U⟩:=PV (s:=T) Q P;calc afk e ?_;subst Y;calc afm λR Y=>?_;simp only[VC];calc afk (ku (n:=n) rfl ⋯) ⟨by rw[l0];exact le_size ⋯,?_⟩;refine(VE W).mono λJ X N=>?_;obtain⟨Z,rfl,M,V,L⟩:=N;subst Y;subst M;calc afm λR Y=>?_;simp only[VC];calc afk (ku (n:=Z.length) rfl ⋯) ⟨by rw[l0];exact le_size ⋯,?_⟩;calc afk LC ?_;calc afk (show fJ [.lst ((pick Z 1 Z.length).map D.int)] X=ok (mD (pick Z 1 Z.length)) X from rfl) ?_;subst Y;simp only[VC];calc afk (ku (n:=Z.length) rfl ⋯) ⟨by rw[l0];exact le_size ⋯,?_⟩;calc afk LC ?_;calc afk (show fJ [.lst ((pick Z 2 Z.length).map D.int)] X=ok (mD (pick Z 2 Z.length)) X from rfl) ?_;exact⟨by decide,_,_,rfl,(Ky Z 1 _).PQ U,(Ky Z 2 _).PQ U,λx W V=>Xm W V,V,O.trans L⟩
def MD (h:Sf s k) (h0:0<n) (h1:n<=31):Wp (bK.vG [.aK k,.int n] s) λd s'=>∃p,d=p.d/\dM p=ό/\Sf s' k/\Ex k s s':=by
 delta bK.vG;calc eO.symm ▸ ⟨rfl,afm λR X=>?_⟩;erw[ç,acA,Ø,Nat.reduceSub,ī,ł,zm,aI,aV,bA,mh,bu,wp_call,bg,bT];refine(kY h 0e0 0e0).mono λd A Z=>?_;obtain⟨m,rfl,m0,K,g1,T⟩:=Z;calc⟨le_size (n:=2) 0e0,?_⟩;refine(kY g1 0e0 0e0).mono λd J Z=>?_;obtain⟨r,rfl,I,H,g2,S⟩:=Z;obtain⟨d,Z,e⟩:=tB (ds:=[.int 0,.int m]) (s:=J) I H;calc afk e ?_;have W:∃Y:Int,d=.int Y/\0<=Y/\Y < 4:=by
  erw[Ï,ì,or_false] at Z
  rcases Z with rfl|rfl
  ·exact⟨0,rfl,by decide,by decide⟩
  ·exact⟨m,rfl,m0,K⟩
 obtain⟨Y,rfl,W⟩:=W;refine(kY g2 h0 ⋯).mono λd x Z=>?_;obtain⟨y,rfl,Q,y1,g3,P⟩:=Z;calc⟨_,_,rfl,?_⟩;erw[Ļ,ļ,bp];subst X;calc afm λR X=>?_;simp only[VC];refine(kY g3 0e0 0e0).mono λd w Z=>?_;obtain⟨z,rfl,O,N,M,L⟩:=Z;simp only[VC];split
 ·refine⟨by decide,?_⟩
  refine(kY M 0e0 0e0).mono λd s5 Z=>?_;obtain⟨z,rfl,O,N,V,U⟩:=Z;obtain⟨n,e,v,u⟩:=PV (s:=s5) O N;calc afk e ?_;refine(kY V ⋯ ⋯).mono λd t Z=>?_;obtain⟨c,rfl,G,q,F,E⟩:=Z;calc⟨by decide,?_⟩;subst X;exact⟨.bM Y y c,rfl,TX W ⟨Q,by omega⟩ ⟨G,by omega⟩,F,((((T.trans S).trans P).trans L).trans U).trans E⟩
 ·subst X
  simp only[VC];refine(Xn M).mono λd s5 Z=>?_;obtain⟨a,b,rfl,D,C,B,V,U⟩:=Z;exact⟨by decide,.made Y y a b,rfl,TY W ⟨Q,by omega⟩ D C 0e0 B,V,(((T.trans S).trans P).trans L).trans U⟩
def qb:bK.iC (n+1) [.int i,.int i] s=ok 6e1 s:=by
 calc afl ?_;delta bK.iC;simp only[VC];calc afk (show xb 4e5 s=ok 3e8 s from rfl) ?_;simp only[VC,Ç,õ];calc afk (show dZ [.int i,.ty "bool"] s=ok 3e8 s from rfl) ?_;calc afk (show dZ [.int i,.ty "bool"] s=ok 3e8 s from rfl) ?_;calc afk (show aZ 3e8 3e8 s=ok 6e1 s from rfl) ?_;simp only[VC,ÿ,Ĝ,Ţ]
def eq_str:aZ 1e3 1e3 s=ok 6e1 s:=by
 show (match fx 1e3 1e3 with|some b=>ok (D.bl b) s|none=>ϋ)=_
 have e:fx 1e3 1e3=ϊ ό:=by
  delta fx;rw[Ô (show (kL 1e3&&kL 1e3)=ό from rfl)];simp[beq]
 rw[e]
def yV:bK.iC (n+1) [.str x,.str x] s=ok 6e1 s:=by
 calc afl ?_;delta bK.iC;simp only[VC];calc afk (show xb 1e3 s=ok 3e8 s from rfl) ?_;simp only[VC,Ç,õ];calc afk (show dZ [.str x,.ty "bool"] s=ok 3e8 s from rfl) ?_;calc afk (show dZ [.str x,.ty "bool"] s=ok 3e8 s from rfl) ?_;calc afk (show aZ 3e8 3e8 s=ok 6e1 s from rfl) ?_;simp only[VC,ÿ];exact afk eq_str 1e4
def VF {α:Type} {f:α->Bool} (xs:List α):DI.cD (xs.map λx=>D.bl (f x))=ό:=by
 induction xs with
 |nil=>rfl
 |cons a r ih=>erw[ç,DI.cD,lay,ih,Ĳ]
def Xo {α:Type} {f:α->Bool} {xs:List α} {s:ae}:gp 3e8 (.lst (xs.map λx=>D.bl (f x))) s=ok (.bl (xs.all f)) s:=by
 delta gp inD;rw[show lg (.lst (xs.map λx=>D.bl (f x))) s=ϊ (xs.map λx=>D.bl (f x)) from rfl];simp only[];rw[Ô (by delta mr;rw[VF];rfl)];show ok (D.bl (!(xs.map λx=>D.bl (f x)).any λy=>beq y 3e8)) s=_;congr 3
 have e:∀b,beq (.bl b) 3e8=!b:=λb=>by cases b<;>rfl
 rw[aeS];erw[ŭ,e,List.not_any_eq_all_not,aei]
theorem JF:∀ds:List D,iL ds ds=ds.map λd=>D.tup [d,d]
 | []=>rfl
 |d::ds=>by
  have:=JF ds;delta iL at this |-;erw[Į,ç,this]
def qc (hl:ds.length<=1000) (h:∀d∈ds,bK.iC n [d,d] s=ok 6e1 s):bK.iC (n+1) [.tup ds,.tup ds] s=ok 6e1 s:=by
 have Z:dZ [.tup ds,.ty "list"] s=ok 3e8 s/\dZ [.tup ds,.ty "tuple"] s=ok 6e1 s:=1e4;have len:cM [.tup ds] s=ok (.int ds.length) s:=rfl;calc afl ?_;delta bK.iC;simp only[VC];calc afk (show xb (.tup ds) s=ok 6e1 s from rfl) ?_;simp only[VC,ÿ];calc afk Z.1 (afk Z.1 ?_);calc afk (show cG 3e8 3e8 s=ok 3e8 s from rfl) ?_;simp only[VC,Ç,õ];calc afk Z.2 (afk Z.2 ?_);calc afk (show cG 6e1 6e1 s=ok 3e8 s from rfl) ?_;simp only[VC,Ç,õ];calc afk len (afk len ?_);simp only[VC,Ĝ,ò,Ç,õ];calc afk (Cr rfl) ⟨le_size (by rw[yM];omega),?_⟩;rw[JF];refine afk (comp_map (λd:D=>D.tup [d,d]) (λ_=>ό) (λ_=>.bl ό) ds λd Y=>⟨[ϊ d,ϊ d],rfl,rfl,λ_=>?_⟩) ?_
 ·refine afl ?_
  simp only[VC,h d Y,Ţ]
 ·rw[Ľ.mpr (λ_ _=>rfl)]
  exact afk (Xo (f:=λ_=>ό)) ⟨by simp,rfl⟩
section
variable (s l m:Nat->Bool)
def pr:Nat->Bool
 |0=>s 0
 |d+1=>s (d+1)||(pr d&&!m (d+1))
def PX:Nat->Bool
 |0=>ύ
 |n+1=>(PX n||l (30-n))&&!m (30-n)
def br (d:Nat):Bool:=PX l m (31-d)
def ab (d:Nat):Bool:=br l m (d+1)||(l d||m d)
def f0 (d:Nat):Bool:=!s d
def zt:Prop:=∀d e,s d=ό->d<=e->e<=30->(l e=ό\/(e=d/\m d=ό))->∃x,d<x/\x<=e/\m x=ό
variable {s l m}
theorem DO:∀{d:Nat},pr s m d=ό↔∃e,e<=d/\s e=ό/\∀x,e<x->x<=d->m x=ύ
 |0=>by
  erw[pr];constructor
  ·intro h;exact⟨0,afn _,h,λx Y Z=>by omega⟩
  ·intro zzz;obtain⟨e,Y,Z,_⟩:=zzz
   have:e=0:=by omega
   rw[<- this];exact Z
 |d+1=>by
  erw[pr,ψ,Å,û];rw[DO (d:=d)];constructor
  ·rintro (h | ⟨⟨e,Y,Z,X⟩,V⟩)
   ·exact⟨d+1,afn _,h,λx Y Z=>by omega⟩
   ·refine⟨e,by omega,Z,λx W U=>?_⟩
    by_cases T:x=d+1
    ·rw[T];exact V
    ·exact X x W ⋯
  ·intro zzz;obtain⟨e,Y,Z,X⟩:=zzz
   by_cases S:e=d+1
   ·left;rw[<- S];exact Z
   ·right
    exact⟨⟨e,by omega,Z,λx W U=>X x W ⋯⟩,X (d+1) ⋯ 3e0⟩
section
variable (N:zt s l m)
include N
end
end
section
variable (ps:List Pg) (m k:Int)
def sN (d:Nat):Bool:=ώ ((d:Int)∈shown ps m k)
def lN (d:Nat):Bool:=ώ ((d:Int)∈iF ps m k)
def mN (d:Nat):Bool:=ώ ((d:Int)∈gO ps m k)
end
def Xp (h:eQ ps=ό) (hm:0<=m/\m<4) (hk:0<=k/\k<8):zt (sN ps m k) (lN ps m k) (mN ps m k):=by
 intro d e hs U T Z;erw[sN,lN,mN,É] at hs Z;have c:=VB h hm hk hs (l:=(e:Int)) ⋯ ⋯;delta pO at c;have Y:(ώ ((e:Int)∈iF ps m k)||(ώ ((e:Int)=(d:Int))&&ώ ((d:Int)∈gO ps m k)))=ό:=by
  rcases Z with Z | ⟨S,X⟩
  ·rw[Î Z];rfl
  ·rw[Î (show (e:Int)=d by omega),Î X];simp
 rw[Y,ô,Bool.not_eq_false'] at c;delta AB at c;obtain⟨x,W,V⟩:=Ť.mp c;erw[Å,É] at V;calc⟨x.toNat,by omega,by omega,?_⟩;erw[mN,É];rw[show ((x.toNat:Nat):Int)=x by omega];exact W
def pv (s m:Nat->Bool):Nat->Bool
 |0=>ύ
 |i+1=>pr s m i
open DI.bK
abbrev lD (ps:List Pg):D:=.lst 6e4
def Kp (s s':ae):Prop:=s.length<=s'.length/\∀j,j<s.length->s'[j]?=s[j]?
def Kp.refl (s:ae):Kp s s:=⟨afn _,λ_ _=>rfl⟩
theorem Kp.trans (h:Kp a b) (g:Kp b c):Kp a c:=⟨Ü h.1 g.1,λj Z=>(g.2 j (Ë Z h.1)).trans (h.2 j Z)⟩
def Kp.app (s c:ae):Kp s (s++c):=⟨by simp,λj Z=>â Z⟩
def Kp.get (h:Kp s s') {k:Nat} (e:s[k]?=ϊ c):s'[k]?=ϊ c:=by rw[h.2 k (Ñ.mp e).1];exact e
def Kp.sf {k:Nat} (h:Kp s s') (g:Sf s k):Sf s' k:=by
 obtain⟨a,b,e,r⟩:=g;exact⟨a,b,h.get e,r⟩
theorem Kp.set (h:Kp s s') (hj:s.length<=j) (c:Cell):Kp s (s'.set j c):=⟨by rw[ģ];exact h.1,λi hi=>by rw[ā ⋯];exact h.2 i hi⟩
def zR {x:Int} {ns:List Int} (h:lg d s=ϊ 2e8):dH (.int x) d s=ok (.bl (ώ (x∈ns))) s/\gp (.int x) d s=ok (.bl (!ώ (x∈ns))) s:=by
 have Z:mr 100 (.int x) 2e8=ό:=by erw[mr,lay,mW,dep,Ĳ,ą,ň]
 have e:inD (.int x) 2e8=ϊ (ώ (x∈ns)):=by delta inD;rw[Ô Z,Lw]
 delta dH gp;rw[h];erw[e];exact⟨rfl,rfl⟩
def LD (h:s[j]?=ϊ (.lst ds)):lg (.aK j) s=ϊ ds:=by delta lg res;erw[h]
def LF (h:s[j]?=ϊ (.lst ds)) (hl:ds.length<=1000):qK (.aK j) s=ό/\tR (.aK j) x s=ok .ak (s.set j (.lst (ds++[x]))):=by
 calc⟨by erw[qK,h],?_⟩;delta tR;erw[h,Î (adS hl (show 1000<Ù by decide)),ÿ]
section
variable {s:ae} {ps:List Pg} {p:Pg} {m k:Int} {Q:Fl->ae->Prop} {e0 e1 e2 e3 e4 e5 e6 e7 e8:Option D}
def Kz {x:Int} {b:Bool}:iJ (.lst [.int x]) (.int (if b then 1 else 0)) s=ok (.lst ((if b=ό then [x] else []).map D.int)) s:=by
 cases b<;>rfl
def ME {a b:List Int} (h:a.length+b.length<=1000000):aY 6e9 8e1 s=ok (.lst ((a++b).map D.int)) s:=by
 rw[acp (by simpa only [Ä] using h),ĩ]
def one_le (x:Int) (b:Bool):(if b=ό then [x] else []).length<=1:=by cases b<;>simp
def pP (m k:Int) (p:Pg):List Int:=if pM m k p=ό then [p.day] else []
def pQ (m k:Int) (p:Pg):List Int:=if pN m k p=ό then [p.day] else []
def lV (m k:Int) (p:Pg):List Int:=if nX m k p=ό then [p.day] else []
def T5:shown (ps++[p]) m k=shown ps m k++pP m k p:=by
 delta shown pP;rw[adY,ĩ];congr 1
 cases h:pM m k p<;>simp[List.filter,h]
def Sj:iF (ps++[p]) m k=iF ps m k++pQ m k p:=by
 delta iF pQ;rw[adY,ĩ];congr 1
 cases h:pN m k p<;>simp[List.filter,h]
def Sm:gO (ps++[p]) m k=gO ps m k++lV m k p:=by
 delta gO lV;rw[adY,ĩ];congr 1
 cases h:nX m k p<;>simp[List.filter,h]
def Zy {a b c:List Int} {j:Nat} (hj:s[j]?=ϊ (.lst (c.map D.int))) (la:a.length<=900) (lb:b.length<=900) (lc:c.length<=900)
  (hQ:∀s',s'[j]?=ϊ (.lst ((c++lV m k p).map D.int))->(s'=s\/∃x,s'=s.set j x)->Q (.nx [e0,ϊ (.int m),ϊ (.int k),ϊ (.lst ((a++pP m k p).map D.int)),ϊ (.lst ((b++pQ m k p).map D.int)),ϊ (.aK j),ϊ p.d,e7,e8]) s') :
  Wp (Bn [e0,ϊ (.int m),ϊ (.int k),ϊ 6e9,ϊ 8e1,ϊ (.aK j),ϊ p.d,e7,e8] s) Q:=by
 delta Bn
 cases p with
 |bM Y Z V =>
  have P:pP m k (.bM Y Z V)=[]:=rfl;have O:pQ m k (.bM Y Z V)=[]:=rfl;rw[P,O,ć,ć] at hQ;calc afm λR N=>?_;simp only[VC,Pg.d];calc afk (show ar 5e2 (.int 0) s=ok 7e0 s from rfl) ?_;calc afk (show aZ 7e0 7e0 s=ok 6e1 s from rfl) ?_;simp only[VC,ÿ];calc afk (show ar 5e2 (.int 1) s=ok (.int Y) s from rfl) ?_;have rest:∀s',s'[j]?=ϊ (.lst ((c++lV m k (.bM Y Z V)).map D.int))->(s'=s\/∃x,s'=s.set j x)->dh R Q (.nx [e0,ϊ (.int m),ϊ (.int k),ϊ 6e9,ϊ 8e1,ϊ (.aK j),ϊ 5e2,e7,e8]) s':=λs' e x=>by
   rw[bp];subst N;simp only[VC];calc afk (show ar 5e2 (.int 0) s'=ok 7e0 s' from rfl) ?_;calc afk (show aZ 7e0 6e5 s'=ok 3e8 s' from rfl) ?_;simp only[VC,Ç,õ];exact hQ s' e x
  simp only[VC];split
  ·rename_i U
   calc afk (show ar 5e2 (.int 3) s=ok (.int V) s from rfl) ?_;simp only[VC];split
   ·rename_i T
    have S:lV m k (.bM Y Z V)=[Z]:=by
     delta lV nX;rw[Ô (by simp at U T;simp[U,T])];rfl
    rw[S] at rest;obtain⟨U,T⟩:=LF (x:=.int Z) hj (by rw[Ä];omega);calc⟨U,?_⟩;calc afk (show ar 5e2 (.int 2) s=ok (.int Z) s from rfl) ?_;calc afk T (rest _ ?_ (.inr 5e0));rw[Đ (Ñ.mp hj).1];simp
   ·rename_i T
    have S:lV m k (.bM Y Z V)=[]:=by
     delta lV nX;rw[Ö (by simp at U T;simp[U,T])]
    rw[S,ć] at rest;exact rest s hj 7e6
  ·rename_i U
   have S:lV m k (.bM Y Z V)=[]:=by
    delta lV nX;rw[Ö (by simp at U;simp[U])]
   rw[S,ć] at rest;erw[Ç,õ];exact rest s hj 7e6
 |made Y Z X W =>
  have S:lV m k (.made Y Z X W)=[]:=rfl;rw[S,ć] at hQ;calc afm λR N=>?_;simp only[VC,Pg.d];calc afk (show ar 2e5 (.int 0) s=ok 6e5 s from rfl) ?_;calc afk (show aZ 6e5 7e0 s=ok 3e8 s from rfl) ?_;simp only[VC,Ç,õ];subst N;simp only[VC];calc afk (show ar 2e5 (.int 0) s=ok 6e5 s from rfl) ?_;calc afk (show aZ 6e5 6e5 s=ok 6e1 s from rfl) ?_;simp only[VC,ÿ];calc afk (show ar 2e5 (.int 1) s=ok (.int Y) s from rfl) ?_;simp only[VC];split
  ·rename_i U
   have e1:(Y==m)=ό:=U
   have P:pP m k (.made Y Z X W)=if ώ (k∈X)=ό then [Z] else []:=by
    delta pP pM;erw[beq_iff_eq] at e1;erw[e1,ň,ô];rfl
   have O:pQ m k (.made Y Z X W)=if ώ (k∈W)=ό then [Z] else []:=by
    delta pQ pN;erw[beq_iff_eq] at e1;erw[e1,ň,ô];rfl
   rw[P,O] at hQ;calc afk (show ar 2e5 (.int 2) s=ok (.int Z) s from rfl) ?_;calc⟨by decide,?_⟩;calc afk (show ar 2e5 (.int 3) s=ok (.tup [ti X,ti W]) s from rfl) ?_;calc afk (show ar (.tup [ti X,ti W]) (.int 0) s=ok (ti X) s from rfl) ?_;refine afk (sA (ns:=X)) ?_
   refine afk (show t9 [.bl (ώ (k∈X))] s=ok (.int (if ώ (k∈X) then 1 else 0)) s from rfl) ?_
   calc afk Kz ?_;have M:=one_le Z (ώ (k∈X));have L:=one_le Z (ώ (k∈W));calc afk (ME ⋯) ?_;calc afk (show ar 2e5 (.int 2) s=ok (.int Z) s from rfl) ?_;calc⟨by decide,?_⟩;calc afk (show ar 2e5 (.int 3) s=ok (.tup [ti X,ti W]) s from rfl) ?_;calc afk (show ar (.tup [ti X,ti W]) (.int 1) s=ok (ti W) s from rfl) ?_;refine afk (sA (ns:=W)) ?_
   refine afk (show t9 [.bl (ώ (k∈W))] s=ok (.int (if ώ (k∈W) then 1 else 0)) s from rfl) ?_
   calc afk Kz ?_;calc afk (ME ⋯) ?_;exact hQ s hj 7e6
  ·rename_i U
   have e1:¬ Y=m:=by simpa using U
   have P:pP m k (.made Y Z X W)=[]:=by delta pP pM;simp[e1]
   have O:pQ m k (.made Y Z X W)=[]:=by delta pQ pN;simp[e1]
   rw[P,O,ć,ć] at hQ;exact hQ s hj 7e6
def pR (sh la me:Nat->Bool) (d:Nat):Bool:=!(me d&&sh d)&&!(pr sh me d&&la d)
def kz (ps:List Pg) (m k:Int):Bool:=(ö 31).all (pR (sN ps m k) (lN ps m k) (mN ps m k))
def Zz {a b c:List Int} {j y:Nat} {t:Bool} (hj:s[j]?=ϊ (.lst (c.map D.int)))
  (hR:(ώ ((y:Int)∈c)&&ώ ((y:Int)∈a))=ό\/((ώ ((y:Int)∈a)||(t&&!ώ ((y:Int)∈c)))&&ώ ((y:Int)∈b))=ό->Q (.rt 3e8) s)
  (hQ:(ώ ((y:Int)∈c)&&ώ ((y:Int)∈a))=ύ->((ώ ((y:Int)∈a)||(t&&!ώ ((y:Int)∈c)))&&ώ ((y:Int)∈b))=ύ->Q (.nx [e0,e1,e2,ϊ 6e9,ϊ 8e1,ϊ (.aK j),e6,ϊ (.bl (ώ ((y:Int)∈a)||(t&&!ώ ((y:Int)∈c)))),ϊ (.int y)]) s) :
  Wp (Bo [e0,e1,e2,ϊ 6e9,ϊ 8e1,ϊ (.aK j),e6,ϊ (.bl t),ϊ (.int y)] s) Q:=by
 have W:=zR (x:=y) (LD hj);have V:=zR (x:=y) (d:=.lst (a.map D.int)) (s:=s) (ns:=a) rfl;have S:=zR (x:=y) (d:=.lst (b.map D.int)) (s:=s) (ns:=b) rfl;generalize P:ώ ((y:Int)∈a)=Z at *;generalize O:ώ ((y:Int)∈b)=N at *;generalize M:ώ ((y:Int)∈c)=Y at *;delta Bo;calc afm λR X=>?_;erw[kX,qi,bg,bT,dE,bA,W.1,V.1,bL,cy]
 have next:(Y&&Z)=ύ->dh R Q (.nx [e0,e1,e2,ϊ 6e9,ϊ 8e1,ϊ (.aK j),e6,ϊ (.bl t),ϊ (.int y)]) s:=λU=>by
  rw[bp];subst X;have e:(pE (DI.e2 dH (aa 8) (aa 3)) (eT (aa 7) (DI.e2 gp (aa 8) (aa 5)))) [e0,e1,e2,ϊ 6e9,ϊ 8e1,ϊ (.aK j),e6,ϊ (.bl t),ϊ (.int y)] s=ok (.bl (Z||(t&&!Y))) s:=by
   calc afl ?_;erw[zL,sv,bA,bg,bT,V.1,W.2,bL,cy]
   cases Z<;>cases t<;>simp
  calc afm λR X=>?_;rw[cS];calc afk e ?_;rw[dj];erw[Ļ,ļ];rw[bp];subst X;erw[kX,qi,oq,bg,bT,m9,dE,bA,S.1,bL,cy]
  cases T:(Z||(t&&!Y)) with
  |false =>
   rw[T] at hQ;erw[Ç,õ,dD];exact hQ U rfl
  |true =>
   rw[T] at hQ hR;erw[ÿ]
   cases N with
   |true=>erw[ÿ,cg,bu];exact hR (.inr rfl)
   |false=>erw[Ç,õ,dD];exact hQ U rfl
 cases Y with
 |true =>
  erw[ÿ]
  cases Z with
  |true=>erw[ÿ,cg,bu,iW];exact hR 7e6
  |false=>erw[Ç,õ,dD];exact next rfl
 |false =>
  erw[Ç,õ,dD]
  exact next rfl
def Bd (sh me:Nat->Bool):Nat->Bool
 |0=>ύ
 |d+1=>pr sh me d
def VG (sh me:Nat->Bool) (d:Nat):(sh d||(Bd sh me d&&!me d))=pr sh me d:=by
 cases d with
 |zero=>simp[Bd,pr]
 |succ d=>rfl
def T6 (hl:ps.length<=100):Wp (yk [lD ps,.int m,.int k] s) λd s'=>d=.bl (kz ps m k)/\Kp s s':=by
 delta yk;calc eO.symm ▸ ⟨rfl,afm λR Y=>?_⟩;calc afk (show tW 3 4 5 (af (cz ah) (af (cz ah) (af (eNew ah) ah))) _ s=ok (.nx [ϊ (lD ps),ϊ (.int m),ϊ (.int k),ϊ (.lst []),ϊ (.lst []),ϊ (.aK s.length),ϋ,ϋ,ϋ]) (s++[.lst []]) from rfl) ?_;rw[bp];subst Y;calc afm λR Y=>?_;rw[oi];calc afk (og rfl) ?_;have M:=Kp.app s [.lst []];have L:(s++[Cell.lst []])[s.length]?=ϊ (.lst (([]:List Int).map D.int)):=by simp
 generalize s++[Cell.lst []]=S at M L;have len:∀{T:List Pg} {f:Pg->Bool},T.length<=100->((T.filter f).map Pg.day).length<=900:=λ{T f} h=>by
  rw[Ä];exact Ü (ac4 _ _) ⋯
 refine Wp.qQ (λi env s'=>∃e6:Option D,env=[ϊ (lD ps),ϊ (.int m),ϊ (.int k),ϊ (.lst ((shown (ps.take i) m k).map D.int)),ϊ (.lst ((iF (ps.take i) m k).map D.int)),ϊ (.aK s.length),e6,ϋ,ϋ]/\s'[s.length]?=ϊ (.lst ((gO (ps.take i) m k).map D.int))/\Kp s s') _ ⟨_,rfl,L,M⟩ (λi d env s' Z X=>?_) (λenv s' X=>?_)
 ·obtain⟨e6,rfl,V,W⟩:=X
  rw[é] at Z;obtain⟨p,K,rfl⟩:=Ŗ.mp Z;have hi:=(Ñ.mp K).1;have I:ps.take (i+1)=ps.take i++[p]:=by rw[List.take_add_one,K];rfl
  have Q:(ps.take i).length<=100:=by rw[ĉ];omega
  calc⟨_,rfl,?_⟩;calc Zy V (len Q) (len Q) (len Q) λU H G=>?_;rw[I,T5,Sj,Sm];refine⟨_,rfl,H,?_⟩
  rcases G with rfl | ⟨x,rfl⟩
  ·exact W
  ·exact W.set (afn _) _
 obtain⟨e6,rfl,V,W⟩:=X;rw[Ä,List.take_length] at V |-;subst Y;calc afm λR Y=>?_;erw[cS,dj,bu,Ļ,ļ,bp];subst Y;calc afm λR Y=>?_;rw[oi];calc afk (ku (n:=31) rfl (by decide)) ?_;refine Wp.qQ (λi env U=>U=s'/\(∀d<i,pR (sN ps m k) (lN ps m k) (mN ps m k) d=ό)/\∃e8,env=[ϊ (lD ps),ϊ (.int m),ϊ (.int k),ϊ (.lst ((shown ps m k).map D.int)),ϊ (.lst ((iF ps m k).map D.int)),ϊ (.aK s.length),e6,ϊ (.bl (Bd (sN ps m k) (mN ps m k) i)),e8]) _ ⟨rfl,λd h=>absurd h (aeF _),_,rfl⟩ (λi d env U Z X=>?_) (λenv U X=>?_)
 ·obtain⟨rfl,P,e8,rfl⟩:=X
  rw[qh] at Z;split at Z
  ·rename_i hi
   cases Z;rw[ac5];calc⟨_,rfl,?_⟩;have J:(ώ ((i:Int)∈shown ps m k)||(Bd (sN ps m k) (mN ps m k) i&&!ώ ((i:Int)∈gO ps m k)))=pr (sN ps m k) (mN ps m k) i:=VG (sN ps m k) (mN ps m k) i;refine Zz V ?_ ?_
   ·rw[J]
    intro F;subst Y;calc⟨?_,W⟩;congr 1;symm;delta kz;rw[List.all_eq_false];refine⟨i,ø.mpr hi,?_⟩
    rcases F with h|h
    ·have O:(mN ps m k i&&sN ps m k i)=ό:=h
     delta pR;rw[O];simp
    ·have O:(pr (sN ps m k) (mN ps m k) i&&lN ps m k i)=ό:=h
     delta pR;rw[O];simp
   ·rw[J]
    intro E C;calc⟨rfl,λd Z=>?_,_,rfl⟩;by_cases e:d=i
    ·subst e
     have N:(mN ps m k d&&sN ps m k d)=ύ:=E;have B:(pr (sN ps m k) (mN ps m k) d&&lN ps m k d)=ύ:=C;delta pR;rw[N,B];rfl
    ·exact P d ⋯
  ·cases Z
 ·obtain⟨rfl,P,e8,rfl⟩:=X
  subst Y;simp only[VC];calc⟨?_,W⟩;congr 1;symm;exact ä.mpr λd Z=>P d (by rw[l0];exact ø.mp Z)
def JG:kz ps m k=ό↔zt (sN ps m k) (lN ps m k) (mN ps m k):=by
 delta kz;rw[ä];constructor
 ·intro h d e hs Q P Z
  have O:∀x,x<=30->pR (sN ps m k) (lN ps m k) (mN ps m k) x=ό:=λx U=>h x (ø.mpr ⋯);have Y:=O e P;delta pR at Y;erw[Å,û,Bool.and_eq_false_iff] at Y
  rcases Z with Z | ⟨rfl,Z⟩
  ·apply Ģ
   intro M;have:pr (sN ps m k) (mN ps m k) e=ό:=DO.mpr ⟨d,Q,hs,λx W V=>by
    cases U:mN ps m k x with
    |false=>rfl
    |true=>exact(M ⟨x,W,V,U⟩).elim⟩
   rcases Y.2 with z|z
   ·rw[this] at z;cases z
   ·rw[Z] at z;cases z
  ·rcases Y.1 with z|z
   ·rw[Z] at z;cases z
   ·rw[hs] at z;cases z
 ·intro N d X
  have X:d<=30:=by have:=ø.mp X;omega
  delta pR;erw[Å,û,Bool.and_eq_false_iff];constructor
  ·cases L:mN ps m k d with
   |false=>exact .inl rfl
   |true =>
    right
    cases hs:sN ps m k d with
    |false=>rfl
    |true =>
     obtain⟨x,T,S,_⟩:=N d d hs (afn _) X (.inr ⟨rfl,L⟩);omega
  ·cases K:pr (sN ps m k) (mN ps m k) d with
   |false=>exact .inl rfl
   |true =>
    right
    cases J:lN ps m k d with
    |false=>rfl
    |true =>
     obtain⟨e,W,V,I⟩:=DO.mp K;obtain⟨x,T,S,R⟩:=N e d V W X (.inl J);rw[I x T S] at R;cases R
end
def Be:List Int:=(ö 31).map λi:Nat=>(i:Int)
abbrev jf (F:Nat->Bool):Cell:=.lst ((ö 32).map λd=>D.bl (F d))
def Rz (hd:qR ps) (h:∀m∈m4,∀k∈k8,zt (sN ps m k) (lN ps m k) (mN ps m k)):ni ps=[]:=by
 delta ni;rw[adZ];intro m W;rw[adZ];intro k V;rw[adz];delta mi;rw[adZ];intro d U;rw[adz,acQ];intro e T Z;have hs:d∈shown ps m k:=lY.mp U;obtain⟨i,hi,rfl⟩:=å.mp T;rw[ø] at hi;have R:=hd.of hs;delta pO at Z;erw[Å,ψ,É,û] at Z;have e1:((d.toNat:Nat):Int)=d:=by omega
 have e2:(((d+(i:Int)).toNat:Nat):Int)=d+(i:Int):=by omega
 obtain⟨x,Q,P,X⟩:=h m W k V d.toNat (d+(i:Int)).toNat (by erw[sN,e1,É];exact hs) ⋯ ⋯ (by
  rcases Z.1 with z | ⟨O,S⟩
  ·exact .inl (by erw[lN,e2,É];exact z)
  ·exact .inr ⟨by omega,by erw[mN,e1,É];exact S⟩)
 have Y:=Z.2;delta AB at Y;rw[List.any_eq_false] at Y;erw[mN,É] at X;calc Y _ X ?_;erw[Å,É];omega
section
variable {s s':ae} {ps qs:List Pg} {p q:Pg} {a b:Nat} {bs:List (List Pg)} {env env':Env} {st cx:afb Fl} {d x:D} {y:bb}
def iw (ps:List Pg):Bool:=ώ (ps.length<=24)&&m4.all λm=>k8.all λk=>kz ps m k
def MF (hl:ps.length<=100):Wp (bK.vc [lD ps] s) λd s'=>d=.bl (iw ps)/\Kp s s':=by
 delta bK.vc;calc eO.symm ▸ ⟨rfl,afm λR U=>?_⟩;simp only[VC];calc afk (show cM [lD ps] s=ok (.int ps.length) s from by show ok (D.int ((ps.map Pg.d).length:Nat)) s=_;rw[Ä]) ?_;simp only[VC];by_cases Q:(24:Int)<ps.length
 ·rw[Î Q,Ô rfl]
  calc⟨?_,Kp.refl s⟩;delta iw;rw[Û ⋯];rfl
 ·rw[Û Q,Ö Ã]
  have M:iw ps=m4.all λm=>k8.all λk=>kz ps m k:=by delta iw;rw[Î ⋯];rfl
  rw[M];subst U;calc afm λR U=>?_;rw[oi];calc afk (ku (n:=4) rfl 0e0) ?_;refine Wp.qQ (λi env s'=>Kp s s'/\(∀m:Nat,m<i->∀k∈k8,kz ps m k=ό)/\∃e1 e2,env=[ϊ (lD ps),e1,e2]) _ ⟨Kp.refl s,λm h=>absurd h (aeF _),_,_,rfl⟩ (λi d env s' Z X=>?_) (λenv s' X=>?_)
  ·obtain⟨Y,T,e1,e2,rfl⟩:=X
   rw[qh] at Z;split at Z
   ·rename_i hi
    cases Z;calc⟨_,rfl,?_⟩;rw[ac5];delta IG;rw[oi];calc afk (ku (n:=8) rfl 0e0) ?_;refine Wp.qQ (λW env s'=>Kp s s'/\(∀k:Nat,k<W->kz ps i k=ό)/\∃e2,env=[ϊ (lD ps),ϊ (.int (i:Int)),e2]) _ ⟨Y,λk h=>absurd h (aeF _),_,rfl⟩ (λW d env L Z X=>?_) (λenv L X=>?_)
    ·obtain⟨Y,S,e2,rfl⟩:=X
     rw[qh] at Z;split at Z
     ·rename_i J
      cases Z;calc⟨_,rfl,?_⟩;rw[ac5];delta IF;simp only[VC];refine(T6 hl).mono λd I Z=>?_;obtain⟨rfl,P⟩:=Z;simp only[VC]
      cases O:kz ps i W with
      |false =>
       erw[į,ÿ,cg,bu];subst U;calc⟨?_,Y.trans P⟩;congr 1;symm;rw[List.all_eq_false];calc⟨(i:Int),zP.mpr ⋯,?_⟩;rw[ē,List.all_eq_false];exact⟨(W:Int),zQ.mpr ⋯,by rw[O];decide⟩
      |true =>
       erw[ò,Ç,õ,dD];calc⟨Y.trans P,λk V=>?_,_,rfl⟩;by_cases e:k=W
       ·subst e;exact O
       ·exact S k ⋯
     ·cases Z
    ·obtain⟨Y,S,e2,rfl⟩:=X
     calc⟨Y,λm N k V=>?_,_,_,rfl⟩;by_cases e:m=i
     ·subst e
      have H:=zQ.mp V;have:=S k.toNat (by rw[l0];omega);rw[show ((k.toNat:Nat):Int)=k by omega] at this;exact this
     ·exact T m ⋯ k V
   ·cases Z
  ·obtain⟨Y,T,e1,e2,rfl⟩:=X
   subst U;simp only[VC];calc⟨?_,Y⟩;congr 1;symm;calc ä.mpr λm N=>ä.mpr λk V=>?_;have K:=zP.mp N;have:=T m.toNat (by rw[l0];omega) k V;rw[show ((m.toNat:Nat):Int)=m by omega] at this;exact this
def LG (h:Laid ps):iw ps=eQ ps:=by
 by_cases Z:ps.length<=24
 ·have W:=h.jJ Z
  rw[ĝ];delta iw;rw[Î Z,ô];constructor
  ·intro hs
   have e:=Rz (JE W) λm Y k X=>JG.mp (ä.mp (ä.mp hs m Y) k X);delta eQ;rw[W,e];rfl
  ·intro V
   exact ä.mpr λm Y=>ä.mpr λk X=>JG.mpr (Xp V (zP.mp Y) (zQ.mp X))
 ·have U:iw ps=ύ:=by delta iw;rw[Û Z];rfl
  have T:eQ ps=ύ:=by delta eQ jJ;rw[Û Z];rfl
  rw[U,T]
def eqB (p q:Pg):Bool:=beq p.d q.d
def KC:eqB p p=ό:=by
 delta eqB
 cases p<;>simp[Pg.d,ti,beq,fO,yE]
def eqB_iff:eqB p q=ό↔p=q:=by
 have Z:(Ċ "made"==Ċ "mended")=ύ:=nofun
 have Y:(Ċ "mended"==Ċ "made")=ύ:=nofun
 constructor
 ·delta eqB
  cases p<;>cases q<;>intro h
  ·simp[Pg.d,ti,beq,fO,yE] at h
   obtain⟨rfl,rfl,rfl,rfl⟩:=h;rfl
  ·simp[Pg.d,ti,beq,fO,Z] at h
  ·simp[Pg.d,ti,beq,fO,Y] at h
  ·simp[Pg.d,ti,beq,fO] at h
   obtain⟨rfl,rfl,rfl⟩:=h;rfl
 ·intro h
  rw[h];exact KC
def DP (p:Pg):lay p.d=ό:=by
 have Z:ã "made"=ό:=nofun
 have Y:ã "mended"=ό:=nofun
 cases p with
 |made m d a b=>erw[Pg.d,lay,DI.cD,ti,mW,Z,Ĳ]
 |bM m d k=>erw[Pg.d,lay,DI.cD,Y,Ĳ]
def VH (ps:List Pg):DI.cD 6e4=ό:=by
 induction ps with
 |nil=>rfl
 |cons p r ih=>erw[ç,DI.cD,DP,ih,Ĳ]
def yf (p:Pg) (ps:List Pg):Bool:=ps.any λq=>eqB q p
def Xq:yf p ps=ό↔p∈ps:=by
 delta yf;rw[Ť];exact⟨λ⟨q,Z,Y⟩=>eqB_iff.mp Y ▸ Z,λh=>⟨p,h,KC⟩⟩
end
abbrev sg (x:Str):List Nat:=x.cps.toList
def sD {x y:Str} (h:sg x=sg y):x=y:=Str.ext' (aeo.mp h)
def ou (x y:Str):sg (x++y)=sg x++sg y:=by show (x.cps++y.cps).toList=_;simp
def cQ (x:Str):x.length=(sg x).length:=by show x.cps.size=_;simp
def jl (c:Nat):List (List Nat)->List Nat
 | []=>[]
 | [x]=>x
 |x::y::r=>x++c::jl c (y::r)
theorem jA (c:Nat):∀zs:List Str,sg (Ŏ 1e2 zs)=jl c (zs.map sg)
 | []=>rfl
 | [x]=>rfl
 |x::y::r=>by
  show sg (x++1e2++Ŏ 1e2 (y::r))=_;rw[ou,ou,jA c (y::r),ś];rfl
theorem MG {c:Nat}:∀{ps qs:List (List Nat)},ps≠[]->qs≠[]->(∀p∈ps,c∉p)->(∀q∈qs,c∉q)->jl c ps=jl c qs->ps=qs
 | [],_,h,_,_,_,_=>absurd rfl h
 |_::_,[],_,h,_,_,_=>absurd rfl h
 | [p],[q],_,_,_,_,e=>by rw[show p=q from e]
 | [p],q::X::r,_,_,Z,_,e=>by
  exfalso;have:c∈p:=by rw[show p=q++c::jl c (X::r) from e];simp
  exact Z p ∅ this
 |p::W::r,[q],_,_,_,Y,e=>by
  exfalso;have:c∈q:=by rw[<- show p++c::jl c (W::r)=q from e];simp
  exact Y q ∅ this
 |p::W::r,q::X::Q,_,_,Z,Y,e=>by
  have e:p++c::jl c (W::r)=q++c::jl c (X::Q):=e;have key:∀{a b u v:List Nat},c∉a->c∉b->a++c::u=b++c::v->a=b/\u=v:=by
   intro a
   induction a with
   |nil =>
    intro b u v _ V h
    cases b with
    |nil=>exact⟨rfl,by simpa using h⟩
    |cons y b=>simp at h;exact absurd (by simp[<- h.1]) V
   |cons x a ih =>
    intro b u v R V h
    cases b with
    |nil=>simp at h;exact absurd (by simp[h.1]) R
    |cons y b =>
     erw[ī,ac0] at h;obtain⟨U,T⟩:=ih (λz=>R (Ì _ z)) (λz=>V (Ì _ z)) h.2;exact⟨by rw[h.1,U],T⟩
  obtain⟨U,T⟩:=key (Z p ∅) (Y q ∅) e;rw[U,MG ∅ ∅ (λx S=>Z x (Ì _ S)) (λx S=>Y x (Ì _ S)) T]
def Sn {a b:List Str} (h:a.map sg=b.map sg):a=b:=(adU λx y e=>sD e).mp h
def VI {c:Nat} {zs:List Str} (hn:zs≠[]) (hz:∀z∈zs,c∉sg z):Ă (Ŏ 1e2 zs) 1e2=zs:=by
 refine Sn (MG (c:=c) ?_ (by simpa using hn) (λp Z=>?_) (λp Z=>?_) ?_)
 ·intro e
  have:=ad4 (Ŏ 1e2 zs) 1e2;rw[adz] at e;rw[e] at this;simp at this
 ·obtain⟨z,Y,rfl⟩:=å.mp Z
  exact aeT _ _ z Y
 ·obtain⟨z,Y,rfl⟩:=å.mp Z
  exact hz z Y
 ·rw[<- jA,<- jA,ζ]
theorem yW:∀zs:List Str,sg (Ŏ "" zs)=(zs.map sg).flatten
 | []=>rfl
 | [x]=>by show sg x=_;simp
 |x::y::r=>by
  show sg (x++""++Ŏ "" (y::r))=_;rw[ou,ou,yW (y::r)];simp[show sg ""=[] from rfl]
def VJ {c:Nat} (zs:List Str):Ŏ "" (zs.map λz=>z++1e2)=Ŏ 1e2 (zs++[("":Str)]):=by
 calc sD ?_;rw[yW,jA]
 induction zs with
 |nil=>rfl
 |cons z r ih =>
  have e:(z::r++[("":Str)]).map sg=sg z::(r++[("":Str)]).map sg:=rfl;rw[e]
  have e2:∃y t,(r++[("":Str)]).map sg=y::t:=by cases r<;>exact⟨_,_,rfl⟩
  obtain⟨y,t,h⟩:=e2;rw[h] at ih |-;show _=sg z++c::jl c (y::t);rw[<- ih];simp[ou];rfl
def ZA {c:Nat}:(!(Ą "0123456789" 1e2 0 (Str.length "0123456789") 1).isEmpty)=ώ (48<=c/\c<=57):=by
 rw[StrLaws.found_one];rw[ĝ];erw[É];have e:sg "0123456789"=[48,49,50,51,52,53,54,55,56,57]:=nofun
 show c∈sg "0123456789"↔_;rw[e];erw[Ï,ì,or_false];omega
section
variable {s:ae} {l:List Int} {i:Int} {env:Env}
abbrev num (i:Int):Str:=Ċ (toString i)
def T7 (h0:0<=i) (h1:i<1000):i.natAbs.log2<1920:=adS (Nat.log2_le_self _) ⋯
def v9 (h0:0<=i) (h1:i<1000):mE [.int i] s=ok (.str (num i)) s:=by
 show (if ώ (i.natAbs.log2<1920)=ό then ok (D.str (toString i)) s else ϋ)=_
 rw[Ô (Î (T7 h0 h1))]
def acq:∀n:Fin 8,num (n.val:Int)=⟨#[48+n.val]⟩:=nofun
def KD (h0:0<=i) (h1:i<8):num i=⟨#[48+i.toNat]⟩:=by
 obtain⟨n,rfl⟩:=ad0 h0;exact acq ⟨n,by omega⟩
def pS (l:List Int):Str:=⟨(l.map λi=>48+i.toNat).toArray⟩
def fH (l:List Int):Str:=if l=[] then "-" else pS l
def wa:sg (pS l)=l.map λi=>48+i.toNat:=by delta pS;simp
def VL (h:∀i∈l,0<=i/\i<8):Ŏ "" (l.map num)=pS l:=by
 calc sD ?_;rw[yW,wa]
 induction l with
 |nil=>rfl
 |cons i r ih =>
  have hi:=h i ∅;rw[ç,ç,Ś,ih λj Z=>h j (Ì _ Z),KD hi.1 hi.2];rfl
theorem strs_map:∀zs:List Str,strs? (zs.map D.str)=ϊ zs
 | []=>rfl
 |z::zs=>by show (strs? (zs.map D.str)).map (z::·)=_;rw[strs_map zs];rfl
def So (hy:y.length<=10) (hn:zs.length<=3100) (hz:∀z∈zs,z.length<=3000):JoinOk y zs=ό:=by
 delta JoinOk Builtin.Str.tooLong;rw[StrLaws.joinTotal];have Z:∀{zs:List Str},(∀z∈zs,z.length<=3000)->(zs.map (·.length)).sum<=zs.length*3000:=by
  intro zs
  induction zs with
  |nil=>intro _;simp
  |cons z r ih =>
   intro h;have a:=h z ∅;have b:=ih λx Y=>h x (Ì _ Y);erw[ç,List.sum_cons,æ];omega
 have Z:=Z hz;have X:zs.length*y.length<=3100*10:=Nat.mul_le_mul hn hy;have W:(Ù:Nat)=16777216:=ţ;erw[û,decide_eq_false_iff_not];omega
def EC (hy:y.length<=10) (hn:zs.length<=3100) (hz:∀z∈zs,z.length<=3000):jH y 4e4 s=ok (.str (Ŏ y zs)) s:=by
 delta jH;rw[show res 4e4 s=.lst (zs.map D.str) from rfl];dsimp only;rw[strs_map];dsimp only;rw[Ô (So hy hn hz)]
def ow (e:f env s=ok (.str y) s):Wp (dU m f g env s) Q=Wp (g env s) λx s=>Wp (m y x s) Q:=by
 delta dU;rw[e,cL,cu]
def Xr (he:cV 0e4 ea s=ok (l.map D.int) s) (hl:l.length<=100) (h:∀i∈l,0<=i/\i<8):dU jH (eC (.str "")) (cT 1 [] (cV 0e4) (gN 0) eG (eB mE 2e4)) ea s=ok (.str (pS l)) s:=by
 calc afl ?_;rw[ow rfl,kg];calc afk he ⟨le_size (by rw[Ä];omega),?_⟩;refine afk (comp_map D.int (λ_=>ό) (λi=>D.str (num i)) l λi hi=>⟨[ϊ 4e5],rfl,rfl,λ_=>afl ?_⟩) ?_
 ·have:=h i hi
  erw[dJ,aI,aV,bg];exact afk (v9 this.1 ⋯) 1e4
 rw[Ľ.mpr (λ_ _=>rfl),show (l.map λi=>D.str (num i))=(l.map num).map D.str by rw[ę];rfl];refine afk (EC 0e0 (by rw[Ä];omega) λz Z=>?_) ?_
 ·obtain⟨i,hi,rfl⟩:=å.mp Z
  have:=h i hi;rw[KD this.1 this.2];show 1<=3000;decide
 rw[VL h];exact⟨rfl,rfl⟩
def Xs:(pS l).length=l.length:=by rw[cQ,wa,Ä]
def JH (hl:l.length<=100) (h:∀i∈l,0<=i/\i<8):uY [mD l] s=ok (.str (fH l)) s:=by
 calc afl ?_;delta uY;calc eO.symm ▸ ⟨rfl,?_⟩;show Wp (aD _ [ϊ (mD l)] s) _;rw[cg,kW];erw[dE,bA,kq,aV,bg];calc⟨le_size (n:=0) 0e0,?_⟩;refine afk (show cG (mD l) (.tup []) s=ok (.bl (!l.isEmpty)) s from ?_) ?_
 ·delta cG fx
  rw[show res (mD l) s=mD l from rfl,show res (.tup []) s=.tup [] from rfl,Ö (by rw[show kL (mD l)=ύ from rfl];exact Ã),Ô (by
   rw[show lay (mD l)=ό from mW l];have:min (dep (mD l)) (dep (.tup []))<=100:=by have:dep (.tup [])=1:=rfl;omega
   rw[Î this];rfl)]
  cases l<;>rfl
 erw[cy]
 cases l with
 |nil=>exact⟨_,_,rfl,rfl,rfl⟩
 |cons i r =>
  erw[List.isEmpty_cons,į,ÿ];calc afk (Xr (n9 rfl) hl h) ?_;exact⟨rfl,rfl⟩
end
section
variable {s:ae} {l h:List Int} {i:Int} {env:Env} {p:Pg} {x y:Str}
def jR (hl:x.length+y.length<=1000000):aY 1e3 (.str y) s=ok (.str (x++y)) s:=by
 show bW (if ώ (x.length+y.length<=Ù)=ό then ϊ (D.str (x++y)) else ϋ) s=_
 rw[Ô (Î (le_size hl))];rfl
def iU (x y:Str):(x++y).length=x.length+y.length:=Str.length_append x y
def sE:(fH l).length<=l.length+1:=by
 delta fH;split
 ·exact Nat.le_add_left 1 _
 ·rw[Xs];omega
def nB:Pg->Str
 | .made _ _ h l=>fH h++"/"++fH l
 | .bM _ _ k=>num k
def tD:Pg->Str
 | .made ..=>"made"
 | .bM ..=>"mended"
def xn:Pg->Int
 | .made m ..=>m
 | .bM m ..=>m
def hW (p:Pg):Str:=tD p++" "++num (xn p)++" "++num p.day++" "++nB p
def ix:Pg->Prop
 | .made m d h l=>(0<=m/\m<4)/\(0<=d/\d<31)/\gK 8 h/\gK 8 l
 | .bM m d k=>(0<=m/\m<4)/\(0<=d/\d<31)/\0<=k/\k<8
def DQ (h:dM p=ό):ix p:=by
 cases p with
 |made m d a b =>
  erw[dM,iE,ic,Å,É] at h;exact⟨h.1.1,h.1.2,pZ h.2.1,pZ h.2.2.1⟩
 |bM m d k =>
  erw[dM,iE,ic,markB,Å,É] at h;exact⟨h.1.1,h.1.2,h.2⟩
def sS (h:gK 8 ns):∀i∈ns,0<=i/\i<8:=λi hi=>by have:=h.lo i hi;omega
def aaY:∀n:Fin 31,(num (n.val:Int)).length<=2:=nofun
def sF (h0:0<=i) (h1:i<31):(num i).length<=2:=by
 obtain⟨n,rfl⟩:=ad0 h0;exact aaY ⟨n,by omega⟩
def KG (h:ix p):(nB p).length<=20:=by
 cases p with
 |made m d a b =>
  have Z:=h.2.2.1.len;have Y:=h.2.2.2.len;have X:=sE (l:=a);have W:=sE (l:=b);show (fH a++"/"++fH b).length<=20;rw[iU,iU];show (fH a).length+1+(fH b).length<=20;omega
 |bM m d k=>exact Ü (sF h.2.2.1 (by have:=h.2.2.2;omega)) 0e0
def Qt (ha:gK 8 a) (hb:gK 8 b):uZ [.tup [mD a,mD b]] s=ok (.str (fH a++"/"++fH b)) s:=by
 have Z:=ha.len;have Y:=hb.len;have X:=sE (l:=a);have W:=sE (l:=b);calc afl ?_;delta uZ;simp only[VC];calc afk (show ar (.tup [mD a,mD b]) (.int 0) s=ok (mD a) s from rfl) ?_;calc afk (JH ⋯ (sS ha)) ?_;calc afk (jR (show (fH a).length+1<=1000000 by omega)) ?_;calc afk (show ar (.tup [mD a,mD b]) (.int 1) s=ok (mD b) s from rfl) ?_;calc afk (JH ⋯ (sS hb)) ?_;refine afk (jR (by rw[iU];show (fH a).length+1 + _<=1000000;omega)) 1e4
def VM:(tD p).length<=6:=by
 cases p
 ·show Str.length "made"<=6;decide +kernel
 ·show Str.length "mended"<=6;decide +kernel
def qt (h:ix p):0<=xn p/\xn p<4:=by cases p<;>exact h.1
def qu (h:ix p):0<=p.day/\p.day<31:=by cases p<;>exact h.2.1
def Ct (h:ix p):(hW p).length<=30:=by
 have Y:=sF (qt h).1 (by have:=(qt h).2;omega);have X:=sF (qu h).1 (qu h).2;delta hW;erw[iU]
 cases p with
 |made m d a b =>
  have Z:(nB (.made m d a b)).length<=19:=by
   show (fH a++"/"++fH b).length<=19;have W:=sE (l:=a);have V:=sE (l:=b);have U:=(h.2.2.1).len;have T:=(h.2.2.2).len;rw[iU,iU];show _ + 1 + _<=19;omega
  show 4+1 + _ + 1 + _ + 1 + _<=30;omega
 |bM m d k =>
  have Z:=KG h;have S:(nB (.bM m d k)).length<=2:=sF h.2.2.1 (by have:=h.2.2.2;omega);show 6+1 + _ + 1 + _ + 1 + _<=30;omega
def LH (h:ix p):vF [p.d] s=ok (.str (hW p)) s:=by
 have S:=VM (p:=p);have Q:=sF (qt h).1 (by have:=(qt h).2;omega);have P:=sF (qu h).1 (qu h).2;have O:=KG h;have Y:=qt h;have X:=qu h
 have Z:ar p.d (.int 0) s=ok (.str (tD p)) s:=by cases p<;>rfl
 have W:ar p.d (.int 1) s=ok (.int (xn p)) s:=by cases p<;>rfl
 have V:ar p.d (.int 2) s=ok (.int p.day) s:=by cases p<;>rfl
 have U:jt (aF (e2 aZ 8e5 (eC 6e5))) (aE uZ (af (e2 ar 0e4 4e0) ah)) (eB mE (af (e2 ar 0e4 4e0) ah)) [ϊ p.d,ϋ] s=ok (.str (nB p)) s:=by
  calc afl ?_;erw[kW,dE,bA,bg,bu];refine afk Z ?_
  cases p with
  |made m d a b =>
   calc afk (show aZ 6e5 6e5 s=ok 6e1 s from rfl) ?_;erw[cy,ÿ,wp_call,aI,aV,bA,bg,bu];calc afk (show ar (Pg.made m d a b).d (.int 3) s=ok (.tup [mD a,mD b]) s from rfl) ?_;exact afk (Qt h.2.2.1 h.2.2.2) 1e4
  |bM m d k =>
   calc afk (show aZ 7e0 6e5 s=ok 3e8 s from rfl) ?_;erw[cy,Ç,õ,dJ,aI,aV,bA,bg,bu];calc afk (show ar (Pg.bM m d k).d (.int 3) s=ok (.int k) s from rfl) ?_;exact afk (v9 h.2.2.1 (by have:=h.2.2.2;omega)) 1e4
 calc afl ?_;delta vF;calc eO.symm ▸ ⟨rfl,afm λR T=>?_⟩;rw[cS];calc afk U ?_;rw[dj];show dh R _ (.nx [ϊ p.d,ϊ (.str (nB p))]) s;rw[bp];subst T;erw[cg,bA,dJ,aI,aV,bg,bT,bu];calc afk Z (afk (jR (by show _ + 1<=_;omega)) ?_);calc afk W (afk (v9 Y.1 ⋯) (afk (jR (by erw[iU];show _ + 1 + _<=_;omega)) ?_));calc afk (jR (by erw[iU];show _ + 1 + _ + 1<=_;omega)) ?_;calc afk V (afk (v9 X.1 ⋯) (afk (jR (by erw[iU];show _ + 1 + _ + 1 + _<=_;omega)) ?_));calc afk (jR (by erw[iU];show _ + 1 + _ + 1 + _ + 1<=_;omega)) ?_;calc afk (jR (by erw[iU];show _ + 1 + _ + 1 + _ + 1 + _<=_;omega)) ?_;exact⟨rfl,rfl⟩
def j9 (c:Nat):Bool:=ώ (48<=c/\c<=57)
def jS (x:Str):Bool:=(ώ (1<=x.length)&&ώ (x.length<=30))&&(sg x).all j9
def Fv (hl:x.length<=1000000):cM [.str x] s=ok (.int x.length) s:=by
 show bW (tO 1e3 s) s=_;delta tO
 show bW (if ώ (x.length<=Ù)=ό then ϊ (D.int x.length) else ϋ) s=_
 rw[Ô (Î (le_size hl))];rfl
def zu (e:f env s=ok 1e3 s):oF f env s=ok ((sg x).map λc=>D.str 1e2) s:=by
 delta oF;rw[e,cL];rfl
def LI (hl:x.length<=1000000):u0 [.str x] s=ok (.bl (jS x)) s:=by
 calc afl ?_;delta u0;calc eO.symm ▸ ⟨rfl,?_⟩;show Wp (aD _ [ϊ 1e3] s) _;rw[cg,sv,Mx,bu];erw[dJ,aI,aV,bg];calc afk (Fv hl) ?_;erw[zO,cy];delta jS;by_cases Z:1<=x.length
 ·rw[Î (show (1:Int)<=x.length by omega),Î Z,Ô rfl]
  erw[bu,zO,cy];by_cases Y:x.length<=30
  ·rw[Î (show (x.length:Int)<=30 by omega),Î Y,Ô rfl]
   rw[kg];calc afk (zu rfl) ⟨le_size (by rw[Ä,<- cQ];exact hl),?_⟩;refine afk (comp_map (λc=>D.str 1e2) (λ_=>ό) (λc=>D.bl (j9 c)) (sg x) λc _=>⟨[ϊ (.str 1e2)],rfl,rfl,λ_=>?_⟩) ?_
   ·show ok (D.bl (!(Ą "0123456789" 1e2 0 (Str.length "0123456789") 1).isEmpty)) s=_
    rw[ZA];rfl
   rw[Ľ.mpr (λ_ _=>rfl)];exact afk (sC j9 (sg x) s) ⟨by simp,rfl⟩
  ·rw[Û (show ¬ (x.length:Int)<=30 by omega),Û Y,Ö Ã]
   exact⟨rfl,rfl⟩
 ·rw[Û (show ¬ (1:Int)<=x.length by omega),Û Z,Ö Ã]
  erw[cy,Ç,õ];exact⟨rfl,rfl⟩
def bB (x:Str):Bool:=jS x&&(ώ ((sg x).head?≠ϊ 48)||ώ (x="0"))
def qS:aZ 1e3 (.str y) s=ok (.bl (ώ (x=y))) s:=mT
def OG:cG 1e3 (.str y) s=ok (.bl (!ώ (x=y))) s:=by
 have e:=qS (x:=x) (y:=y) (s:=s);delta aZ at e;delta cG
 cases h:fx (res 1e3 s) (res (.str y) s) with
 |none=>rw[h] at e;cases e
 |some c =>
  rw[h] at e
  injection e with e
  injection e with e1 _
  injection e1 with e1
  injection e1 with e1
  rw[e1]
def P2:((1e2:Str)="0")↔c=48:=by
 have e:("0":Str)=⟨#[48]⟩:=nofun
 rw[e];constructor
 ·intro h
  have:=ĵ sg h;simpa [sg] using this
 ·rintro rfl;rfl
def By (hl:x.length<=1000000):rM [.str x] s=ok (.bl (bB x)) s:=by
 calc afl ?_;delta rM;calc eO.symm ▸ ⟨rfl,?_⟩;show Wp (aD _ [ϊ 1e3] s) _;rw[cg,sv];erw[wp_call,aI,aV,bg];calc afk (LI hl) ?_;erw[cy];delta bB
 cases Y:jS x with
 |false=>exact⟨rfl,rfl⟩
 |true =>
  rw[Ô rfl,ô,zL];erw[bA,bg,bu];have X:1<=x.length:=by delta jS at Y;erw[Å,É] at Y;exact Y.1.1
  obtain⟨c,r,W⟩:∃c r,sg x=c::r:=by
   cases V:sg x with
   |nil=>rw[cQ,V] at X;simp at X
   |cons c r=>exact⟨c,r,rfl⟩
  refine afk (show ar 1e3 (.int 0) s=ok (.str 1e2) s from ?_) ?_
  ·show bW (if ώ (x.length<=Ù)=ό then (dw (sg x) 0).map λc=>D.str 1e2 else ϋ) s=_
   rw[Ô (Î (le_size hl)),W];have:dw (c::r) (0:Int)=ϊ c:=by
    obtain⟨y,e1,e2⟩:=v5 (xs:=c::r) (i:=0) 0e0 ∅;rw[e1];simpa using e2.symm
   rw[this];rfl
  calc afk OG ?_;erw[cy];rw[W];by_cases Z:c=48
  ·rw[Î (P2.mpr Z)]
   erw[ò,Ç,õ];calc afk qS ⟨?_,rfl⟩;rw[Z];simp
  ·rw[Û (λz=>Z (P2.mp z))]
   erw[į,ÿ];calc⟨?_,rfl⟩;simp[Z]
def dash:("-":Str)=⟨#[45]⟩:=nofun
def Ae:("/":Str)=⟨#[47]⟩:=nofun
def blank:(" ":Str)=⟨#[32]⟩:=nofun
def lend:("\n":Str)=⟨#[10]⟩:=nofun
def m6 (hz:z=1e2) (e:f env s=ok 1e3 s) (hl:x.length<=1000000):dU iV f (eC (.str z)) env s=ok (.lst ((Ă x 1e2).map D.str)) s:=by
 subst hz;calc afl ?_;rw[ow e,bu]
 show Wp (if (!((1e2:Str).length==0)&&ώ (x.length+2<=Ù))=ό then ok (D.lst ((Ă x 1e2).map D.str)) s else ϋ) _
 rw[Ô (by
  rw[Î (show x.length+2<=Ù by rw[ţ];omega)];rfl),bL]
 exact⟨rfl,rfl⟩
def acr:∀n:Fin 10,ads ⟨#[48+n.val]⟩=ϊ (n.val:Int):=nofun
def Xt (h:j9 c=ό):nA [.str 1e2] s=ok (.int ((c:Int)-48)) s:=by
 delta j9 at h;rw[É] at h;have e:=acr ⟨c-48,by omega⟩;rw[show 48+(c-48)=c by omega] at e
 show (if ώ ((1e2:Str).length<=640)=ό then (match ads 1e2 with|some n=>ok (D.int n) s|none=>ϋ) else ϋ)=_
 rw[Ô (Î (show (1e2:Str).length<=640 from (show 1<=640 by decide))),e];show ok (D.int ((c-48:Nat):Int)) s=_;rw[show ((c-48:Nat):Int)=(c:Int)-48 by omega]
def ZC (hn:l≠[]) (h:∀i∈l,0<=i/\i<8):fH l=pS l/\pS l≠"-":=by
 refine⟨Ö hn,λe=>?_⟩
 obtain⟨i,r,rfl⟩:∃i r,l=i::r:=by cases l with|nil=>exact absurd rfl hn|cons i r=>exact⟨i,r,rfl⟩
 have:=ĵ sg e;rw[wa,dash] at this;simp[sg] at this;have:=h i ∅;omega
def KH (hc:c<45\/c=46\/c=47) (h:∀i∈l,0<=i/\i<8):c∉sg (fH l):=by
 intro Z;by_cases Y:l=[]
 ·subst Y
  rw[show fH []="-" from rfl,dash] at Z;simp[sg] at Z;omega
 ·rw[(ZC Y h).1,wa,å] at Z
  obtain⟨i,_,e⟩:=Z;omega
end
section
variable {s:ae} {l h:List Int} {i:Int} {env:Env} {p:Pg} {x y:Str} {ps ds:List Pg}
def acs:∀n:Fin 31,bB (num (n.val:Int))=ό/\(sg (num (n.val:Int))).all j9=ό:=nofun
def DR (h0:0<=i) (h1:i<31):bB (num i)=ό/\(sg (num i)).all j9=ό:=by
 obtain⟨n,rfl⟩:=ad0 h0;exact acs ⟨n,by omega⟩
def C7 (hx:(sg x).all j9=ό) (hc:j9 c=ύ):c∉sg x:=λZ=>by
 rw[ä.mp hx c Z] at hc;cases hc
def C8:c∈sg (x++y)↔c∈sg x\/c∈sg y:=by rw[ou,Ć]
def T8 (h:ix p) (hc:c<45):c∉sg (nB p):=by
 cases p with
 |made m d a b =>
  intro hm;have hm:c∈sg (fH a++"/"++fH b):=hm;rw[C8,C8] at hm
  rcases hm with (hm|hm)|hm
  ·exact KH (.inl hc) (sS h.2.2.1) hm
  ·rw[Ae] at hm
   simp[sg] at hm;omega
  ·exact KH (.inl hc) (sS h.2.2.2) hm
 |bM m d k=>exact C7 (DR h.2.2.1 (by have:=h.2.2.2;omega)).2 (by delta j9;simp;omega)
def T9 (hc:c<45):c∉sg (tD p):=by
 cases p
 ·show c∉sg "made"
  rw[show sg "made"=[109,97,100,101] by decide +kernel];simp;omega
 ·show c∉sg "mended"
  rw[show sg "mended"=[109,101,110,100,101,100] by decide +kernel];simp;omega
def wordsOf (p:Pg):List Str:=[tD p,num (xn p),num p.day,nB p]
def Sq (h:ix p) (hc:c<45):∀z∈wordsOf p,c∉sg z:=λz Z=>by
 have m:=qt h;have d:=qu h;have Y:j9 c=ύ:=by delta j9;simp;omega
 erw[wordsOf,Ï,ì,or_false] at Z
 rcases Z with rfl|rfl|rfl|rfl
 ·exact T9 hc
 ·exact C7 (DR m.1 ⋯).2 Y
 ·exact C7 (DR d.1 d.2).2 Y
 ·exact T8 h hc
def JI (h:ix p):10∉sg (hW p):=by
 have w:=Sq (c:=10) h 0e0;delta hW;rw[blank];erw[C8,not_or];have b:10∉sg ⟨#[32]⟩:=by simp[sg]
 exact⟨⟨⟨⟨⟨⟨w _ (by simp[wordsOf]),b⟩,w _ (by simp[wordsOf])⟩,b⟩,w _ (by simp[wordsOf])⟩,b⟩,w _ (by simp[wordsOf])⟩
def textOf (ps:List Pg):Str:=Ŏ "" (ps.map λp=>hW p++"\n")
def Ua:textOf ps=Ŏ 8e2 (ps.map hW++[("":Str)]):=by
 delta textOf;rw[<- VJ,ę,lend];rfl
def Sr (h:∀p∈ps,ix p):Ă (textOf ps) 8e2=ps.map hW++[("":Str)]:=by
 rw[Ua];refine VI ∅ λz hz=>?_
 rcases Ć.mp hz with hz|hz
 ·obtain⟨p,Z,rfl⟩:=å.mp hz
  exact JI (h p Z)
 ·rw[ċ.mp hz]
  exact ì
def JJ (h:ix p):(hW p++"\n").length<=31:=by rw[iU];have:=Ct h;show _ + 1<=31;omega
def text_len (h:∀p∈ps,ix p):(textOf ps).length<=ps.length*31:=by
 rw[cQ];delta textOf;rw[yW]
 induction ps with
 |nil=>exact afn 0
 |cons p r ih =>
  have Z:=JJ (h p ∅);rw[cQ] at Z;have X:=ih λq Y=>h q (Ì _ Y);rw[ç,ç,Ś,à,æ];omega
def VN (h:ix p) (hg:g [p.d] s=ok (.str (hW p)) s):e2 aY (aE g 2e4) 8e6 [ϊ p.d] s=ok (.str (hW p++"\n")) s:=by
 calc afl ?_;erw[bA,wp_call,aI,aV,bg,bu];refine afk hg (afk (jR (by have:=Ct h;show _ + 1<=_;omega)) 1e4)
def ZD (hl:ps.length<=100) (h:∀p∈ps,ix p):jH "" (.lst ((ps.map λp=>hW p++"\n").map D.str)) s=ok (.str (textOf ps)) s:=EC 0e0 (by rw[Ä];omega) λz Z=>by
 obtain⟨p,Y,rfl⟩:=å.mp Z;have:=JJ (h p Y);omega
def zS (hb:eQ ps=ό):(∀p∈ps,dM p=ό)/\ps.length<=24:=by
 delta eQ jJ at hb;erw[Å,É,ä] at hb;exact⟨hb.1.2.1,hb.1.1⟩
def VO {xs:List D} {x:D}:ar (.lst (xs++[x])) (.int (-1)) s=ok x s:=by
 rw[Zv (xs:=xs++[x]) ∅,List.getLast_append_of_ne_nil _ ∅];rfl
def VP {xs:List D} {x:D}:ql (.lst (xs++[x])) ϋ (ϊ (-1)) s=ok (.lst xs) s:=by
 show ok (D.lst (cutD (xs++[x]) ϋ (ϊ (-1)))) s=_;have:cutD (xs++[x]) ϋ (ϊ (-1))=xs:=by
  delta cutD;have e1:HT.aP (xs++[x]).length 0 ϋ=0:=rfl;have e2:HT.aP (xs++[x]).length (xs++[x]).length (ϊ (-1))=xs.length:=by
   delta HT.aP;dsimp only;rw[Ô 0e0,à];show (-1+((xs.length+1:Nat):Int)).toNat=_;omega
  rw[e1,e2,ν,Nat.sub_zero,List.take_left'];rfl
 rw[this]
end
section
variable {s s':ae} {ps qs:List Pg} {p q:Pg} {m k:Int}
def Ss (h:ps.Perm qs):kz ps m k=kz qs m k:=by
 have e1:sN ps m k=sN qs m k:=by
  funext d;delta sN shown;congr 1;exact propext ((h.filter _).map _).mem_iff
 have e2:lN ps m k=lN qs m k:=by
  funext d;delta lN iF;congr 1;exact propext ((h.filter _).map _).mem_iff
 have Z:mN ps m k=mN qs m k:=by
  funext d;delta mN gO;congr 1;exact propext ((h.filter _).map _).mem_iff
 delta kz;rw[e1,e2,Z]
def LJ (h:ps.Perm qs):iw ps=iw qs:=by
 delta iw;rw[h.length_eq];erw[Ss h]
def Ja (hp:∀p∈ps,dM p=ό) (hn:ps.Nodup):Laid (ST.cJ bR ps):=⟨λq Z=>hp q ((ST.pY _).mem_iff.mp Z),VD hn⟩
def Jb (hp:∀p∈ps,dM p=ό) (hn:ps.Nodup) (hb:iw ps=ό):eQ (ST.cJ bR ps)=ό:=by
 rw[<- LG (Ja hp hn),LJ (ST.pY ps)];exact hb
def Su (h:s[j]?=ϊ (.lst 6e4)):gp p.d (.aK j) s=ok (.bl (!yf p ps)) s:=by
 have e:inD p.d 6e4=ϊ (yf p ps):=by
  delta inD;have Z:=zD p;rw[Ô (by delta mr;rw[VH,DP,Î (show dep p.d<=100 by omega)];rfl),aeS];rfl
 delta gp;rw[LD h];erw[e];rfl
theorem Sf.set {k b:Nat} (h:Sf s k) (kb:b≠k) (c:Cell):Sf (s.set b c) k:=by
 obtain⟨u,v,e,r⟩:=h;exact⟨u,v,by rw[ā kb];exact e,r⟩
def ZE {k:Nat} {n:Int} (h:Sf s k) (h0:0<=n) (h1:n<=30):Wp (bK.zk [.aK k,.int n] s) λd s'=>∃ps:List Pg,d=bD ps/\eQ ps=ό/\Laid ps/\Sf s' k/\Ex k s s':=by
 have b:=h.lt;delta bK.zk;calc eO.symm ▸ ⟨rfl,afm λR V=>?_⟩;erw[ç,acA,Ø,Nat.reduceSub,ī,ł,zm,aI,aV,Mw,bA,mh,bu,wp_call,bg,bT];calc⟨le_size (n:=0) 0e0,le_size (n:=3) 0e0,?_⟩;refine(kY ((Kp.app s _).sf h) 0e0 0e0).mono λd s1 Z=>?_;obtain⟨r,rfl,w,v,g1,G⟩:=Z;obtain⟨d,Z,e⟩:=tB (ds:=[.int 31,.int 6,.int 12]) (s:=s1) w v;calc afk e ?_;have U:∃y:Int,d=.int y/\0<y/\y<=31:=by
  erw[Ï,ì,or_false] at Z
  rcases Z with rfl|rfl|rfl
  ·exact⟨31,rfl,by decide,by decide⟩
  ·exact⟨6,rfl,by decide,by decide⟩
  ·exact⟨12,rfl,by decide,by decide⟩
 obtain⟨y,rfl,u,y1⟩:=U;calc⟨_,_,rfl,?_⟩;erw[Ļ,ļ,bp];have P:s.length≠k:=by omega
 have t:s1[s.length]?=ϊ (.lst (([]:List Pg).map Pg.d)):=G.get ∅ P;have O:Ex k s s1:=(Ex.app k s _).trans G;subst V;calc afm λR V=>?_;rw[oi];calc afk (Xc (n:=n.toNat) (s1:=s1) (i:=n) (afl (by simp only[VC,Ţ])) ⋯ ⋯) ?_;refine Wp.qQ (λi env s'=>∃(ps:List Pg) (N M:Option D),env=[ϊ (.aK k),ϊ (.int n),ϊ (.aK s.length),ϊ (.int y),N,M]/\ps.length<=i/\(∀p∈ps,dM p=ό)/\ps.Nodup/\iw ps=ό/\s'[s.length]?=ϊ (.lst 6e4)/\Sf s' k/\Ex k s s') _ ⟨[],_,_,rfl,afn _,λ_ z=>(ì z).elim,.nil,by decide +kernel,t,g1,O⟩ (λi d env s' Z L=>?_) (λenv s' L=>?_)
 ·obtain⟨ps,N,M,rfl,K,Y,X,T,J,g2,I⟩:=L
  rw[qh] at Z;split at Z
  ·rename_i hi
   cases Z;calc⟨_,rfl,?_⟩;delta Ki;calc afm λR V=>?_;erw[cS,dj,wp_call,aI,aV,bg,bT,Ļ,ļ];refine(MD g2 u y1).mono λd W Z=>?_;obtain⟨p,rfl,o,g3,F⟩:=Z;have S:=F.get J P;have E:=I.trans F;rw[bp];subst V;erw[kX,qi,dE,bA,bg,bT,Su S,bL,cy]
   cases C:yf p ps with
   |true =>
    erw[ò,Ç,õ,dD];exact⟨ps,_,_,rfl,by omega,Y,X,T,S,g3,E⟩
   |false =>
    have m:p∉ps:=λz=>by rw[Xq.mpr z] at C;cases C
    erw[į,ÿ,oq,wp_call,aI,aV,bA,mh,bg,bT];calc⟨le_size (n:=1) 0e0,?_⟩;refine afk (show aY (.aK s.length) (.lst [p.d]) W=ok (lD (ps++[p])) W from ?_) ?_
    ·delta aY
     have e:res (.aK s.length) W=.lst (ps.map Pg.d):=by delta res;erw[S]
     rw[e];have l:oS 6e4 [p.d]=ό:=Î (le_size (by rw[Ä,æ,ĥ];omega))
     show bW (if oS 6e4 [p.d]=ό then ϊ (D.lst (ps.map Pg.d++[p.d])) else ϋ) W=_
     rw[Ô l];show ok (D.lst (ps.map Pg.d++[p.d])) W=ok (D.lst ((ps++[p]).map Pg.d)) W;rw[ĩ];rfl
    ·refine(MF (by rw[à,æ,ĥ];omega)).mono λd j Z=>?_
     obtain⟨rfl,Q⟩:=Z;have H:=Q.get S;have B:=Q.sf g3;have A:Ex k s j:=E.trans ⟨Q.1,λi hi _=>Q.2 i hi⟩;erw[m9]
     cases g:iw (ps++[p]) with
     |true =>
      erw[ÿ,Kj,My,bg,bT];obtain⟨a1,a2⟩:=LF (x:=p.d) H (by rw[Ä];omega);calc⟨a1,?_⟩;calc afk a2 ?_;refine⟨ps++[p],_,_,rfl,by rw[à];exact Nat.succ_le_succ K,λq f=>?_,?_,g,?_,Sf.set B P _,A.hi 3e0 _⟩
      ·rcases Ć.mp f with z|z
       ·exact Y q z
       ·rw[ċ.mp z];exact o
      ·rw[aea]
       exact⟨X,by simp,λx c y U e=>m (by rw[ċ] at U;rw[<- U,<- e];exact c)⟩
      ·rw[Đ (Ñ.mp H).1,ĩ]
       rfl
     |false =>
      erw[Ç,õ,dD];exact⟨ps,_,_,rfl,by omega,Y,X,T,H,B,A⟩
  ·cases Z
 ·obtain⟨ps,N,M,rfl,K,Y,X,T,J,g2,I⟩:=L
  rw[l0] at K;subst V;rw[bp];erw[cg,dJ,aI,aV,bg,bT];refine afk (show kT [.aK s.length] s'=ok (.lst ((ST.cJ bR ps).map Pg.d)) s' from ?_) ?_
  ·delta kT
   have e:res (.aK s.length) s'=.lst (ps.map Pg.d):=by delta res;erw[J]
   erw[e];rw[Ô (by rw[Ä];omega),Ck];rfl
  ·refine afk (show fJ [.lst ((ST.cJ bR ps).map Pg.d)] s'=ok (bD (ST.cJ bR ps)) s' from rfl) ?_
   exact⟨_,rfl,Jb Y X T,Ja Y X,g2,I⟩
end
section
variable {s:ae} {env:Env} {x y z:Str} {ws:List Str} {c:Nat}
theorem MH:∀{ps:List (List Nat)} {p:List Nat},p∈ps->p.length<=(jl c ps).length
 | [q],p,h=>by rw[ċ.mp h];exact afn _
 |q::r::t,p,h=>by
  show p.length<=(q++c::jl c (r::t)).length;rw[à,æ]
  rcases Ï.mp h with rfl|h
  ·omega
  ·have:=MH (ps:=r::t) h;omega
def qd (h:z∈Ă x 1e2):z.length<=x.length:=by
 have e:=ζ x 1e2;rw[cQ z,cQ x,<- e,jA];exact MH (å.mpr ⟨z,h,rfl⟩)
abbrev sl (x:Str):List Str:=Ă x ⟨#[47]⟩
abbrev bs (x:Str):List Str:=Ă x ⟨#[32]⟩
def vf (hl:x.length<=3000):(Ă x 1e2).length<=3002:=Ü (aeh x 1e2) ⋯
def jj:∀zs:List Str,(zs.map D.str).length=zs.length:=λzs=>Ä ..
def jx (z:Str):Bool:=ώ (z="-")||jS z
def jb (x:Str):Bool:=ώ ((sl x).length=2)&&(sl x).all jx
def qT {ds:List D} (hl:ds.length<=1000000):cM [.lst ds] s=ok (.int ds.length) s:=rfl
def AD {n m:Nat}:((n:Int)==(m:Int))=ώ (n=m):=by
 by_cases h:n=m
 ·rw[h];simp
 ·rw[Û h]
  simpa using λe:(n:Int)=m=>h ⋯
def ZF {F:List D->ae->Res D} {T:(afb D)->afb D} (hl:x.length<=3000) (hF:∀z∈sl x,F [.str z] s=ok (.bl (jS z)) s) (hT:∀C env,C env s=ok (.lst ((sl x).map λz=>D.bl (jx z))) s->T C env s=ok (.bl ((sl x).all jx)) s):aU 1 2 (aw (aQ (dU iV 0e4 (eC (.str "/"))) (gN 1)) (aD (eT (e2 aZ (eB cM 4e8) 3e9) (T (cT 1 [] (cV 1e8) (gN 0) eG (pE (e2 aZ 0e4 (eC (.str "-"))) (aE F 2e4))))))) [.str x] s=ok (.bl (jb x)) s:=by
 calc afl ?_;calc eO.symm ▸ ⟨rfl,afm λR Z=>?_⟩;rw[cS];calc afk (m6 Ae rfl ⋯) ?_;rw[dj];show dh R _ (.nx [ϊ 1e3,ϊ (.lst ((sl x).map D.str))]) s;rw[bp];subst Z;have hs:(sl x).length<=3002:=vf hl;rw[cg,sv,bA];erw[dJ,aI,aV,bg,bT,bu];calc afk (qT (by rw[jj];omega)) ?_;rw[jj,v7,cy];delta jb;rw[show (((sl x).length:Int)==2)=ώ ((sl x).length=2) from AD (m:=2)]
 cases ώ ((sl x).length=2) with
 |false=>exact⟨rfl,rfl⟩
 |true =>
  rw[Ô rfl,ô];calc afk (hT _ _ (afl ?_)) 1e4;rw[kg];calc afk (og (ds:=(sl x).map D.str) rfl) ⟨le_size (by rw[jj];omega),?_⟩;refine afk (comp_map D.str (λ_=>ό) (λz=>D.bl (jx z)) (sl x) λz Y=>⟨[ϊ (.str z)],rfl,rfl,λ_=>afl ?_⟩) ?_
  ·erw[zL,bA,bg,bu]
   calc afk qS ?_;erw[cy];delta jx
   cases ώ (z="-") with
   |true=>erw[ÿ];exact⟨rfl,trivial⟩
   |false =>
    erw[Ç,õ,wp_call,aI,aV,bg];exact afk (hF z Y) 1e4
  rw[Ľ.mpr (λ_ _=>rfl)];exact⟨rfl,rfl⟩
def Ub (hl:x.length<=3000):Bp [.str x] s=ok (.bl (jb x)) s :=
 ZF (T:=λC=>eB nG (af C ah)) hl (λz Z=>LI (by have:=qd Z;omega)) λC env e=>afl (by
  rw[dJ,aI];calc afk e ?_;rw[aV];exact afk (sC jx (sl x) s) 1e4)
def gM:List Str->Bool
 | [w,a,b,v]=>bB a&&bB b&&(if w="made" then jb v else ώ (w="mended")&&bB v)
 |_=>ύ
def Fx {ws:List Str} (h:ws.length=4):∃w a b v,ws=[w,a,b,v]:=by
 match ws,h with
 | [w,a,b,v],_=>exact⟨w,a,b,v,rfl⟩
def DT (h:ws.length≠4):gM ws=ύ:=by
 match ws,h with
 | [],_ | [_],_ | [_,_],_ | [_,_,_],_=>rfl
 | [_,_,_,_],h=>exact absurd rfl h
 |_::_::_::_::_::_,_=>rfl
def Sv (hn:ws.length<=4000) (hl:∀z∈ws,z.length<=3000):uX [.lst (ws.map D.str)] s=ok (.bl (gM ws)) s:=by
 calc afl ?_;delta uX;calc eO.symm ▸ ⟨rfl,afm λR Z=>?_⟩;show Wp (bc _ _ _ [ϊ (.lst (ws.map D.str)),ϋ,ϋ,ϋ,ϋ] s) _;erw[kX,dE,bA,dJ,aI,aV,bg,bu];calc afk (qT (by rw[jj];omega)) ?_;rw[jj,DN,cy,show (((ws.length:Int)==4))=ώ (ws.length=4) from AD (m:=4)];by_cases Y:ws.length=4
 ·obtain⟨w,a,b,v,rfl⟩:=Fx Y
  rw[Î Y];erw[ò,Ç,õ,dD,bp];subst Z;have U:=hl a ∅;have T:=hl b ∅;have lv:=hl v ∅;calc afm λR Z=>?_;rw[cS,bg];calc⟨[ϊ (.lst (([w,a,b,v]:List Str).map D.str)),ϊ (.str w),ϊ (.str a),ϊ (.str b),ϊ (.str v)],rfl,?_⟩;rw[bp];subst Z;calc afm λR Z=>?_;erw[kX,qp,su,oq,wp_call,aI,aV,bg,bT];calc afk (By ⋯) ?_;rw[m9]
  cases X:bB a with
  |false =>
   erw[į,ÿ,cg,bu,iW,fK];simp[gM,X]
  |true =>
   erw[ò,Ç,õ];calc afk (By ⋯) ?_;rw[m9]
   cases W:bB b with
   |false =>
    erw[į,ÿ,cg,bu,iW,fK];simp[gM,W]
   |true =>
    erw[ò,Ç,õ,dD,bp];subst Z;calc afm λR Z=>?_;erw[kX,dE,bA,bg,bT,bu];calc afk qS ?_;rw[cy];by_cases hw:w="made"
    ·rw[Î hw]
     erw[ÿ,cg,wp_call,aI,aV,bg,bT];calc afk (Ub lv) ?_;simp[iW,fK,gM,X,W,hw]
    ·rw[Û hw]
     erw[Ç,õ,dD,bp];subst Z;erw[cg,sv,bA,bg,bT,bu];calc afk qS ?_;rw[cy];by_cases V:w="mended"
     ·rw[Î V]
      erw[ÿ,wp_call,aI,aV,bg,bT];calc afk (By ⋯) ?_;have e:gM [w,a,b,v]=bB v:=by
       show 3e5=bB v
       rw[X,W,Ö hw,Î V];simp
      rw[e];exact⟨rfl,rfl⟩
     ·rw[Û V]
      simp[fK,gM,X,W,hw,V]
 ·rw[Û Y]
  erw[į,ÿ,cg,bu,iW,fK];simp[DT Y]
def iG (hc:t env s=ok b s') (h:if b=ό then Wp (st env s') Q else Wp (cx env s') Q):Wp (bc t st cx env s) Q:=by
 rw[kX];exact afk hc h
def rH (h:f env s=ok (.str w) s):aF (e2 aZ f (eC (.str v))) env s=ok (ώ (w=v)) s:=by
 calc afl ?_;rw[dE,bA];calc afk h ?_;rw[bu];calc afk qS ?_;rw[cy];exact⟨rfl,rfl⟩
theorem JK:∀{zs:List Str},(∀z∈zs,ã z=ό)->DI.cD (zs.map D.str)=ό
 | [],_=>rfl
 |z::zs,h=>by
  rw[ç,DI.cD,JK λy Z=>h y (Ì _ Z)];simp[lay,h z Õ]
def Xu {zs:List Str} (h:∀z∈zs,ã z=ό):aZ 4e4 (.lst []) s=ok (.bl zs.isEmpty) s:=by
 have e:fx 4e4 (.lst [])=ϊ zs.isEmpty:=by
  delta fx;rw[Ö (by simp[kL]),Ô (by erw[lay,JK h,cD,dep,dY,Ĳ,ô,É];exact Î (Ü (Nat.min_le_right _ 1) (show 1<=100 by decide)))]
  cases zs<;>rfl
 show (match fx 4e4 (.lst []) with|some b=>ok (D.bl b) s|none=>ϋ)=_
 rw[e]
theorem DU:∀{ps:List (List Nat)} {p:List Nat} {n:Nat},p∈ps->n∈p->n∈jl c ps
 | [q],p,n,h,Z=>by rw[ċ.mp h] at Z;exact Z
 |q::r::t,p,n,h,Z=>by
  show n∈q++c::jl c (r::t)
  rcases Ï.mp h with rfl|h
  ·exact Ā _ Z
  ·exact Ó _ (Ì _ (DU h Z))
def iz:ã x=ό↔∀n∈sg x,n<1114112:=by
 delta ã;rw[<- Array.all_toList,ä];simp
def vz (h:z∈Ă x 1e2) (hx:ã x=ό):ã z=ό:=by
 calc iz.mpr λn Z=>iz.mp hx n ?_;have e:=ζ x 1e2;rw[<- e,jA];exact DU (å.mpr ⟨z,h,rfl⟩) Z
def ZG (hu:ã u=ό) (ha:ã a=ό) (hb:ã b=ό):dH (.str u) (.tup [.str a,.str b]) s=ok (.bl (ώ (u=a\/u=b))) s/\gp (.str u) (.tup [.str a,.str b]) s=ok (.bl (!ώ (u=a\/u=b))) s:=by
 have e:inD (.str u) [.str a,.str b]=ϊ (ώ (u=a\/u=b)):=by
  delta inD;rw[Ô (by delta mr;simp[cD,lay,dep,hu,ha,hb])];congr 1;have q:∀v:Str,beq (.str v) (.str u)=ώ (u=v):=λv=>by
   show (v==u)=_;by_cases h:u=v
   ·rw[h];simp
   ·rw[Û h]
    simpa using λe:v=u=>h e.symm
  show (beq (.str a) (.str u)||(beq (.str b) (.str u)||false))=_;rw[q,q,Bool.or_false]
  by_cases Z:u=a<;>by_cases Y:u=b<;>simp[Z,Y]
 delta dH gp;rw[show lg (.tup [.str a,.str b]) s=ϊ [.str a,.str b] from rfl];erw[e];exact⟨rfl,rfl⟩
def VQ {v:Str} {q:List Str} (h:¬ (v="made"\/v="mended")):gM (v::q)=ύ:=by
 match q with
 | [a,b,c] =>
  show (bB a&&bB b&&if v="made" then jb c else ώ (v="mended")&&bB c)=ύ
  rw[Ö λe=>h (.inl e),Û λe=>h (.inr e)];simp
 | [] | [_] | [_,_] | _::_::_::_::_=>rfl
def ixW {r:List Str} {n:Nat} {u:Str} (h:r[n]?=ϊ u):ar (.lst (r.map D.str)) (.int n) s=ok (.str u) s:=by
 have Z:=(Ñ.mp h).1;have e:dw (r.map D.str) (n:Int)=ϊ (.str u):=by
  obtain⟨y,e1,e2⟩:=v5 (xs:=r.map D.str) (i:=(n:Int)) ⋯ (by simp;exact Z);rw[e1];simp[h] at e2;rw[e2]
 show bW (dw (r.map D.str) (n:Int)) s=_;rw[e];rfl
def aaZ (x:Str):∃w r,bs x=w::r:=by
 cases h:bs x with
 |nil =>
  have:=ad4 x ⟨#[32]⟩;rw[show Ă x ⟨#[32]⟩=[] from h] at this;simp at this
 |cons w r=>exact⟨w,r,rfl⟩
def kh (hx:ã x=ό) (hy:ã y=ό):ã (x++y)=ό:=iz.mpr λn Z=>by
 rw[ou] at Z;exact(Ć.mp Z).elim (iz.mp hx n) (iz.mp hy n)
theorem KI (hy:ã y=ό):∀{zs:List Str},(∀z∈zs,ã z=ό)->ã (Ŏ y zs)=ό
 | [],_=>show ã Str.empty=ό by decide +kernel
 | [z],h=>h z ∅
 |z::u::r,h=>by
  show ã (z++y++Ŏ y (u::r))=ό;exact kh (kh (h z ∅) hy) (KI hy λv Z=>h v (Ì _ Z))
def Xv:∀n:Fin 31,ã (num (n.val:Int))=ό:=nofun
def Cu (h:0<=i/\i<31):ã (num i)=ό:=by
 have:=Xv ⟨i.toNat,by omega⟩;rw[show (((⟨i.toNat,by omega⟩:Fin 31).val:Nat):Int)=i by simp;omega] at this;exact this
def LK (h:∀i∈l,0<=i/\i<8):ã (fH l)=ό:=by
 delta fH;split
 ·decide +kernel
 ·refine iz.mpr λn Z=>?_
  rw[wa] at Z;obtain⟨i,hi,rfl⟩:=å.mp Z;have:=h i hi;omega
def KJ (h:ix p):ã (hW p)=ό:=by
 have m:=qt h;have d:=qu h;have Z:ã " "=ό:=nofun
 have Y:ã "made"=ό:=nofun
 have X:ã "mended"=ό:=nofun
 have w:ã (tD p)=ό:=by
  cases p with
  |made _ _ _ _=>exact Y
  |bM _ _ _=>exact X
 have l:ã (nB p)=ό:=by
  cases p with
  |made W V a c=>exact kh (kh (LK (sS h.2.2.1)) nofun) (LK (sS h.2.2.2))
  |bM W V k=>exact Cu ⟨h.2.2.1,by have:=h.2.2.2;omega⟩
 exact kh (kh (kh (kh (kh (kh w Z) (Cu ⟨m.1,by omega⟩)) Z) (Cu d)) Z) l
def vI (x:Str):Int:=(ae3 (sg x):Nat)
def yK (h:jS x=ό):1<=x.length/\x.length<=30/\∀c∈sg x,j9 c=ό:=by
 delta jS at h;erw[Å,É,ä] at h;exact⟨h.1.1,h.1.2,h.2⟩
def Xw (h:jS x=ό):nA [.str x] s=ok (.int (vI x)) s:=by
 obtain⟨Z,W,Y⟩:=yK h;have e:ads x=ϊ (vI x):=intText_digits (λc X=>î (Y c X)) (λz=>by rw[cQ,show sg x=[] from z] at Z;simp at Z) ⋯
 show (if ώ (x.length<=640)=ό then (match ads x with|some n=>ok (D.int n) s|none=>ϋ) else ϋ)=_
 rw[Ô (Î ⋯),e]
def wb (h:bB x=ό):nA [.str x] s=ok (.int (vI x)) s:=Xw (by delta bB at h;exact(Å _ _ ▸ h).1)
def bw (z:Str):List Int:=if z="-" then [] else (sg z).map λc:Nat=>(c:Int)-48
def yv (h:jx z=ό):rQ [.str z] s=ok (mD (bw z)) s/\(bw z).length<=30:=by
 by_cases Z:z="-"
 ·have e:bw z=[]:=Ô Z
  rw[e];calc⟨afl ?_,by decide⟩;delta rQ;calc eO.symm ▸ ⟨rfl,afm λR Y=>iG (rH rfl) ?_⟩;rw[Î Z,Ô rfl];erw[cg,kq,aV];exact⟨le_size (n:=0) 0e0,rfl,rfl⟩
 ·have e:bw z=(sg z).map λc:Nat=>(c:Int)-48:=Ö Z
  have X:jS z=ό:=by delta jx at h;rw[Û Z,Bool.false_or] at h;exact h
  obtain⟨T,W,V⟩:=yK X;rw[e];calc⟨afl ?_,by rw[Ä,<- cQ];exact W⟩;delta rQ;calc eO.symm ▸ ⟨rfl,afm λR Y=>iG (rH rfl) ?_⟩;rw[Û Z,Ö Ã,dD,bp];subst Y;show Wp (aD _ [ϊ (.str z)] s) _;rw[cg,dJ,aI,kg];calc afk (zu rfl) ⟨le_size (by rw[Ä,<- cQ];omega),?_⟩;refine afk (comp_map (λc=>D.str 1e2) (λ_=>ό) (λc:Nat=>D.int ((c:Int)-48)) (sg z) λc U=>⟨[ϊ (.str 1e2)],rfl,rfl,λ_=>afl ?_⟩) ?_
  ·erw[dJ,aI,aV,bg]
   exact afk (Xt (V c U)) 1e4
  rw[Ľ.mpr (λ_ _=>rfl),aV];calc afk (show fJ [.lst ((sg z).map λc:Nat=>D.int ((c:Int)-48))] s=ok (.tup ((sg z).map λc:Nat=>D.int ((c:Int)-48))) s from rfl) ⟨?_,rfl⟩;show D.tup _=D.tup _;rw[ę];rfl
def KL (h:jb x=ό):∃a b,sl x=[a,b]/\jx a=ό/\jx b=ό:=by
 delta jb at h;erw[Å,É] at h
 match Z:sl x,h with
 | [a,b],h =>
  erw[adX,List.all_nil,aev,Å] at h;exact⟨a,b,rfl,h.2.1,h.2.2⟩
 | [],h=>simp at h
 | [_],h=>simp at h
 |_::_::_::_,h=>simp at h
def gj (x:Str) (i:Nat):List Int:=bw ((sl x).getD i "")
def RA (hl:x.length<=3000) (h:jb x=ό):∃a b:List Int,a.length<=30/\b.length<=30/\(a=gj x 0/\b=gj x 1)/\∀s:ae,yA [.str x] s=ok (.tup [mD a,mD b]) s:=by
 obtain⟨u,v,e,Z,Y⟩:=KL h;calc⟨bw u,bw v,(yv (s:=[]) Z).2,(yv (s:=[]) Y).2,⟨by delta gj;rw[e];rfl,by delta gj;rw[e];rfl⟩,λs=>afl ?_⟩;delta yA;calc eO.symm ▸ ⟨rfl,afm λR X=>?_⟩;rw[cS];calc afk (m6 Ae rfl ⋯) ?_;rw[show Ă x ⟨#[47]⟩=[u,v] from e];calc⟨[ϊ 1e3,ϊ (.str u),ϊ (.str v)],rfl,?_⟩;rw[bp];subst X;erw[cg,kq,wp_call,aI,aV,bg,bT];calc afk (yv Z).1 (afk (yv Y).1 ?_);exact⟨le_size (n:=2) 0e0,rfl,rfl⟩
def oX:List Str->Pg
 | [w,a,b,v]=>if w="made" then .made (vI a) (vI b) (gj v 0) (gj v 1) else .bM (vI a) (vI b) (vI v)
 |_=>.bM 0 0 0
def Jc (hl:∀z∈ws,z.length<=3000) (h:gM ws=ό):∃p:Pg,oW p/\p=oX ws/\∀s:ae,rV [.lst (ws.map D.str)] s=ok p.d s:=by
 have T:ws.length=4:=by
  by_cases e:ws.length=4
  ·exact e
  ·rw[DT e] at h;cases h
 obtain⟨w,a,b,v,rfl⟩:=Fx T
 have X:3e5=ό:=h
 erw[Å] at X;obtain⟨⟨W,V⟩,Y⟩:=X;by_cases hw:w="made"
 ·rw[Ô hw] at Y
  obtain⟨i,j,li,Q,U,S⟩:=RA (hl v ∅) Y;calc⟨.made (vI a) (vI b) i j,⟨by omega,by omega⟩,by rw[show oX [w,a,b,v]=_ from Ô hw,U.1,U.2],λs=>afl ?_⟩;delta rV;calc eO.symm ▸ ⟨rfl,afm λR Z=>?_⟩;calc afk (show aQ 0e4 (gL [gN 1,gN 2,gN 3,gN 4]) _ s=ok (.nx [ϊ (.lst (([w,a,b,v]:List Str).map D.str)),ϊ (.str w),ϊ (.str a),ϊ (.str b),ϊ (.str v),ϋ]) s from rfl) ?_;rw[bp];subst Z;calc afm λR Z=>?_;rw[cS,kW];calc afk (rH rfl) ?_;rw[Î hw,Ô rfl];erw[wp_call,aI,aV,bg,bT];calc afk (S s) ?_;erw[dj,Ļ,ļ];rw[bp];subst Z;erw[cg,kq,dJ,aI,aV,bg,bT];calc afk (wb W) (afk (wb V) ?_);calc⟨le_size (n:=4) 0e0,?_,rfl⟩;rw[hw];rfl
 ·rw[Ö hw] at Y
  erw[Å,É] at Y;calc⟨.bM (vI a) (vI b) (vI v),trivial,(Ö hw).symm,λs=>afl ?_⟩;delta rV;calc eO.symm ▸ ⟨rfl,afm λR Z=>?_⟩;calc afk (show aQ 0e4 (gL [gN 1,gN 2,gN 3,gN 4]) _ s=ok (.nx [ϊ (.lst (([w,a,b,v]:List Str).map D.str)),ϊ (.str w),ϊ (.str a),ϊ (.str b),ϊ (.str v),ϋ]) s from rfl) ?_;rw[bp];subst Z;calc afm λR Z=>?_;rw[cS,kW];calc afk (rH rfl) ?_;rw[Û hw,Ö Ã];erw[dJ,aI,aV,bg,bT];calc afk (wb Y.2) ?_;erw[dj,Ļ,ļ];rw[bp];subst Z;erw[cg,kq,dJ,aI,aV,bg,bT];calc afk (wb W) (afk (wb V) ?_);calc⟨le_size (n:=4) 0e0,?_,rfl⟩;rw[Y.1];rfl
end
section
variable {s:ae} {env:Env} {x y z w:Str} {ws:List Str} {c n m:Nat}
def Xx:∀n:Fin 31,bB (num (n.val:Int))=ό/\vI (num (n.val:Int))=(n.val:Int):=nofun
def acu:∀a:Fin 10,num ((a.val:Nat):Int)=⟨#[48+a.val]⟩:=nofun
def acv:∀a b:Fin 10,a.val=0\/num ((10*a.val+b.val:Nat):Int)=⟨#[48+a.val,48+b.val]⟩:=nofun
theorem MI:∀(r:List Nat) (a:Nat),a<=r.foldl (λacc c=>acc*10+(c-48)) a
 | [],_=>afn _
 |c::r,a=>by
  have:=MI r (a*10+(c-48));rw[acX];omega
def LL (hn:n<=30):num (n:Int)=w↔bB w=ό/\vI w=(n:Int):=by
 constructor
 ·intro e
  subst e;exact Xx ⟨n,by omega⟩
 ·intro ⟨h,Z⟩
  delta bB at h;rw[Å] at h;obtain⟨W,R,U⟩:=yK h.1;have X:=h.2;erw[ψ,É] at X;delta vI at Z;have Z:ae3 (sg w)=n:=by exact_mod_cast Z
  delta ae3 at Z;rw[cQ] at W;have Y:∀c∈sg w,48<=c/\c<=57:=λc T=>î (U c T)
  match hw:sg w with
  | []=>rw[hw] at W;simp at W
  | [c] =>
   rw[hw] at Z Y;have V:=Y c ∅;have e:=acu ⟨c-48,by omega⟩;have Z:0*10+(c-48)=n:=Z;calc sD ?_;rw[show (n:Int)=((c-48:Nat):Int) by omega,e,hw];show [48+(c-48)]=[c];rw[show 48+(c-48)=c by omega]
  | [c,d] =>
   rw[hw] at Z Y X;have V:=Y c ∅;have Q:=Y d ∅;have Z:(0*10+(c-48))*10+(d-48)=n:=Z;have S:c≠48:=by
    rcases X with z|z
    ·intro e;exact z (by rw[e];rfl)
    ·have:=ĵ Str.length z
     rw[cQ,hw] at this;cases this
   rcases acv ⟨c-48,by omega⟩ ⟨d-48,by omega⟩ with e|e
   ·have:c-48=0:=e
    omega
   calc sD ?_;rw[show (n:Int)=((10*(c-48)+(d-48):Nat):Int) by omega,e,hw];show [48+(c-48),48+(d-48)]=[c,d];rw[show 48+(c-48)=c by omega,show 48+(d-48)=d by omega]
  |c::d::e::r =>
   rw[hw] at Z Y X;have V:=Y c ∅;have S:c≠48:=by
    rcases X with z|z
    ·intro e;exact z (by rw[e];rfl)
    ·have:=ĵ Str.length z
     rw[cQ,hw] at this;simp at this;have P:(("0":Str)).length=1:=rfl;omega
   have:=MI r (((0*10+(c-48))*10+(d-48))*10+(e-48));rw[acX,acX,acX] at Z;omega
def range_one (p:Nat->Bool) (k n:Nat) (hp:∀i,i<n->(p i=ό↔i=k)):(ö n).filter p=if k<n then [k] else []:=by
 induction n with
 |zero=>rfl
 |succ n ih =>
  rw[List.range_succ,adY,ih λi hi=>hp i ⋯];have:=hp n ⋯;by_cases e:k=n
  ·subst e
   rw[Ö (ñ _),Ô ⋯,ł,List.filter_cons_of_pos (this.mpr rfl)];rfl
  ·have Y:¬ p n=ό:=λz=>e (this.mp z).symm
   rw[List.filter_cons_of_neg Y,List.filter_nil,ć];by_cases Z:k<n
   ·rw[Ô Z,Ô ⋯]
   ·rw[Ö Z,Ö ⋯]
def oI (b:Bool) (i:Int):D:=if b=ό then .int i else .ak
def MJ:∃k:Nat,vI w=(k:Int):=5e0
def BK (hm:m<=30):rT [.str w,.int m] s=ok (oI (bB w&&ώ (vI w<=m)) (vI w)) s:=by
 obtain⟨k,Z⟩:=MJ (w:=w)
 have X:((ö (m+1)).filter λi:Nat=>ώ (num (i:Int)=w))=if (bB w&&ώ (vI w<=m))=ό then [k] else []:=by
  cases Y:bB w with
  |false =>
   rw[η,Ö Ã,acQ];intro i hi h;rw[É,LL (by have:=ø.mp hi;omega),Y] at h;cases h.1
  |true =>
   rw[range_one _ k _ λi hi=>by rw[É,LL ⋯,Y,Z];constructor;(intro h;omega);(intro h;exact⟨rfl,by omega⟩),Z,ô];by_cases h:k<m+1
   ·rw[Ô h,Ô (Î ⋯)]
   ·rw[Ö h,Ö (by rw[É];omega)]
 calc afl ?_;delta rT;calc eO.symm ▸ ⟨rfl,afm λR W=>?_⟩;show Wp (aQ _ (gN 2) [ϊ (.str w),ϊ (.int m),ϋ] s) _;rw[cS,kg];calc afk (ku (n:=m+1) rfl ⋯) ⟨by rw[l0];exact le_size ⋯,?_⟩;rw[C5];refine afk (comp_map (λi:Nat=>D.int (0+(i:Int))) (λi=>ώ (num (i:Int)=w)) (λi:Nat=>D.int i) (ö (m+1)) λi hi=>⟨[ϊ (.int (0+(i:Int))),ϊ (.str w)],rfl,?_,λ_=>?_⟩) ?_
 ·have hi:=ø.mp hi
  rw[ac5];calc afl ?_;rw[dE,bA];erw[dJ,aI,aV,bg];calc afk (v9 (i:=(i:Int)) ⋯ ⋯) ?_;erw[bT,bg];calc afk qS ?_;rw[cy];exact⟨rfl,rfl⟩
 ·rw[ac5];rfl
 rw[X,dj];show dh R _ (.nx [ϊ (.str w),ϊ (.int m),ϊ (.lst _)]) s;rw[bp];subst W;rw[cg,kW];delta oI
 cases (bB w&&ώ (vI w<=m)) with
 |true =>
  rw[Ô rfl,Ô rfl];calc afk (show aF (e2 cG 6e6 (cz ah)) [ϊ (.str w),ϊ (.int m),ϊ (.lst ([k].map λi:Nat=>D.int i))] s=ok ό s from rfl) ?_;rw[Ô rfl];calc afk (show e2 ar 6e6 1e9 [ϊ (.str w),ϊ (.int m),ϊ (.lst ([k].map λi:Nat=>D.int i))] s=ok (.int k) s from rfl) ?_;rw[Z];exact⟨rfl,rfl⟩
 |false =>
  rw[Ö Ã,Ö Ã];calc afk (show aF (e2 cG 6e6 (cz ah)) [ϊ (.str w),ϊ (.int m),ϊ (.lst (([]:List Nat).map λi:Nat=>D.int i))] s=ok ύ s from rfl) ?_;rw[Ö Ã,bu];exact⟨rfl,rfl⟩
def VR (a:List Int):∀b:List Int,fO (a.map D.int) (b.map D.int)=ώ (a=b):=by
 induction a with
 |nil=>intro b;cases b<;>rfl
 |cons x r ih =>
  intro b
  cases b with
  |nil=>rfl
  |cons y t =>
   erw[ç,fO,beq,ih];rw[ĝ];simp
def eqL {a b:List Int}:aZ 6e9 8e1 s=ok (.bl (ώ (a=b))) s:=by
 have Z:∀c:List Int,lay (.lst (c.map D.int))=ό:=λc=>by erw[lay,mW]
 have Y:dep 6e9<=100:=by erw[dep,JD];decide
 have e:fx 6e9 8e1=ϊ (ώ (a=b)):=by
  delta fx;rw[Ö (show ¬ (kL (.lst _)&&kL (.lst _))=ό from Ã),Ô (by rw[Z,Z,Î (Ü (Nat.min_le_left _ _) Y)];rfl)];erw[beq,VR]
 show (match fx 6e9 8e1 with|some b=>ok (D.bl b) s|none=>ϋ)=_
 rw[e]
def ZH:(!(Ą "01234567" 1e2 0 (Str.length "01234567") 1).isEmpty)=ώ (48<=c/\c<=55):=by
 rw[StrLaws.found_one];rw[ĝ];erw[É];have e:sg "01234567"=[48,49,50,51,52,53,54,55]:=nofun
 show c∈sg "01234567"↔_;rw[e];erw[Ï,ì,or_false];omega
def pT (c:Nat):Bool:=ώ (48<=c/\c<=55)
def ix8:∀n:Fin 8,(Ą "01234567" ⟨#[48+n.val]⟩ 0 (Str.length "01234567") 1).head?=ϊ n.val:=nofun
def ZI (h:pT c=ό):ye "01234567" (.str 1e2) s=ok (.int ((c:Int)-48)) s:=by
 delta pT at h;rw[É] at h;have e:=ix8 ⟨c-48,by omega⟩;rw[show 48+(c-48)=c by omega] at e;delta ye
 cases Z:Ą "01234567" 1e2 0 (Str.length "01234567") 1 with
 |nil=>rw[Z] at e;cases e
 |cons i r =>
  rw[Z] at e;have e:i=c-48:=afo e;dsimp only;rw[Z,e];show ok (D.int ((c-48:Nat):Int)) s=_;rw[show (((c-48:Nat)):Int)=(c:Int)-48 by omega]
def kc (z:Str):Bool:=jx z&&jC (bw z)
def oM (z:Str):D:=if kc z=ό then mD (bw z) else .ak
def Xy {zs:List Str} (h:∀z∈zs,ã z=ό):cG 4e4 (.lst []) s=ok (.bl (!zs.isEmpty)) s:=by
 have e:=Xu (s:=s) h;delta aZ at e;delta cG
 cases Z:fx (res 4e4 s) (res (.lst []) s) with
 |none=>rw[Z] at e;cases e
 |some c =>
  rw[Z] at e
  injection e with e
  injection e with e1 _
  injection e1 with e1
  injection e1 with e1
  rw[e1]
def VS (hk:ã z=ό) (hc:c∈sg z):ã (1e2:Str)=ό:=iz.mpr λn Z=>by
 have:n=c:=by simpa using Z
 have:=iz.mp hk c hc;omega
def Uc (hl:z.length<=3000) (hk:ã z=ό):yu [.str z] s=ok (oM z) s:=by
 calc afl ?_;delta yu;calc eO.symm ▸ ⟨rfl,afm λR X=>iG (rH rfl) ?_⟩;by_cases Y:z="-"
 ·rw[Î Y,Ô rfl,cg,kq,aV]
  calc⟨le_size (n:=0) 0e0,?_,rfl⟩;have e:bw z=[]:=Ô Y;show D.tup []=oM z;delta oM kc jx;rw[Î Y,e];rfl
 rw[Û Y,Ö Ã,dD,bp];subst X;have em:bw z=(sg z).map λc:Nat=>(c:Int)-48:=Ö Y;have U:jx z=jS z:=by delta jx;rw[Û Y,Bool.false_or]
 have P:gU (aF (e2 aZ 0e4 (eC (.str "")))) (aF (e2 cG (cT 1 [] (oF 0e4) (gN 0) (aF (e2 vq 0e4 (eC (.str "01234567")))) 0e4) (cz ah))) [ϊ (.str z),ϋ] s=ok (ώ (z="")||!(sg z).all pT) s:=by
  calc afl ?_;rw[qp];refine afk (rH rfl) ?_
  cases ώ (z="") with
  |true=>rw[Ô rfl];exact⟨rfl,rfl⟩
  |false =>
   rw[Ö Ã,dE,bA,kg];calc afk (zu rfl) ⟨le_size (by rw[Ä,<- cQ];omega),?_⟩;refine afk (comp_map (λc=>D.str 1e2) (λc=>!pT c) (λc=>D.str 1e2) (sg z) λc _=>⟨[ϊ (.str 1e2)],rfl,afl ?_,λ_=>rfl⟩) ?_
   ·rw[dE]
    calc afk (show e2 vq 0e4 (eC (.str "01234567")) [ϊ (.str 1e2)] s=ok (.bl (Ą "01234567" 1e2 0 (Str.length "01234567") 1).isEmpty) s from rfl) ?_;rw[cy];have:=ZH (c:=c);calc⟨?_,rfl⟩;delta pT;rw[<- this,aei]
   rw[mh,aV];calc⟨le_size (n:=0) 0e0,?_⟩;have e:=Xy (s:=s) (zs:=((sg z).filter λc=>!pT c).map λc=>(1e2:Str)) λy O=>by
    obtain⟨c,Z,rfl⟩:=å.mp O;exact VS hk (Ł.mp Z).1
   rw[ę] at e;calc afk e ?_;rw[cy];calc⟨?_,rfl⟩;rw[Bool.false_or,ĝ,û,û,<- ē,<- ē,List.isEmpty_iff,adz,acQ,ä];simp
 refine afm λR X=>iG P ?_
 cases W:(ώ (z="")||!(sg z).all pT) with
 |true =>
  rw[Ô rfl,cg,bu];calc⟨?_,rfl⟩;have:kc z=ύ:=by
   rw[<- ē];intro h;delta kc at h;rw[Å,U] at h;obtain⟨T,K,N⟩:=yK h.1;have mk:=pZ h.2;simp only[ψ,É,û,<- ē,ä] at W
   rcases W with e|e
   ·rw[e] at T;exact absurd T 0e0
   ·refine e λc Z=>Î ?_
    have d:=î (N c Z);have:=mk.lo ((c:Int)-48) (by rw[em];exact å.mpr ⟨c,Z,rfl⟩);omega
  delta oM;rw[Ö (by rw[this];exact Ã)]
 |false =>
  rw[Ö Ã,dD,bp];subst X;rw[Bool.or_eq_false_iff] at W;have M:z≠"":=of_decide_eq_false W.1;have V:∀c∈sg z,pT c=ό:=by
   have:=W.2;rw[Bool.not_eq_false'] at this;exact ä.mp this
  calc afm λR X=>?_;rw[cS,dJ,aI,kg];calc afk (zu rfl) ⟨le_size (by rw[Ä,<- cQ];omega),?_⟩;refine afk (comp_map (λc=>D.str 1e2) (λ_=>ό) (λc:Nat=>D.int ((c:Int)-48)) (sg z) λc Z=>⟨[ϊ (.str 1e2)],rfl,rfl,λ_=>afl ?_⟩) ?_
  ·rw[ow rfl]
   erw[bg];exact afk (ZI (V c Z)) 1e4
  rw[Ľ.mpr (λ_ _=>rfl),aV];have L:((sg z).map λc:Nat=>D.int ((c:Int)-48))=(bw z).map D.int:=by rw[em,ę];rfl
  rw[L];calc afk (show fJ [.lst ((bw z).map D.int)] s=ok (mD (bw z)) s from rfl) ?_;rw[dj];show dh R _ (.nx [ϊ (.str z),ϊ (mD (bw z))]) s;rw[bp];subst X;have lo:∀i∈bw z,0<=i/\i<8:=λi hi=>by
   rw[em] at hi;obtain⟨c,Z,rfl⟩:=å.mp hi;have:=î (V c Z);omega
  have S:gK 8 (dS (bw z)):=⟨λi hi=>lo i (lY.mp hi),u6 _⟩;have lm:(bw z).length<=3000:=by rw[em,Ä,<- cQ];exact hl
  rw[cg,kW,dE,bA];calc afk (show eB zY 4e8 [ϊ (.str z),ϊ (mD (bw z))] s=ok (.lst ((bw z).map D.int)) s from rfl) ?_;refine afk (show e1 si 1e8 [ϊ (.str z),ϊ (mD (bw z))] s=ok (.lst ((dS (bw z)).map D.int)) s from ?_) ?_
  ·show si (.tup ((bw z).map D.int)) s=_
   delta si;dsimp only;rw[Js];dsimp only;rw[Ô (Î ⟨by omega,by have:=S.len;omega⟩)]
  calc afk eqL ?_;rw[cy];have Q:(bw z=dS (bw z))↔kc z=ό:=by
   delta kc;rw[Å,U];constructor
   ·intro e
    have mk:gK 8 (bw z):=by rw[e];exact S
    calc⟨?_,BJ mk 3e0⟩;have ln:=mk.len;rw[em,Ä,<- cQ] at ln;delta jS;erw[Å,É,ä];refine⟨⟨?_,by omega⟩,λc Z=>Î ?_⟩
    ·rw[cQ]
     cases hs:sg z with
     |nil=>exact absurd (sD (y:="") hs) M
     |cons a r=>simp
    ·have:=î (V c Z);omega
   ·intro h
    exact ym (pZ h.2).up (u6 _) λk=>lY.symm
  delta oM;by_cases e:bw z=dS (bw z)
  ·rw[Î e,Ô rfl,Ô (Q.mp e)]
   exact⟨_,_,rfl,rfl,rfl⟩
  ·rw[Û e,Ö Ã,bu,Ö λh=>e (Q.mpr h)]
   exact⟨rfl,rfl⟩
end
section
variable {s:ae} {env:Env} {x y z w a b v:Str} {ws:List Str} {c n m:Nat} {e5:Option D}
def aa0 {x y:D} {b:Bool} (e:aZ x y s=ok (.bl b) s):cG x y s=ok (.bl (!b)) s:=by
 delta aZ at e;delta cG
 cases Z:fx (res x s) (res y s) with
 |none=>rw[Z] at e;cases e
 |some c =>
  rw[Z] at e
  injection e with e
  injection e with e1 _
  injection e1 with e1
  injection e1 with e1
  rw[e1]
def Hj (hs:lg d s=ϊ ds) (h:DI.cD ds=ό):dH .ak d s=ok (.bl (ds.any gb)) s/\gp .ak d s=ok (.bl (!ds.any gb)) s:=by
 have e:inD .ak ds=ϊ (ds.any gb):=by
  delta inD;rw[Ô (by delta mr;rw[h];rfl)];congr 2;funext y
  cases y<;>rfl
 delta dH gp;rw[hs];erw[e];exact⟨rfl,rfl⟩
def MK {b:Bool} {i:Int}:lay (oI b i)=ό:=by cases b<;>rfl
def DW {b:Bool} {i:Int}:gb (oI b i)=!b:=by cases b<;>rfl
abbrev Bi (w a b v x:Str) (p q r t:Option D):Env:=[ϊ 1e3,ϊ (.lst ([w,a,b,v].map D.str)),p,q,r,t]
abbrev pU (w a b v x:Str) (A B:Bool) (r t:Option D):Env:=Bi w a b v x (ϊ (oI A (vI a))) (ϊ (oI B (vI b))) r t
abbrev nY (w a b v x:Str) (A B:Bool) (T:D) (e5:Option D):Env:=pU w a b v x A B (ϊ T) e5
def DY {A B:Bool} (hT:lay T=ό):aD (jt (aF (e2 dH (eC .ak) (cU (af 6e6 (af (aa 3) (af (aa 4) ah)))))) (eC .ak) (cU (af (e2 ar 1e8 1e9) (af 6e6 (af (aa 3) (af (aa 4) ah)))))) (nY w a b v x A B T e5) s=ok (.rt (if (A&&(B&&!gb T))=ό then .tup [.str w,.int (vI a),.int (vI b),T] else .ak)) s:=by
 calc afl ?_;rw[cg,kW,dE,bA,bu,kq];erw[aI,aV,bg,bT];refine⟨le_size (n:=3) 0e0,afk (Hj (ds:=[oI A (vI a),oI B (vI b),T]) rfl (by erw[DI.cD,MK,hT,Ĳ])).1 ?_⟩
 rw[cy,show ([oI A (vI a),oI B (vI b),T].any gb)=!(A&&(B&&!gb T)) by erw[List.any_cons,List.any_nil,DW];cases A<;>cases B<;>cases gb T<;>rfl]
 cases Z:(A&&(B&&!gb T)) with
 |false =>
  rw[į,Ô rfl,bu];exact⟨rfl,rfl⟩
 |true =>
  rw[ò,Ö Ã,kq,aI];erw[Å] at Z;calc afk (show e2 ar 1e8 1e9 (nY w a b v x A B T e5) s=ok (.str w) s from rfl) ?_;erw[aI,aV,bg,bT];rw[Z.1,Z.2.1];exact⟨le_size (n:=4) 0e0,rfl,trivial⟩
def jc (ws:List Str):Bool:=gM ws&&dM (oX ws)
def oP (ws:List Str):D:=if jc ws=ό then (oX ws).d else .ak
def Hk:0<=vI w:=by obtain⟨k,Z⟩:=MJ (w:=w);omega
def gB (v:Str):Bool:=ώ ((sl v).length=2)&&(sl v).all kc
def ZJ {ns:List Int}:cG (.lst 2e8) (.lst []) s=ok (.bl (!ns.isEmpty)) s:=aa0 aaV
def Xz (h:gB v=ό):∃p q,sl v=[p,q]/\kc p=ό/\kc q=ό:=by
 delta gB at h;erw[Å,É] at h
 match Z:sl v,h with
 | [a,b],h =>
  erw[adX,List.all_nil,aev,Å] at h;exact⟨a,b,rfl,h.2.1,h.2.2⟩
 | [],h=>simp at h
 | [_],h=>simp at h
 |_::_::_::_,h=>simp at h
def ML:gb (oM z)=!kc z:=by delta oM;cases kc z<;>rfl
def lay_ints (ns:List Int):lay (mD ns)=ό:=by erw[lay,mW]
def ZK:lay (oM z)=ό:=by delta oM;split;exact lay_ints _;rfl
theorem LM:∀zs:List Str,DI.cD (zs.map oM)=ό
 | []=>rfl
 |z::zs=>by erw[ç,DI.cD,ZK,LM zs,Ĳ]
def VT (hl:x.length<=3000) (hk:ã x=ό):yz [.str x] s=ok (oP (bs x)) s:=by
 have y:(bs x).length<=3002:=vf hl;have I:∀z∈bs x,z.length<=3000:=λz Z=>Ü (qd (c:=32) Z) hl;have L:∀z∈bs x,ã z=ό:=λz Z=>vz (c:=32) Z hk;calc afl ?_;delta yz;calc eO.symm ▸ ⟨rfl,afm λR Y=>?_⟩;rw[cS];calc afk (m6 blank rfl ⋯) ?_;rw[dj];show dh R _ (.nx [ϊ 1e3,ϊ (.lst ((bs x).map D.str)),ϋ,ϋ,ϋ,ϋ]) s;rw[bp];subst Y;generalize bs x=ws at y I L;have e1:aF (e2 cG (eB cM 4e8) (eC (.int 4))) [ϊ 1e3,ϊ (.lst (ws.map D.str)),ϋ,ϋ,ϋ,ϋ] s=ok (!ώ (ws.length=4)) s:=by
  calc afl ?_;erw[dE,bA,dJ,aI,aV,bg,bT,bu];calc afk (qT (by rw[jj];omega)) ?_;rw[jj,DN,cy,show (((ws.length:Int)==4))=ώ (ws.length=4) from AD (m:=4)];exact⟨rfl,rfl⟩
 calc afm λR Y=>?_;rw[kX,qp];calc afk e1 ?_;by_cases V:ws.length=4
 ·obtain⟨w,a,b,v,rfl⟩:=Fx V
  rw[Î V,ò,Ö Ã,dE,bA];calc afk (show e2 ar 1e8 1e9 (Bi w a b v x ϋ ϋ ϋ ϋ) s=ok (.str w) s from rfl) ?_;rw[kq,aI,bu,aI,bu,aV];calc⟨le_size (n:=2) 0e0,afk (ZG (L w ∅) nofun nofun).2 ?_⟩;rw[cy];by_cases hw:w="made"\/w="mended"
  ·rw[Î hw,ò,Ö Ã,dD,bp]
   subst Y;calc afm λR Y=>?_;rw[zm,aI,wp_call,aI];calc afk (show e2 ar 1e8 1e1 (Bi w a b v x ϋ ϋ ϋ ϋ) s=ok (.str a) s from rfl) ?_;rw[aI,bu,aV];calc afk (BK (m:=3) 0e0) ?_;rw[aI,wp_call,aI];calc afk (show e2 ar 1e8 3e9 (Bi w a b v x ϋ ϋ ϋ ϋ) s=ok (.str b) s from rfl) ?_;rw[aI,bu,aV];calc afk (BK (m:=30) 0e0) ?_;rw[aV];calc⟨_,_,rfl,?_⟩;have u:(bB a&&ώ (vI a<=(3:Nat)))=(bB a&&iE (vI a)):=by
    delta iE;rw[Î Hk,ô];congr 1;rw[decide_eq_decide];omega
   have t:(bB b&&ώ (vI b<=(30:Nat)))=(bB b&&ic (vI b)):=by
    delta ic;rw[Î Hk,ô];congr 1;rw[decide_eq_decide];omega
   rw[u,t];generalize H:(bB a&&iE (vI a))=A;generalize G:(bB b&&ic (vI b))=B;show dh R _ (.nx (pU w a b v x A B ϋ ϋ)) s;rw[bp];subst Y;calc afm λR Y=>iG (rH (show e2 ar 1e8 1e9 (pU w a b v x A B ϋ ϋ) s=ok (.str w) s from rfl)) ?_;by_cases X:w="mended"
   ·rw[Î X,Ô rfl,cS,wp_call,aI]
    calc afk (show e2 ar 1e8 4e0 (pU w a b v x A B ϋ ϋ) s=ok (.str v) s from rfl) ?_;rw[aI,bu,aV];calc afk (BK (m:=7) 0e0) ?_;rw[dj];have r:(bB v&&ώ (vI v<=(7:Nat)))=(bB v&&markB (vI v)):=by
     delta markB;rw[Î Hk,ô];congr 1;rw[decide_eq_decide];omega
    rw[r];show dh R _ (.nx (nY w a b v x A B (oI (bB v&&markB (vI v)) (vI v)) ϋ)) s;rw[bp];subst Y;calc afk (DY MK) ?_;rw[fK];calc⟨?_,rfl⟩;have K:¬ w="made":=by rw[X];decide +kernel
    have e:jc [w,a,b,v]=(A&&(B&&!gb (oI (bB v&&markB (vI v)) (vI v)))):=by
     rw[<- H,<- G];delta jc
     show (3e5&&dM (if w="made" then _ else Pg.bM (vI a) (vI b) (vI v)))=_
     rw[Ö K,Ö K,Î X,DW,aei];show ((bB a&&bB b&&(ό&&bB v))&&(iE (vI a)&&ic (vI b)&&markB (vI v)))=_
     cases bB a<;>cases bB b<;>cases bB v<;>cases iE (vI a)<;>cases ic (vI b)<;>rfl
    delta oP;rw[e];split
    ·rename_i h
     erw[Å,DW,aei] at h
     show D.tup [.str w,.int (vI a),.int (vI b),oI (bB v&&markB (vI v)) (vI v)]=(if w="made" then _ else Pg.bM (vI a) (vI b) (vI v)).d
     rw[Ö K,X,h.2.2.1,h.2.2.2];rfl
    ·rfl
   ·rw[Û X,Ö Ã]
    have hw:w="made":=hw.resolve_right X;have lv:=I v ∅;have o:=L v ∅;have hs:(sl v).length<=3002:=vf lv;calc afm λU S=>?_;rw[cS,kg];calc afk (og (ds:=(sl v).map D.str) (m6 Ae (show e2 ar 1e8 4e0 (pU w a b v x A B ϋ ϋ) s=ok (.str v) s from rfl) ⋯)) ⟨le_size (by rw[jj];omega),?_⟩;refine afk (comp_map D.str (λ_=>ό) oM (sl v) λz Z=>⟨[ϊ (.str z)],rfl,rfl,λ_=>afl ?_⟩) ?_
    ·rw[wp_call,aI,bg,aV]
     exact afk (Uc (Ü (qd (c:=47) Z) lv) (vz (c:=47) Z o)) 1e4
    rw[Ľ.mpr (λ_ _=>rfl),dj];show dh U _ (.nx (pU w a b v x A B ϋ (ϊ (.lst ((sl v).map oM))))) s;rw[bp];subst S;have l:fL (aF (e2 aZ (eB cM (af (aa 5) ah)) 3e9)) (aF (e2 gp (eC .ak) (aa 5))) (pU w a b v x A B ϋ (ϊ (.lst ((sl v).map oM)))) s=ok (gB v) s:=by
     calc afl ?_;rw[qi];erw[dE,bA,dJ,aI,aV,bg,bT,bu];calc afk (qT (by rw[Ä];omega)) ?_;rw[Ä,v7,cy,show ((((sl v).length:Int)==2))=ώ ((sl v).length=2) from AD (m:=2)];delta gB
     cases ώ ((sl v).length=2) with
     |false=>rw[Ö Ã];exact⟨rfl,rfl⟩
     |true =>
      rw[Ô rfl];calc afk (Hj rfl (LM _)).2 ?_;rw[cy];calc⟨?_,rfl⟩;rw[ô,aeS,ĝ,û,<- ē,Ť,ä];constructor
      ·intro h z Z
       calc Ģ λq=>h ⟨z,Z,?_⟩;show gb (oM z)=ό;rw[ML,û,<- ē];exact q
      ·rintro h ⟨z,Z,q⟩
       have q:gb (oM z)=ό:=q;rw[ML,h z Z] at q;cases q
    calc afm λU S=>?_;rw[cS,kW];refine afk l ?_
    cases F:gB v with
    |false =>
     rw[Ö Ã,bu,dj];show dh U _ (.nx (nY w a b v x A B .ak (ϊ (.lst ((sl v).map oM))))) s;rw[bp];subst S;refine iG (b:=ύ) (s':=s) (afl ?_) ?_
     ·rw[qi]
      calc afk (show aF (e2 sO (aa 4) (eC .ak)) (nY w a b v x A B .ak (ϊ (.lst ((sl v).map oM)))) s=ok ύ s from rfl) ?_;rw[Ö Ã];exact⟨rfl,rfl⟩
     rw[Ö Ã,dD,bp];subst Y;calc afk (DY (T:=.ak) rfl) ?_;rw[fK];calc⟨?_,rfl⟩;have e:jc [w,a,b,v]=ύ:=by
      rw[<- ē];intro h;delta jc at h
      have h:(3e5&&dM (if w="made" then .made (vI a) (vI b) (gj v 0) (gj v 1) else Pg.bM (vI a) (vI b) (vI v)))=ό:=h
      rw[Ô hw,Ô hw] at h;erw[Å,dM] at h;obtain⟨p,q,e,Q,P⟩:=KL h.1.2;have O:gj v 0=bw p:=by delta gj;rw[e];rfl
      have N:gj v 1=bw q:=by delta gj;rw[e];rfl
      rw[O,N] at h;have:gB v=ό:=by
       delta gB;rw[e];simp[kc,Q,P,h.2.2.1,h.2.2.2.1]
      rw[F] at this;cases this
     delta oP;rw[e,Ö Ã]
     show (if (A&&(B&&!ό))=ό then _ else D.ak)=_
     rw[ò,aeV,aeV,Ö Ã]
    |true =>
     obtain⟨p,q,e,Q,P⟩:=Xz F;have O:gj v 0=bw p:=by delta gj;rw[e];rfl
     have N:gj v 1=bw q:=by delta gj;rw[e];rfl
     have k:oM p=mD (bw p):=Ô Q;have eq:oM q=mD (bw q):=Ô P;have W:=Q;have M:=P;delta kc at W M;rw[Å] at W M;rw[Ô rfl,e];calc afk (show eB fJ (af (aa 5) ah) (pU w a b v x A B ϋ (ϊ (.lst ([p,q].map oM)))) s=ok (.tup [oM p,oM q]) s from rfl) ?_;rw[k,eq,dj];show dh U _ (.nx 4e6) s;rw[bp];subst S;have J:fL (aF (e2 sO (aa 4) (eC .ak))) (aF (e2 cG (cT 1 [4] (cV (e2 ar (aa 4) 1e9)) (gN 0) (aF (e2 dH 0e4 (e2 ar 1e8 1e1))) 0e4) (cz ah))) 4e6 s=ok (!ot (bw p) (bw q)) s:=by
      calc afl ?_;rw[qi];calc afk (show aF (e2 sO (aa 4) (eC .ak)) 4e6 s=ok ό s from rfl) ?_;rw[Ô rfl,dE,bA,kg];have j:=(pZ W.2).len;calc afk (show cV (e2 ar (aa 4) 1e9) 4e6 s=ok ((bw p).map D.int) s from rfl) ⟨le_size (by rw[Ä];omega),?_⟩;refine afk (comp_map D.int (λi=>ώ (i∈bw q)) D.int (bw p) λi _=>⟨[ϊ 4e5,ϊ (.tup [mD (bw p),mD (bw q)])],rfl,afl ?_,λ_=>rfl⟩) ?_
      ·rw[dE,bA,bg]
       calc afk (show e2 ar 1e8 1e1 [ϊ 4e5,ϊ (.tup [mD (bw p),mD (bw q)])] s=ok (mD (bw q)) s from rfl) ?_;calc afk (zR (ns:=bw q) rfl).1 ?_;rw[cy];exact⟨rfl,rfl⟩
      rw[mh,aV];calc⟨le_size (n:=0) 0e0,afk ZJ ?_⟩;rw[cy];calc⟨?_,rfl⟩;delta ot;rw[aei,ĝ,û,<- ē,List.isEmpty_iff,acQ,Ť];simp
     calc iG J ?_;have E:jc [w,a,b,v]=(A&&(B&&ot (bw p) (bw q))):=by
      delta jc
      show (3e5&&dM (if w="made" then .made (vI a) (vI b) (gj v 0) (gj v 1) else Pg.bM (vI a) (vI b) (vI v)))=_
      rw[Ô hw,Ô hw,O,N];have:jb v=ό:=by delta jb;rw[e];simp[W.1,M.1]
      rw[this,<- H,<- G];erw[dM,W.2,M.2,ô,aev]
      cases bB a<;>cases bB b<;>cases iE (vI a)<;>cases ic (vI b)<;>rfl
     cases C:ot (bw p) (bw q) with
     |false =>
      rw[į,Ô rfl,cg,bu];rw[iW,fK];calc⟨?_,rfl⟩;delta oP;rw[E,C,aeV,aeV,Ö Ã]
     |true =>
      rw[ò,Ö Ã,dD,bp];subst Y;calc afk (DY (T:=.tup [mD (bw p),mD (bw q)]) (by erw[lay,DI.cD,mW,Ĳ])) ?_;rw[fK];calc⟨?_,rfl⟩;delta oP;rw[E,C]
      show (if (A&&(B&&ό))=ό then _ else D.ak)=_
      split
      ·show D.tup [.str w,.int (vI a),.int (vI b),.tup [mD (bw p),mD (bw q)]]=(if w="made" then .made (vI a) (vI b) (gj v 0) (gj v 1) else Pg.bM (vI a) (vI b) (vI v)).d
       rw[Ô hw,O,N,hw];rfl
      ·rfl
  ·rw[Û hw,į,Ô rfl,cg,bu,iW,fK]
   calc⟨?_,rfl⟩;delta oP jc;rw[VQ hw,η,Ö Ã]
 ·rw[Û V,į,Ô rfl,Ô rfl,cg,bu,iW,fK]
  calc⟨?_,rfl⟩;delta oP jc;rw[DT V,η,Ö Ã]
end
section
variable {s s':ae} {env env':Env} {x y z t:Str} {ws ls:List Str} {ps:List Pg} {st cx:afb Fl} {er:bb} {f:afb D}
def qv (h:st env s=ok (.nx env') s'):aw st cx env s=cx env' s':=by delta aw;rw[h];rfl
def zT (h:st env s=ϊ (.error er,s')):aw st cx env s=ϊ (.error er,s'):=by delta aw;rw[h];rfl
def Hl (s:ae):Res D:=ϊ 8e3
def Q3 (hl:x.length<=3000):mV [.str x] s=if gM (bs x)=ό then ok (oX (bs x)).d s else Hl s:=by
 have V:(bs x).length<=3002:=vf hl;have X:∀z∈bs x,z.length<=3000:=λz W=>Ü (qd (c:=32) W) hl;have Z:fM (dO (aE uX 4e8)) [ϊ 1e3,ϊ (.lst ((bs x).map D.str))] s=ok (!gM (bs x)) s:=by
  calc afl ?_;erw[su,oq,wp_call,aI,aV,bg,bT];calc afk (Sv ⋯ X) ?_;rw[m9];exact⟨rfl,rfl⟩
 delta mV aU;show aj (aw _ _ [ϊ 1e3,ϋ] s) _=_;rw[qv (env':=[ϊ 1e3,ϊ (.lst ((bs x).map D.str))]) (show aQ (dU iV 0e4 (eC (.str " "))) (gN 1) [ϊ 1e3,ϋ] s=_ by delta aQ;rw[m6 blank (show aa 0 [ϊ 1e3,ϋ] s=ok 1e3 s from rfl) ⋯];rfl)]
 cases Y:gM (bs x) with
 |true =>
  rw[Y] at Z;obtain⟨p,U,e,hs⟩:=Jc X Y;rw[Ô rfl,qv (show bc _ _ _ [ϊ 1e3,ϊ (.lst ((bs x).map D.str))] s=ok (.nx [ϊ 1e3,ϊ (.lst ((bs x).map D.str))]) s by delta bc;rw[Z];rfl),<- e];delta aD aE;show aj (aj (ne (rV [.lst ((bs x).map D.str)] s)) _) _=_;rw[hs];rfl
 |false =>
  rw[Y] at Z;rw[Ö Ã,zT (show bc _ _ _ [ϊ 1e3,ϊ (.lst ((bs x).map D.str))] s=ϊ 8e3 by delta bc;rw[Z];rfl)];rfl
abbrev cH (ls:List Str):List Pg:=ls.map λl=>oX (bs l)
theorem LN:∀{ls:List Str},(∀l∈ls,l.length<=3000)->ua (md mV 2e4) (ls.map D.str) s=if (ls.all λl=>gM (bs l))=ό then ok ((cH ls).map Pg.d) s else ϊ 8e3
 | [],_=>rfl
 |l::ls,h=>by
  have ih:=LN (ls:=ls) λz Z=>h z (Ì _ Z);show aj (mV [.str l] s) _=_;rw[Q3 (h l ∅),adX]
  cases Y:gM (bs l) with
  |false=>rw[Ö Ã,η,Ö Ã];rfl
  |true =>
   rw[Ô rfl,ô,cL];show aj (ua _ (ls.map D.str) s) _=_;rw[ih]
   split<;>rfl
def rJ (ls:List Str) (t:Str):Bool:=ώ (t="")&&((ls.all λl=>gM (bs l))&&eQ 3e4)
def VU (h:∀l∈ls,l.length<=3000) (hp:(ls.all λl=>gM (bs l))=ό):∀p∈cH ls,oW p:=λp Y=>by
 obtain⟨l,Z,rfl⟩:=å.mp Y;obtain⟨q,X,e,_⟩:=Jc (λz W=>Ü (qd (c:=32) W) (h l Z)) (ä.mp hp l Z);show oW (oX (bs l));rw[<- e];exact X
def JL (hl:ps.length<64):kT [.lst 6e4] s=ok (.lst ((ST.cJ bR ps).map Pg.d)) s:=by
 show (if (ps.map Pg.d).length<64 then bW (wG 6e4) s else ϋ)=_
 rw[Ä,Ô hl,Ck];rfl
def JM {e2:Option D}:dI 1e8 cX (bQ (e1 ji 1e1)) [ϊ 1e3,ϊ 1e6,e2] s=ok (.lst (ls.map D.str)) s:=afl (by
 rw[NM,bT,bg,Mz,C3 (show e1 ji 1e1 _ s=ok (.int (-1)) s from rfl),ĩ];exact afk VP 1e4)
def BW {e2:Option D}:aF (DI.e2 cG (DI.e2 ar 1e8 (e1 ji 1e1)) (eC (.str ""))) [ϊ 1e3,ϊ 1e6,e2] s=ok (!ώ (t="")) s:=afl (by
 rw[ĩ];erw[dE,bA,Et,bg,bT,bu];calc afk (show ji (.int 1) s=ok (.int (-1)) s from rfl) (afk VO (afk OG ?_));rw[cy];exact⟨rfl,rfl⟩)
def XA (h:f env s=ϊ (.error er,s)):aQ (eB fJ (af (eB kT (af f ah)) ah)) (gN 2) env s=ϊ (.error er,s):=by
 show aj (aj (aj (aj (aj 2e2 _) _) _) _) _=_;rw[h];rfl
def Q4 (hx:Ă x 8e2=ls++[t]) (hl:x.length<=3000) (hn:ls.length<=60):pX [.str x] s=if rJ ls t=ό then ok (bD 3e4) s else Hl s:=by
 have W:∀z∈ls,z.length<=3000:=λz T=>Ü (qd (c:=10) (by rw[hx];exact Ā _ T)) hl;delta pX aU;show aj (aw _ _ [ϊ 1e3,ϋ,ϋ] s) _=_;rw[qv (env':=[ϊ 1e3,ϋ,ϋ]) (show bc _ _ _ [ϊ 1e3,ϋ,ϋ] s=_ from rfl)];rw[qv (env':=[ϊ 1e3,ϊ 1e6,ϋ]) (show aQ (dU iV 0e4 8e6) (gN 1) [ϊ 1e3,ϋ,ϋ] s=_ by delta aQ;rw[m6 lend (show aa 0 [ϊ 1e3,ϋ,ϋ] s=ok 1e3 s from rfl) ⋯,hx];rfl)];delta rJ
 cases V:ώ (t="") with
 |false =>
  rw[zT (show bc _ _ _ [ϊ 1e3,ϊ 1e6,ϋ] s=ϊ 8e3 by delta bc;rw[BW,V];rfl),η,Ö Ã];rfl
 |true =>
  rw[qv (show bc _ _ _ [ϊ 1e3,ϊ 1e6,ϋ] s=ok (.nx [ϊ 1e3,ϊ 1e6,ϋ]) s by delta bc;rw[BW,V];rfl),ô]
  have Z:qo (cV (dI 1e8 cX (bQ (e1 ji 1e1)))) (md mV 2e4) [ϊ 1e3,ϊ 1e6,ϋ] s=if (ls.all λl=>gM (bs l))=ό then ok (.lst ((cH ls).map Pg.d)) s else ϊ (.error ⟨"NoText",ϋ⟩,s):=by
   delta qo;rw[og (JM (x:=x) (t:=t)),cL];delta jg;rw[Ô (le_size (by rw[jj];omega)),LN W]
   split<;>rfl
  cases X:(ls.all λl=>gM (bs l)) with
  |false =>
   rw[X,Ö Ã] at Z;rw[zT (show aQ (eB fJ (af (eB kT (af (qo (cV (dI 1e8 cX (bQ (e1 ji 1e1)))) (md mV 2e4)) ah)) ah)) (gN 2) [ϊ 1e3,ϊ 1e6,ϋ] s=ϊ 8e3 from XA Z),η,Ö Ã];rfl
  |true =>
   rw[X,Ô rfl] at Z;have S:rS [bD 3e4] s=ok (.bl (eQ 3e4)) s:=Xk (by rw[(ST.pY (cH ls)).length_eq,Ä];omega) λp h=>VU W X p ((ST.pY (cH ls)).mem_iff.mp h);rw[qv (env':=[ϊ 1e3,ϊ 1e6,ϊ (bD 3e4)]) (show aQ (eB fJ (af (eB kT (af (qo (cV (dI 1e8 cX (bQ (e1 ji 1e1)))) (md mV 2e4)) ah)) ah)) (gN 2) [ϊ 1e3,ϊ 1e6,ϋ] s=_ from afl (by
    rw[cS,dJ,aI,dJ,aI];calc afk Z ?_;rw[aV];calc afk (JL (by rw[Ä];omega)) ?_;rw[aV];calc afk (show fJ [.lst ((ST.cJ bR (cH ls)).map Pg.d)] s=ok (bD 3e4) s from rfl) ?_;rw[dj];exact⟨rfl,rfl⟩)),ô]
   have Y:fM (dO (aE rS (af 6e6 ah))) [ϊ 1e3,ϊ 1e6,ϊ (bD 3e4)] s=ok (!eQ 3e4) s:=by
    calc afl ?_;erw[su,oq,wp_call,aI,aV,bg,bT];calc afk S ?_;rw[m9];exact⟨rfl,rfl⟩
   cases U:eQ 3e4 with
   |true =>
    rw[U] at Y;rw[Ô rfl,qv (show bc _ _ _ [ϊ 1e3,ϊ 1e6,ϊ (bD 3e4)] s=ok (.nx [ϊ 1e3,ϊ 1e6,ϊ (bD 3e4)]) s by delta bc;rw[Y];rfl)];rfl
   |false =>
    rw[U] at Y;rw[Ö Ã,zT (show bc _ _ _ [ϊ 1e3,ϊ 1e6,ϊ (bD 3e4)] s=ϊ 8e3 by delta bc;rw[Y];rfl)];rfl
end
section
variable {s s':ae} {env env':Env} {x y z t:Str} {ws ls:List Str} {ps:List Pg}
theorem KN:∀{ps:List Pg},qB ps=ό->ps.Pairwise λa b=>bR.lt a b=ό
 | [],_=>.nil
 | [a],_=>by simp
 |a::b::r,h=>by
  delta qB at h;erw[aeG,ν,Į,adX,Å] at h;have ih:=KN (ps:=b::r) (by delta qB;exact h.2);refine þ.mpr ⟨λx hx=>?_,ih⟩
  rcases Ï.mp hx with rfl|hx
  ·exact h.1
  ·exact bR.tr _ _ _ h.1 ((þ.mp ih).1 x hx)
def XB (hb:eQ ps=ό):Laid ps:=by
 have h:=hb;delta eQ jJ at h;erw[Å,É] at h;exact⟨(zS hb).1,KN h.1.2.2⟩
theorem MM:∀l:List Pg,(iR l).length<=l.length
 | []=>afn _
 |q::r=>by
  have:=MM r;delta iR;split
  ·rw[æ];omega
  ·rw[æ,æ];omega
theorem MN:∀l:List Pg,(iR l).length<l.length↔¬ l.Nodup
 | []=>⟨λh=>absurd h (ñ _),λh=>absurd adp h⟩
 |q::r=>by
  have ih:=MN r;have Z:=MM r;rw[Ű];delta iR;split
  ·rename_i h
   rw[æ];exact⟨λ_ z=>z.1 h,λ_=>by omega⟩
  ·rename_i h
   rw[æ,æ,Nat.add_lt_add_iff_right,ih];exact⟨λn z=>n z.2,λn z=>n ⟨h,z⟩⟩
def VV:eQ (ST.cJ bR ps)=ό↔(∀p∈ps,dM p=ό)/\ps.Nodup/\iw ps=ό:=by
 have pm:=ST.pY (O:=bR) ps;constructor
 ·intro h
  have Z:=XB h;calc⟨λp Y=>Z.pg p (pm.mem_iff.mpr Y),pm.nodup_iff.mp (Z.up.imp λ{a b} h e=>by rw[e,bR.A0] at h;cases h),?_⟩;rw[<- LJ pm,LG Z];exact h
 ·intro ⟨X,W,V⟩
  exact Jb X W V
def uV (l:List Pg):Bool:=!ώ ((iR l).length<l.length)
def ZL:uV l=ό↔l.Nodup:=by
 delta uV;rw[û,decide_eq_false_iff_not,MN,Classical.not_not]
def Hm (ls:List Str) (t:Str):Bool:=ώ (t="")&&((ls.all λl=>jc (bs l))&&(uV (cH ls)&&iw (cH ls)))
def ZM:Hm ls t=rJ ls t:=by
 delta Hm rJ;congr 1;rw[ĝ];erw[Å,É,VV,ä,jc,ZL];constructor
 ·intro ⟨Y,X,W⟩
  calc⟨λl Z=>(Y l Z).1,λp V=>?_,X,W⟩;obtain⟨l,Z,rfl⟩:=å.mp V;exact(Y l Z).2
 ·intro ⟨Y,X,W,U⟩
  exact⟨λl Z=>⟨Y l Z,X _ (å.mpr ⟨l,Z,rfl⟩)⟩,W,U⟩
def MO:gb (oP ws)=!jc ws:=by
 delta oP
 cases jc ws with
 |true=>rw[Ô rfl];cases oX ws<;>rfl
 |false=>rfl
def ZN:lay (oP ws)=ό:=by delta oP;split;exact DP _;rfl
theorem LO:∀ls:List Str,DI.cD (ls.map λl=>oP (bs l))=ό
 | []=>rfl
 |l::ls=>by erw[ç,DI.cD,ZN,LO ls,Ĳ]
def yh (ls:List Str) (t:Str):D:=if rJ ls t=ό then bD 3e4 else .ak
def VW (hx:Ă x 8e2=ls++[t]) (hl:x.length<=3000) (hk:ã x=ό) (hn:ls.length<=60):Wp (zj [.str x] s) λd s'=>d=yh ls t/\Kp s s':=by
 have Y:∀z∈ls,z∈Ă x ⟨#[10]⟩:=λz V=>by rw[hx];exact Ā _ V
 delta yh;rw[<- ZM];delta zj;calc eO.symm ▸ ⟨rfl,afm λR Z=>?_⟩;rw[cS];calc afk (m6 lend rfl ⋯) ?_;rw[hx,dj];show dh R _ (.nx [ϊ 1e3,ϊ 1e6,ϋ]) s;rw[bp];subst Z;calc afm λR Z=>?_;rw[cS,kg];calc afk (og JM) ⟨le_size (by rw[jj];omega),?_⟩;refine afk (comp_map D.str (λ_=>ό) (λl=>oP (bs l)) ls λl h=>⟨[ϊ (.str l)],rfl,rfl,λ_=>afl (by
  erw[wp_call,aI,aV,bg];exact afk (VT (Ü (qd (c:=10) (Y l h)) hl) (vz (c:=10) (Y l h) hk)) 1e4)⟩) ?_
 rw[Ľ.mpr (λ_ _=>rfl),dj];show dh R _ (.nx [ϊ 1e3,ϊ 1e6,ϊ (.lst (ls.map λl=>oP (bs l)))]) s;rw[bp];subst Z;have U:((ls.map λl=>oP (bs l)).any gb)=!(ls.all λl=>jc (bs l)):=by
  rw[aeS,ĝ,û,<- ē,Ť,ä];constructor
  ·rintro ⟨l,hl,q⟩ h
   have q:gb (oP (bs l))=ό:=q;rw[MO,h l hl] at q;cases q
  ·intro h
   calc Ģ λq=>h λl hl=>Ģ λT=>q ⟨l,hl,?_⟩;show gb (oP (bs l))=ό;rw[MO,û,<- ē];exact T
 calc afm λR Z=>?_;rw[kX,qp];calc afk BW ?_;delta Hm
 cases ώ (t="") with
 |false =>
  rw[į,Ô rfl,Ô rfl,cg,bu,iW,fK];exact⟨rfl,Kp.refl s⟩
 |true =>
  rw[ò,Ö Ã,qp];erw[dE,bA,bu,bg,bT];calc afk (Hj rfl (LO ls)).1 ?_;rw[cy,U]
  cases S:(ls.all λl=>jc (bs l)) with
  |false =>
   rw[į,Ô rfl,Ô trivial,cg,bu,iW,fK];exact⟨rfl,Kp.refl s⟩
  |true =>
   have Q:(ls.map λl=>oP (bs l))=(cH ls).map Pg.d:=by
    rw[ę];exact aez λl hl=>Ô (ä.mp S l hl)
   have O:(cH ls).length=ls.length:=Ä ..;rw[ò,Ö Ã,qp,Q];erw[dE,bA,Et,dJ,aI,aV,bg,bT];refine afk (show zi (.lst ((cH ls).map Pg.d)) s=ok (.int (iR (cH ls)).length) s from ?_) ?_
   ·show (if ((cH ls).map Pg.d).length<=60 then bW (wN ((cH ls).map Pg.d)) s else ϋ)=_
    rw[Ä,Ô ⋯,Kh];rfl
   calc afk (qT (by rw[Ä];omega)) ?_;rw[Ä,DM,cy,show ώ (((iR (cH ls)).length:Int)<((cH ls).length:Int))=!uV (cH ls) by
    delta uV;rw[aei,decide_eq_decide];omega]
   cases uV (cH ls) with
   |false =>
    rw[į,Ô rfl,Ô trivial,cg,bu,iW,fK];exact⟨rfl,Kp.refl s⟩
   |true =>
    rw[ò,Ö Ã];erw[su,oq,wp_call,aI,aV,bg,bT];refine(MF ⋯).mono λd X P=>?_;obtain⟨rfl,W⟩:=P;rw[m9]
    cases N:iw (cH ls) with
    |false =>
     rw[į,Ô rfl,cg,bu,iW,fK];exact⟨rfl,W⟩
    |true =>
     rw[ò,Ö Ã,dD,bp];subst Z;rw[cg,dJ,aI,dJ,aI];erw[bg,bT,aV];calc afk (JL ⋯) ?_;calc afk (show fJ [.lst ((ST.cJ bR (cH ls)).map Pg.d)] X=ok (bD 3e4) X from rfl) ?_;rw[fK];exact⟨rfl,W⟩
end
section
variable {s s':ae} {env:Env} {x y z:Str} {f g:afb D} {N M N' M':Nat} {fa:afb (List D)} {k:Nat}
abbrev nl (x:Str):Nat:=(sg x).count 10
structure TO (N M:Nat) (y:Str):Prop where
 len:y.length<=N
 cnt:nl y<=M
 lW:ã y=ό
def TO.up (h:TO N M y) (hn:N<=N') (hm:M<=M'):TO N' M' y:=⟨Ü h.len hn,Ü h.cnt hm,h.lW⟩
def TO.app (h:TO N M x) (g:TO N' M' y):TO (N+N') (M+M') (x++y):=⟨by have:=h.len;have:=g.len;rw[iU];omega,by have a:(sg x).count 10<=M:=h.cnt;have b:(sg y).count 10<=M':=g.cnt;show (sg (x++y)).count 10<=_;rw[ou,List.count_append];omega,kh h.lW g.lW⟩
theorem LP {l:List Nat} {a:Nat}:∀k,a+k<=l.length->(ö k).filterMap (λj=>l[a+j]?)=(l.drop a).take k
 |0,_=>rfl
 |k+1,h=>by
  rw[List.range_succ,List.filterMap_append,LP k ⋯,List.take_add_one,List.getElem?_drop];congr 1
def idx_eq:ĭ lo hi 1 n=(ö (HT.aP n n hi-HT.aP n 0 lo)).map (HT.aP n 0 lo + ·):=by
 have e:∀(v:Int) (d:Nat),(if (1:Int) > 0 then max 0 (min (if v<0 then v+(n:Int) else v) n) else max (-1) (min (if v<0 then v+(n:Int) else v) (n-1)))=((HT.aP n d (ϊ v):Nat):Int):=λv d=>by
  show _=((if v<0 then (v+(n:Int)).toNat else min v.toNat n:Nat):Int)
  rw[Ô 0e0]
  split<;>omega
 rw[<- sliceRange_one]
 cases lo with
 |none=>cases hi with
  |none=>rfl
  |some v=>exact ĵ (λb=>sliceRange 0 b 1) (e v n)
 |some u=>cases hi with
  |none=>exact ĵ (λa=>sliceRange a n 1) (e u 0)
  |some v =>
   show sliceRange (if (1:Int) > 0 then max 0 (min (if u<0 then u+(n:Int) else u) n) else max (-1) (min (if u<0 then u+(n:Int) else u) (n-1))) (if (1:Int) > 0 then max 0 (min (if v<0 then v+(n:Int) else v) n) else max (-1) (min (if v<0 then v+(n:Int) else v) (n-1))) 1=_
   rw[e u 0,e v n]
def sT {lo hi:Option Int}:sg (de 1 x lo hi)=((sg x).drop (HT.aP x.length 0 lo)).take (HT.aP x.length x.length hi-HT.aP x.length 0 lo):=by
 have Z:=HT.Dj x.length 0 (ą _) lo;have Y:=HT.Dj x.length x.length 3e0 hi;delta de;rw[idx_eq];split
 ·rename_i h
  erw[Å,beq_iff_eq,Ä,adb] at h;have e:HT.aP x.length 0 lo=0:=by omega
  rw[e,ν,ų (by rw[<- cQ];omega)]
 ·show (((ö _).map _).filterMap λi=>x.cps[i]?).toArray.toList=_
  rw[List.filterMap_map];have:=LP (l:=sg x) (a:=HT.aP x.length 0 lo) (HT.aP x.length x.length hi-HT.aP x.length 0 lo) (by rw[<- cQ];omega);rw[<- this];show List.filterMap _ _=_;congr 1;funext j;show x.cps[_]?=(sg x)[_]?;rw[show sg x=x.cps.toList from rfl,ù]
def XC {l:List Nat} (h:ã x=ό) (hs:∀n∈sg y,n∈sg x):ã y=ό:=iz.mpr λn Z=>iz.mp h n (hs n Z)
def XD (h:n∈sg (de 1 x lo hi)):n∈sg x:=by
 rw[sT] at h;exact adj (adi h)
def zv (h:TO N M x):TO N M (de 1 x lo hi):=by
 refine⟨?_,?_,XC (l:=[]) h.lW λn=>XD⟩
 ·rw[cQ,sT]
  have:=h.len;rw[cQ] at this;exact Ü ((ad5 _ _).trans (ad9 _ _)).length_le this
 ·show (sg (de 1 x lo hi)).count 10<=M
  rw[sT];exact Ü (((ad5 _ _).trans (ad9 _ _)).count_le 10) h.cnt
def C9 (h:TO N M x) (h0:0<=a) (h1:a<=b):∃n m n' m',TO n m (de 1 x ϋ (ϊ a))/\TO n' m' (de 1 x (ϊ b) ϋ)/\n+n'<=N/\m+m'<=M:=by
 have e1:sg (de 1 x ϋ (ϊ a))=(sg x).take (min a.toNat x.length):=by
  rw[sT]
  show ((sg x).drop 0).take ((if a<0 then _ else min a.toNat x.length)-0)=_
  rw[Ö ⋯,ν,Nat.sub_zero]
 have e2:sg (de 1 x (ϊ b) ϋ)=(sg x).drop (min b.toNat x.length):=by
  rw[sT]
  show ((sg x).drop (if b<0 then _ else min b.toNat x.length)).take (x.length-if b<0 then _ else min b.toNat x.length)=_
  rw[Ö ⋯,ų (by rw[Ŕ,<- cQ];exact afn _)]
 have ln:=h.len;have Z:=h.cnt;refine⟨_,_,_,_,⟨afn _,afn _,(zv h).lW⟩,⟨afn _,afn _,(zv h).lW⟩,?_,?_⟩
 ·rw[cQ,cQ,e1,e2,ĉ,Ŕ,<- cQ]
  omega
 ·show (sg _).count 10+(sg _).count 10<=M
  rw[e1,e2];have Y:(sg x).count 10=((sg x).take (min a.toNat x.length)).count 10+((sg x).drop (min a.toNat x.length)).count 10:=by rw[<- List.count_append,ac3]
  have X:((sg x).drop (min b.toNat x.length)).count 10<=((sg x).drop (min a.toNat x.length)).count 10:=(List.drop_sublist_drop_left (sg x) ⋯).count_le 10;have:(sg x).count 10<=M:=Z;omega
def ZO (n:Nat):(ĭ ϋ ϋ (-1) n).length<=n:=by
 delta ĭ;have:=PySem.sliceRange_len_le ((n:Int)-1) (-1) (-1) 0e0;simp only[show ¬ ((-1:Int) > 0) by decide,õ] at this |-;exact Ü this ⋯
def XE (h:TO N M x):TO N N (de (-1) x ϋ ϋ):=by
 have key:(de (-1) x ϋ ϋ).length<=N/\ã (de (-1) x ϋ ϋ)=ό:=by
  delta de;split
  ·exact⟨h.len,h.lW⟩
  ·refine⟨?_,iz.mpr λn Z=>?_⟩
   ·rw[cQ]
    show (List.filterMap _ _).length<=N;have:=List.length_filterMap_le (λi=>x.cps[i]?) (ĭ ϋ ϋ (-1) x.length);have:=ZO x.length;have:=h.len;omega
   ·have Z:n∈List.filterMap (λi=>x.cps[i]?) (ĭ ϋ ϋ (-1) x.length):=by simpa using Z
    obtain⟨i,_,e⟩:=Š.mp Z;exact iz.mp h.lW n (aep.mpr (Array.mem_of_getElem? e))
 calc⟨key.1,Ü aeq ?_,key.2⟩;rw[<- cQ];exact key.1
def df (zs:List Str):Nat:=(zs.map λz=>z.length+1).sum
def Dc:df (a++b)=df a+df b:=by delta df;rw[ĩ,List.sum_append]
structure TL (n T:Nat) (zs:List Str):Prop where
 len:zs.length<=n
 df:df zs<=T
 ok:∀z∈zs,ã z=ό/\10∉sg z
variable {n T n' T':Nat} {zs us:List Str}
def TL.app (h:TL n T zs) (g:TL n' T' us):TL (n+n') (T+T') (zs++us):=⟨by have:=h.len;have:=g.len;rw[à];omega,by have:=h.df;have:=g.df;rw[Dc];omega,λz Z=>(Ć.mp Z).elim (h.ok z) (g.ok z)⟩
theorem DZ:∀{ps:List (List Nat)} {c:Nat},ps≠[]->(jl c ps).length+1=(ps.map λp=>p.length+1).sum
 | [p],c,_=>by show p.length+1=_;simp
 |p::q::r,c,_=>by
  have ih:=DZ (ps:=q::r) (c:=c) ∅;show (p++c::jl c (q::r)).length+1=((p.length+1)::((q::r).map λp=>p.length+1)).sum;rw[List.sum_cons,<- ih,à,æ];omega
theorem D1:∀{ps:List (List Nat)} {c:Nat},ps≠[]->(∀p∈ps,c∉p)->(jl c ps).count c+1=ps.length
 | [p],c,_,h=>by
  show p.count c+1=1;rw[List.count_eq_zero.mpr (h p ∅)]
 |p::q::r,c,_,h=>by
  have ih:=D1 (ps:=q::r) (c:=c) ∅ λz Z=>h z (Ì _ Z);show (p++c::jl c (q::r)).count c+1=_;rw[List.count_append,List.count_eq_zero.mpr (h p ∅),List.count_cons_self,æ];omega
def MP:df zs=((zs.map sg).map λp=>p.length+1).sum:=by
 delta df;rw[ę];congr 1
def qD (x:Str) (c:Nat):Ă x 1e2≠[]:=λe=>by
 have:=ad4 x 1e2;rw[e] at this;simp at this
def JN:df (Ă x 1e2)=x.length+1:=by
 rw[MP,<- DZ (c:=c) (by simpa using qD x c),<- jA,ζ,<- cQ]
def BX:(Ă x 8e2).length=nl x+1:=by
 have:=D1 (ps:=(Ă x 8e2).map sg) (c:=10) (by simpa using qD x 10) λp Z=>by
  obtain⟨z,Y,rfl⟩:=å.mp Z;exact aeT _ _ z Y
 rw[<- jA,ζ,Ä] at this;exact this.symm
def Cv (h:TO N M x):TL (M+1) (N+1) (Ă x 8e2):=⟨by rw[BX];have:=h.cnt;omega,by rw[JN];have:=h.len;omega,λz Z=>⟨vz Z h.lW,aeT _ _ z Z⟩⟩
theorem ED:∀{ps:List (List Nat)} {c m:Nat},m∈jl c ps->m=c\/∃p∈ps,m∈p
 | [],_,_,h=>by cases h
 | [p],_,_,h=>.inr ⟨p,by simp,h⟩
 |p::q::r,c,m,h=>by
  rcases Ć.mp (show m∈p++c::jl c (q::r) from h) with h|h
  ·exact .inr ⟨p,by simp,h⟩
  ·rcases Ï.mp h with h|h
   ·exact .inl h
   ·rcases ED h with h | ⟨u,Z,h⟩
    ·exact .inl h
    ·exact .inr ⟨u,Ì _ Z,h⟩
def zw (hc:c<1114112) (h:TL n T zs):(Ŏ 1e2 zs).length<=T/\ã (Ŏ 1e2 zs)=ό:=by
 refine⟨?_,iz.mpr λm Z=>?_⟩
 ·by_cases e:zs=[]
  ·rw[e];exact ą _
  ·have:=DZ (c:=c) (ps:=zs.map sg) (by simpa using e)
   rw[<- jA,<- cQ,<- MP] at this;have:=h.df;omega
 ·rw[jA] at Z
  rcases ED Z with e | ⟨p,Y,e⟩
  ·rw[e];exact hc
  ·obtain⟨z,X,rfl⟩:=å.mp Y
   exact iz.mp (h.ok z X).1 m e
def BY (h:TL n T zs):TO T n (Ŏ 8e2 zs):=by
 calc⟨(zw 0e0 h).1,?_,(zw 0e0 h).2⟩;by_cases e:zs=[]
 ·rw[e];exact ą _
 ·have:=D1 (c:=10) (ps:=zs.map sg) (by simpa using e) λp Z=>by
   obtain⟨z,Y,rfl⟩:=å.mp Z;exact(h.ok z Y).2
  rw[<- jA,Ä] at this;have:=h.len;show (sg _).count 10<=n;omega
def Ud (h:TL n T zs):(Ŏ ⟨#[32]⟩ zs).length<=T/\ã (Ŏ ⟨#[32]⟩ zs)=ό/\10∉sg (Ŏ ⟨#[32]⟩ zs):=by
 calc⟨(zw 0e0 h).1,(zw 0e0 h).2,λZ=>?_⟩;rw[jA] at Z
 rcases ED Z with e | ⟨p,Y,e⟩
 ·cases e
 ·obtain⟨z,X,rfl⟩:=å.mp Y
  exact(h.ok z X).2 e
def VX (h1:ã x=ό) (h2:10∉sg x) (hl:x.length<=3000):TL 3002 (x.length+1) (bs x):=⟨vf hl,by rw[JN];exact afn _,λz Z=>⟨vz Z h1,λY=>h2 (by
 have e:=ζ x ⟨#[32]⟩;rw[<- e,jA];exact DU (å.mpr ⟨z,Z,rfl⟩) Y)⟩⟩
end
section
variable {s s':ae} {env:Env} {x y z sn:Str} {f g:afb D} {N M N' M' n T n' T':Nat} {fa:afb (List D)} {k:Nat} {at' way cF i j:Int} {zs us ws:List Str}
def ng (h:Sf s k) (h0:e0 env s=ok (.aK k) s) (hm:fm env s=ok (.int m) s) (h1:0<m) (h2:m<1073741824) (q:∀(r:Int) s',0<=r->r<m->Sf s' k->Ex k s s'->Q (.int r) s'):Wp (aE bK.dW (af e0 (af fm ah)) env s) Q:=by
 rw[wp_call,aI];calc afk h0 ?_;rw[aI];calc afk hm ?_;rw[aV];refine(kY h h1 h2).mono λd Z Y=>?_;obtain⟨r,rfl,X,W,g1,V⟩:=Y;exact q r Z X W g1 V
def Dp {r:Int} (hl:x.length<=1000) (h0:0<=r) (h1:r<x.length):∃c,c∈sg x/\ar 1e3 (.int r) s=ok (.str 1e2) s:=by
 obtain⟨c,e1,e2⟩:=v5 (xs:=sg x) h0 (by rw[<- cQ];exact h1);refine⟨c,Ē e2,?_⟩
 show bW (if ώ (x.length<=Ù)=ό then (dw (sg x) r).map λc=>D.str 1e2 else ϋ) s=_
 rw[Ô (Î (le_size ⋯)),e1];rfl
def rK:Str:=" !\"#$&'()*+,-./0123456789:;<=>?@ABCDEFGHIJKLMNOPQRSTUVWXYZ[\\]^_`abcdefghijklmnopqrstuvwxyz{|}~\t\n"
def SG:Str:=rK++Txt.mul "0123456789 -/" 3
def aa1:(ώ (0<SG.length)&&ώ (SG.length<=200)&&ã SG)=ό:=nofun
def acw:MulOk "0123456789 -/" 3:=⟨by decide,λ_ _=>by decide,λ_ _=>by decide +kernel⟩
def acx:MulOk "9" 30:=⟨by decide,λ_ _=>by decide,λ_ _=>by decide +kernel⟩
def ZP (h:ã x=ό) (hc:c∈sg x):TO 1 1 ⟨#[c]⟩:=⟨afn _,aeq,iz.mpr λn Z=>by
 have:n=c:=by simpa using Z
 rw[this];exact iz.mp h c hc⟩
def tx (f:afb D) (env:Env) (s:ae) (N M:Nat):Prop:=∃y,f env s=ok (.str y) s/\TO N M y
def EE (e:f env s=ok (.str y) s) (h:TO N M y):tx f env s N M:=⟨y,e,h⟩
def nj (hf:tx f env s N M) (hg:tx g env s N' M') (h:N+N'<=1000000):tx (e2 aY f g) env s (N+N') (M+M'):=by
 obtain⟨y,e1,Z⟩:=hf;obtain⟨z,e2,Y⟩:=hg;have X:=Z.len;have W:=Y.len;calc⟨y++z,afl ?_,Z.app Y⟩;rw[bA];exact afk e1 (afk e2 (afk (jR ⋯) 1e4))
def oJ (e:f env s=ok (.str y) s) (hl:l env s=ok lo s) (hh:h env s=ok hi s) (ht:TO N M (de 1 y lo hi)) (hN:N<=1000000):tx (lC f l h) env s N M:=by
 calc⟨_,?_,ht⟩;delta lC;rw[e,cL,hl,cL,hh,cL]
 show (if ώ ((de 1 y lo hi).length<=Ù)=ό then ok (D.str (de 1 y lo hi)) s else ϋ)=_
 rw[Ô (Î (le_size (by have:=ht.len;omega)))]
def ZQ (hf:tx f env s N M) (hN:N<=1000000):tx (e1 xi f) env s N N:=by
 obtain⟨y,e,Y⟩:=hf;have Z:=XE Y;calc⟨_,?_,Z⟩;delta e1;rw[e,cL]
 show (if ώ ((de (-1) y ϋ ϋ).length<=Ù)=ό then ok (D.str (de (-1) y ϋ ϋ)) s else ϋ)=_
 rw[Ô (Î (le_size (by have:=Z.len;omega)))]
def AE (h:(ώ (y.length<=N)&&ώ (nl y<=M)&&ã y)=ό):tx (eC (.str y)) env s N M:=EE rfl (by erw[Å,É] at h;exact⟨h.1.1,h.1.2,h.2⟩)
def XF (h:TO N M x) (h0:0<=i):TO 2 2 (de 1 x (ϊ i) (ϊ (i+2))):=by
 have l:(de 1 x (ϊ i) (ϊ (i+2))).length<=2:=by
  rw[cQ,sT,ĉ];have:HT.aP x.length x.length (ϊ (i+2))-HT.aP x.length 0 (ϊ i)<=2:=by
   show (if i+2<0 then _ else min (i+2).toNat x.length)-(if i<0 then _ else min i.toNat x.length)<=2
   rw[Ö ⋯,Ö ⋯];omega
  omega
 exact⟨l,Ü aeq (by rw[<- cQ];exact l),(zv h).lW⟩
def vH:df zs=df (zs.take a)+df (zs.drop a):=by rw[<- Dc,ac3]
def KO (h:a<=b):df (zs.drop b)<=df (zs.drop a):=by
 rw[show b=a+(b-a) by omega,<- List.drop_drop,vH (zs:=zs.drop a) (a:=b-a)];omega
def TL.sub (h:TL n T zs) (hs:∀z∈us,z∈zs) (h1:us.length<=n') (h2:DI.df us<=T'):TL n' T' us:=⟨h1,h2,λz Z=>h.ok z (hs z Z)⟩
def vA (h:TL n T zs) (e:f env s=ok 4e4 s) (hl:l env s=ok (ϊ i) s) (hu:u env s=ok (ϊ j) s) (h0:0<=i) (h1:i<=j):∃us vs:List Str,∃n1 T1 n2 T2,dI f cX l env s=ok (.lst (us.map D.str)) s/\dI f u cX env s=ok (.lst (vs.map D.str)) s/\TL n1 T1 us/\TL n2 T2 vs/\n1+n2<=n/\T1+T2<=T/\∀z,zs[i.toNat]?=ϊ z->i+1<=j->T1+T2+(z.length+1)<=T:=by
 have ln:=h.len;have tt:=h.df;refine⟨zs.take (min i.toNat zs.length),zs.drop (min j.toNat zs.length),_,_,_,_,?_,?_,h.sub (λz=>adi) 3e0 3e0,h.sub (λz=>adj) 3e0 3e0,?_,?_,λz Z Y=>?_⟩
 ·delta dI
  rw[e,cL,show cX env s=ok ϋ s from rfl,cL,hl,cL]
  show ok (D.lst (((zs.map D.str).drop 0).take ((if i<0 then _ else min i.toNat (zs.map D.str).length)-0))) s=_
  rw[Ö ⋯,ν,Nat.sub_zero,Ä,List.map_take]
 ·delta dI
  rw[e,cL,hu,cL,show cX env s=ok ϋ s from rfl,cL]
  show ok (D.lst (((zs.map D.str).drop (if j<0 then _ else min j.toNat (zs.map D.str).length)).take ((zs.map D.str).length-if j<0 then _ else min j.toNat (zs.map D.str).length))) s=_
  rw[Ö ⋯,ų (by rw[Ŕ];exact afn _),Ä,adW]
 ·rw[ĉ,Ŕ];omega
 ·have e1:=vH (zs:=zs) (a:=min i.toNat zs.length)
  have e2:=KO (zs:=zs) (a:=min i.toNat zs.length) (b:=min j.toNat zs.length) ⋯;omega
 ·have hi:=(Ñ.mp Z).1
  have e1:=vH (zs:=zs) (a:=min i.toNat zs.length);have e2:=KO (zs:=zs) (a:=i.toNat+1) (b:=min j.toNat zs.length) ⋯;rw[show min i.toNat zs.length=i.toNat by omega] at e1 |-;rw[ń hi,(Ñ.mp Z).2] at e1;have X:df (z::zs.drop (i.toNat+1))=z.length+1+df (zs.drop (i.toNat+1)):=rfl;omega
def VY (h:TL n T zs) (e:f env s=ok 4e4 s) (hl:l env s=ok (ϊ i) s) (hu:u env s=ok (ϊ (i+1)) s) (h0:0<=i):∃us:List Str,dI f l u env s=ok (.lst (us.map D.str)) s/\TL 1 T us:=by
 have tt:=h.df;refine⟨(zs.drop (min i.toNat zs.length)).take (min (i+1).toNat zs.length-min i.toNat zs.length),?_,h.sub (λz Z=>adj (adi Z)) ?_ ?_⟩
 ·delta dI
  rw[e,cL,hl,cL,hu,cL]
  show ok (D.lst (((zs.map D.str).drop (if i<0 then _ else min i.toNat (zs.map D.str).length)).take ((if i+1<0 then _ else min (i+1).toNat (zs.map D.str).length)-if i<0 then _ else min i.toNat (zs.map D.str).length))) s=_
  rw[Ö ⋯,Ö ⋯,Ä,List.map_take,adW]
 ·rw[ĉ];omega
 ·have e1:=vH (zs:=zs) (a:=min i.toNat zs.length)
  have e2:=vH (zs:=zs.drop (min i.toNat zs.length)) (a:=min (i+1).toNat zs.length-min i.toNat zs.length);omega
def qU {a b:List Str} (hl:a.length+b.length<=100000):aY (.lst (a.map D.str)) (.lst (b.map D.str)) s=ok (.lst ((a++b).map D.str)) s:=by
 show bW (if oS (a.map D.str) (b.map D.str)=ό then ϊ (D.lst (a.map D.str++b.map D.str)) else ϋ) s=_
 rw[Ô (show oS (a.map D.str) (b.map D.str)=ό from Î (le_size (by rw[Ä,Ä];omega))),ĩ];rfl
def tF (h:TL n T zs) (hz:z∈zs):z.length+1<=T:=by
 have:=h.df;obtain⟨a,b,e⟩:=List.append_of_mem hz;rw[e,Dc] at this;have Z:df (z::b)=z.length+1+df b:=rfl;omega
def Af (h:TL n T zs) (hn:n<=3100) (hT:T<=3000):jH 1e2 4e4 s=ok (.str (Ŏ 1e2 zs)) s:=EC (show 1<=10 by decide) (by have:=h.len;omega) λz Z=>by have:=tF h Z;omega
def D2 (h:tx f env s N M) (q:∀y,TO N M y->Q (.str y) s):Wp (aD f env s) (dh R (xk Q)):=by
 obtain⟨y,e,t⟩:=h;rw[cg];exact afk e (q y t)
def plus:aY 4e5 (.int j) s=ok (.int (i+j)) s:=rfl
def pI (h:f env s=ok 4e5 s):bQ f env s=ok (ϊ i) s:=by
 delta bQ;rw[h];rfl
def qE (hf:f env s=ok 4e5 s) (hg:g env s=ok (.int j) s):bQ (e2 aY f g) env s=ok (ϊ (i+j)) s:=pI (afl (by
 rw[bA];exact afk hf (afk hg (afk plus 1e4))))
def wc {n:Int} (e:f env s=ok (.int way) s):aF (e2 aZ f (eC (.int n))) env s=ok (way==n) s:=by
 calc afl ?_;rw[dE,bA];calc afk e ?_;rw[bu,v7,cy];exact⟨rfl,rfl⟩
def MQ {n:Int} (e:f env s=ok (.int way) s):aF (e2 jo f (eC (.int n))) env s=ok (ώ (way<n)) s:=by
 calc afl ?_;rw[dE,bA];calc afk e ?_;rw[bu,DM,cy];exact⟨rfl,rfl⟩
end
section
variable {s s':ae} {env:Env} {x y z sn:Str} {f g:afb D} {N M:Nat} {k:Nat} {at' way cF:Int} {zs ws:List Str} {e8 e9 uP uQ:Option D}
abbrev oE (k:Nat) (x sn:Str) (at' way:Int) (zs:List Str) (cF:Int) (e8 e9 uP uQ:Option D):Env:=[ϊ (.aK k),ϊ 1e3,ϊ (.str SG),ϊ (.str sn),ϊ (.int at'),ϊ (.int way),ϊ 4e4,ϊ (.int cF),e8,e9,uP,uQ]
abbrev oN (k:Nat) (x sn:Str) (at' way:Int) (zs:List Str) (cF:Int):Env:=oE k x sn at' way zs cF ϋ ϋ ϋ ϋ
abbrev uW (k:Nat) (x y:Str):Env:=[ϊ (.aK k),ϊ 1e3,ϊ (.str y),ϋ,ϋ,ϋ,ϋ,ϋ,ϋ,ϋ,ϋ,ϋ]
def news:List Str:=["-","0","-0","31","4","8","-1","07",Txt.mul "9" 30,"","0/1","-/-","10/-","0/0","8/-","1/"]
def Ag:List Str:=news++(["/","0/1/2"]:List Str)
abbrev oG (k:Nat) (x sn:Str) (at' way:Int) (zs:List Str) (cF:Int) (ws:List Str) (place:Int) (e:Option D):Env:=oE k x sn at' way zs cF (ϊ (.lst (ws.map D.str))) (ϊ (.int place)) (ϊ (.lst (Ag.map D.str))) e
def ZR:∀z∈Ag,(ώ (z.length<=30)&&ã z&&ώ (10∉sg z))=ό:=nofun
def KP (h:Sf s k) (nZ:TO N M x) (h1:98<=N) (h2:N<=1499) (hm:M<=100):Wp (vt [.aK k,.str x] s) λd s'=>∃y,d=.str y/\TO (2*N+2) (M+2) y/\Sf s' k/\Ex k s s':=by
 have lx:=nZ.len;have so:=aa1;erw[Å,É] at so;obtain⟨⟨so1,so2⟩,C⟩:=so;delta vt;calc eO.symm ▸ ⟨rfl,afm λR Z=>?_⟩;calc afk (show aQ _ (gN 2) [ϊ (.aK k),ϊ 1e3,ϋ,ϋ,ϋ,ϋ,ϋ,ϋ,ϋ,ϋ,ϋ,ϋ] s=ok (.nx (uW k x rK)) s from rfl) ?_;rw[bp];subst Z;calc afm λR Z=>?_;have e1:aQ (e2 aY 6e6 (e2 ko (eC (.str "0123456789 -/")) 4e0)) (gN 2) (uW k x rK) s=ok (.nx (uW k x SG)) s:=by
  calc afl ?_;rw[cS,bA];calc afk (show aa 2 (uW k x rK) s=ok (.str rK) s from rfl) ?_;refine afk (show e2 ko (eC (.str "0123456789 -/")) 4e0 (uW k x rK) s=ok (.str (Txt.mul "0123456789 -/" 3)) s from ?_) ?_
  ·show ko (.str "0123456789 -/") (.int 3) s=_
   delta ko;dsimp only;rw[Ô acw]
  refine afk (jR (x:=rK) (y:=Txt.mul "0123456789 -/" 3) (by rw[<- iU];show SG.length<=_;omega)) ⟨_,rfl,rfl,rfl⟩
 calc afk e1 ?_;rw[bp];subst Z;calc afm λR Z=>Wp.aaX ?_;rw[aI,bA];calc afk (show aa 2 (uW k x SG) s=ok (.str SG) s from rfl) ?_;calc ng (m:=SG.length) h rfl (afl (by erw[dJ,aI,aV,bg,bT];exact afk (Fv ⋯) 1e4)) ⋯ ⋯ λr s1 V U g1 x1=>?_;obtain⟨c,hc,ec⟩:=Dp (s:=s1) (x:=SG) ⋯ V U;have ts:=ZP C hc;calc afk ec ?_;generalize (1e2:Str)=sn at ts;clear hc ec V U e1;rw[aI];refine ng (m:=(x.length:Int)+1) g1 rfl (afl (by
  rw[bA];erw[dJ,aI,aV,bg,bT];calc afk (Fv ⋯) ?_;rw[bu];exact afk plus 1e4)) ⋯ ⋯ λat' s2 K a1 g2 x2=>?_
 rw[aI];calc ng (m:=10) g2 rfl rfl 0e0 0e0 λway s3 w0 w1 g3 x3=>?_;rw[aV];calc⟨_,_,_,rfl,?_⟩;have X3:=x1.trans (x2.trans x3);clear x1 x2 x3 g1 g2 h;show dh R _ (.nx [ϊ (.aK k),ϊ 1e3,ϊ (.str SG),ϊ (.str sn),ϊ (.int at'),ϊ (.int way),ϋ,ϋ,ϋ,ϋ,ϋ,ϋ]) s3;rw[bp];subst Z;calc afm λR Z=>?_;rw[cS];calc afk (m6 lend rfl ⋯) ?_;rw[dj];have W:=Cv nZ;have B:0<(Ă x 8e2).length:=by rw[BX];omega
 generalize Ă x 8e2=zs at W B;have lz:=W.len;show dh R _ (.nx [ϊ (.aK k),ϊ 1e3,ϊ (.str SG),ϊ (.str sn),ϊ (.int at'),ϊ (.int way),ϊ 4e4,ϋ,ϋ,ϋ,ϋ,ϋ]) s3;rw[bp];subst Z;calc afm λR Z=>?_;rw[cS];refine ng (m:=zs.length) g3 rfl (afl (by
  erw[dJ,aI,aV,bg,bT];calc afk (qT (by rw[jj];omega)) ?_;rw[jj];exact⟨rfl,rfl⟩)) ⋯ ⋯ λcF Y J p1 A x4=>?_
 rw[dj];show dh R _ (.nx (oN k x sn at' way zs cF)) Y;rw[bp];subst Z;have q:=X3.trans x4;clear x4 X3 g3;have fin:∀{n m:Nat} {y:Str},n<=2*N+2->m<=M+2->TO n m y->∃y',D.str y=.str y'/\TO (2*N+2) (M+2) y'/\Sf Y k/\Ex k s Y:=λhn hm t=>⟨_,rfl,t.up hn hm,A,q⟩;have tS:tx (aa 3) (oN k x sn at' way zs cF) Y 1 1:=EE rfl ts;calc afm λR Z=>iG (MQ rfl) ?_;by_cases c1:way<2
 ·rw[Î c1,Ô rfl]
  obtain⟨P,m1,O,m2,t1,X,ln,lm⟩:=C9 (b:=at' + way) nZ K ⋯;exact D2 (nj (nj (oJ (lo:=ϋ) (hi:=ϊ at') rfl rfl rfl t1 ⋯) tS ⋯) (oJ (lo:=ϊ (at' + way)) (hi:=ϋ) rfl (qE rfl rfl) rfl X ⋯) ⋯) λy t=>fin ⋯ ⋯ t
 rw[Û c1,Ö Ã,dD,bp];subst Z;calc afm λR Z=>iG (wc rfl) ?_;by_cases o:(way==2)=ό
 ·rw[Ô o]
  obtain⟨P,m1,O,m2,t1,X,ln,lm⟩:=C9 (b:=at' + 1) nZ K ⋯;exact D2 (nj (oJ (lo:=ϋ) (hi:=ϊ at') rfl rfl rfl t1 ⋯) (oJ (lo:=ϊ (at' + 1)) (hi:=ϋ) rfl (qE rfl rfl) rfl X ⋯) ⋯) λy t=>fin ⋯ ⋯ t
 rw[Ö o,dD,bp];subst Z;calc afm λR Z=>iG (wc rfl) ?_;by_cases i:(way==3)=ό
 ·rw[Ô i]
  obtain⟨P,m1,O,m2,t1,X,ln,lm⟩:=C9 (b:=at' + 2) nZ K ⋯;exact D2 (nj (nj (oJ (lo:=ϋ) (hi:=ϊ at') rfl rfl rfl t1 ⋯) (ZQ (oJ (lo:=ϊ at') (hi:=ϊ (at' + 2)) rfl rfl (qE rfl rfl) (XF nZ K) ⋯) ⋯) ⋯) (oJ (lo:=ϊ (at' + 2)) (hi:=ϋ) rfl (qE rfl rfl) rfl X ⋯) ⋯) λy t=>fin ⋯ ⋯ t
 rw[Ö i,dD,bp];subst Z;calc afm λR Z=>iG (wc rfl) ?_;by_cases g:(way==4)=ό
 ·rw[Ô g]
  obtain⟨T,vs,P,T1,O,T2,e1,e2,t1,X,ln,lt,-⟩:=vA (f:=aa 6) (env:=oN k x sn at' way zs cF) (s:=Y) (l:=bQ (aa 7)) (u:=bQ (e2 aY (aa 7) 1e1)) (j:=cF+1) W rfl rfl (qE rfl rfl) J ⋯;have l1:=t1.len;have l2:=X.len;have t3:=t1.app X;rw[cg,lend,ow rfl,bA];calc afk e1 (afk e2 (afk (qU ⋯) (afk (Af t3 ⋯ ⋯) ?_)));exact fin ⋯ ⋯ (BY t3)
 rw[Ö g,dD,bp];subst Z;calc afm λR Z=>iG (wc rfl) ?_;by_cases c5:(way==5)=ό
 ·rw[Ô c5]
  obtain⟨T,vs,P,T1,O,T2,ea,eb,t1,X,ln,lt,-⟩:=vA (f:=aa 6) (env:=oN k x sn at' way zs cF) (s:=Y) (l:=bQ (aa 7)) (u:=bQ (aa 7)) W rfl rfl rfl J (Int.le_refl _);obtain⟨ms,e3,t3⟩:=VY (f:=aa 6) (env:=oN k x sn at' way zs cF) (s:=Y) (l:=bQ (aa 7)) (u:=bQ (e2 aY (aa 7) 1e1)) W rfl rfl (qE rfl rfl) J;have l1:=t1.len;have l2:=X.len;have l3:=t3.len;have L:=(t1.app t3).app X;rw[cg,lend,ow rfl,bA,bA];calc afk ea (afk e3 (afk (qU ⋯) (afk eb (afk (qU (by rw[à];omega)) (afk (Af L ⋯ ⋯) ?_)))));exact fin ⋯ ⋯ (BY L)
 rw[Ö c5,dD,bp];subst Z;calc afm λR Z=>iG (wc rfl) ?_;by_cases c6:(way==6)=ό
 ·rw[Ô c6,cg,bA,bA]
  calc afk (show aa 1 (oN k x sn at' way zs cF) Y=ok 1e3 Y from rfl) ?_;erw[wp_call,aI,aV,bg,bu];refine(MD A 0e0 0e0).mono λd s5 S=>?_;obtain⟨p,rfl,hp,I,x5⟩:=S;have H:=DQ hp;have ll:=Ct H;calc afk (LH H) ?_;calc afk (jR ⋯) (afk (jR (by rw[iU];show _ + 1<=1000000;omega)) ?_);have tp:TO 33 0 (hW p):=⟨by omega,aeP (List.count_eq_zero.mpr (JI H)),KJ H⟩;have tn:TO 1 1 ("\n":Str):=⟨afn _,by decide +kernel,by decide +kernel⟩;exact⟨_,rfl,((nZ.app tp).app tn).up ⋯ ⋯,I,q.trans x5⟩
 rw[Ö c6,dD,bp];subst Z;obtain⟨z,hz⟩:∃z,zs[cF.toNat]?=ϊ z:=⟨_,Ê ⋯⟩;have mz:z∈zs:=Ē hz;have zl:=tF W mz;have zo:=W.ok z mz;have ez:e2 ar (aa 6) (aa 7) (oN k x sn at' way zs cF) Y=ok (.str z) Y:=by
  have:=ixW (s:=Y) hz;rw[show ((cF.toNat:Nat):Int)=cF by omega] at this;calc afl ?_;rw[bA];exact afk (show aa 6 (oN k x sn at' way zs cF) Y=ok 4e4 Y from rfl) (afk (show aa 7 (oN k x sn at' way zs cF) Y=ok (.int cF) Y from rfl) (afk this 1e4))
 calc afm λR Z=>?_;rw[cS];calc afk (m6 blank ez ⋯) ?_;rw[dj];show dh R _ (.nx (oE k x sn at' way zs cF (ϊ (.lst ((bs z).map D.str))) ϋ ϋ ϋ)) Y;rw[bp];subst Z;have G:=VX zo.1 zo.2 ⋯;have yg:0<(bs z).length:=by obtain⟨w,r,e⟩:=aaZ z;rw[e];simp
 generalize bs z=ws at G yg;have lw:=G.len;calc afm λR Z=>?_;rw[cS];refine ng (m:=ws.length) A rfl (afl (by
  erw[dJ,aI,aV,bg,bT];calc afk (qT (by rw[jj];omega)) ?_;rw[jj];exact⟨rfl,rfl⟩)) ⋯ ⋯ λplace s5 q0 q1 I x5=>?_
 rw[dj];show dh R _ (.nx 8e4) s5;rw[bp];subst Z;have X5:=q.trans x5;calc afm λR Z=>?_;have en:aQ (cz (af (eC (.str "-")) (af (eC (.str "0")) (af (eC (.str "-0")) (af (eC (.str "31")) (af (eC (.str "4")) (af (eC (.str "8")) (af (eC (.str "-1")) (af (eC (.str "07")) (af (e2 ko (eC (.str "9")) (eC (.int 30))) (af (eC (.str "")) (af (eC (.str "0/1")) (af (eC (.str "-/-")) (af (eC (.str "10/-")) (af (eC (.str "0/0")) (af (eC (.str "8/-")) (af (eC (.str "1/")) ah))))))))))))))))) (gN 10) 8e4 s5=ok (.nx (oE k x sn at' way zs cF (ϊ (.lst (ws.map D.str))) (ϊ (.int place)) (ϊ (.lst (news.map D.str))) ϋ)) s5:=by
  have e9:e2 ko (eC (.str "9")) (eC (.int 30)) 8e4 s5=ok (.str (Txt.mul "9" 30)) s5:=by
   show ko (.str "9") (.int 30) s5=_;delta ko;dsimp only;rw[Ô acx]
  calc afl ?_;rw[cS,mh]
  iterate 8 rw[aI,bu]
  rw[aI];refine afk e9 ?_
  iterate 7 rw[aI,bu]
  rw[aV];exact⟨le_size (n:=16) 0e0,_,rfl,rfl,rfl⟩
 calc afk en ?_;rw[bp];subst Z;calc afm λR Z=>?_;have P7:aQ (e2 aY (aa 10) (cz (af (eC (.str "/")) (af (eC (.str "0/1/2")) ah)))) (gN 10) (oE k x sn at' way zs cF (ϊ (.lst (ws.map D.str))) (ϊ (.int place)) (ϊ (.lst (news.map D.str))) ϋ) s5=ok (.nx (oG k x sn at' way zs cF ws place ϋ)) s5:=rfl;calc afk P7 ?_;rw[bp];subst Z;clear en P7;calc afm λR Z=>iG (MQ rfl) ?_;by_cases c9:way<9
 ·rw[Î c9,Ô rfl]
  have F:7<=way:=by
   erw[beq_iff_eq] at o i g c5 c6;omega
  calc afm λR1 uU=>?_;have ep:∀{s:ae},bQ (e2 oy (e2 aY (aa 9) (aa 5)) (eC (.int 7))) (oG k x sn at' way zs cF ws place ϋ) s=ok (ϊ (place+way-7)) s:=λ{s}=>pI rfl;obtain⟨T,vs,P,T1,O,T2,e1,-,t1,-,ln1,-,-⟩:=vA (f:=aa 8) (env:=oG k x sn at' way zs cF ws place ϋ) (s:=s5) (l:=bQ (aa 9)) (u:=bQ (e2 oy (e2 aY (aa 9) (aa 5)) (eC (.int 7)))) (j:=place+way-7) G rfl rfl ep q0 ⋯;rw[cS,blank,ow rfl,bA,bA];calc afk e1 ?_;rw[mh,aI,bA];calc afk (show aa 10 (oG k x sn at' way zs cF ws place ϋ) s5=ok (.lst (Ag.map D.str)) s5 from rfl) ?_;calc ng (m:=18) I rfl rfl 0e0 0e0 λr Q V U g6 x6=>?_;obtain⟨d,S,ed⟩:=tB (ds:=Ag.map D.str) (s:=Q) V (by show r<18;exact U);obtain⟨u,hu,rfl⟩:=å.mp S;have nu:=ZR u hu;erw[Å,É] at nu;calc afk ed ?_;rw[aV];calc⟨le_size (n:=1) 0e0,?_⟩;have l1:=t1.len;calc afk (qU (b:=[u]) (by simp;omega)) ?_;obtain⟨Hn,GA,n1',T1',n2',T2',e1',i8,t1',t2',ln',lt',-⟩:=vA (f:=aa 8) (env:=oG k x sn at' way zs cF ws place ϋ) (s:=Q) (l:=bQ (aa 9)) (u:=bQ (e2 oy (e2 aY (aa 9) (aa 5)) (eC (.int 7)))) (j:=place+way-7) G rfl rfl ep q0 ⋯;have eus:T=Hn:=by
   have a:=e1;have b:=e1';delta dI at a b;have:(T.map D.str)=Hn.map D.str:=by
    have a':cutD (ws.map D.str) ϋ (ϊ place)=T.map D.str:=by injection a with a;injection a with a _;injection a with a;injection a
    have b':cutD (ws.map D.str) ϋ (ϊ place)=Hn.map D.str:=by injection b with b;injection b with b _;injection b with b;injection b
    rw[<- a',<- b']
   exact(adU λx y e=>by injection e).mp this
  subst eus;have X:=t2';calc afk i8 ?_;have l2:=X.len;calc afk (qU (by rw[à];simp;omega)) ?_;have tu:TL 1 31 [u]:=⟨afn _,by show u.length+1+0<=31;omega,λv F=>by rw[ċ.mp F];exact⟨nu.1.2,nu.2⟩⟩;have t5:=(t1'.app tu).app X;calc afk (Af t5 ⋯ ⋯) ?_;obtain⟨j1,j2,j3⟩:=Ud t5;generalize Ŏ ⟨#[32]⟩ (T++[u]++GA)=li at j1 j2 j3;rw[dj];show dh R1 _ (.nx (oG k x sn at' way zs cF ws place (ϊ (.str li)))) Q;rw[bp];subst uU;obtain⟨as,bs',n3,T3,n4,T4,e3,e4,t3,L,ln3,-,P8⟩:=vA (f:=aa 6) (env:=oG k x sn at' way zs cF ws place (ϊ (.str li))) (s:=Q) (l:=bQ (aa 7)) (u:=bQ (e2 aY (aa 7) 1e1)) (j:=cF+1) W rfl rfl (qE rfl rfl) J ⋯;have P8:=P8 z hz (Int.le_refl _);have l3:=t3.len;have l4:=L.len;rw[cg,lend,ow rfl,bA,bA];calc afk e3 ?_;erw[mh,aI,aV,bg,bT];calc⟨le_size (n:=1) 0e0,?_⟩;have tli:TL 1 (z.length+33) [li]:=⟨afn _,by show li.length+1+0<=_;omega,λv F=>by rw[ċ.mp F];exact⟨j2,j3⟩⟩;have t6:=(t3.app tli).app L;calc afk (qU (b:=[li]) (by simp;omega)) (afk e4 (afk (qU (by rw[à];simp;omega)) (afk (Af t6 ⋯ ⋯) ?_)));exact⟨_,rfl,(BY t6).up ⋯ ⋯,g6,X5.trans x6⟩
 rw[Û c9,Ö Ã,dD,bp];subst Z;have E:tx 1e8 (oG k x sn at' way zs cF ws place ϋ) s5 N M:=EE rfl nZ;obtain⟨y1,f1,u1⟩:=oJ (f:=aa 1) (l:=cX) (h:=bQ (e1 ji 1e1)) (env:=oG k x sn at' way zs cF ws place ϋ) (s:=s5) (lo:=ϋ) (hi:=ϊ (-1)) rfl rfl rfl (zv nZ) ⋯;obtain⟨y2,f2,u2⟩:=nj (AE (N:=1) (M:=1) (y:="\n") nofun) E ⋯;obtain⟨y3,f3,u3⟩:=nj E (AE (N:=12) (M:=0) (y:="mended 0 0 1") nofun) ⋯;obtain⟨y4,f4,u4⟩:=nj E (AE (N:=1) (M:=0) (y:=" ") nofun) ⋯;obtain⟨y5,f5,u5⟩:=nj E (AE (N:=1) (M:=1) (y:="\n") nofun) ⋯;rw[cg,bA,mh,aI];calc afk f1 ?_;rw[aI];calc afk f2 ?_;rw[aI];calc afk f3 ?_;rw[aI];calc afk f4 ?_;rw[aI];calc afk f5 ?_;rw[aV];calc⟨le_size (n:=5) 0e0,?_⟩;calc ng (m:=5) I rfl rfl 0e0 0e0 λr Q V U g6 x6=>?_;obtain⟨d,S,ed⟩:=tB (ds:=[D.str y1,.str y2,.str y3,.str y4,.str y5]) (s:=Q) V (by show r<5;exact U);have fX:∃y,d=.str y/\TO (2*N+2) (M+2) y:=by
  erw[Ï,ì,or_false] at S
  rcases S with rfl|rfl|rfl|rfl|rfl
  ·exact⟨_,rfl,u1.up ⋯ ⋯⟩
  ·exact⟨_,rfl,u2.up ⋯ ⋯⟩
  ·exact⟨_,rfl,u3.up ⋯ ⋯⟩
  ·exact⟨_,rfl,u4.up ⋯ ⋯⟩
  ·exact⟨_,rfl,u5.up ⋯ ⋯⟩
 obtain⟨y,rfl,ty⟩:=fX;exact afk ed ⟨y,rfl,ty,g6,X5.trans x6⟩
end
section
variable {s s':ae} {env:Env} {x y:Str} {k:Nat} {ps:List Pg} {p:Pg} {e0 e1 e2_ e3 e4 e5 e6 e7:Option D} {Q:Fl->ae->Prop}
def XG (hf:oW p):bK.iC (n+4) [p.d,p.d] s=ok 6e1 s:=by
 have Y:∀(l:List Int),l.length<=1000->bK.iC (n+2) [ti l,ti l] s=ok 6e1 s:=λl X=>qc (by rw[Ä];exact X) λd Z=>by
  obtain⟨i,_,rfl⟩:=å.mp Z;exact qb
 cases p with
 |made m y h l =>
  calc qc (show 4<=1000 by decide) λd Z=>?_;erw[Ï,ì,or_false] at Z
  rcases Z with rfl|rfl|rfl|rfl
  ·exact yV
  ·exact qb
  ·exact qb
  ·refine qc (show 2<=1000 by decide) λd Z=>?_
   erw[Ï,ì,or_false] at Z
   rcases Z with rfl|rfl
   ·exact Y h hf.1
   ·exact Y l hf.2
 |bM m y c =>
  calc qc (show 4<=1000 by decide) λd Z=>?_;erw[Ï,ì,or_false] at Z
  rcases Z with rfl|rfl|rfl|rfl
  ·exact yV
  ·exact qb
  ·exact qb
  ·exact qb
def Ue (hb:eQ ps=ό):bK.iC (n+5) [bD ps,bD ps] s=ok 6e1 s:=by
 obtain⟨Z,X⟩:=zS hb;calc qc (by rw[Ä];omega) λd Y=>?_;obtain⟨p,h,rfl⟩:=å.mp Y;exact XG (TZ (Z p h))
def D3 (h0:s[0]?=ϊ (.tb "law")) (ht:ny env caps=ϊ ds) (h:je .ak (fb (ds.map ϊ)) [.ak] s=ok r s'):qP "law" caps fb je env s=ok r s':=by
 delta qP;rw[ht];dsimp only;rw[h0];dsimp only;rw[Ô (Î rfl),h];rfl
def Ug (hb:eQ ps=ό):bK.iC 8 [.tup [.str "told",bD ps],.tup [.str "told",bD ps]] s=ok 6e1 s:=qc (show 2<=1000 by decide) λd Z=>by
 erw[Ï,ì,or_false] at Z
 rcases Z with rfl|rfl
 ·exact yV
 ·exact Ue (n:=2) hb
abbrev Bk:afb D:=md pX 2e4
abbrev nD:D:=.tup [.str "refused",.int 15]
def VZ:bK.iC 8 [nD,nD] s=ok 6e1 s:=qc (show 2<=1000 by decide) λd Z=>by
 erw[Ï,ì,or_false] at Z
 rcases Z with rfl|rfl
 ·exact yV
 ·exact qb
def both (h0:s[0]?=ϊ (.tb "law")) (ty:TO 3000 58 y) (ht:ny env [5]=ϊ [.str y]) (h6:∀s,aa 6 env s=ok (yh ((Ă y 8e2).dropLast) ((Ă y 8e2).getLast (qD y 10))) s) :
  aE (bK.iC 8) (af (qP "law" [5] Bk je) (af (jt (aF (DI.e2 sZ (aa 6) (eC .ak))) (cU 8e9) (cU (af (eC (.str "told")) (af (aa 6) ah)))) ah)) env s=ok 6e1 s:=by
 have W:Ă y 8e2=(Ă y 8e2).dropLast++[(Ă y 8e2).getLast (qD y 10)]:=(acT _).symm;have V:((Ă y 8e2).dropLast).length<=60:=by
  have:=(Cv ty).len;rw[List.length_dropLast];omega
 have Y:=Q4 (s:=s) W ty.len V;generalize (Ă y 8e2).dropLast=ls at Y h6;generalize (Ă y 8e2).getLast (qD y 10)=t at Y h6;delta yh at h6;calc afl ?_;rw[wp_call,aI]
 cases Z:rJ ls t with
 |true =>
  rw[Z,Ô rfl] at Y;rw[Z] at h6;have X:eQ 3e4=ό:=by
   delta rJ at Z;erw[Å] at Z;exact Z.2.2
  calc afk (D3 h0 ht (DJ (show Bk [ϊ (.str y)] s=ϊ (.ok (bD 3e4),s) from Y))) ?_;rw[aI,kW,dE,bA];calc afk (h6 s) ?_;rw[bu,Ô rfl];calc afk (show sZ (bD 3e4) .ak s=ok 3e8 s from rfl) ?_;rw[cy,Ö Ã,kq,aI,bu,aI];calc afk (h6 s) ?_;rw[aV,Ô rfl,aV];exact⟨le_size (n:=2) 0e0,afk (Ug X) 1e4⟩
 |false =>
  rw[Z,Ö Ã] at Y;rw[Z] at h6;calc afk (D3 h0 ht (yB (show Bk [ϊ (.str y)] s=ϊ 8e3 from Y))) ?_;rw[aI,kW,dE,bA];calc afk (h6 s) ?_;rw[bu,Ö Ã];calc afk (show sZ .ak .ak s=ok 6e1 s from rfl) ?_;rw[cy,Ô rfl,kq,aI,bu,aI,bu,aV,aV];exact⟨le_size (n:=2) 0e0,afk VZ 1e4⟩
def XH (h0:s[0]?=ϊ (.tb "law")) (k0:(0:Nat)≠k) (st:Sf s k) (tx:TO 744 24 x) (hQ:∀e5 e6 s',s'[0]?=ϊ (.tb "law")->Sf s' k->Q (.nx [e0,e1,ϊ (.aK k),ϊ 1e3,e4,e5,e6,e7]) s') :
  Wp (DG [e0,e1,ϊ (.aK k),ϊ 1e3,e4,e5,e6,e7] s) Q:=by
 delta DG;calc afm λR X=>?_;erw[cS,wp_call,aI,aV,bg,bT];refine(KP st tx 0e0 0e0 0e0).mono λd P W=>?_;obtain⟨y,rfl,ty,O,T⟩:=W;have g1:=T.get h0 k0;clear T h0 st;rw[dj];show dh R _ (.nx [e0,e1,ϊ (.aK k),ϊ 1e3,e4,ϊ (.str y),e6,e7]) P;rw[bp];subst X;calc afm λR X=>?_;have key:∀z Z,TO 3000 58 z->Z[0]?=ϊ (.tb "law")->Sf Z k->Wp (R [e0,e1,ϊ (.aK k),ϊ 1e3,e4,ϊ (.str z),e6,e7] Z) Q:=by
  intro z Z tz g2 V;subst X;calc afm λR X=>?_;erw[cS,wp_call,aI,aV,bg,bT];refine(VW (acT (qD z 10)).symm tz.len tz.lW (by have:=(Cv tz).len;rw[List.length_dropLast];omega)).mono λd Y W=>?_;obtain⟨rfl,U⟩:=W;rw[dj];show dh R _ (.nx [e0,e1,ϊ (.aK k),ϊ 1e3,e4,ϊ (.str z),ϊ (yh ((Ă z 8e2).dropLast) ((Ă z 8e2).getLast (qD z 10))),e7]) Y;rw[bp];subst X;refine iG (b:=ύ) (s':=Y) (afl ?_) ?_
  ·rw[su,oq]
   calc afk (both (U.get g2) tz rfl λ_=>rfl) ?_;rw[m9];exact⟨rfl,rfl⟩
  rw[Ö Ã,dD];exact hQ _ _ Y (U.get g2) (U.sf V)
 rw[kX,dE,bA];calc ng (m:=4) O rfl rfl 0e0 0e0 λr Z K J V N=>?_;have g2:=N.get g1 k0;rw[bu,v7,cy];by_cases S:(r==0)=ό
 ·rw[Ô S]
  erw[cS,wp_call,aI,aV,bg,bT];refine(KP V ty 0e0 0e0 0e0).mono λd Y W=>?_;obtain⟨z,rfl,tz,M,L⟩:=W;rw[dj];show dh R _ (.nx [e0,e1,ϊ (.aK k),ϊ 1e3,e4,ϊ (.str z),e6,e7]) Y;rw[bp];exact key z Y (tz.up 0e0 0e0) (L.get g2 k0) M
 ·rw[Ö S,dD,bp]
  exact key y Z (ty.up 0e0 0e0) g2 V
def XI (hb:eQ ps=ό):TO 744 24 (textOf ps):=by
 obtain⟨Z,X⟩:=zS hb;have hw:∀p∈ps,ix p:=λp h=>DQ (Z p h);have W:=text_len hw;refine⟨by omega,?_,?_⟩
 ·have:=BX (x:=textOf ps)
  rw[Sr hw,à,Ä] at this;have e:ps.length+1=nl (textOf ps)+1:=this;omega
 ·exact KI nofun λz Y=>by
   obtain⟨p,h,rfl⟩:=å.mp Y;exact kh (KJ (hw p h)) nofun
def V0 (hd:d∈[D.ak,.int 0,.bl ό,.lst [.str x],.tup [.str x],.bU [],.tup []]):pX [d] s=Hl s:=by
 erw[Ï,ì,or_false] at hd
 rcases hd with rfl|rfl|rfl|rfl|rfl|rfl|rfl<;>rfl
def Uh (hi:0<=i) (h0:s[0]?=ϊ (.tb "law")) (hQ:∀e2 e3 e4 e5 e6 e7 s',s'[0]?=ϊ (.tb "law")->Q (.nx [ϊ (.bV ns),ϊ 4e5,e2,e3,e4,e5,e6,e7]) s') :
  Wp (DH [ϊ (.bV ns),ϊ 4e5,e2_,e3,e4,e5,e6,e7] s) Q:=by
 have V:0<s.length:=(Ñ.mp h0).1;delta DH;calc afm λR Y=>?_;erw[cS,dj,wp_call,aI,aV,bg,bT,Ļ,ļ];refine(Xl hi).mono λd s1 W=>?_;obtain⟨rfl,U,O,rfl⟩:=W;have X:(0:Nat)≠s.length:=by omega
 have g1:(s++[O])[0]?=ϊ (.tb "law"):=by rw[â V];exact h0
 generalize s++[O]=u at U g1;generalize s.length=k at U X;rw[bp];subst Y;calc afm λR Y=>?_;rw[cS,ow rfl,kg];obtain⟨d,q,K,n,rfl,J,o,I,H⟩:=kY U (m:=22) 0e0 0e0;obtain⟨d,N,T,ps,rfl,M,_,G,F⟩:=ZE I J ⋯;have g3:=F.get (H.get g1 X) X;have tt:=XI M;obtain⟨E,l⟩:=zS M;have hw:∀p∈ps,ix p:=λp h=>DQ (E p h);refine afk (n9 (s1:=N) (ds:=ps.map Pg.d) (afl (by
  erw[wp_call,aI,aV,bg,bT,bu];exact afk K (afk T 1e4)))) ⟨le_size (by rw[Ä];omega),?_⟩
 calc afk (comp_map Pg.d (λ_=>ό) (λp=>D.str (hW p++"\n")) ps λp h=>⟨[ϊ p.d],rfl,rfl,λ_=>VN (hw p h) (LH (hw p h))⟩) ?_;rw[Ľ.mpr (λ_ _=>rfl),show (ps.map λp=>D.str (hW p++"\n"))=(ps.map λp=>hW p++"\n").map D.str by rw[ę];rfl];calc afk (ZD ⋯ hw) ?_;generalize textOf ps=x at tt;rw[dj];show dh R _ (.nx [ϊ (.bV ns),ϊ 4e5,ϊ (.aK k),ϊ 1e3,e4,e5,e6,e7]) N;rw[bp];subst Y;calc afm λR Y=>?_;rw[oi];calc afk (ku (n:=20) rfl 0e0) ?_;refine Wp.qQ (λ_ env s'=>s'[0]?=ϊ (.tb "law")/\Sf s' k/\∃e4 e5 e6 e7,env=[ϊ (.bV ns),ϊ 4e5,ϊ (.aK k),ϊ 1e3,e4,e5,e6,e7]) _ ⟨g3,G,_,_,_,_,rfl⟩ (λt d env s' W S=>?_) (λenv s' S=>?_)
 ·obtain⟨g,P,e4,e5,e6,e7,rfl⟩:=S
  calc⟨_,rfl,?_⟩;exact XH g X P tt λ_ _ s' C B=>⟨C,B,_,_,_,_,rfl⟩
 obtain⟨g,P,e4,e5,e6,e7,rfl⟩:=S;rw[bp];subst Y;calc afm λR Y=>?_;rw[cS,bA];calc afk (show cz (af (eC .ak) (af 1e9 (af (eC 6e1) (af (cz (af (aa 3) ah)) (af (cU (af (aa 3) ah)) (af (eC (.bU [])) (af (cU ah) ah))))))) [ϊ (.bV ns),ϊ 4e5,ϊ (.aK k),ϊ 1e3,e4,e5,e6,e7] s'=ok (.lst [D.ak,.int 0,.bl ό,.lst [.str x],.tup [.str x],.bU [],.tup []]) s' from rfl) ?_;calc ng (m:=7) P rfl rfl 0e0 0e0 λr Z A z y w=>?_;obtain⟨d,W,v⟩:=tB (ds:=[D.ak,.int 0,.bl ό,.lst [.str x],.tup [.str x],.bU [],.tup []]) (s:=Z) A (by show r<7;exact z);calc afk v ?_;have L:=w.get g X;rw[dj];show dh R _ (.nx [ϊ (.bV ns),ϊ 4e5,ϊ (.aK k),ϊ 1e3,e4,e5,e6,ϊ d]) Z;rw[bp];subst Y;refine iG (b:=ύ) (s':=Z) (afl ?_) ?_
 ·rw[dE,bA]
  calc afk (D3 L (ds:=[d]) rfl (yB (show Bk [ϊ d] Z=ϊ (.error ⟨"NoText",ϋ⟩,Z) from V0 W))) ?_;calc afk (show cU 8e9 [ϊ (.bV ns),ϊ 4e5,ϊ (.aK k),ϊ 1e3,e4,e5,e6,ϊ d] Z=ok nD Z from rfl) ?_;refine afk (show cG nD nD Z=ok 3e8 Z from by
   have e:fx nD nD=ϊ ό:=nofun
   show (match fx nD nD with|some b=>ok (D.bl (!b)) Z|none=>ϋ)=_
   rw[e];rfl) ?_
  rw[cy];exact⟨rfl,rfl⟩
 rw[Ö Ã,dD];exact hQ _ _ _ _ _ _ Z L
end
def V1 (ns:List Int) (hn:ns.length<=63):∃s,bK.Ab [.bV ns] [.tb "law"]=ϊ (.ok 6e1,s):=by
 suffices h:Wp (bK.Ab [.bV ns] [.tb "law"]) λd _=>d=.bl ό by
  obtain⟨d,s,e,rfl⟩:=h;exact⟨s,e⟩
 delta bK.Ab;calc eO.symm ▸ ⟨rfl,afm λR Q=>?_⟩;rw[oi];have T:∃n:Nat,ik (af (eB wA (af 1e1 (af (eB wB (af (eB cM 2e4) (af 3e9 ah))) ah))) ah) [ϊ (.bV ns),ϋ,ϋ,ϋ,ϋ,ϋ,ϋ,ϋ] [.tb "law"]=ok (ei 0 n) [.tb "law"]:=by
  have e:∃n:Nat,n<=1000/\(af (eB wA (af 1e1 (af (eB wB (af (eB cM 2e4) (af 3e9 ah))) ah))) ah) [ϊ (.bV ns),ϋ,ϋ,ϋ,ϋ,ϋ,ϋ,ϋ] [.tb "law"]=ok [.int n] [.tb "law"]:=by
   refine⟨(if (if (2:Int)<ns.length then (2:Int) else ns.length) > 1 then (if (2:Int)<ns.length then (2:Int) else ns.length) else 1).toNat,by split<;>split<;>omega,?_⟩
   rw[Int.toNat_of_nonneg (by split<;>split<;>omega)]
   rfl
  obtain⟨n,N,P⟩:=e;exact⟨n,ku P ⋯⟩
 obtain⟨n,T⟩:=T;calc afk T ?_;refine Wp.qQ (λi env s=>s[0]?=ϊ (.tb "law")/\∃e1 e2 Z Y X W V,env=[ϊ (.bV ns),e1,e2,Z,Y,X,W,V]) _ ⟨rfl,_,_,_,_,_,_,_,rfl⟩ (λi d env s U S=>?_) (λenv s S=>?_)
 ·obtain⟨g,e1,e2,Z,Y,X,W,V,rfl⟩:=S
  rw[qh] at U;split at U
  ·cases U
   calc⟨_,rfl,?_⟩;rw[ac5];exact Uh ⋯ g λe2 Z Y X W V M O=>⟨O,_,_,_,_,_,_,_,rfl⟩
  ·cases U
 ·obtain⟨g,e1,e2,Z,Y,X,W,V,rfl⟩:=S
  rw[bp];subst Q;rw[cg,bu,fK]
end DI
end
namespace DI.bK
open PySem L2 DI
def aa2:List Str:=["NoMarks","NoSheet","NoPage","NoBook","NoMould","NoDay","NoSort","NoNumber","NoSheets","NoRun","NoLaying","NoHeap","NoCount","Clash","NoDeed","NoText","NoRow","TooMany","Lacking"]
def Df (K:İ) (x:Str) (st:aeW):Prop:=∃(f:Þ) (Z:È) (Y:Option Þ) (sl:Array (Option È)) (kV X pm:È) (an:Option Þ) (cd W:È),ð K Ú x=ϊ (ϊ (.ref f))/\K.lookup f=ϊ ⟨Z,Y,.func (ŧ x x (qf st) (jd st) (cY st) .none kV X pm an cd W),sl⟩/\adl K cd x=ό/\θ K (.ref f)=ό
def aa3 {K:İ} {x:Str} {st:aeW} {f:Þ} {oc:È} {od:Option Þ} {sl:Array (Option È)} {kV dc pm:È} {an:Option Þ} {cd ct:È} (a:ð K Ú x=ϊ (ϊ (.ref f))) (l:K.lookup f=ϊ ⟨oc,od,.func (ŧ x x (qf st) (jd st) (cY st) .none kV dc pm an cd ct),sl⟩) (c:adl K cd x=ό) (k:θ K (.ref f)=ό):Df K x st:=⟨f,oc,od,sl,kV,dc,pm,an,cd,ct,a,l,c,k⟩
def qF {K:İ} {x:Str} {i:Int} {t:Tok} (e:ð K Ú x=ϊ (ϊ (.int i t))):∃t,ð K Ú x=ϊ (ϊ (.int i t)):=⟨t,e⟩
def NX {K:İ} {x y:Str} {t:Tok} (e:ð K Ú x=ϊ (ϊ (.str y t))):∃t,ð K Ú x=ϊ (ϊ (.str y t)):=⟨t,e⟩
def bZ {K:İ} {h:Ŀ} {mg:Str->Option È} {x:Str} {st:aeW} {ps:List Str} (X:K.In h) (G:h.Ns Ú mg) (D:Df K x st) (hb:∀(kV doc pm:È) (an:Option Þ) (bq ct:È) (us:List È),us.length=ps.length->bindArgs (ŧ x x (qf st) (jd st) (cY st) .none kV doc pm an bq ct) ⟨us,[]⟩=pure (ps.zip us)):∃f fd,Gd K mg x st ps f fd:=by
 obtain⟨f,Z,Y,sl,kV,W,pm,an,cd,ct,a,l,c,k⟩:=D;have F:=LZ (st:=st) l c k;exact⟨f,_,Ņ X G a,F,F.binds hb⟩
def cZ {P:List È->Prop} (h:∀a0:È,P [a0]) (us:List È) (hl:us.length=1):P us:=by
 cases us with
 |nil=>simp at hl
 |cons a0 Z =>
 cases Z with
 |cons _ _=>simp at hl
 |nil =>
 exact h a0
def mw {P:List È->Prop} (h:∀a0 a1:È,P [a0,a1]) (us:List È) (hl:us.length=2):P us:=by
 cases us with
 |nil=>simp at hl
 |cons a0 Z =>
 cases Z with
 |nil=>simp at hl
 |cons a1 Y =>
 cases Y with
 |cons _ _=>simp at hl
 |nil =>
 exact h a0 a1
def Ah {P:List È->Prop} (h:∀a0 a1 a2:È,P [a0,a1,a2]) (us:List È) (hl:us.length=3):P us:=by
 cases us with
 |nil=>simp at hl
 |cons a0 Z =>
 cases Z with
 |nil=>simp at hl
 |cons a1 Y =>
 cases Y with
 |nil=>simp at hl
 |cons a2 X =>
 cases X with
 |cons _ _=>simp at hl
 |nil =>
 exact h a0 a1 a2
def aa4 {P:List È->Prop} (h:∀a0 a1 a2 a3:È,P [a0,a1,a2,a3]) (us:List È) (hl:us.length=4):P us:=by
 cases us with
 |nil=>simp at hl
 |cons a0 Y =>
 cases Y with
 |nil=>simp at hl
 |cons a1 X =>
 cases X with
 |nil=>simp at hl
 |cons a2 W =>
 cases W with
 |nil=>simp at hl
 |cons a3 Z =>
 cases Z with
 |cons _ _=>simp at hl
 |nil =>
 exact h a0 a1 a2 a3
def all_mk {P:ê} {w:Ď} {K:İ} {h:Ŀ} {mg:Str->Option È} {fa:Þ} (X:K.In h) (G:h.Ns Ú mg) (hfa:mg "law"=ϊ (.ref fa))
  (d0:Df K "_law_cell_at" (top 60))
  (d1:Df K "_law_state" (top 61))
  (d2:Df K "_law_take" (top 62))
  (d3:Df K  afE (top 71))
  (d4:Df K  afF (top 72))
  (d5:Df K "_law_line" (top 73))
  (d6:Df K "_law_sheet" (top 63))
  (d7:Df K "_law_page" (top 64))
  (d8:Df K "_law_other" (top 78))
  (d9:Df K "_law_number" (top 74))
  (Hq:Df K "_law_marks_in" (top 75))
  (Hr:Df K "_law_page_in" (top 76))
  (Hs:Df K  afG (top 65))
  (Ht:Df K "_law_is_book" (top 66))
  (Hu:Df K "_law_read" (top 77))
  (Hv:Df K "_law_classes" (top 68))
  (Hw:Df K "is_rising" (top 30))
  (Hx:Df K "is_number" (top 25))
  (Hy:Df K "is_below" (top 26))
  (Hz:Df K "is_mark" (top 27))
  (HA:Df K "are_marks" (top 35))
  (HB:Df K "are_apart" (top 37))
  (HC:Df K "is_sheet" (top 36))
  (HD:Df K "is_mould" (top 28))
  (HE:Df K "is_day" (top 29))
  (HF:Df K "is_page" (top 38))
  (HG:Df K "are_laid" (top 39))
  (HH:Df K "days_seen" (top 44))
  (HI:Df K "days_mended" (top 45))
  (HJ:Df K "is_any_behind" (top 43))
  (HK:Df K "clashes" (top 42))
  (Be:Df K "faults_of" (top 41))
  (HL:Df K "is_book" (top 40))
  (HM:Df K "marks_of" (top 58))
  (HN:Df K "sheet_of" (top 57))
  (HP:Df K "page_of" (top 56))
  (HQ:Df K "are_figures" (top 55))
  (HR:Df K "is_sheet_word" (top 54))
  (HS:Df K "is_number_word" (top 53))
  (HU:Df K "are_page_words" (top 52))
  (HV:Df K "read_page" (top 51))
  (HW:Df K "read_book" (top 50))
  (HX:Df K "_law_met" (top 69))
  (HY:Df K "_law_same" (top 70))
  (H0:Df K "_law_book" (top 67))
  (BZ:∃t,ð K Ú "NOTHING"=ϊ (ϊ (.str "-" t)))
  (B0:∃t,ð K Ú "FIGURES"=ϊ (ϊ (.str "0123456789" t)))
  (dl:Df K "law" (top 79))
  (Dd:∃t,ð K Ú "MARKS"=ϊ (ϊ (.int (8) t)))
  (Cw:∃t,ð K Ú "MOULDS"=ϊ (ϊ (.int (4) t)))
  (D4:∃t,ð K Ú "DAYS"=ϊ (ϊ (.int (31) t)))
  (De:∃t,ð K Ú "PAGES"=ϊ (ϊ (.int (24) t)))
  (EF:∃t,ð K Ú "HAS"=ϊ (ϊ (.int (0) t)))
  (Dg:∃t,ð K Ú "LACKS"=ϊ (ϊ (.int (1) t)))
  (B1:∃t,ð K Ú "LONGEST"=ϊ (ϊ (.int (30) t)))
  (Br:ð K Ú "ValueError"=ϊ ϋ)
  (EG:ð K Ú "all"=ϊ ϋ)
  (EH:ð K Ú "any"=ϊ ϋ)
  (D5:ð K Ú "bool"=ϊ ϋ)
  (EI:ð K Ú "int"=ϊ ϋ)
  (Bs:ð K Ú "isinstance"=ϊ ϋ)
  (tF:ð K Ú "len"=ϊ ϋ)
  (D6:ð K Ú "list"=ϊ ϋ)
  (EJ:ð K Ú "max"=ϊ ϋ)
  (EK:ð K Ú "min"=ϊ ϋ)
  (Dh:ð K Ú "range"=ϊ ϋ)
  (EL:ð K Ú "set"=ϊ ϋ)
  (Cy:ð K Ú "sorted"=ϊ ϋ)
  (EM:ð K Ú "str"=ϊ ϋ)
  (Di:ð K Ú "tuple"=ϊ ϋ)
  (EN:ð K Ú "zip"=ϊ ϋ)
  (xf:mf K bS aa2 "MouldError"=ό) (tf:DD K "law"=ό)
  : ∃(c T:Þ) (fd:ĺ),ae7 K "law"=ϊ (c,T)/\K.lookup T=ϋ/\(∀(s:Æ) (v:È),BindsTo s fd ⟨[v],[]⟩ [(afq,v)])/\∀base:Ŀ,K.In base->base.Ns Ú mg->base.BuiltinsAt mg T->dG P w K mg base dP 12 fa fd [afq] (zH K T):=by
 have g0:=bZ (ps:=[afq,"_law_k"]) X G d0 λ_ _ _ _ _ _=>mw λ_ _=>rfl;have g1:=bZ (ps:=[afq,"_law_k"]) X G d1 λ_ _ _ _ _ _=>mw λ_ _=>rfl;have g2:=bZ (ps:=[afp,afw]) X G d2 λ_ _ _ _ _ _=>mw λ_ _=>rfl;have g3:=bZ (ps:=["_law_marks"]) X G d3 λ_ _ _ _ _ _=>cZ λ_=>rfl;have g4:=bZ (ps:=["_law_sheet_here"]) X G d4 λ_ _ _ _ _ _=>cZ λ_=>rfl;have g5:=bZ (ps:=[afx]) X G d5 λ_ _ _ _ _ _=>cZ λ_=>rfl;have g6:=bZ (ps:=[afp]) X G d6 λ_ _ _ _ _ _=>cZ λ_=>rfl;have g7:=bZ (ps:=[afp,"_law_days"]) X G d7 λ_ _ _ _ _ _=>mw λ_ _=>rfl;have g8:=bZ (ps:=[afp,afu]) X G d8 λ_ _ _ _ _ _=>mw λ_ _=>rfl;have g9:=bZ (ps:=[afs,"_law_most"]) X G d9 λ_ _ _ _ _ _=>mw λ_ _=>rfl;have Z:=bZ (ps:=[afs]) X G Hq λ_ _ _ _ _ _=>cZ λ_=>rfl;have Y:=bZ (ps:=[afy]) X G Hr λ_ _ _ _ _ _=>cZ λ_=>rfl;have W:=bZ (ps:=[aft,afz,afr]) X G Hs λ_ _ _ _ _ _=>Ah λ_ _ _=>rfl;have V:=bZ (ps:=[aft]) X G Ht λ_ _ _ _ _ _=>cZ λ_=>rfl;have U:=bZ (ps:=[afu]) X G Hu λ_ _ _ _ _ _=>cZ λ_=>rfl;have S:=bZ (ps:=["_law_e"]) X G Hv λ_ _ _ _ _ _=>cZ λ_=>rfl;have R:=bZ (ps:=["things"]) X G Hw λ_ _ _ _ _ _=>cZ λ_=>rfl;have Q:=bZ (ps:=["thing"]) X G Hx λ_ _ _ _ _ _=>cZ λ_=>rfl;have O:=bZ (ps:=["thing","many"]) X G Hy λ_ _ _ _ _ _=>mw λ_ _=>rfl;have N:=bZ (ps:=["thing"]) X G Hz λ_ _ _ _ _ _=>cZ λ_=>rfl;have M:=bZ (ps:=["thing"]) X G HA λ_ _ _ _ _ _=>cZ λ_=>rfl;have L:=bZ (ps:=["marks","others"]) X G HB λ_ _ _ _ _ _=>mw λ_ _=>rfl;have J:=bZ (ps:=["thing"]) X G HC λ_ _ _ _ _ _=>cZ λ_=>rfl;have I:=bZ (ps:=["thing"]) X G HD λ_ _ _ _ _ _=>cZ λ_=>rfl;have H:=bZ (ps:=["thing"]) X G HE λ_ _ _ _ _ _=>cZ λ_=>rfl;have E:=bZ (ps:=["thing"]) X G HF λ_ _ _ _ _ _=>cZ λ_=>rfl;have D:=bZ (ps:=["thing"]) X G HG λ_ _ _ _ _ _=>cZ λ_=>rfl;have C:=bZ (ps:=["pages","mould","mark","half"]) X G HH λ_ _ _ _ _ _=>aa4 λ_ _ _ _=>rfl;have B:=bZ (ps:=["pages","mould","mark"]) X G HI λ_ _ _ _ _ _=>Ah λ_ _ _=>rfl;have A:=bZ (ps:=["days","day","later"]) X G HJ λ_ _ _ _ _ _=>Ah λ_ _ _=>rfl;have z:=bZ (ps:=["pages","mould","mark"]) X G HK λ_ _ _ _ _ _=>Ah λ_ _ _=>rfl;have y:=bZ (ps:=["pages"]) X G Be λ_ _ _ _ _ _=>cZ λ_=>rfl;have x:=bZ (ps:=["thing"]) X G HL λ_ _ _ _ _ _=>cZ λ_=>rfl;have u:=bZ (ps:=["word"]) X G HM λ_ _ _ _ _ _=>cZ λ_=>rfl;have r:=bZ (ps:=["word"]) X G HN λ_ _ _ _ _ _=>cZ λ_=>rfl;have q:=bZ (ps:=["words"]) X G HP λ_ _ _ _ _ _=>cZ λ_=>rfl;have p:=bZ (ps:=["word"]) X G HQ λ_ _ _ _ _ _=>cZ λ_=>rfl;have o:=bZ (ps:=["word"]) X G HR λ_ _ _ _ _ _=>cZ λ_=>rfl;have n:=bZ (ps:=["word"]) X G HS λ_ _ _ _ _ _=>cZ λ_=>rfl;have m:=bZ (ps:=["words"]) X G HU λ_ _ _ _ _ _=>cZ λ_=>rfl;have j:=bZ (ps:=["line"]) X G HV λ_ _ _ _ _ _=>cZ λ_=>rfl;have i:=bZ (ps:=["text"]) X G HW λ_ _ _ _ _ _=>cZ λ_=>rfl;have g:=bZ (ps:=["_law_call"]) X G HX λ_ _ _ _ _ _=>cZ λ_=>rfl;have d:=bZ (ps:=[afA,afv]) X G HY λ_ _ _ _ _ _=>mw λ_ _=>rfl;have b:=bZ (ps:=[afp,afw]) X G H0 λ_ _ _ _ _ _=>mw λ_ _=>rfl;have yT:∃t,mg "MARKS"=ϊ (.int (8) t):=by obtain⟨t,e⟩:=Dd;exact⟨t,Ņ X G e⟩
 have yJ:∃t,mg "MOULDS"=ϊ (.int (4) t):=by obtain⟨t,e⟩:=Cw;exact⟨t,Ņ X G e⟩
 have zq:∃t,mg "DAYS"=ϊ (.int (31) t):=by obtain⟨t,e⟩:=D4;exact⟨t,Ņ X G e⟩
 have Co:∃t,mg "PAGES"=ϊ (.int (24) t):=by obtain⟨t,e⟩:=De;exact⟨t,Ņ X G e⟩
 have DL:∃t,mg "HAS"=ϊ (.int (0) t):=by obtain⟨t,e⟩:=EF;exact⟨t,Ņ X G e⟩
 have Cp:∃t,mg "LACKS"=ϊ (.int (1) t):=by obtain⟨t,e⟩:=Dg;exact⟨t,Ņ X G e⟩
 have BF:∃t,mg "LONGEST"=ϊ (.int (30) t):=by obtain⟨t,e⟩:=B1;exact⟨t,Ņ X G e⟩
 have Q5:=Č X G Br;have aa5:=Č X G EG;have aa6:=Č X G EH;have ZS:=Č X G D5;have aa7:=Č X G EI;have Q6:=Č X G Bs;have aa8:=Č X G tF;have ZT:=Č X G D6;have aa9:=Č X G EJ;have aba:=Č X G EK;have XJ:=Č X G Dh;have abb:=Č X G EL;have V2:=Č X G Cy;have abc:=Č X G EM;have XM:=Č X G Di;have abd:=Č X G EN;have yC:∃t,mg "NOTHING"=ϊ (.str "-" t):=by obtain⟨t,e⟩:=BZ;exact⟨t,Ņ X G e⟩
 have BG:∃t,mg "FIGURES"=ϊ (.str "0123456789" t):=by obtain⟨t,e⟩:=B0;exact⟨t,Ņ X G e⟩
 obtain⟨f,oc,od,sl,kV,dc,pm,an,cd,ct,a,l,c,k⟩:=dl;have e:=hfa.symm.trans (Ņ X G a);cases e;have F:=LZ (st:=(top 79)) l c k;have GL:Gd K mg "law" (top 79) [afq] _ _:=⟨Ņ X G a,F,F.binds λ_ _ _ _ _ _=>cZ λ_=>rfl⟩;obtain⟨c0,T0,ht,hC,hT⟩:=WS tf;exact⟨c0,T0,_,ht,hT,λs v=>.of_eq rfl,λbase _ _ hB=>WR (Zq ⟨Q5,aa5,aa6,ZS,aa7,Q6,aa8,ZT,aa9,aba,XJ,abb,V2,abc,XM,abd,gE X G xf (by decide +kernel),gE X G xf (by decide +kernel),gE X G xf (by decide +kernel),gE X G xf (by decide +kernel),gE X G xf (by decide +kernel),gE X G xf (by decide +kernel),gE X G xf (by decide +kernel),gE X G xf (by decide +kernel),gE X G xf (by decide +kernel),gE X G xf (by decide +kernel),gE X G xf (by decide +kernel),gE X G xf (by decide +kernel),gE X G xf (by decide +kernel),gE X G xf (by decide +kernel),gE X G xf (by decide +kernel),gE X G xf (by decide +kernel),gE X G xf (by decide +kernel),gE X G xf (by decide +kernel),gE X G xf (by decide +kernel),aaG xf,ab5 X G xf (by decide +kernel),ab6 X G xf,yT,yJ,zq,Co,DL,Cp,BF,yC,BG,g0,g1,g2,g3,g4,g5,g6,g7,g8,g9,Z,Y,W,V,U,S,R,Q,O,N,M,L,J,I,H,E,D,C,B,A,z,y,x,u,r,q,p,o,n,m,j,i,g,d,b⟩ ht hC hB GL a) ht V1⟩
def walk {l:PySem.W.OpenLaw} {q:ê} {loose:List Str} {XP:(Str->Option È)->Ŀ->Prop} {YP:Ď->Ŀ->Prop} {d:DefRec} {K:Params->İ} (hn:l.most=ϊ 63) (xB:d.params.defaults=[]) (hd:(PyProof.Rows.recsOf q).find? (λe=>e.name==d.name)=ϊ d)
  (hY:∀(w:Ď) (h:Ŀ),YP w h->(K w.params).In h)
  (F:∀(w:Ď) (mg:Str->Option È) (fa:Þ) (h:Ŀ),(K w.params).In h->h.Ns Ú mg->mg d.name=ϊ (.ref fa) ->
   ∃(c T:Þ) (fd:ĺ),ae7 (K w.params) d.name=ϊ (c,T)/\(K w.params).lookup T=ϋ/\(∀(s:Æ) (u:È),BindsTo s fd ⟨[u],[]⟩ [(afq,u)])/\∀base:Ŀ,(K w.params).In base->base.Ns Ú mg->base.BuiltinsAt mg T->dG l.prog w (K w.params) mg base dP 12 fa fd [afq] (zH (K w.params) T)) :
  PySem.W.WalkO q loose XP YP l.row.toRowW d [] (λf vs=>PySem.call f vs) :=
 L2.Y6 (n:=63) (k:=12) (x:= afq) (CX:=λ_=>dP) (sp:=λw=>zH (K w.params)) hn (by decide) xB ⟨rfl,by decide,by decide,rfl⟩ hY hd F (λ_ _ _ a Z Y X V=>⟨a,Z,rfl,V,Y,X,λ_=>rfl⟩) λ_ _ _ _ _ z=>z
end DI.bK
open PySem PySem.W PyProof.Rows
namespace PySem.W.Fast
def te8593344485492926597:=trivial
def te16206850233861740884:=trivial
def te13052408679150730464:=trivial
def te15318048890461403359:=trivial
def te10276373822044225740:=trivial
def te11689468704599875143:=trivial
def te8403559534865787773:=trivial
def te15500001179271910561:=trivial
def te4678103353419205127:=trivial
end PySem.W.Fast
set_option maxRecDepth 100000 in
set_option maxHeartbeats 0 in
theorem PySem.Challenge.cw_twinmoulds_k50_texts_put_otherwise_holds : PySem.Challenge.rw_twinmoulds_k50_texts_put_otherwise.Holds := by
 w_on;o_law;k_head;(case hw=>w_witness2)
 k_fill
 refine DI.bK.walk (l:=PySem.Challenge.rw_twinmoulds_k50_texts_put_otherwise) rfl rfl rfl (λw h Y=>PySem.W.km_in_of Y) ?F
 case F =>
  intro w V U h Z G X;refine' DI.bK.all_mk Z G X ?d0 ?d1 ?d2 ?d3 ?d4 ?d5 ?d6 ?d7 ?d8 ?d9 ?Hq ?Hr ?Hs ?Ht ?Hu ?Hv ?Hw ?Hx ?Hy ?Hz ?HA ?HB ?HC ?HD ?HE ?HF ?HG ?HH ?HI ?HJ ?HK ?Be ?HL ?HM ?HN ?HP ?HQ ?HR ?HS ?HU ?HV ?HW ?HX ?HY ?H0 ?BZ ?B0 ?dl ?Dd ?Cw ?D4 ?De ?EF ?Dg ?B1 ?Br ?EG ?EH ?D5 ?EI ?Bs ?tF ?D6 ?EJ ?EK ?Dh ?EL ?Cy ?EM ?Di ?EN ?xf ?tf
  (case d0|d1|d2|d3|d4|d5|d6|d7|d8|d9|Hq|Hr|Hs|Ht|Hu|Hv|Hw|Hx|Hy|Hz|HA|HB|HC|HD|HE|HF|HG|HH|HI|HJ|HK|Be|HL|HM|HN|HP|HQ|HR|HS|HU|HV|HW|HX|HY|H0|dl=>refine' DI.bK.aa3 ?a ?l ?c ?k;(case a=>k_is);(case l=>k_is);(case c=>k_is);(case k=>k_is))
  (case Dd=>refine' DI.bK.qF ?e;(case e=>k_is))
  (case Cw=>refine' DI.bK.qF ?e;(case e=>k_is))
  (case D4=>refine' DI.bK.qF ?e;(case e=>k_is))
  (case De=>refine' DI.bK.qF ?e;(case e=>k_is))
  (case EF=>refine' DI.bK.qF ?e;(case e=>k_is))
  (case Dg=>refine' DI.bK.qF ?e;(case e=>k_is))
  (case B1=>refine' DI.bK.qF ?e;(case e=>k_is))
  (case Br|EG|EH|D5|EI|Bs|tF|D6|EJ|EK|Dh|EL|Cy|EM|Di|EN=>k_is)
  (case BZ=>refine' DI.bK.NX ?e;(case e=>k_is))
  (case B0=>refine' DI.bK.NX ?e;(case e=>k_is))
  (case xf=>kernel_rfl)
  (case tf=>kernel_rfl)
