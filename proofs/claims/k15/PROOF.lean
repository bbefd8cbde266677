import PyProof.Rows.All
import Wide.All
import OpenK.AllK
import Wide.FinOn
import Lean
import PyProof.EqAt
import PyProof.EqKinds
import PyProof.TupleCall
import PyProof.NeData
import PyProof.P3In
import PyProof.FactsAll.set
import PyProof.CollectWalk
import PyProof.FactsAll.range
import PyProof.MinMaxWalk
import KE.KMinKey
import PyProof.WalkInts
import PyProof.Rows.CallKwBuiltin
import KE.KLam
import KE.KSortTup
import PyProof.Rows.Range3
import PyProof.ListRange
import PyProof.DictRoadsH
import KE.KDictList
import PyProof.Rows.SortKeyStr
import PyProof.Rows.SortRuns
import PyProof.DictCompW
import PyProof.DictWalks
import PyProof.Rows.CompDC
import PyProof.SumAny
import PyProof.TupleOfGen
import PyProof.CollectIter
import PySem.Challenge.RW_twinmoulds_k15_marks_and_moulds_named_ot
set_option compiler.extract_closed false
set_option bootstrap.genMatcherCode false
set_option genInjectivity false
set_option genSizeOfSpec false
set_option Elab.async false
set_option linter.all false
set_option maxRecDepth 100000
set_option maxHeartbeats 4000000
open Decidable renaming decide→ώ
open Option renaming some→ϊ,none→ϋ
open Bool renaming true→ό,false→ύ
open PySem renaming wpAny_bind→À,wpAny_pure→Â,starEach→Õ,Shared→ß,sizeLine→â,model→ã,Value→ì,wpAny→ð,mainGlobals→ù,foldedSetIterable→ú,wpAny_call_entry→Ą,Program→Ć,bootBuiltins→ć,wpAny_callSpecial?_slot→ċ,wpAny_newObj_type→Č,wpAny_seqItems→Ď,Addr→ę,wpAny_mono→Ĝ,wpAny_holding→ĝ,compareOp→ğ,codeAny_builtin→Ģ,World→ģ,wpAny_tryCatch→Ĩ,Around→Ĭ,plainId_quiet→Ķ,wpAny_truthy_bool→Ĺ,wpAny_field→Ŀ,wpAny_updateSeq→Ō,wpAny_standAt→ō,letOwnedTupleGo→ř,wpAny_letGo→Ŝ,wpAny_rule→ş,binaryOp→ŧ,backTo→ũ,codeAny→ů,wpAny_typeNameOfWhole_keyiter→Ű,wpAny_setField→Ŷ,rawInt→ŷ,eval→Ź,wpAny_pyIter_list→ź,wpAny_of_eq→ſ,Builtin→ε,assignEach→η,codeAny_mono→ξ,wpAny_setField_rec→ς,wpAny_attempt→υ,intKind→ψ,wpAny_setState_of→abL,swapsWithSole→ae4,swappedStores→ae5,mem_of_lookup→ae6,wpAny_setEntries_of→ae9,wpAny_askSetting→afc,wpAny_Call_Name_kw→afg,Expr→afh,scanBound→afl,fits_of_scanBound→afu,Heap→afz,wpAny_fieldsOf→afC,wpAny_isInstance→afF,wpAny_comprehension_free→afO,wpAny_passesOwn→afQ,behindInMarks→afR,cellsFrom→afS,pickOrder→afW,codeAny_of_tree→afX,wpAny_newList→afY,assign→af5,wpAny_pyIter_rangeiter→af6,IsPair→aga,codeAny_compStart_list→agc,sliceBounds→age,wpAny_storeSet_of→agh,wpAny_bindName→agl,pyNext→agn,wpAny_typeOf→ago,holding→agw,standAt→agx,wpAny_forIn_list→agy,attributeBase→agH,sysModules→agK,swapsWith→agL,Keyword→agM,keywordEach→agN,wpAny_loadPart'→agP,wpAny_specialOf→agT,cLine→agZ,argBest→ag4,isTrue→ag5,pyIter→ag6
open PySem.Heap renaming get?_push_of_some→Á,get?_push_size→Ê,lt_size→Í,get?_update_other→ò,get?_update_self→þ,size_push→ĉ,SameBut→Ļ,ExtBut→agf,get?_update_ne→agV
open List renaming length_map→Ã,getElem?_eq_some_iff→Ä,mem_append_right→Å,getElem?_eq_getElem→É,mem_cons_self→Ë,mem_cons_of_mem→Ì,length_append→Î,mem_cons→Ð,replicate→Ñ,range→Ô,append_assoc→Ö,mem_singleton→Ø,getElem?_append_left→Ù,length_cons→Ú,mem_append→Û,map_cons→Ü,getElem?_map→Þ,mem_map→á,getElem?_append_right→ç,mem_range→é,size_toArray→ê,getElem?_set_ne→í,mem_filter→î,map_map→ï,getElem?_set_self→ñ,pairwise_append→ô,mem_of_getElem?→ö,pairwise_cons→û,not_mem_nil→ü,getD_eq_getElem?_getD→ý,map_append→ā,all_eq_true→Ĉ,length_nil→Ċ,cons_append→č,append_nil→ĕ,take_append_drop→Ė,take_of_length_le→Ě,mem_append_left→ě,getElem?_eq_none→Ġ,length_set→Ĥ,nil_append→ĥ,extract_eq_drop_take→ĩ,ext_getElem?→į,set_cons_succ→ı,length_filter_le→Ĵ,getElem?_replicate→ĵ,any_eq_true→ĸ,drop_eq_getElem_cons→ĺ,zip_cons_cons→ļ,set_cons_zero→ľ,getElem?_range→Ł,drop_sublist→Ń,pairwise_map→ń,map_nil→Ŋ,pairwise_iff_getElem→ŋ,length_take→Ŏ,mem_flatMap→Ő,length_range→Ŗ,length_eq_zero_iff→ŝ,pairwise_singleton→Ş,lookup_cons→š,getElem_mem→Ţ,getElem_of_mem→ť,drop_drop→Ũ,perm_append_comm→Ŭ,getElem?_drop→Ů,filter_cons→ű,map_flatMap→Ų,take_sublist→Ż,any_eq_false→Ž,length_drop→θ,length_singleton→ο,getElem?_take_of_lt→ω,flatten_cons→abI,replicate_succ→ae7,map_congr_left→ae8,map_eq_flatMap→afa,nodup_nil→afe,nodup_cons→afi,length_replicate→afj,getElem?_toArray→afp,pairwise_flatMap→afr,nodup_append→afv,drop_zero→afD,filterMap_cons→afJ,length_pos_iff→afK,length_reverse→afL,range_succ→af2,flatMap_eq_nil_iff→af3,pairwise_lt_range→agb,reverse_perm→agj,filter_congr→agk,getD→agp,all_map→agr,getElem?_reverse→ags,set_append_right→agv,drop_length→agB,getElem_map→agD,mem_of_mem_drop→agF,of_mem_zip→agO,drop_succ_cons→agY
open Bool renaming and_eq_true→Ç,false_eq_true→Ò,false_ne_true→è,not_eq_true'→Ĕ,and_self→ķ,not_true→ŏ,eq_iff_iff→ś,not_eq_true→afG,or_eq_true→afV,not_eq_false'→af0,true_and→agJ
open Nat renaming lt_of_lt_of_le→È,le_trans→Ó,ne_of_lt→ë,lt_irrefl→ó,zero_le→Ă,lt_succ_of_lt→Ē,le_succ→Ť,le_of_eq→Ū,lt_of_le_of_lt→ŭ,ne_of_gt→ŵ,lt_succ_self→μ,zero_add→afq,le_of_not_lt→afE,add_assoc→afZ,sub_self→agt,succ_le_succ→agz,mul_le_mul_right→agE,pow_le_pow_right→agG
open And renaming intro→Ý
open PyProof.Rows renaming wpS_pure→à,wpS_bind→æ,SortSt→ď,pendingOf→ė,Keyed→Ę,arrOf→ī,slot_tuple_getitem→Į,wpS_forRange→ĳ,IntsAre→Ņ,callWith_type1→Ś,firstMet→ų,step_dedup→Ŵ,assignInOrder_cons→ν,step_dedup→acV,wpS_modify→afx,failedOf→afH,wpS_mono→afI,wpS_get→agC,SortKind→ag0,IsTup→ag2
open Array renaming getElem?_toList→ä,length_toList→å,toList_extract→Ň,toList_push→Ŕ,toList_append→Ŧ
open PySem.W renaming nsIn→Ā,mg_none_of→đ,mg_of→ő,fnOf→ae2,Frag→ae3,keepIn→afd,cellsFrom_some→af7,codeIn→agm
open Int renaming toNat_natCast→ă,zero_add→Ÿ,eq_ofNat_of_zero_le→afb,emod_lt_of_pos→af1,toNat_of_nonneg→agU,emod_nonneg→agW
open PySem.NameKind renaming free→ą
open PySem.Obj renaming data_mapFields→Đ,isFreed_of_fields→Œ,mapSeq→Š,cls_mapFields→aft
open PySem.Heap.SameBut renaming update→ġ
open PySem.PassesOwn renaming never→Ħ
open PySem.SetTable renaming below→ħ
open PySem.Value renaming type→Ī,int→ag8
open PySem.Builtin.Range renaming rangeFitsLong→İ,rangeSize→afP
open PySem.Str renaming ofString→Ĳ
open ForInStep renaming yield→ŀ
open PySem.PyData renaming eqv→ł,depthAll→afo
open PySem.Around renaming under_plainId→ņ
open Or renaming inl→œ,inr→ag7
open PySem.F renaming slot_dict_keyiterator_next→ŗ,plain_min_loop→ţ,slot_tuple_iterator_next→ζ,entry_min_loop→aff,slot_tuple_lt→afk,called_set→afm,slot_range_reversed→afn,args_tuple_add_2→afN,args_tuple_lt_2→afT,entry_tuple_add→afU,entry_tuple_lt→af8,slot_tuple_add→af9,slot_tuple_hash→agi,plain_min_loop→agA,slot_int_rmul→agQ,slot_zip_next→agR
open Ne renaming symm→Ř
open List.Perm renaming append_left→ū,flatMap_right→af4
open Function renaming comp_def→ż
open Option renaming map_some→ž,isSome_iff_exists→afM
open PySem.Builtin.SmallTypes renaming nextOf→χ
open List.cons renaming injEq→ae1
open False renaming elim→afs
open PySem.Builtin.Tuple renaming tupleItemsOf→afy,tupleCompareSizes→agd,tupleHashOf→ag1
open PySem.Builtin.Slice renaming sliceAdjust→afA,slicePlaces→afB
open PySem.SetTable.below renaming go→agg
open List.Pairwise renaming sublist→agq
open Classical renaming choose_spec→agu
open PySem.Builtin.Dict_items renaming ownsTuple→agI
open PySem.Builtin.List renaming listExtendWith→agS
open PySem.SetTable.probe renaming go→ag3
def Æ:=@decide_eq_true_eq
def Ï:=@decide_eq_true
def õ:=@if_pos
def ø:=@decide_eq_false
def ÿ:=@if_neg
def ē:=@of_decide_eq_true
def Ğ:=@if_false
def ĭ:=@if_true
def Ľ:=@and_self
def ň:=@congrArg
def ŕ:=@bne_self_eq_false
def ι:=@beq_self_eq_true
def afw:=@true_and
def agX:=@decide_true
def ahd:=@Nat.le_refl
def ahe:=@Option.some.inj
abbrev ahf:PySem.Str:="_law_state_here"
abbrev ahg:PySem.Str:="_law_names"
abbrev ahh:PySem.Str:="_law_script"
abbrev ahi:PySem.Str:="_law_mark"
abbrev ahj:PySem.Str:="_law_moulds"
abbrev ahk:PySem.Str:="_law_day"
abbrev ahl:PySem.Str:="_law_mould"
abbrev ahm:PySem.Str:="_law_many"
abbrev ahn:PySem.Str:="_law_found"
abbrev aho:PySem.Str:="_law_has"
abbrev ahp:PySem.Str:="_law_mended"
abbrev ahq:PySem.Str:="_law_book_here"
abbrev ahr:PySem.Str:="_law_sheet_here"
abbrev ahs:PySem.Str:="_law_sheet_named"
abbrev aht:PySem.Str:="_law_book_named"
noncomputable section
def hold{G:Prop}(h:∀P:Prop,(G->P)->P):G:=h G id
local macro_rules | `(tactic| obtain ⟨$a,$b,$c,$d,$xs,*⟩ := $h)=>`(tactic| (refine hold λP k=>?_;rcases $h:term with ⟨$a,$b,$c,$d,$xs,*⟩<;>(refine k ?_;clear k P)))
local macro_rules | `(tactic| obtain ⟨$a,$b,$c,$d⟩ := $h)=>`(tactic| (refine hold λP k=>?_;rcases $h:term with ⟨$a,$b,$c,$d⟩<;>(refine k ?_;clear k P)))
local macro_rules | `(tactic| rcases $h:term with ⟨$a,$b,$c,$xs,*⟩ | $q)=>`(tactic| (refine hold λP k=>?_;obtain ⟨$a,$b,$c,$xs,*⟩ | $q := $h<;>(refine k ?_;clear k P)))
local macro_rules | `(⋯)=>`(by omega)
local macro_rules | `(∅)=>`(by simp)
local macro_rules | `(nofun)=>`(by decide +kernel)
local macro_rules | `(tactic| delta $x* $[$l]?)=>`(tactic| unfold $x* $[$l]?)
local macro_rules | `(tactic| erw[$[$x:term],*] $[$l:location]?)=>`(tactic| simp only[$[$x:term],*] $[$l:location]?)
local macro_rules | `(tactic| let $d:letDecl)=>do
  let p:=d.raw[0]
  let `(($a,$xs,*)):=p[0] | Lean.Macro.throwUnsupported
  let r<-(#[a]++xs.getElems).mapM λs=>match s with
    |`($i:ident)=>`(rcasesPat|$i:ident)
    |_=>`(rcasesPat|_)
  `(tactic| obtain ⟨$[$r:rcasesPat],*⟩ := $(⟨p[4]⟩))
local macro_rules | `(#v[$xs,*])=>`(List.toArray [$xs,*])
local macro_rules | `(#[$xs,*])=>`(⟨$xs,*⟩)
local macro_rules | `(tactic| omega) => `(tactic| lia)
open PySem.W (Frag)
namespace L2
open PySem PySem.Spec PyProof.Rows
abbrev Key:=Sum Int Str
noncomputable def Qj:Key->ì->Bool
 | .inl k,v=>Value.isInt k v
 | .inr x,v=>Value.isStrOf x v
noncomputable def adG (w:ģ):Key->Int
 | .inl k=>hashInt k
 | .inr x=>hashStr w x
def mK:∀{k} {v},Qj k v=ό->(∃i t,k=Sum.inl i/\v=ag8 i t)\/(∃x t,k=Sum.inr x/\v=Value.str x t)
 | .inl i,v,h=>by
  let(t,e):=Value.isInt_shape h;exact .inl #[i,t,rfl,e]
 | .inr x,v,h=>by
  let(t,e):=Value.isStrOf_shape h;exact .inr #[x,t,rfl,e]
def aao (a b):ώ ((Sum.inl a:Key)=Sum.inl b)=(a==b):=by
 by_cases e:a=b
 .subst e;simp
 .have h:¬ (Sum.inl a:Key)=Sum.inl b:=λq=>e (Sum.inl.inj q)
  rw[ø h];exact(beq_eq_false_iff_ne.mpr e).symm
def aap (a b):ώ ((Sum.inr a:Key)=Sum.inr b)=ώ (a=b):=by
 by_cases e:a=b
 .simp
 .have h:¬ (Sum.inr a:Key)=Sum.inr b:=λq=>e (Sum.inr.inj q)
  rw[ø h,ø e]
def ah1 (a) (b):ώ ((Sum.inl a:Key)=Sum.inr b)=ύ:=ø (λq=>nomatch q)
def ah2 (a) (b):ώ ((Sum.inr a:Key)=Sum.inl b)=ύ:=ø (λq=>nomatch q)
def AW (prog) (w):PySem.KeyKind prog w Key where
 is:=Qj
 hash:=adG w
 inj:=λv a b X Y=>by
  rcases mK X with ⟨i,t,rfl,rfl⟩ | ⟨x,t,rfl,rfl⟩
  .rcases mK Y with ⟨j,u,rfl,e⟩ | ⟨y,u,rfl,e⟩
   .injection e with e1 _;rw[e1]
   .exact nomatch e
  .rcases mK Y with ⟨j,u,rfl,e⟩ | ⟨y,u,rfl,e⟩
   .exact nomatch e
   .injection e with e1 _;rw[e1]
 byValue:=λk v h=>by
  rcases mK h with ⟨i,t,rfl,rfl⟩ | ⟨x,t,rfl,rfl⟩<;>rfl
 pyHash:=λZ h=>by
  rcases mK Z with ⟨i,t,rfl,rfl⟩ | ⟨x,t,rfl,rfl⟩
  .exact wpAny_pyHash_int h
  .exact wpAny_pyHash_str h
 eqBool:=λW Z h=>by
  rcases mK W with ⟨i,t,rfl,rfl⟩ | ⟨x,t,rfl,rfl⟩
  .rcases mK Z with ⟨j,u,rfl,rfl⟩ | ⟨y,u,rfl,rfl⟩
   .rw[aao] at h;exact wpAny_eqBool_int h
   .exact SeqAt.EqAt.int_str i t y u _ _ _ _ h
  .rcases mK Z with ⟨j,u,rfl,rfl⟩ | ⟨y,u,rfl,rfl⟩
   .exact SeqAt.EqAt.str_int x t j u _ _ _ _ h
   .rw[aap] at h;exact wpAny_eqBool_str h
 «strs»:=λk x t v h=>by
  rcases mK h with ⟨i,u,rfl,e⟩ | ⟨y,u,rfl,e⟩
  .exact nomatch e
  .injection e with e1 _
   subst e1
   cases v<;>rfl
set_option genInjectivity true in
inductive V where
 |aD|bl (b:Bool)|int (i:Int)|str (x:Str)|kB (b:Array UInt8)|IS (b:UInt64)|ref (a:ę)|ty (n:String)
 deriving DecidableEq
def RelV:V->ì->Prop
 | .aD,u=>u=Value.none
 | .bl b,u=>u=Value.bool b
 | .int i,u=>∃t,u=ag8 i t
 | .str x,u=>∃t,u=Value.str x t
 | .kB b,u=>∃t,u=Value.bytes b t
 | .IS b,u=>∃t,u=Value.float b t
 | .ref a,u=>u=Value.ref a
 | .ty n,u=>u=Ī n
abbrev Vals:List V->List ì->Prop:=Paired RelV
theorem Vals.length (r:Vals xs us):xs.length=us.length:=Paired.length r
theorem Vals.get:∀{xs} {us} {i:Nat} {x},Vals xs us->xs[i]?=ϊ x->∃u,us[i]?=ϊ u/\RelV x u
 |_,_,_,_,.nil,e=>by simp at e
 |_,_,0,_,.cons r _,e=>by simp at e;subst e;exact#[_,rfl,r]
 |_,_,i+1,x,.cons _ t,e=>by
  let(u,Z,Y):=Vals.get t (by simpa using e);exact#[u,by simpa using Z,Y]
theorem Vals.set (r:RelV x u):∀{xs} {us} i,Vals xs us->Vals (xs.set i x) (us.set i u)
 |_,_,_,.nil=>.nil
 |_,_,0,.cons _ t=>.cons r t
 |_,_,i+1,.cons q t=>.cons q (Vals.set r i t)
theorem Vals.append:∀{xs ys} {us ws},Vals xs us->Vals ys ws->Vals (xs++ys) (us++ws)
 |_,_,_,_,.nil,s=>s
 |_,_,_,_,.cons r t,s=>.cons r (Vals.append t s)
theorem Vals.take:∀{xs} {us} n,Vals xs us->Vals (xs.take n) (us.take n)
 |_,_,0,_=>.nil
 |_,_,_ + 1,.nil=>.nil
 |_,_,n+1,.cons r t=>.cons r (Vals.take n t)
theorem Vals.drop:∀{xs} {us} n,Vals xs us->Vals (xs.drop n) (us.drop n)
 |_,_,0,r=>r
 |_,_,_ + 1,.nil=>.nil
 |_,_,n+1,.cons _ t=>Vals.drop n t
def Rc:Option V->Option ì->Prop
 |some v,ϊ u=>RelV v u
 |none,ϋ=>True
 |_,_=>False
def KV:List (κ×V)->List (κ×ì)->Prop:=Paired λp q=>p.1=q.1/\RelV p.2 q.2
noncomputable def kV:Key->V
 | .inl i=>.int i
 | .inr x=>.str x
inductive HO where
 |lst (xs:List V)
 |tup (xs:List V)
 |dK (ax:List (Key×V))|dT (ax:List (List Key×V))
 |set (S:Int->Bool) (n:Nat)
 |ins (C dx:ę) (fs:List (Str×V))
 |own (x:ę)
 |xd (fs:List (Str×V))
 |met (f x:ę)
 |bL (lo hi:Int)
 |cE (o:Obj) (u:HO)
 |qC (ps:Array ì)
 |ext (φ:afz->Prop)
abbrev Hp:=ę->Option HO
noncomputable def upd (H:Hp) (a:ę) (o:HO):Hp:=λb=>if b=a then ϊ o else H b
def eJ:upd H a o a=ϊ o:=by delta upd;rw[õ rfl]
def bR (h:b≠a):upd H a o b=H b:=by delta upd;rw[ÿ h]
def fL {H:Hp} {a b} {o} (h:H a=ϊ o) (h':H b=ϋ):a≠b:=by
 intro e;subst e;rw[h] at h';cases h'
section
variable (P:Ć) (w:ģ)
def fO (H:Hp) (h:afz) (a:ę):HO->Prop
 | .lst Z=>Z.length<=â/\∃(aj:List ì) (n:Nat),Vals Z aj/\h.get? a=ϊ { cls:=.type "list",data:=.seq aj.toArray n }
 | .tup Z=>Z.length<=â/\∃aj,Vals Z aj/\ag2 h a aj.toArray
 | .dK X=>X.length<=â/\(a==agK)=ύ/\∃T,KV X T/\h.DictOf (AW P w) a T
 | .dT X=>X.length<=â/\(a==agK)=ύ/\∃Z,
   Paired (λp q=>p.1=q.1/\H q.2.1=ϊ (.tup (p.1.map kV))/\RelV p.2 q.2.2) X Z /\
   ∃o R N,h.get? a=ϊ o/\o.ExactDict/\o.data=.dict R N/\R.toList=Z.map (entryOfKey (tupleKind (AW P w)))/\(Z.map (·.1)).Nodup
 | .set S n=>h.SetOf (ψ P w) a S n
 | .ins C V fs=>H V=ϊ (.own a)/\fs.length<=1000/\V≠a/\h.get? a=ϊ (PySem.W.instObj C V) /\
   ∃Y,h.Ns1 V Y/\(∀f,Rc (fs.lookup f) (Y f))/\PySem.Within Y (fs.map (·.1))
 | .own _=>∃o,h.get? a=ϊ o
 | .xd fs=>∃Y,h.Ns1 a Y/\∀f,Rc (fs.lookup f) (Y f)
 | .bL lo hi=>∃t u v,h.get? a=ϊ { cls:=.type "range",data:=.fields #v[.int lo t,.int hi u,.int 1 v] }
 | .cE o u=>h.get? a=ϊ o/\fO H h a u
 | .qC M=>h.get? a=ϊ { cls:=.none,data:=.fields M }
 | .met f x=>h.get? a=ϊ (PySem.W.methodObj (.ref f) (.ref x))
 | .ext U=>U h/\(∃o,h.get? a=ϊ o)/\∀Q O,U Q->(∀o,Q.get? a=ϊ o->O.get? a=ϊ o)->U O
def dM (H:Hp) (h:afz):Prop:=∀a o,H a=ϊ o->fO P w H h a o
end
section
variable {P:Ć} {w:ģ} {H H':Hp} {h h':afz} {a:ę} {o:HO}
theorem fO.lt (x:fO P w H h a o):a<h.objs.size:=by
 cases o with
 |lst Z=>let(_,_,_,_,e):=x;exact Í e
 |tup Z=>let(_,_,_,p):=x;exact p.lt
 |dK Y=>let(_,_,_,_,o,_,_,e,_):=x;exact Í e
 |dT Y=>let(_,_,_,_,o,_,_,e,_):=x;exact Í e
 |set S n=>let(o,_,_,_,e,_):=x;exact Í e
 |ins C X fs=>let(_,_,_,e,_):=x;exact Í e
 |own y=>let(_,e):=x;exact Í e
 |xd fs=>obtain⟨_,⟨_,_,_,e,_⟩,_⟩:=x;exact Í e
 |bL lo hi=>let(_,_,_,e):=x;exact Í e
 |cE W u=>let(e,_):=x;exact Í e
 |qC V=>exact Í (x)
 |met f y=>exact Í (x)
 |ext U=>obtain⟨_,⟨_,e⟩,_⟩:=x;exact Í e
theorem Paired.Rf {F G}:∀{Rg:List α} {Rh:List β},Paired F Rg Rh->(∀a b,F a b->G a b)->Paired G Rg Rh
 |_,_,.nil,_=>.nil
 |_,_,.cons r t,f=>.cons (f _ _ r) (Paired.Rf t f)
def fO.js (x:fO P w H h a o) (k:∀b u,(b=a\/H b=ϊ (.own a))->h.get? b=ϊ u->h'.get? b=ϊ u)
  (ho:∀b,H b=ϊ (.own a)->H' b=ϊ (.own a)) (ht:∀b xs,H b=ϊ (.tup xs)->H' b=ϊ (.tup xs)):fO P w H' h' a o:=by
 induction o with
 |lst xs=>let(z,aj,n,r,e):=x;exact#[z,aj,n,r,k _ _ (.inl rfl) e]
 |tup xs=>let(z,aj,r,Z,e,c):=x;exact#[z,aj,r,Z,k _ _ (.inl rfl) e,c]
 |dK T=>let(z,y,R,r,Z,Y,X,e,c):=x;exact#[z,y,R,r,Z,Y,X,k _ _ (.inl rfl) e,c]
 |dT T =>
  let(z,y,xs,r,Z,Y,X,e,c):=x;exact#[z,y,xs,Paired.Rf r λp q z=>#[z.1,ht _ _ z.2.1,z.2.2],Z,Y,X,k _ _ (.inl rfl) e,c]
 |set S n=>let(Z,Y,X,t,e,c):=x;exact#[Z,Y,X,t,k _ _ (.inl rfl) e,c]
 |ins C Q fs =>
  obtain⟨d,z,ne,e,W,⟨V,Y,X,e2,c⟩,r⟩:=x;exact#[ho _ d,z,ne,k _ _ (.inl rfl) e,W,#[V,Y,X,k _ _ (.inr d) e2,c],r]
 |own y=>let(Z,e):=x;exact#[Z,k _ _ (.inl rfl) e]
 |xd fs=>obtain⟨W,⟨V,Y,X,e,c⟩,r⟩:=x;exact#[W,#[V,Y,X,k _ _ (.inl rfl) e,c],r]
 |bL lo hi=>let(t,u,v,e):=x;exact#[t,u,v,k _ _ (.inl rfl) e]
 |cE Z u ih=>let(e,q):=x;exact#[k _ _ (.inl rfl) e,ih q]
 |qC O =>
  have e:=x;exact k a _ (.inl rfl) e
 |met f y =>
  have e:=x;exact k a _ (.inl rfl) e
 |ext N=>obtain⟨p,⟨o,e⟩,U⟩:=x;exact#[U _ _ p λo q=>k _ _ (.inl rfl) q,#[o,k _ _ (.inl rfl) e],U]
theorem dM.lt (x:dM P w H h) (e:H a=ϊ o):a<h.objs.size:=(x a o e).lt
def dM.fresh (x:dM P w H h) (e:h.objs.size<=a):H a=ϋ:=by
 cases q:H a with
 |none=>rfl
 |some u=>exact absurd (È (x.lt q) e) (ó _)
def dM.kept (x:dM P w H h) (k:∀b u,h.get? b=ϊ u->h'.get? b=ϊ u):dM P w H h':=λa o e =>
 (x a o e).js (λb u _ q=>k b u q) (λ_ q=>q) λ_ _ q=>q
def dM.laid (x:dM P w H h) (k:∀b u,h.get? b=ϊ u->h'.get? b=ϊ u) (hp:h.objs.size<=a) (new:fO P w (upd H a o) h' a o):dM P w (upd H a o) h':=λb u e=>by
 have Z:=x.fresh hp;by_cases Y:b=a
 .subst Y;rw[eJ] at e;cases e;exact new
 .rw[bR Y] at e
  exact(x b u e).js (λc v _ q=>k c v q) (λc q=>by rw[bR (fL q Z)];exact q) λc X q=>by rw[bR (fL q Z)];exact q
end
def Rd (H:Hp) (a:ę) (u:HO):Prop:=H a=ϊ u\/∃o,H a=ϊ (.cE o u)
def Rd.ok (r:Rd H a u) (x:dM P w H h):fO P w H h a u:=by
 rcases r with r | ⟨o,r⟩
 .exact x a u r
 .let(_,q):=x a _ r
  exact q
def yJ:Option HO->Prop
 |some (.lst _)=>True
 |some (.dK _)=>True
 |some (.dT _)=>True
 |some (.set ..)=>True
 |some (.ins ..)=>True
 |some (.ext _)=>True
 |_=>False
section
variable {P:Ć} {w:ģ} {H:Hp} {h h':afz} {x e:ę} {o':HO}
def dM.write (ok:dM P w H h) (mu:yJ (H x)) (he:e=x\/H e=ϊ (.own x)) (k:∀b u,b≠e->h.get? b=ϊ u->h'.get? b=ϊ u) (vI:∃u,h'.get? e=ϊ u)
  (new:fO P w (upd H x o') h' x o'):dM P w (upd H x o') h':=λb u q=>by
 have V:∀c y,H c=ϊ (.own y)->c≠x:=λc y r z=>by subst z;rw[r] at mu;exact mu
 have W:∀c Z,H c=ϊ (.tup Z)->c≠x:=λc Z r z=>by subst z;rw[r] at mu;exact mu
 by_cases Y:b=x
 .subst Y;rw[eJ] at q;cases q;exact new
 .rw[bR Y] at q
  by_cases X:b=e
  .have U:H b=ϊ (.own x):=by
    rcases he with z|z
    .exact absurd (X.trans z) Y
    .rw[X];exact z
   rw[q] at U;cases U;let(v,T):=vI;exact#[v,by rw[X];exact T]
  .refine(ok b u q).js (λc v hc r=>k c v ?_ r) (λc r=>by rw[bR (V c b r)];exact r) λc Z r=>by rw[bR (W c Z r)];exact r
   rcases hc with rfl|hc
   .exact X
   .rintro rfl
    rcases he with z|z
    .exact V c b hc z
    .rw[hc] at z;cases z;exact Y rfl
end
structure Un (fs ex:List ę) (H H':Hp) (h h':afz):Prop where
 keep:∀b o,h.get? b=ϊ o->H b=ϋ->b∉fs->b∉ex->h'.get? b=ϊ o
 slot:∀b o,h.get? b=ϊ o->H b=ϋ->b∈fs->b∉ex->∃sl,h'.get? b=ϊ { o with slots:=sl }
 free:∀b o,h.get? b=ϊ o->H b=ϋ->b∉ex->H' b=ϋ
 there:∀b o,h.get? b=ϊ o->b∉ex->∃o',h'.get? b=ϊ o'
 kU:∀b xs,H b=ϊ (.tup xs)->H' b=ϊ (.tup xs)
 km:∀b o u,H b=ϊ (.cE o u)->H' b=ϊ (.cE o u)
 lV:∀b ps,H b=ϊ (.qC ps)->∃more,H' b=ϊ (.qC (ps++more))
section
variable {fs fs' ex ex':List ę} {H H1 H2:Hp} {h h1 h2 h':afz} {a x e:ę} {o:HO}
def Un.any (u:Un fs ex H H1 h h1) (q:h.get? b=ϊ ob) (n:H b=ϋ) (hx:b∉ex):∃sl,h1.get? b=ϊ { ob with slots:=sl }:=by
 by_cases Z:b∈fs
 .exact u.slot b ob q n Z hx
 .exact#[_,u.keep b ob q n Z hx]
def Un.kept (k:∀b u,h.get? b=ϊ u->h'.get? b=ϊ u):Un fs ex H H h h' :=
 #[λb Z q _ _ _=>k b Z q,λb Z q _ _ _=>#[_,k b Z q],λ_ _ _ n _=>n,λb Z q _=>#[Z,k b Z q],λ_ _ q=>q,λ_ _ _ q=>q,λ_ Y q=>#[#v[],by rw[q];simp]]
def Un.refl:Un fs ex H H h h:=Un.kept λ_ _ q=>q
def Un.laid (k:∀b u,h.get? b=ϊ u->h'.get? b=ϊ u) (hp:h.objs.size<=a) (hn:H a=ϋ):Un fs ex H (upd H a o) h h' where
 keep:=λb u q _ _ _=>k b u q
 slot:=λb u q _ _ _=>#[_,k b u q]
 free:=λb u q n _=>by rw[bR (ë (È (Í q) hp))];exact n
 there:=λb u q _=>#[u,k b u q]
 kU:=λb Z q=>by rw[bR (fL q hn)];exact q
 km:=λb u Z q=>by rw[bR (fL q hn)];exact q
 lV:=λb Y q=>#[#v[],by rw[bR (fL q hn),q];simp]
def Un.write (mu:yJ (H x)) (he:e=x\/H e=ϊ (.own x)) (k:∀b u,b≠e->h.get? b=ϊ u->h'.get? b=ϊ u) (vI:∃u,h'.get? e=ϊ u):Un fs ex H (upd H x o) h h':=by
 have Y:∀b,H b=ϋ->b≠x:=λb n z=>by subst z;rw[n] at mu;exact mu
 have X:∀b,H b=ϋ->b≠e:=λb n z=>by
  subst z
  rcases he with r|r
  .exact Y b n r
  .rw[n] at r;cases r
 have Z:∀b u,H b=ϊ u->¬ yJ (ϊ u)->b≠x:=λb u q nm z=>by subst z;rw[q] at mu;exact nm mu
 refine#[λb u q n _ _=>k b u (X b n) q,λb u q n _ _=>#[_,k b u (X b n) q],λb u q n _=>by rw[bR (Y b n)];exact n,λb u q _=>?_,
  λb V q=>by rw[bR (Z b _ q λz=>z)];exact q,λb u V q=>by rw[bR (Z b _ q λz=>z)];exact q,λb U q=>#[#v[],by rw[bR (Z b _ q λz=>z),q];simp]]
 by_cases W:b=e
 .subst W;exact vI
 .exact#[u,k b u W q]
end
noncomputable def RN (h:afz) (H:Hp):List ę:=(Ô h.objs.size).filter λa=>(H a).isSome
def ve (h:afz) (H:Hp):afz:=PySem.W.hideAll h (RN h H)
def V8 (h) (H):(ve h H).objs.size=h.objs.size:=PySem.W.hideAll_size ..
def Xi (e:h.get? b=ϊ o) (n:H b=ϋ):(ve h H).get? b=ϊ o :=
 PySem.W.hideAll_get _ e λZ=>by
  have q:=(î.mp Z).2;rw[n] at q;simp at q
def YW (e:(ve h H).get? b=ϊ o):h.get? b=ϊ o/\H b=ϋ:=by
 have Z:=PySem.W.of_hideAll _ e;refine#[Z,?_]
 cases q:H b with
 |none=>rfl
 |some x =>
  have Y:b∈RN h H:=î.mpr #[é.mpr (Í Z),by simp[q]];have z:(ve h H).get? b=ϋ:=PySem.W.hideAll_none _ Y;rw[z] at e;cases e
noncomputable def YX (g h:afz) (L:ę):List (ę×Obj):=(Ô h.objs.size).filterMap λa=>if a=L\/(g.get? a).isSome=ό then ϋ else (h.get? a).map λo=>(a,o)
def rest (g h:afz) (L d:ę):List (ę×Obj):=(YX g h L).filter λp=>ώ (p.1≠d)
structure Mod (K:ae3) (mg) (base):Prop where
 vJ:K.In base
 glob:base.Ns ù mg
 blt:∃mb,base.Ns builtinsNs mb/\∀x:Str,x≠"__name__"->mb x=ć x
 nolimit:base.NoLimit
structure Cx where
 prog:Ć
 w:ģ
 K:ae3
 mg:Str->Option ì
 base:afz
 A:Ĭ
 N:List Str
 eR:ß
 yl:Hp
 env:Env
 outer:List Env
 stack:List Env
 ex:List ę
 fn:Str->Bool
 calm:Bool
 pn:List (ę×Obj)
 xe:ì->ß->Prop
noncomputable def jW (l:List Env):List ę:=l.filterMap (·.frame)
abbrev Cx.fs (X:Cx):List ę:=jW X.outer
def vK (sc:Scope) (x:Str):Prop:=sc.names.lookup x=ϊ .local\/sc.names.lookup x=ϊ .cell\/sc.names.lookup x=ϊ .free
def Loc (sc:Scope) (x:Str):Prop:=sc.names.lookup x=ϊ .local\/sc.names.lookup x=ϊ .cell
def Look (env:Env) (h:afz) (m:Str->Option ì) (x:Str) (u:ì):Prop :=
 (env.kindOf x=ϊ .local/\m x=ϊ u)\/((env.kindOf x=ϊ .cell\/env.kindOf x=ϊ .free)/\∃c,env.cells.lookup x=ϊ c/\h.IsCell c (ϊ u))
structure Cx.Ok (X:Cx):Prop where
 mod:Mod X.K X.mg X.base
 kind:X.env.scope.kind=.function
 glob:X.env.globals=ù
 blt:X.env.builtins=builtinsNs
 above:X.eR.heap.objs.size<=X.env.locals
 inj:∀x y c,X.env.cells.lookup x=ϊ c->X.env.cells.lookup y=ϊ c->x=y
 has:∀x,(X.env.kindOf x=ϊ .cell\/X.env.kindOf x=ϊ .free)->∃c,X.env.cells.lookup x=ϊ c
 sD:∀x c,X.fn x=ό->X.env.cells.lookup x=ϊ c->X.eR.heap.objs.size<=c
 hd:X.calm=ό->X.A.handled=ϋ
 frames:X.A.frames=ϊ X.stack
 vL:X.stack=X.outer\/(X.stack=X.env::X.outer/\X.env.frame=ϊ X.env.locals)
 CC:∀b∈X.ex,b≠X.env.locals/\∀x c,X.env.cells.lookup x=ϊ c->c≠b
 bs:∀b o,X.base.get? b=ϊ o->X.eR.heap.get? b=ϊ o/\X.yl b=ϋ
 jX:X.base.objs.size<=X.eR.heap.objs.size
 ni:∀b o,X.base.get? b=ϊ o->b∉X.ex
 vf:∀b∈X.ex,b∉X.fs
 ko:X.eR.heap.FunFrames X.base X.outer
 qD:∀b∈X.fs,X.yl b=ϋ
structure Inv (X:Cx) (π) (σ:List _) (H) (s:ß):Prop where
 ok:X.Ok
 os:s.os=X.eR.os
 bare:AllBare s.gens
 base:Un X.fs X.ex X.yl H X.eR.heap s.heap
 loc:∃m,s.heap.Ns X.env.locals m/\∀(i:Nat) x v,X.N[i]?=ϊ x->σ[i]?=ϊ (ϊ v)->vK X.env.scope x->∃u,RelV v u/\Look X.env s.heap m x u
 cell:∀x c,X.env.cells.lookup x=ϊ c->∃v,s.heap.IsCell c v
 free:H X.env.locals=ϋ
 jJ:∀x c,X.env.cells.lookup x=ϊ c->H c=ϋ
 pin:∀p∈X.pn++π,s.heap.get? p.1=ϊ p.2/\H p.1=ϋ/\p.1≠X.env.locals/\p.1∉X.fs/\∀v,p.2.data≠.cell v
 aN:dM X.prog X.w H s.heap
 len:σ.length=X.N.length
section
variable {X:Cx} {π:List (ę×Obj)} {σ:List (Option V)} {H H':Hp} {s:ß} {h':afz}
def Cx.Ok.adI (ok:X.Ok) (e:X.base.get? b=ϊ o):b∉X.fs:=λZ=>by
 have:=(ok.ko.mem Z).1;rw[e] at this;cases this
theorem Inv.bs (I:Inv X π σ H s):∀b o,X.base.get? b=ϊ o->s.heap.get? b=ϊ o/\H b=ϋ:=λb o e =>
 #[I.base.keep b o (I.ok.bs b o e).1 (I.ok.bs b o e).2 (I.ok.adI e) (I.ok.ni b o e),I.base.free b o (I.ok.bs b o e).1 (I.ok.bs b o e).2 (I.ok.ni b o e)]
def Inv.bk (I:Inv X π σ H s):∀b o,X.base.get? b=ϊ o->s.heap.get? b=ϊ o:=λb o e=>(I.bs b o e).1
theorem Inv.mod (I:Inv X π σ H s):Mod X.K X.mg X.base:=I.ok.mod
def Inv.sE (I:Inv X π σ H s):X.K.In s.heap:=I.ok.mod.vJ.keeps I.bk
theorem Inv.lt (I:Inv X π σ H s):X.env.locals<s.heap.objs.size:=let ⟨_,Z,_⟩:=I.loc;Z.lt
def Inv.sz (I:Inv X π σ H s):X.eR.heap.objs.size<=s.heap.objs.size:=Ó I.ok.above (Nat.le_of_lt I.lt)
def Inv.vh (I:Inv X π σ H s) {a:ę} (h:s.heap.objs.size<=a):a∉X.fs:=λZ=>by
 let(_,o,Y,_):=I.ok.ko.mem Z;exact absurd (È (Í Y) (Ó I.sz h)) (ó _)
def Inv.sF (I:Inv X π σ H s):∀x c,X.env.cells.lookup x=ϊ c->c≠X.env.locals:=λx c e z=>by
 let(v,o,Z,Y):=I.cell x c e;obtain⟨m,⟨U,T,S,W,V,_⟩,_⟩:=I.loc;rw[z,W] at Z;cases Z;rw[V] at Y;cases Y
theorem Inv.ko (I:Inv X π σ H s):s.heap.FunFrames X.base X.outer:=by
 have all:∀l,(∀b∈jW l,b∈X.fs)->X.eR.heap.FunFrames X.base l->s.heap.FunFrames X.base l:=by
  intro l
  induction l with
  |nil=>intro _ _;trivial
  |cons env r ih =>
   intro hs V;obtain⟨U,⟨L,o,Z,T,S,R⟩,Q⟩:=V;have Y:=hs L (by delta jW;rw[afJ,Z];exact Ë);let(P,e):=I.base.slot L o S (I.ok.qD L Y) Y λz=>I.ok.vf L z Y;exact#[U,#[L,_,Z,T,e,R],ih (λb W=>hs b (by delta jW;rw[afJ,Z];exact Ì _ W)) Q]
 exact all _ (λ_ W=>W) I.ok.ko
theorem Inv.stack (I:Inv X π σ H s):s.heap.FunFrames X.base X.stack:=by
 rcases I.ok.vL with e | ⟨e,Z⟩
 .rw[e];exact I.ko
 .rw[e]
  let(m,Y,_):=I.loc;refine .cons (by rw[I.ok.kind];decide) Z Y ?_ I.ko;exact Heap.get?_none_of_le (Ó I.ok.jX I.ok.above)
def Inv.mU (I:Inv X π σ H s):∀b∈jW X.stack,b∈X.env.locals::X.fs:=λb Z=>by
 rcases I.ok.vL with e | ⟨e,Y⟩
 .rw[e] at Z;exact Ì _ Z
 .rw[e] at Z
  delta jW at Z;rw[afJ,Y] at Z;exact Z
def Inv.E8 (I:Inv X π σ H s):∀b∈jW X.stack,H b=ϋ:=λb hb=>by
 rcases Ð.mp (I.mU b hb) with e|hb
 .rw[e];exact I.free
 .let(_,o,Z,_):=I.ok.ko.mem hb
  exact I.base.free b o Z (I.ok.qD b hb) λz=>I.ok.vf b z hb
def Inv.step {d'} {ch:List ę} (I:Inv X π σ H s)
  (nE:∀b∈ch,(b∈X.ex\/X.eR.heap.objs.size<=b)/\b≠X.env.locals/\(∀x c,X.env.cells.lookup x=ϊ c->c≠b)/\∀p∈X.pn++π,p.1≠b)
  (keep:∀b o,b≠X.env.locals->b∉X.fs->b∉ch->s.heap.get? b=ϊ o->H b=ϋ->h'.get? b=ϊ o)
  (slot:∀b o,b≠X.env.locals->b∈X.fs->b∉ch->s.heap.get? b=ϊ o->H b=ϋ->∃sl,h'.get? b=ϊ { o with slots:=sl }) (free:∀b o,b∉ch->s.heap.get? b=ϊ o->H b=ϋ->H' b=ϋ)
  (there:∀b o,b∉ch->s.heap.get? b=ϊ o->∃o',h'.get? b=ϊ o')
  (kU:∀b xs,H b=ϊ (.tup xs)->H' b=ϊ (.tup xs)) (km:∀b o u,H b=ϊ (.cE o u)->H' b=ϊ (.cE o u)) (lV:∀b ps,H b=ϊ (.qC ps)->∃more,H' b=ϊ (.qC (ps++more)))
  (ns:∀m,s.heap.Ns X.env.locals m->h'.Ns X.env.locals m) (aN:dM X.prog X.w H' h') (hg:AllBare g') :
  Inv X π σ H' { s with heap:=h',gens:=g',drawn:=d',toks:=t' }:=by
 have R:∀b o,X.eR.heap.get? b=ϊ o->b≠X.env.locals:=λb o e=>ë (È (Í e) I.ok.above);have U:∀b o,X.eR.heap.get? b=ϊ o->b∉X.ex->b∉ch:=λb o e Z Y=>by
  rcases(nE b Y).1 with z|z
  .exact Z z
  .exact absurd (È (Í e) z) (ó _)
 have cellK:∀x c,X.env.cells.lookup x=ϊ c->∀v,s.heap.IsCell c v->h'.IsCell c v:=λx c e v ⟨o,W,T⟩=>by
  have V:=λz=>(nE c z).2.2.1 x c e rfl;by_cases Q:c∈X.fs
  .let(sl,q):=slot c o (I.sF x c e) Q V W (I.jJ x c e)
   exact#[_,q,T]
  .exact#[o,keep c o (I.sF x c e) Q V W (I.jJ x c e),T]
 refine#[I.ok,I.os,hg,#[λb o e n Y Z=>?_,λb o e n Y Z=>?_,λb o e n Z=>?_,λb o e Z=>?_,λb xs e=>kU b xs (I.base.kU b xs e),λb o xs e=>km b o xs (I.base.km b o xs e),λb ps e=>?_],?_,λx c e=>?_,?_,λx c e=>?_,λp P=>?_,aN,I.len]
 .exact keep b o (R b o e) Y (U b o e Z) (I.base.keep b o e n Y Z) (I.base.free b o e n Z)
 .let(sl,e1):=I.base.slot b o e n Y Z
  let(S,e2):=slot b _ (R b o e) Y (U b o e Z) e1 (I.base.free b o e n Z);exact#[S,e2]
 .let(o',e1):=I.base.there b o e Z
  exact free b o' (U b o e Z) e1 (I.base.free b o e n Z)
 .let(o',e1):=I.base.there b o e Z
  exact there b o' (U b o e Z) e1
 .let(K,e1):=I.base.lV b ps e
  let(J,e2):=lV b _ e1;exact#[_,by rw[e2,Array.append_assoc]]
 .let(m,N,M):=I.loc
  refine#[m,ns m N,λi x v e1 e2 L=>?_];let(u,r,l):=M i x v e1 e2 L;refine#[u,r,?_]
  rcases l with l | ⟨k,c,e,z⟩
  .exact .inl l
  .exact .inr #[k,c,e,cellK x c e _ z]
 .let(v,z):=I.cell x c e
  exact#[v,cellK x c e v z]
 .obtain⟨m,⟨o,_,_,W,_⟩,_⟩:=I.loc
  exact free _ o (λz=>(nE _ z).2.1 rfl) W I.free
 .let(v,o,W,T):=I.cell x c e
  exact free c o (λz=>(nE c z).2.2.1 x c e rfl) W (I.jJ x c e)
 .let(e,n,ne,O,d):=I.pin p P
  have V:=λz=>(nE _ z).2.2.2 p P rfl;exact#[keep _ _ ne O V e n,free _ _ V e n,ne,O,d]
def Inv.un (I:Inv X π σ H s) (u:Un X.fs [] H H' s.heap h') (aN:dM X.prog X.w H' h'):Inv X π σ H' { s with heap:=h',toks:=t' }:=by
 obtain⟨m,⟨o,Q,P,Y,r⟩,_⟩:=id I.loc;let(O,V):=u.any Y I.free ∅
 exact I.step (ch:=[]) (λ_ z=>nomatch z) (λb o _ Z _ e n=>u.keep b o e n Z ∅) (λb o _ Z _ e n=>u.slot b o e n Z ∅) (λb o _ e n=>u.free b o e n ∅) (λb o _ e=>u.there b o e ∅) u.kU u.km u.lV (λN U=>by
  let(M,T,S,W,R):=U;rw[Y] at W;cases W;exact#[_,T,S,V,R]) aN I.bare
def Inv.call {d'} {ch} (I:Inv X π σ H s) (u:Un (jW X.stack) ch H H' s.heap h') (aN:dM X.prog X.w H' h') (hg:AllBare g')
  (nE:∀b∈ch,(b∈X.ex\/X.eR.heap.objs.size<=b)/\b≠X.env.locals/\(∀x c,X.env.cells.lookup x=ϊ c->c≠b)/\∀p∈X.pn++π,p.1≠b) :
  Inv X π σ H' { s with heap:=h',gens:=g',drawn:=d',toks:=t' }:=by
 obtain⟨m,⟨o,P,O,W,r⟩,_⟩:=id I.loc;let(N,Y):=u.any W I.free λz=>(nE _ z).2.1 rfl;exact I.step nE (λb o Y U Z e n=>u.keep b o e n (λz=>(Ð.mp (I.mU b z)).elim Y U) Z) (λb o _ _ Z e n=>u.any e n Z) (λb o Z e n=>u.free b o e n Z) (λb o Z e=>u.there b o e Z) u.kU u.km u.lV (λM T=>by
  let(L,S,R,V,Q):=T;rw[W] at V;cases V;exact#[_,S,R,Y,Q]) aN hg
def Inv.turned {it} (I:Inv X π σ H s) (k:∀b o,b≠it->s.heap.get? b=ϊ o->h'.get? b=ϊ o) (hn:H it=ϋ) (hL:it≠X.env.locals)
  (h1:it∈X.ex\/X.eR.heap.objs.size<=it) (h2:∀x c,X.env.cells.lookup x=ϊ c->c≠it) (h3:∀p∈X.pn++π,p.1≠it):Inv X π σ H { s with heap:=h',toks:=t' }:=by
 have Y:∀b u,H b=ϊ u->b≠it:=λb u e z=>by rw[z,hn] at e;cases e
 refine I.step (ch:=[it]) (λb W=>?_) (λb o _ _ Z e _=>k b o (λz=>Z (by simp[z])) e) (λb o _ _ Z e _=>#[_,k b o (λz=>Z (by simp[z])) e]) (λ_ _ _ _ n=>n)
  (λb o Z e=>#[o,k b o (λz=>Z (by simp[z])) e]) (λ_ _ e=>e) (λ_ _ _ e=>e) (λb R e=>#[#v[],by rw[e];simp]) (λm V=>?_) (λb u e=>?_) I.bare
 .have e:=by simpa using W
  subst e;exact#[h1,hL,h2,h3]
 .let(o,U,T,S,r):=V
  exact#[o,U,T,k _ o (Ř hL) S,r]
 .refine(I.aN b u e).js (λc v Z q=>k c v ?_ q) (λ_ q=>q) λ_ _ q=>q
  rcases Z with z|z
  .rw[z];exact Y b u e
  .exact Y c _ z
def Inv.tok (I:Inv X π σ H s) (t):Inv X π σ H { s with toks:=t }:=I.un Un.refl I.aN
theorem Inv.kept (I:Inv X π σ H s) (k:∀b u,s.heap.get? b=ϊ u->h'.get? b=ϊ u):Inv X π σ H { s with heap:=h',toks:=t' }:=I.un (Un.kept k) (I.aN.kept k)
theorem Inv.laid {a:ę} {o} {t'} (I:Inv X π σ H s) (k:∀b u,s.heap.get? b=ϊ u->h'.get? b=ϊ u) (hp:s.heap.objs.size<=a) (new:fO X.prog X.w (upd H a o) h' a o) :
  Inv X π σ (upd H a o) { s with heap:=h',toks:=t' }:=I.un (Un.laid k hp (I.aN.fresh hp)) (I.aN.laid k hp new)
theorem Inv.write (I:Inv X π σ H s) (mu:yJ (H x)) (he:e=x\/H e=ϊ (.own x)) (k:∀b u,b≠e->s.heap.get? b=ϊ u->h'.get? b=ϊ u) (vI:∃u,h'.get? e=ϊ u)
 (new:fO X.prog X.w (upd H x o) h' x o):Inv X π σ (upd H x o) { s with heap:=h',toks:=t' }:=I.un (Un.write mu he k vI) (I.aN.write mu he k vI new)
def Inv.jl (I:Inv X π σ H s) (h:∀p∈pins',s.heap.get? p.1=ϊ p.2/\H p.1=ϋ/\p.1≠X.env.locals/\p.1∉X.fs/\∀v,p.2.data≠.cell v):Inv X pins' σ H s :=
 #[I.ok,I.os,I.bare,I.base,I.loc,I.cell,I.free,I.jJ,λp Z=>(Û.mp Z).elim (λz=>I.pin p (ě _ z)) (h p),I.aN,I.len]
def Ni {N:List Str} (hN:N.Nodup) {i j:Nat} {x} (a:N[i]?=ϊ x) (b:N[j]?=ϊ x):i=j:=by
 let(Z,e1):=Ä.mp a;let(Y,e2):=Ä.mp b;exact(List.getElem_inj hN).mp (e1.trans e2.symm)
def V9 {A} {E} {i} {x} {v} {u} {Q} (I:Inv X π σ H s) (hN:X.N.Nodup) (hi:X.N[i]?=ϊ x) (hx:Loc X.env.scope x) (r:RelV v u)
  (h:∀s',Inv X π (σ.set i (ϊ v)) H s'->(∃a,Ļ a s.heap s'.heap/\(a=X.env.locals\/X.env.cells.lookup x=ϊ a))->Q () s') (hf:X.fn x=ό\/X.env.scope.names.lookup x=ϊ .local:=by first|exact .inl rfl|exact .inr rfl|assumption):ð M A (storeName X.env x u) Q E s:=by
 let(m,U,C):=id I.loc;have T:(X.env.scope.kind==.class||(X.env.scope.kind==.module&&X.env.locals != X.env.globals))=ύ:=by rw[I.ok.kind];rfl
 have B:i < σ.length:=by rw[I.len];exact(Ä.mp hi).1
 have sF:=I.sF;have tracked:∀{a} {h'},(∃o,s.heap.get? a=ϊ o/\H a=ϋ)->Ļ a _ h'->dM _ _ H h':=λf hs b ob e=>by
  let(_,_,w):=f;refine(I.aN b ob e).js (λc W hc q=>(hs.2 c ?_).trans q) (λ_ q=>q) λ_ _ q=>q;rintro rfl
  rcases hc with rfl|hc
  .rw[w] at e;cases e
  .rw[w] at hc;cases hc
 rcases hx with hk|hk
 .refine wpAny_storeName_local hk U (λh' RQ hs=>?_) T
  let(oL,_,_,yM,_):=id U;refine h _ #[I.ok,I.os,I.bare,#[λb o e n Z hx=>?_,λb o e n Z hx=>?_,I.base.free,λb o e hx=>?_,I.base.kU,I.base.km,I.base.lV],#[_,RQ,λj y S e1 e2 R=>?_],λy c e=>?_,I.free,I.jJ,λp P=>?_,tracked #[oL,yM,I.free] hs,by simpa using I.len] #[_,hs,.inl rfl]
  .exact(hs.2 b (ë (È (Í e) I.ok.above))).trans (I.base.keep b o e n Z hx)
  .let(O,e1):=I.base.slot b o e n Z hx
   exact#[O,(hs.2 b (ë (È (Í e) I.ok.above))).trans e1]
  .let(L,e1):=I.base.there b o e hx
   exact#[L,(hs.2 b (ë (È (Í e) I.ok.above))).trans e1]
  .by_cases Y:j=i
   .subst Y
    rw[hi] at e1;cases e1;rw[ñ B] at e2;cases e2;exact#[u,r,.inl #[hk,by simp]]
   .rw[í (Ř Y)] at e2
    let(K,J,q):=C j y S e1 e2 R;refine#[K,J,?_]
    rcases q with ⟨k,e⟩ | ⟨k,c,e,z⟩
    .refine .inl #[k,?_]
     have:y≠x:=λe=>Y (Ni hN e1 (e ▸ hi));simp[this,e]
    .exact .inr #[k,c,e,z.sameBut hs (sF y c e)]
  .let(W,z):=I.cell y c e
   exact#[W,z.sameBut hs (sF y c e)]
  .let(e,n,ne,G,d):=I.pin p P
   exact#[(hs.2 _ ne).trans e,n,ne,G,d]
 .have F:X.fn x=ό:=by
   rcases hf with z|z
   .exact z
   .rw[z] at hk;cases hk
  let(c,hc):=I.ok.has x (.inl hk);let(W,z):=I.cell x c hc;refine wpAny_storeName_cell I.ok.kind hk hc z (λh' t hs=>?_);let(oc,l,D):=id z;refine h _ #[I.ok,I.os,I.bare,#[λb o e n Z hx=>?_,λb o e n Z hx=>?_,I.base.free,λb o e hx=>?_,I.base.kU,I.base.km,I.base.lV],#[m,U.sameBut hs (Ř (sF x c hc)),λj y S e1 e2 R=>?_],λy V e=>?_,I.free,I.jJ,λp P=>?_,tracked #[oc,l,I.jJ x c hc] hs,by simpa using I.len] #[c,hs,.inr hc]
  .exact(hs.2 b (ë (È (Í e) (I.ok.sD x c F hc)))).trans (I.base.keep b o e n Z hx)
  .let(O,e1):=I.base.slot b o e n Z hx
   exact#[O,(hs.2 b (ë (È (Í e) (I.ok.sD x c F hc)))).trans e1]
  .let(L,e1):=I.base.there b o e hx
   exact#[L,(hs.2 b (ë (È (Í e) (I.ok.sD x c F hc)))).trans e1]
  .by_cases Y:j=i
   .subst Y
    rw[hi] at e1;cases e1;rw[ñ B] at e2;cases e2;exact#[u,r,.inr #[.inl hk,c,hc,t]]
   .rw[í (Ř Y)] at e2
    let(K,J,q):=C j y S e1 e2 R;refine#[K,J,?_]
    rcases q with q | ⟨k,V,e,z'⟩
    .exact .inl q
    .refine .inr #[k,V,e,z'.sameBut hs ?_]
     rintro rfl;exact Y (Ni hN e1 (I.ok.inj _ _ _ e hc ▸ hi))
  .by_cases g:V=c
   .subst g;exact#[_,t]
   .let(w2,z2):=I.cell y V e
    exact#[w2,z2.sameBut hs g]
  .let(e,n,ne,G,d):=I.pin p P
   refine#[(hs.2 _ ?_).trans e,n,ne,G,d];intro q;rw[q,l] at e;have q':=ahe e;exact d W (by rw[<- q'];exact D)
def n6 (I:Inv X π σ H s) (hN:X.N.Nodup) (hi:X.N[i]?=ϊ x) (hx:Loc X.env.scope x) (r:RelV v u)
 (h:∀s',Inv X π (σ.set i (ϊ v)) H s'->Q () s') (hf:X.fn x=ό\/X.env.scope.names.lookup x=ϊ .local:=by first|exact .inl rfl|exact .inr rfl|assumption):ð M A (storeName X.env x u) Q E s :=
 V9 I hN hi hx r (λs' Z _=>h s' Z) hf
def Inv.BF (I:Inv X π σ H s) (ho:s'.os=s.os) (u:Un (jW X.stack) ch H H' s.heap s'.heap) (aN:dM X.prog X.w H' s'.heap) (hg:AllBare s'.gens)
 (nE:∀b∈ch,(b∈X.ex\/X.eR.heap.objs.size<=b)/\b≠X.env.locals/\(∀x c,X.env.cells.lookup x=ϊ c->c≠b)/\∀p∈X.pn++π,p.1≠b):Inv X π σ H' s':=by
 let(h',Z,Y,W,V):=s';have e:=ho;subst e;exact I.call u aN hg nE
end
abbrev XK:=ì->Option ę->Hp->Prop
abbrev St:=List (Option V)
abbrev VK:=V->Hp->Prop
abbrev TE:=St->Hp->VK->Prop
abbrev TT:=St->Hp->(Bool->Hp->Prop)->Prop
abbrev TA:=St->Hp->(List V->Hp->Prop)->Prop
structure Ends where
 nx:St->Hp->Prop
 rt:VK
 bk:St->Hp->Prop:=λ_ _=>False
 ct:St->Hp->Prop:=λ_ _=>False
abbrev TS:=Ends->St->Hp->Prop
def EP (X:Cx) (π:List (ę×Obj)) (σ:St) (Q:VK) (u:ì) (s':ß):Prop:=∃v Z,Inv X π σ Z s'/\RelV v u/\Q v Z
def TP (X:Cx) (π:List (ę×Obj)) (σ:St) (Q:Bool->Hp->Prop) (b:Bool) (s':ß):Prop:=∃Z,Inv X π σ Z s'/\Q b Z
def AP (X:Cx) (π:List (ę×Obj)) (σ:St) (Q:List V->Hp->Prop) (us:List ì) (s':ß):Prop:=∃Z Y,Inv X π σ Y s'/\Vals Z us/\Q Z Y
def SP (X:Cx) (π:List (ę×Obj)) (D:Ends) (f:Flow) (s':ß):Prop :=
 match f with
 | .next=>∃ Y Z,Inv X π Y Z s'/\D.nx Y Z
 | .brk=>∃ Y Z,Inv X π Y Z s'/\D.bk Y Z
 | .cont=>∃ Y Z,Inv X π Y Z s'/\D.ct Y Z
 | .ret u=>∃v Y Z,Inv X π Y Z s'/\RelV v u/\D.rt v Z
def PE (X:Cx) (e:afh) (t:TE):Prop :=
 ∀Z s (σ:St) H Q,Inv X Z σ H s->t σ H Q->ð (ã X.prog X.w) X.A (Ź e X.env) (EP X Z σ Q) X.xe s
def PT (X:Cx) (e:afh) (t:TT):Prop :=
 ∀Z s (σ:St) H Q,Inv X Z σ H s->t σ H Q->ð (ã X.prog X.w) X.A (ag5 e X.env (Ź e X.env)) (TP X Z σ Q) X.xe s
def PW (X:Cx) (e:afh) (t:TT):Prop :=
 ∀whole Z s (σ:St) H Q,Inv X Z σ H s->t σ H Q->ð (ã X.prog X.w) X.A (ag5 e X.env whole) (TP X Z σ Q) X.xe s
def PW.pt (h:PW X e t):PT X e t:=h _
def PA (X:Cx) (es:List afh) (t:TA):Prop :=
 ∀pos Z s (σ:St) H Q,Inv X Z σ H s->t σ H Q->ð (ã X.prog X.w) X.A (spliced (ũ pos (Õ es X.env))) (AP X Z σ Q) X.xe s
def PS (X:Cx) (st:Stmt) (t:TS):Prop :=
 ∀ ⦃Z⦄ s (σ:St) H D,Inv X Z σ H s->t D σ H->ð (ã X.prog X.w) X.A (exec st X.env) (SP X Z D) X.xe s
def fx (X:Cx) (st:List Stmt) (t:TS):Prop :=
 ∀ ⦃Z⦄ s (σ:St) H D,Inv X Z σ H s->t D σ H->ð (ã X.prog X.w) X.A (execs st X.env) (SP X Z D) X.xe s
def aP {t:Sem α} {Q Q'} {M} {A} {E} {s} (h:ð M A t Q E s) (hQ:∀a s,Q a s->Q' a s):ð M A t Q' E s:=Ĝ h hQ λ_ _ x=>x
section
variable {X:Cx}
def adL (i:Nat):TE:=fun σ H Q=>∃v,σ[i]?=ϊ (ϊ v)/\Q v H
def tC (v:V):TE:=λ_ H Q=>Q v H
def O2 {pos} (hN:X.N[i]?=ϊ x) (hv:vK X.env.scope x) (hd:(x==("__debug__"))=ύ:=by decide) (kC:(x==("__classdict__"))=ύ:=by decide):PE X (.Name x pos) (adL i):=by
 intro W s σ H Q I h;let(v,e,h):=h;let(m,V,U):=I.loc;let(u,r,l):=U i x v hN e hv;have fin:EP X W σ Q u s:=#[v,H,I,r,h]
 rcases l with ⟨hk,T⟩ | ⟨hk,c,Z,Y⟩
 .exact wpAny_Name (wpAny_loadName_local I.ok.kind hk V T fin) hd
 .rcases hk with hk|hk
  .exact wpAny_Name (wpAny_loadName_cell I.ok.kind hk Z Y fin) hd
  .exact wpAny_Name (wpAny_loadName_free I.ok.kind hk Z Y fin kC) hd
def aaq:PE X (.Constant (.int i) j pos) (tC (.int i)):=λ_ _ _ H _ I h=>wpAny_Constant_int #[.int i,H,I.tok _,#[_,rfl],h]
def ab7:PE X (.Constant (.bool b) j pos) (tC (.bl b)):=λ_ _ _ H _ I h=>Constant_bool #[.bl b,H,I,rfl,h]
def FX:PE X (.Constant .none j pos) (tC .aD):=λ_ _ _ H _ I h=>Constant_none #[.aD,H,I,rfl,h]
def aar:PE X (.Constant (.str x) j pos) (tC (.str x)):=λ_ _ _ H _ I h=>Calls.Constant_str #[.str x,H,I.tok _,#[_,rfl],h]
def Gl (X:Cx) (x:Str):Prop:=X.env.kindOf x=ϊ .globalImplicit
def NX {π} {s} {σ:St} {H} {x} {u} {pos} {Q} (I:Inv X π σ H s) (hg:Gl X x) (hm:X.mg x=ϊ u) (h:Q u s)
  (hd:(x==("__debug__"))=ύ:=by decide):ð (ã X.prog X.w) X.A (Ź (.Name x pos) X.env) Q E s :=
 Calls.Name_function_global I.ok.kind hg (Calls.loadGlobal_global (by rw[I.ok.glob];exact I.mod.glob.keeps I.bk) hm h) hd
def oq {E} {π} {s} {σ:St} {H} {x} {u} {pos} {Q} (I:Inv X π σ H s) (hg:Gl X x) (hm:X.mg x=ϋ) (hv:ć x=ϊ u) (h:Q u s)
  (hn:x≠"__name__":=by decide) (hd:(x==("__debug__"))=ύ:=by decide):ð (ã X.prog X.w) X.A (Ź (.Name x pos) X.env) Q E s:=by
 let(W,Z,Y):=I.mod.blt;exact Calls.Name_function_global I.ok.kind hg (Calls.loadGlobal_builtin (by rw[I.ok.glob];exact I.mod.glob.keeps I.bk) hm (by rw[I.ok.blt];exact Z.keeps I.bk) ((Y x hn).trans hv) h) hd
def E9 (hg:Gl X x) (hm:X.mg x=ϊ u) (r:RelV v u) (hd:(x==("__debug__"))=ύ:=by decide):PE X (.Name x pos) (tC v) :=
 λ_ _ _ H _ I h=>NX I hg hm #[v,H,I,r,h] hd
def YY {u} {pos} (hg:Gl X x) (hm:X.mg x=ϋ) (hv:ć x=ϊ u) (r:RelV v u) (hn:x≠"__name__":=by decide) (hd:(x==("__debug__"))=ύ:=by decide):PE X (.Name x pos) (tC v) :=
 λ_ _ _ H _ I h=>oq I hg hm hv #[v,H,I,r,h] hn hd
variable {a b:afh} {ta tb:TE} {pos:Pos}
variable {tA CF:TT} {rest:List afh}
def iP (t u:TT):TT:=fun σ H Q=>t σ H λc Z=>if c=ό then u σ Z Q else Q ύ Z
def jd (t u:TT):TT:=fun σ H Q=>t σ H λc Z=>if c=ό then Q ό Z else u σ Z Q
def hX (t:TT):TT:=fun σ H Q=>t σ H λc Z=>Q (!c) Z
def YZ (ha:PT X a tA):PW X (.BoolOp .And [a] pos) tA:=by
 intro Y Z s σ H Q I h;refine isTrue_and (aP (ha Z s σ H Q I h) λc W e=>?_)
 cases c with
 |true=>exact isTrue_and_nil e
 |false=>exact e
def aas (ha:PT X a tA):PW X (.BoolOp .Or [a] pos) tA:=by
 intro Y Z s σ H Q I h;refine isTrue_or (aP (ha Z s σ H Q I h) λc W e=>?_)
 cases c with
 |false=>exact isTrue_or_nil e
 |true=>exact e
def aat (ha:PT X a tA) (hb:PW X (.BoolOp .And (b::rest) pos) CF):PW X (.BoolOp .And (a::b::rest) pos) (iP tA CF):=by
 intro U Z s σ H Q I h;refine isTrue_and (aP (ha Z s σ H _ I h) λc T ⟨Y,W,V⟩=>?_)
 cases c with
 |true=>exact hb U Z T σ Y Q W V
 |false=>exact#[Y,W,V]
def ab8 (ha:PT X a tA) (hb:PW X (.BoolOp .Or (b::rest) pos) CF):PW X (.BoolOp .Or (a::b::rest) pos) (jd tA CF):=by
 intro U Z s σ H Q I h;refine isTrue_or (aP (ha Z s σ H _ I h) λc T ⟨Y,W,V⟩=>?_)
 cases c with
 |true=>exact#[Y,W,V]
 |false=>exact hb U Z T σ Y Q W V
def aau (ha:PT X a tA):PT X (.UnaryOp .Not a pos) (hX tA):=by
 intro Z s σ H Q I h;exact isTrue_not (ha Z s σ H (λc Y=>Q _ Y) I h)
def ab9 (ta tb:TE):TE:=fun σ H Q=>ta σ H λx Z=>∃c,x=.bl c/\if c=ό then tb σ Z Q else Q (.bl ύ) Z
def adM (ta tb:TE):TE:=fun σ H Q=>ta σ H λx Z=>∃c,x=.bl c/\if c=ό then Q (.bl ό) Z else tb σ Z Q
def aca (ta:TE):TE:=fun σ H Q=>ta σ H λx Z=>∃c,x=.bl c/\Q (.bl (!c)) Z
def aav (h:PE X a t):PE X (.BoolOp op [a] pos) t:=λZ s σ H Q I hw=>BoolOp_one (h Z s σ H Q I hw)
def aaw (ha:PE X a ta) (hb:PE X (.BoolOp .And (b::rest) pos) tb):PE X (.BoolOp .And (a::b::rest) pos) (ab9 ta tb):=by
 intro Y s σ H Q I h;refine BoolOp_and (aP (ha Y s σ H _ I h) λv U ⟨x,W,V,T,Z⟩=>?_);let(c,rfl,Z):=Z;cases T;refine Ĺ ?_
 cases c with
 |true=>exact hb Y U σ W Q V Z
 |false=>exact#[.bl ύ,W,V,rfl,Z]
def acb (ha:PE X a ta) (hb:PE X (.BoolOp .Or (b::rest) pos) tb):PE X (.BoolOp .Or (a::b::rest) pos) (adM ta tb):=by
 intro Y s σ H Q I h;refine BoolOp_or (aP (ha Y s σ H _ I h) λv U ⟨x,W,V,T,Z⟩=>?_);let(c,rfl,Z):=Z;cases T;refine Ĺ ?_
 cases c with
 |false=>exact hb Y U σ W Q V Z
 |true=>exact#[.bl ό,W,V,rfl,Z]
def aax (ha:PE X a ta):PE X (.UnaryOp .Not a pos) (aca ta):=by
 intro Y s σ H Q I h;refine UnaryOp_ (aP (ha Y s σ H _ I h) λv T ⟨x,W,V,U,Z⟩=>?_);let(c,rfl,Z):=Z;cases U;exact not_of (Ĺ #[.bl _,W,V,rfl,Z])
def tIf (t:TT) (ta tb:TE):TE:=fun σ H Q=>t σ H λc Z=>if c=ό then ta σ Z Q else tb σ Z Q
def Xj (hc:PT X c tA) (ha:PE X a ta) (hb:PE X b tb):PE X (.IfExp c a b pos) (tIf tA ta tb):=by
 intro Z s σ H Q I h;refine wpAny_IfExp (aP (hc Z s σ H _ I h) λd Y ⟨W,V,U⟩=>?_)
 cases d with
 |true=>exact ha Z Y σ W Q V U
 |false=>exact hb Z Y σ W Q V U
end
def bJ (K:ae3) (H:Hp) (a:ę) (xs:List V):Prop :=
 Rd H a (.lst xs) \/
  ∃(o:Obj) (aj:Array ì) (n:Nat),K.lookup a=ϊ o/\o.cls=.type "list"/\o.dict=ϋ/\o.data=.seq aj n/\aj.size<=â/\Vals xs aj.toList
def bE (K:ae3) (H:Hp) (a:ę) (xs:List V):Prop :=
 Rd H a (.tup xs) \/
  ∃(o:Obj) (aj:Array ì) (n:Nat),K.lookup a=ϊ o/\o.cls=.type "tuple"/\o.data=.seq aj n/\aj.size<=â/\Vals xs aj.toList
noncomputable def adN:ì->Option V
 | .none=>ϊ .aD
 | .bool b=>ϊ (.bl b)
 | .int i _=>ϊ (.int i)
 | .str x _=>ϊ (.str x)
 | .bytes b _=>ϊ (.kB b)
 | .float b _=>ϊ (.IS b)
 | .ref a=>ϊ (.ref a)
 | .type n=>ϊ (.ty n)
 |_=>ϋ
def RelV.abs (r:RelV x u):adN u=ϊ x:=by
 cases x with
 |aD=>cases r;rfl
 |bl _=>cases r;rfl
 |int _=>let(t,rfl):=r;rfl
 |str _=>let(t,rfl):=r;rfl
 |kB _=>let(t,rfl):=r;rfl
 |IS _=>let(t,rfl):=r;rfl
 |ref _=>cases r;rfl
 |ty _=>cases r;rfl
def RelV.inj (r:RelV x u) (q:RelV y u):x=y:=ahe (r.abs.symm.trans q.abs)
theorem Vals.inj:∀{xs ys} {us},Vals xs us->Vals ys us->xs=ys
 |_,_,_,.nil,.nil=>rfl
 |_,_,_,.cons r t,.cons Z Y=>by rw[r.inj Z,Vals.inj t Y]
section
variable {X:Cx} {π:List (ę×Obj)} {σ:St} {H:Hp} {s:ß} {a:ę} {xs ys:List V}
def bJ.of {K} (h:H a=ϊ (.lst xs)):bJ K H a xs:=.inl (.inl h)
def bE.of {K} (h:H a=ϊ (.tup xs)):bE K H a xs:=.inl (.inl h)
def Inv.list (I:Inv X π σ H s) (h:bJ X.K H a xs):∃aj,Vals xs aj/\PlainL s.heap a aj.toArray/\xs.length<=â:=by
 rcases h with h | ⟨o,aj,n,Z,Y,W,hs,V,r⟩
 .let(z,aj,n,r,e):=h.ok I.aN
  exact#[aj,r,#[_,n,e,rfl,rfl,rfl],z]
 .refine#[_,r,#[o,n,I.sE a o Z,Y,W,by simpa using hs],?_]
  have e:=r.length;erw[å] at e;omega
def Inv.tuple (I:Inv X π σ H s) (h:bE X.K H a xs):∃aj,Vals xs aj/\ag2 s.heap a aj.toArray/\xs.length<=â:=by
 rcases h with h | ⟨o,aj,n,Z,Y,hs,W,r⟩
 .let(z,aj,r,p):=h.ok I.aN
  exact#[aj,r,p,z]
 .refine#[_,r,#[o,I.sE a o Z,Y,n,by simpa using hs],?_]
  have e:=r.length;erw[å] at e;omega
def Inv.Nj (I:Inv X π σ H s) (h:bJ X.K H a xs) (h':bJ X.K H a ys):xs=ys:=by
 obtain⟨aj,r,⟨o,n,e,_,_,d⟩,_⟩:=I.list h;obtain⟨U,W,⟨T,S,Z,_,_,Y⟩,_⟩:=I.list h';rw[e] at Z;cases Z;rw[d] at Y
 injection Y with V _
 have:=by simpa using ň Array.toList V
 subst this;exact r.inj W
def Inv.My (I:Inv X π σ H s) (h:bE X.K H a xs) (h':bE X.K H a ys):xs=ys:=by
 obtain⟨aj,r,⟨o,e,_,n,d⟩,_⟩:=I.tuple h;obtain⟨U,W,⟨T,Z,_,S,Y⟩,_⟩:=I.tuple h';rw[e] at Z;cases Z;rw[d] at Y
 injection Y with V _
 have:=by simpa using ň Array.toList V
 subst this;exact r.inj W
end
noncomputable abbrev Cx.i7 (X:Cx) (E:ì->ß->Prop):Cx:={ X with xe:=E }
noncomputable abbrev Cx.vM (X:Cx):Cx:=X.i7 λ_ _=>False
theorem Cx.Ok.i7 {X:Cx} (ok:X.Ok) (E):(X.i7 E).Ok :=
 #[ok.mod,ok.kind,ok.glob,ok.blt,ok.above,ok.inj,ok.has,ok.sD,ok.hd,ok.frames,ok.vL,ok.CC,ok.bs,ok.jX,ok.ni,ok.vf,ok.ko,ok.qD]
def Cx.Ok.p6 {X:Cx} {E} (ok:(X.i7 E).Ok):X.Ok :=
 #[ok.mod,ok.kind,ok.glob,ok.blt,ok.above,ok.inj,ok.has,ok.sD,ok.hd,ok.frames,ok.vL,ok.CC,ok.bs,ok.jX,ok.ni,ok.vf,ok.ko,ok.qD]
section
variable {X:Cx} {π:List (ę×Obj)} {σ:St} {H:Hp} {s:ß} {E:ì->ß->Prop}
theorem Inv.i7 (I:Inv X π σ H s) (E):Inv (X.i7 E) π σ H s:=#[I.ok.i7 E,I.os,I.bare,I.base,I.loc,I.cell,I.free,I.jJ,I.pin,I.aN,I.len]
theorem Inv.p6 (I:Inv (X.i7 E) π σ H s):Inv X π σ H s:=#[I.ok.p6,I.os,I.bare,I.base,I.loc,I.cell,I.free,I.jJ,I.pin,I.aN,I.len]
theorem SP.p6 (h:SP (X.i7 E) π D f s'):SP X π D f s':=by
 cases f with
 |next=>let(Y,Z,I,q):=h;exact#[_,Z,I.p6,q]
 |brk=>let(Y,Z,I,q):=h;exact#[_,Z,I.p6,q]
 |cont=>let(Y,Z,I,q):=h;exact#[_,Z,I.p6,q]
 |ret u=>let(v,Y,Z,I,r,q):=h;exact#[v,_,Z,I.p6,r,q]
theorem fx.vM {st} {t} (h:fx X.vM st t):fx X st t:=λπ s σ H D I hw =>
 Ĝ (h s σ H D (I.i7 _) hw) (λ_ _ q=>q.p6) λ_ _ z=>afs z
end
section
variable {X:Cx} {st:Stmt} {rest:List Stmt} {t u:TS} {e:afh} {te:TE} {pos:Pos}
def acd:TS:=λD σ H=>D.nx σ H
def adO (t u:TS):TS:=λD σ H=>t { D with nx:=u D } σ H
def Y0:fx X [] acd:=λ_ _ σ H _ I h=>wpAny_execs_nil #[σ,H,I,h]
def Xk (h1:PS X st t) (h2:fx X rest u):fx X (st::rest) (adO t u):=by
 intro V s σ H D I h;refine wpAny_execs_cons (aP (h1 s σ H _ I h) λf Z q=>?_)
 cases f with
 |next =>
  let(U,Y,W,q):=q;exact h2 Z _ Y D W q
 |ret v=>exact q
 |brk=>exact q
 |cont=>exact q
def Y1 (h1:PS X st t):fx X [st] t:=by
 intro Z s σ H D I h;refine wpAny_execs_cons (aP (h1 s σ H D I h) λf Y q=>?_)
 cases f with
 |next=>exact wpAny_execs_nil q
 |ret v=>exact q
 |brk=>exact q
 |cont=>exact q
def Inv.quiet {σ:St} {H} {s} (I:Inv X π σ H s):interactive X.env=ύ:=by simp[interactive,I.ok.kind]
def ace (te:TE):TS:=λD σ H=>te σ H λ_ Z=>D.nx σ Z
def Y2 (he:PE X e te) (hs:agL e ϋ pos.line X.env=pure ύ:=by rfl):PS X (.Expr e pos) (ace te):=by
 intro Z s σ H D I h;exact wpAny_Expr_any (aP (he Z s σ H _ I h) λv U ⟨x,Y,W,T,V⟩=>#[σ,Y,W,V]) I.quiet hs
def adP (te:TE):TS:=λD σ H=>te σ H D.rt
def aay (he:PE X e te):PS X (.Return (ϊ e) pos) (adP te):=by
 intro Z s σ H D I h;exact wpAny_Return_some (aP (he Z s σ H _ I h) λv T ⟨x,Y,W,V,U⟩=>#[x,σ,Y,W,V,U])
def adQ (c:TT) (t u:TS):TS:=λD σ H=>c σ H λb Z=>if b=ό then t D σ Z else u D σ Z
def acf {a b} {tc} (hc:PT X c tc) (ha:fx X a t) (hb:fx X b u):PS X (.If c a b pos) (adQ tc t u):=by
 intro U s σ H D I h;refine wpAny_If (aP (hc U s σ H _ I h) λd Z ⟨Y,W,V⟩=>?_)
 cases d with
 |true=>exact ha Z σ Y D W V
 |false=>exact hb Z σ Y D W V
end
abbrev TG:=V->St->Hp->(St->Hp->Prop)->Prop
abbrev sG:=List V->St->Hp->(St->Hp->Prop)->Prop
def PG (X:Cx) (target:afh) (t:TG):Prop :=
 ∀Z s (σ:St) H v u Q,Inv X Z σ H s->RelV v u->t v σ H Q ->
  ð (ã X.prog X.w) X.A (af5 target X.env u) (λ_ V=>∃ Y W,Inv X Z Y W V/\Q Y W) X.xe s
def nF (X:Cx) (ts:List afh) (t:sG):Prop :=
 ∀Z s (σ:St) H Y W Q,Inv X Z σ H s->Vals Y W->t Y σ H Q ->
  ð (ã X.prog X.w) X.A (assignInOrder ((η ts X.env).map (·.2)) W) (λ_ T=>∃ V U,Inv X Z V U T/\Q V U) X.xe s
abbrev HM:=V->V->V->Hp->(Hp->Prop)->Prop
def HN (X:Cx) (t:HM):Prop :=
 ∀Z s (σ:St) H o i v Y W u Q,Inv X Z σ H s->RelV o Y->RelV i W->RelV v u->t o i v H Q ->
  ð (ã X.prog X.w) X.A (setItem Y W u) (λ_ U=>∃V,Inv X Z σ V U/\Q V) X.xe s
section
variable {X:Cx} {pos:Pos}
def lS (i:Nat):TG:=λv σ H Q=>Q (σ.set i (ϊ v)) H
def cy (hN:X.N.Nodup) (hi:X.N[i]?=ϊ x) (hx:Loc X.env.scope x) (hf:X.fn x=ό\/X.env.scope.names.lookup x=ϊ .local:=by first|exact .inl rfl|exact .inr rfl|assumption):PG X (.Name x pos) (lS i):=by
 intro Y s σ H v u Q I r h;exact wpAny_assign_Name (n6 I hN hi hx r (λW Z=>#[_,H,Z,h]) hf)
def HP:sG:=λZ σ H Q=>Z=[]/\Q σ H
def GU (t:TG) (u:sG):sG:=λZ σ H Q=>∃v r,Z=v::r/\t v σ H fun Y X=>u r Y X Q
def mO:nF X [] HP:=by
 intro Z s σ H Y W Q I r h;let(e,h):=h;subst e;exact assignInOrder_nil #[σ,H,I,h]
def fM {es} {t} {u} (h1:PG X e t) (h2:nF X es u)
  (hs:(η (e::es) X.env).map (·.2)=af5 e X.env::(η es X.env).map (·.2):=by rfl):nF X (e::es) (GU t u):=by
 intro Z s σ H R P Q I r h;let(v,O,e1,h):=h;subst e1
 cases r with
 |cons r Y =>
  rw[hs];refine ν (aP (h1 Z s σ H _ _ _ I r h) λ_ W ⟨V,U,T,S⟩=>?_);exact h2 Z W _ U _ _ Q T Y S
def HQ (K:ae3) (n:Nat) (t:sG):TG:=λv σ H Q=>∃a Z,v=.ref a/\bE K H a Z/\Z.length=n/\t Z σ H Q
def jI {k} {n} (hc:X.calm=ό) (h:nF X es t)
 (hn:(η es X.env).length=n:=by rfl) (sH:(η es X.env).findIdx? (·.1)=ϋ:=by rfl):PG X (.Tuple es k pos) (HQ X.K n t):=by
 intro Y s σ H v u Q I r hw;let(a,W,e1,V,U,hw):=hw;subst e1;cases r;let(aj,Z,T,P):=I.tuple V;refine assign_Tuple_tuple (I.ok.hd hc) T (by simp[hn,<- U,Z.length]) sH λO S=>?_;have R:=I.kept (t':=s.toks) λb o e=>S b o (ë (Í e)) e;exact h Y _ σ H W _ Q R (by simpa using Z) hw
def adR (to ti:TE) (t:HM):TG:=λv σ H Q=>to σ H λo Z=>ti σ Z λi Y=>t o i v Y λX=>Q σ X
def O3 {to ti} {t} (ho:PE X o to) (hi:PE X i ti) (hs:HN X t)
  (ha:∀v,af5 (.Subscript o i pos) X.env v=(do
   let ov <- agw [v] (Ź o X.env)
   let iv <- agw [v,ov] (Ź i X.env)
   agx pos
   agw [v,ov,iv] (setItem ov iv v)
   release [v,ov,iv] []):=by intro _;rfl):PG X (.Subscript o i pos) (adR to ti t):=by
 intro Z s σ H v u Q I r h;refine À (ĝ (aP (ho Z s σ H _ I h) λov Y ⟨x,W,V,U,T⟩=>?_));refine À (ĝ (aP (hi Z Y σ W _ V T) λiv S ⟨y,R,P,O,N⟩=>?_));refine À (ō (À (ĝ (aP (hs Z S σ R x y v ov iv u _ P U O r N) λ_ J ⟨M,L,K⟩=>?_))));exact wpAny_release #[σ,M,L,K]
def se (te:TE) (g:TG):TS:=λD σ H=>te σ H λx Z=>g x σ Z D.nx
def FY {tg e} {te} {g} (he:PE X e te) (hg:PG X tg g) (hs:ae4 [tg] e pos.line X.env=pure ύ:=by rfl) (hw:ae5 [tg] e X.env=pure ϋ:=by rfl)
  (h1:(η [tg] X.env).map (·.2)=[af5 tg X.env]:=by rfl):PS X (.Assign [tg] e pos) (se te g):=by
 intro Z s σ H D I h;refine wpAny_Assign_stores (aP (he Z s σ H _ I h) λv Y ⟨x,W,V,U,T⟩=>?_) hs hw;rw[h1];exact aP (hg Z Y σ W x v _ V U T) λ_ S q=>q
def aaz {e} {te} {pos'} (hN:X.N.Nodup) (hi:X.N[i]?=ϊ x) (hx:Loc X.env.scope x) (he:PE X e te) (hs:agL e (ϊ (.Name x pos')) pos.line X.env=pure ύ:=by rfl) (hf:X.fn x=ό\/X.env.scope.names.lookup x=ϊ .local:=by first|exact .inl rfl|exact .inr rfl|assumption) :
  PS X (.Assign [.Name x pos'] e pos) (se te (lS i)):=by
 intro Z s σ H D I h;refine wpAny_Assign_Name (aP (he Z s σ H _ I h) λv S ⟨y,Y,W,V,U⟩=>?_) hs;exact n6 W hN hi hx V (λR T=>#[_,Y,T,U]) hf
def adS (i j:Nat) (ta:TA):TS:=λD σ H=>ta σ H λZ Y=>∃v w,Z=[v,w]/\D.nx ((σ.set i (ϊ v)).set j (ϊ w)) Y
def aaA {x y} {a b} {ta} {px py pt} {kt k2 jy} (hc:X.calm=ό) (hN:X.N.Nodup) (hi:X.N[i]?=ϊ x) (hj:X.N[j]?=ϊ y) (iF:i≠j)
  (hx:X.env.scope.names.lookup x=ϊ .local) (hy:X.env.scope.names.lookup y=ϊ .local) (ha:PA X [a,b] ta)
  (hw:ae5 [.Tuple [.Name x px,.Name y py] kt pt] (.Tuple [a,b] k2 jy) X.env=pure (ϊ [x,y]))
  (hs:ae4 [.Tuple [.Name x px,.Name y py] kt pt] (.Tuple [a,b] k2 jy) pos.line X.env=pure ύ:=by rfl) :
  PS X (.Assign [.Tuple [.Name x px,.Name y py] kt pt] (.Tuple [a,b] k2 jy) pos) (adS i j ta):=by
 intro U s σ H D I h;refine À (ō ?_);refine À (Â ?_);refine À (Tuple_ (aP (ha _ U s σ H _ I h) λR W ⟨C,T,Q,P,V⟩=>?_));let(v,w,e1,V):=V;subst e1;obtain⟨Z,Y,rfl,O,M⟩:∃Z Y,R=[Z,Y]/\RelV v Z/\RelV w Y:=by
  cases P with
  |cons p q =>
   cases q with
   |cons L K =>
    cases K;exact#[_,_,rfl,p,L]
 refine Č ?_ (by show 2<=â;decide)
 have J:Inv X U σ T { W with heap:=W.heap.push { cls:=.type "tuple",data:=.seq [Z,Y].toArray } }:=Q.kept λb o e=>Á _ e
 rw[hw];refine À (Â ?_);refine À (ş (À (unpackItems_tuple (items:=#v[Z,Y]) (I.ok.hd hc) (IsTup.new _ _) λB G=>?_)));have F:=J.kept (t':=W.toks) λb o e=>G b o (ë (Í e)) e;refine À (ν (agl (n6 F hN hj (.inl hy) M (λA E=>?_) (.inr hy))));refine ν (agl (n6 E hN hi (.inl hx) O (λz S=>assignInOrder_nil (Â ?_)) (.inr hx)));rw[List.set_comm _ _ (Ř iF)] at S;exact#[_,T,S,V]
end
structure It where
 go:Nat->Hp->Prop
 yN:Nat->Hp->V->Hp->Prop
 stop:Nat->Hp->Prop
def cY (X:Cx) (π:List (ę×Obj)) (H:Hp) (b:ę):Prop :=
 H b=ϋ/\b≠X.env.locals/\b∉X.fs/\(b∈X.ex\/X.eR.heap.objs.size<=b)/\(∀x c,X.env.cells.lookup x=ϊ c->c≠b)/\∀p∈X.pn++π,p.1≠b
def Inv.oM {π} {σ:St} {H H'} {s} {b:ę} (I:Inv X π σ H s) (hb:s.heap.objs.size<=b) (hn:H' b=ϋ):cY X π H' b:=by
 refine#[hn,ŵ (È I.lt hb),I.vh hb,.inr (Ó I.sz hb),λx c e z=>?_,λp Z z=>?_]
 .let(v,q):=I.cell x c e
  exact absurd (È q.lt (by rw[z];exact hb)) (ó _)
 .exact absurd (È (Í (I.pin p Z).1) (by rw[z];exact hb)) (ó _)
structure Turn (P) (w) (K) (tg) (J:It) (fp:List ę) (it) (tn:Nat->afz->Prop):Prop where
 mem:it∈fp
 obj:∀i h,tn i h->∀b∈fp,∃o,h.get? b=ϊ o/\∀v,o.data≠.cell v
 keep:∀i h h',tn i h->(∀b∈fp,∀o,h.get? b=ϊ o->h'.get? b=ϊ o)->tn i h'
 item:∀X,X.prog=P->X.w=w->X.K=K->X.calm=ό->∀i π s (σ:St) H E,Inv X π σ H s->(∀b∈fp,cY X π H b)->tn i s.heap->J.go i H ->
  ð (ã P w) X.A (agn (.ref it)) (λr s1=>∃u,r=ϊ u /\
   ð (ã P w) X.A (ř tg (.ref it) u) (λ_ s2=>∃x H',Inv X π σ H' s2/\RelV x u/\J.yN i H x H'/\tn (i+1) s2.heap/\∀b∈fp,H' b=ϋ) E s1) E s
 done:∀X,X.prog=P->X.w=w->X.K=K->X.calm=ό->∀i π s (σ:St) H E,Inv X π σ H s->(∀b∈fp,cY X π H b)->tn i s.heap->J.stop i H ->
  ð (ã P w) X.A (agn (.ref it)) (λr s1=>r=ϋ/\Inv X π σ H s1) E s
 self:∀A i s Q E,tn i s.heap->Q (.ref it) s->ð (ã P w) A (ag6 (.ref it)) Q E s
abbrev TI:=St->Hp->(It->Hp->Prop)->Prop
def RS (X:Cx) (π:List (ę×Obj)) (σ:St) (tg:afh) (R:It->Hp->Prop) (gL:ì) (s2:ß):Prop :=
 ∃(it:ę) (Y:List ę) (W:Nat->afz->Prop) (J:It) (Z:Hp),gL=.ref it/\Inv X π σ Z s2/\Turn X.prog X.w X.K tg J Y it W/\W 0 s2.heap/\(∀b∈Y,cY X π Z b)/\R J Z
def PI (X:Cx) (tg iter:afh) (wi:TI):Prop :=
 ∀Z s (σ:St) H R,Inv X Z σ H s->wi σ H R ->
  ð (ã X.prog X.w) X.A (Ź iter X.env) (λv Y=>ð (ã X.prog X.w) X.A (ag6 v) (RS X Z σ tg R) X.xe Y) X.xe s
def BG (ho:s.heap.get? it=ϊ o) (hc:o.cls=.type n) (hd:o.data=.fields vs)
 (hn:["enumerate","zip","dict_itemiterator","dict_reverseitemiterator","odict_iterator","itertools.zip_longest","itertools.pairwise"].contains n=ύ) (hQ:Q () s):ð M A (ř tg (.ref it) u) Q E s:=by
 cases tg<;>first
  |exact Â hQ
  |(cases u<;>first
    |exact Â hQ
    |(refine À (wpAny_load ho ?_)
      rw[hc,hd]
      show ð M A (if (["enumerate","zip","dict_itemiterator","dict_reverseitemiterator","odict_iterator","itertools.zip_longest","itertools.pairwise"].contains n&&vs[0]?==ϊ _)=ό then _ else _) Q E s
      rw[ÿ (by intro h;rw[hn] at h;cases h)];exact Â hQ))
noncomputable def IU (K:ae3) (a:ę):It :=
 #[λi H=>∃Z x,bJ K H a Z/\Z[i]?=ϊ x,λi H x Y=>Y=H/\∀Z,bJ K H a Z->Z[i]?=ϊ x,λi H=>∃Z,bJ K H a Z/\Z.length<=i]
noncomputable def IV (K:ae3) (a:ę):It :=
 #[λi H=>∃Z x,bE K H a Z/\Z[i]?=ϊ x,λi H x Y=>Y=H/\∀Z,bE K H a Z->Z[i]?=ϊ x,λi H=>∃Z,bE K H a Z/\Z.length<=i]
noncomputable def yO (lo:Int) (n:Nat):It:=#[λi _=>i<n,λi H x Z=>Z=H/\x=.int (lo+i),λi _=>n<=i]
def Wa {K} {tg} (a it):Turn P w K tg (IU K a) [it] it (λi h=>h.IsListIter it a i) where
 mem:=by simp
 obj:=λi h Z b Y=>by
  have e:=by simpa using Y
  subst e;let(o,e,c,d):=Z;exact#[o,e,λv z=>by rw[d] at z;cases z]
 keep:=λi h M Z k=>Z.at λo e=>k it ∅ o e
 item:=by
  intro X U hw T L i G s σ H E I W Z S;subst U hw T;let(F,x,V,R):=S;let(aj,Q,p,D):=I.list V;let(u,C,B):=Q.get R;let(f0,f1,f2,O,f4,N):=W it ∅;refine wpAny_pyNext_list_item Z p.isList (by simpa using C) λM J A=>?_;have y:=I.turned (t':=s.toks) (λb o Y e=>(A.2 b Y).trans e) f0 f1 O f4 N;let(o,e,c,d):=id J;exact#[u,rfl,BG e c d (by decide) #[x,H,y,B,#[rfl,λq t=>by rw[I.Nj t V];exact R],J,λb Y=>(W b Y).1]]
 done:=by
  intro X U hw T L i G s σ H E I W Z S;subst U hw T;let(F,V,R):=S;let(aj,Q,p,D):=I.list V;let(f0,f1,f2,O,f4,N):=W it ∅;have n:=Q.length;exact wpAny_pyNext_list_end (I.ok.hd L) Z p.isList (by simp;omega) λM r=>#[rfl,I.turned (λb o Y e=>r b o Y e) f0 f1 O f4 N]
 self:=λ_ _ _ _ _ Z h=>wpAny_pyIter_listiter Z h
def Va {K} {tg} (a it):Turn P w K tg (IV K a) [it] it (λi h=>h.IsTupleIter it a i) where
 mem:=by simp
 obj:=λi h Z b Y=>by
  have e:=by simpa using Y
  subst e;let(o,e,c,d):=Z;exact#[o,e,λv z=>by rw[d] at z;cases z]
 keep:=λi h M Z k=>Z.at λo e=>k it ∅ o e
 item:=by
  intro X U hw T L i G s σ H E I W Z S;subst U hw T;let(F,x,V,R):=S;let(aj,Q,p,D):=I.tuple V;let(u,C,B):=Q.get R;let(f0,f1,f2,O,f4,N):=W it ∅;refine wpAny_pyNext_tuple_item Z (p) (by simpa using C) λM J A=>?_;have y:=I.turned (t':=s.toks) (λb o Y e=>(A.2 b Y).trans e) f0 f1 O f4 N;let(o,e,c,d):=id J;exact#[u,rfl,BG e c d (by decide) #[x,H,y,B,#[rfl,λq t=>by rw[I.My t V];exact R],J,λb Y=>(W b Y).1]]
 done:=by
  intro X U hw T L i G s σ H E I W Z S;subst U hw T;let(F,V,R):=S;let(aj,Q,p,D):=I.tuple V;let(f0,f1,f2,O,f4,N):=W it ∅;have n:=Q.length;exact wpAny_pyNext_tuple_end (I.ok.hd L) Z (p) (by simp;omega) λM r=>#[rfl,I.turned (λb o Y e=>r b o Y e) f0 f1 O f4 N]
 self:=λ_ _ _ _ _ Z h=>wpAny_pyIter_tupleiter Z h
def Vb {K} {tg} (it) (lo) (n):Turn P w K tg (yO lo n) [it] it (λi h=>IsRangeIter h it (lo+(i)*1) ((n)-(i)) 1) where
 mem:=by simp
 obj:=λi h Z b Y=>by
  have e:=by simpa using Y
  subst e;exact#[_,Z,λv z=>by
   have J:=z;cases J]
 keep:=λi h U Z k=>k it ∅ _ Z
 item:=by
  intro X O hw N T i M s σ H E I V Z S;subst O hw N;let(f0,f1,f2,R,f4,Q):=V it ∅;have W:=Walks.range (prog:=X.prog) (w:=X.w) (I.ok.hd T) it lo 1 n;refine W.item i s _ _ S Z λv U G F L D=>?_;let(t,rfl):=F
  have C:Inv X M σ H { s with heap:=U,toks:=G }:=I.turned (λb o Y e=>D b o (by simpa using Y) e) f0 f1 R f4 Q
  refine#[_,rfl,BG L rfl rfl (by decide) #[.int _,H,C,#[t,?_],#[rfl,rfl],L,λb Y=>(V b Y).1]];rw[Int.mul_one]
 done:=by
  intro X O hw N T i M s σ H E I V Z S;let(f0,f1,f2,R,f4,Q):=V it ∅;exact wpAny_pyNext_range_end (I.ok.hd T) Z (by have:n<=i:=S;omega) λU B=>#[rfl,I.turned (λb o Y e=>B b o Y e) f0 f1 R f4 Q]
 self:=λ_ _ _ _ _ Z h=>af6 Z h
section
variable {X:Cx} {tg:afh}
def Ql (K:ae3) (tl:TE):TI:=fun σ H R=>tl σ H λx Z=>∃a,x=.ref a/\(∃Y,bJ K Z a Y)/\R (IU K a) Z
def Rk (K:ae3) (tl:TE):TI:=fun σ H R=>tl σ H λx Z=>∃a,x=.ref a/\(∃Y,bE K Z a Y)/\R (IV K a) Z
def Y3 (hl:PE X l tl):PI X tg l (Ql X.K tl):=by
 intro Y s σ H R I h;refine aP (hl Y s σ H _ I h) λv Q ⟨x,W,Z,V,U⟩=>?_;obtain⟨a,e,⟨P,T⟩,q⟩:=U;subst e;cases V;let(aj,O,p,N):=Z.list T;refine ź p.isList ?_;refine#[_,_,_,_,W,rfl,Z.kept λb o e=>Á _ e,Wa a _,#[_,Ê _ rfl,rfl,rfl],λb S=>?_,q];have e:=by simpa using S
 subst e;exact Z.oM (ahd _) (Z.aN.fresh (ahd _))
def aaB (hl:PE X l tl):PI X tg l (Rk X.K tl):=by
 intro Y s σ H R I h;refine aP (hl Y s σ H _ I h) λv Q ⟨x,W,Z,V,U⟩=>?_;obtain⟨a,e,⟨P,T⟩,q⟩:=U;subst e;cases V;let(aj,O,p,N):=Z.tuple T;refine wpAny_pyIter_tuple (p) ?_;refine#[_,_,_,_,W,rfl,Z.kept λb o e=>Á _ e,Va a _,#[_,Ê _ rfl,rfl,rfl],λb S=>?_,q];have e:=by simpa using S
 subst e;exact Z.oM (ahd _) (Z.aN.fresh (ahd _))
def Nk {σ:St} {H} {s} {R} {E} {lo hi} {t u v} {tk} (I:Inv X π σ H s) (h1:-(2 ^ 62)<=lo) (h2:lo<2 ^ 62) (h3:-(2 ^ 62)<=hi) (h4:hi<2 ^ 62)
  (q:R (yO lo (hi-lo).toNat) H):ð (ã X.prog X.w) X.A (ag6 (.ref s.heap.objs.size)) (RS X π σ tg R) E { s with heap:=s.heap.push { cls:=.type "range",data:=.fields #v[.int lo t,.int hi u,.int 1 v] },toks:=tk }:=by
 refine wpAny_pyIter_range (IsRange.new ..) (small_one h1 h2 h3 h4) ?_
 have Z:Inv X π σ H { s with heap:=s.heap.push { cls:=.type "range",data:=.fields #v[.int lo t,.int hi u,.int 1 v] },toks:=tk }:=I.kept λb o e=>Á _ e
 refine#[_,_,_,_,H,rfl,
  Z.kept λb o e=>Á _ e,Vb _ lo _,?_,λb Y=>?_,q]
 .have e1:lo+((0:Nat))*1=lo:=by simp
  have e2:(((hi-lo).toNat))-((0:Nat))=afP lo hi 1:=by rw[rangeSize_one];split<;>omega
  rw[e1,e2];exact Ê _ rfl
 .have e:b=(s.heap.push { cls:=.type "range",data:=.fields #v[.int lo t,.int hi u,.int 1 v] }).objs.size:=by simpa using Y
  subst e;exact Z.oM (ahd _) (Z.aN.fresh (ahd _))
def acg (ta:TA):TI:=fun σ H R=>ta σ H λZ Y=>∃j,Z=[.int j]/\-(2 ^ 62)<=j/\j<2 ^ 62/\R (yO 0 j.toNat) Y
def ach (ta:TA):TI:=fun σ H R=>ta σ H λZ Y=>∃i j,Z=[.int i,.int j]/\(-(2 ^ 62)<=i/\i<2 ^ 62/\-(2 ^ 62)<=j/\j<2 ^ 62)/\R (yO i (j-i).toNat) Y
def Wb {p pos} (hg:Gl X "range") (hm:X.mg "range"=ϋ) (ha:PA X [a] ta) (hs:Õ [a] X.env=[(ύ,Ź a X.env)]:=by rfl):PI X tg (.Call (.Name "range" p) [a] [] pos) (acg ta):=by
 intro Y s σ H R I h;refine Call_ (oq I hg hm boot_range (Ś (aP (ha pos Y s σ H _ I h) λS Q ⟨P,O,W,V,Z⟩=>?_) hs rfl));let(j,e,Z,U,q):=Z;subst e
 cases V with
 |cons r T =>
  cases T;let(t,rfl):=r;exact call_range_1 (Nk W ⋯ ⋯ Z U (by simpa using q))
def Wc {p pos} (hg:Gl X "range") (hm:X.mg "range"=ϋ) (ha:PA X [a,b] ta) (hs:Õ [a,b] X.env=[(ύ,Ź a X.env),(ύ,Ź b X.env)]:=by rfl) (eD:Õ [b] X.env=[(ύ,Ź b X.env)]:=by rfl) :
  PI X tg (.Call (.Name "range" p) [a,b] [] pos) (ach ta):=by
 intro W s σ H R I h;refine Call_ (oq I hg hm boot_range (Ś (aP (ha pos W s σ H _ I h) λO N ⟨M,L,V,U,Z⟩=>?_) (by rw[hs,eD]) (by rw[eD];rfl)));obtain⟨i,j,e,⟨Z,T,S,Q⟩,q⟩:=Z;subst e
 cases U with
 |cons r Y =>
  cases Y with
  |cons P Y =>
   cases Y;let(t,rfl):=r;let(K,rfl):=P;exact call_range_2 (Nk V Z T S Q q)
def Rl (wi:TI) (g:TG) (tb:TS):TS:=λD σ H=>wi σ H λJ V=>∃W:Nat->Nat->St->Hp->Prop,(∃m,W 0 m σ V)/\∀i m σ H,W i m σ H ->
 (J.stop i H/\D.nx σ H)\/(J.go i H/\∃N,(∀ Y Z,N Y Z->∃X,X < m/\W (i+1) X Y Z)/\∀x Z,J.yN i H x Z->g x σ Z fun U T=>tb { D with nx:=N,ct:=N,bk:=D.nx } U T)
noncomputable def uB (fp:List ę) (h:afz):List (ę×Obj):=fp.filterMap λb=>(h.get? b).map λo=>(b,o)
def tX (hb:b∈fp) (e:h.get? b=ϊ o):(b,o)∈uB fp h:=List.mem_filterMap.mpr #[b,hb,by rw[e];rfl]
def Mz (hp:p∈uB fp h):p.1∈fp/\h.get? p.1=ϊ p.2:=by
 let(b,Z,e):=List.mem_filterMap.mp hp
 cases q:h.get? b with
 |none=>rw[q] at e;cases e
 |some o =>
  rw[q] at e;have Y:=ahe e;subst Y;exact#[Z,q]
def Inv.pinned {σ:St} {H} {s} {fp} (I:Inv X π σ H s) (hf:∀b∈fp,cY X π H b) (ho:∀b∈fp,∃o,s.heap.get? b=ϊ o/\∀v,o.data≠.cell v):Inv X (π++uB fp s.heap) σ H s :=
 I.jl λp W=>(Û.mp W).elim (λz=>I.pin p (Å _ z)) λz=>by
  let(Z,e):=Mz z;let(f0,f1,f2,_):=hf _ Z;let(o,Y,d):=ho _ Z;rw[e] at Y;cases Y;exact#[e,f0,f1,f2,d]
def Inv.j6 {σ:St} {H} {s} (I:Inv X (π++pl) σ H s):Inv X π σ H s:=I.jl λp Z=>I.pin p (Å _ (ě _ Z))
def aaC {body} {wi} {g} {tb} {pos} (hp:PassesOwn (ã X.prog X.w) X.A X.env X.xe) (hc:X.calm=ό) (hi:PI X tg iter wi) (hg:PG X tg g) (hb:fx X body tb)
  (hs:∀x,ú iter X.env x=pure x:=by intro _;rfl):PS X (.For tg iter body [] pos) (Rl wi g tb):=by
 intro S s σ H D I h;refine wpAny_For (aP (hi S s σ H _ I h) λv s1 q=>aP q λgL s2 p=>?_) hs;obtain⟨it,O,G,J,l,e,k,T,j,f2,W,⟨m0,c⟩,turn⟩:=p;subst e;have stat:∀{V},(∀b∈O,V b=ϋ)->∀b∈O,cY X S V b:=λa b hb=>#[a b hb,(f2 b hb).2];refine codeAny_forLoop_any (λn F=>∃i Q V,Inv X S Q V F/\G i F.heap/\(∀b∈O,V b=ϋ)/\W i n Q V) ?_ m0 #[0,σ,l,k,j,λb hb=>(f2 b hb).1,c];intro n E zz;let(i,RT,M,C,B,z,w3):=zz
 rcases turn i n _ M w3 with ⟨stop,qn⟩ | ⟨go,N,hN,step⟩
 .refine afQ hp (aP (T.done X rfl rfl rfl hc i S E _ M _ C (stat z) B stop) λr s4 ⟨L,I4⟩=>?_)
  subst L;exact wpAny_execs_nil #[_,M,I4,qn]
 .refine afQ hp (aP (T.item X rfl rfl rfl hc i S E _ M _ C (stat z) B go) λr s4 ⟨u,L,h4⟩=>?_)
  subst L;refine afQ hp (aP h4 λ_ s5 ⟨x,y,I5,r5,y5,K,yP⟩=>?_);have yQ:=I5.pinned (stat yP) (T.obj _ _ K);refine afQ hp (aP (hg _ s5 _ y x u _ yQ r5 (step x y y5)) λ_ s6 ⟨σ6,H6,I6,q6⟩=>?_);refine afQ hp (aP (hb s6 _ H6 _ I6 q6) λf t U=>?_);have again:∀{R} {Z},Inv X _ _ Z t->N _ Z->∃m,m<n/\∃i Q V,Inv X S Q V t/\G i _/\(∀b∈O,V b=ϋ)/\W i m Q V:=λ{R Z} Y P=>by
   let(m',hm,w7):=hN _ Z P;refine#[m',hm,_,R,Z,Y.j6,T.keep _ _ _ K λb hb o e=>(Y.pin _ (Å _ (Å _ (tX hb e)))).1,λb hb=>?_,w7];let(o,e,d):=T.obj _ _ K b hb;exact(Y.pin _ (Å _ (Å _ (tX hb e)))).2.1
  cases f with
  |next=>let(R,Z,Y,P):=U;exact again Y P
  |cont=>let(R,Z,Y,P):=U;exact again Y P
  |brk=>let(R,Z,Y,U):=U;exact#[_,Z,Y.j6,U]
  |ret v=>let(x7,R,Z,Y,r7,U):=U;exact#[x7,_,Z,Y.j6,r7,U]
end
abbrev R2:=V->V->Hp->VK->Prop
def bA (X:Cx) (f:ì->ì->Sem ì) (r:R2):Prop :=
 ∀Z s (σ:St) H x y v u Q,Inv X Z σ H s->RelV x v->RelV y u->r x y H Q ->
  ð (ã X.prog X.w) X.A (f v u) (EP X Z σ Q) X.xe s
def yR (X:Cx) (f:ì->Sem ì) (r:V->Hp->VK->Prop):Prop :=
 ∀Z s (σ:St) H x v Q,Inv X Z σ H s->RelV x v->r x H Q ->
  ð (ã X.prog X.w) X.A (f v) (EP X Z σ Q) X.xe s
def cX (X:Cx) (f:ì) (r:List V->Hp->VK->Prop):Prop :=
 ∀Z s (σ:St) H Y W Q,Inv X Z σ H s->Vals Y W->r Y H Q ->
  ð (ã X.prog X.w) X.A (call f W) (EP X Z σ Q) X.xe s
def adT (X:Cx) (r:V->Hp->(Bool->Hp->Prop)->Prop):Prop :=
 ∀Z s (σ:St) H x v Q,Inv X Z σ H s->RelV x v->r x H Q ->
  ð (ã X.prog X.w) X.A (truthy v) (TP X Z σ Q) X.xe s
def yS (r:R2) (ta tb:TE):TE:=fun σ H Q=>ta σ H λx Z=>tb σ Z λy Y=>r x y Y Q
def tUn (r:V->Hp->VK->Prop) (ta:TE):TE:=fun σ H Q=>ta σ H λx Z=>r x Z Q
def rI (C:Int->Int->Prop) (g:Int->Int->V):R2:=λx y H Q=>∃i j,x=.int i/\y=.int j/\C i j/\Q (g i j) H
def qF (g:Int->Int->V):R2:=λx y H Q=>∃i j,x=.int i/\y=.int j/\Q (g i j) H
def rU (g:Int->V):V->Hp->VK->Prop:=λx H Q=>∃i,x=.int i/\Q (g i) H
section
variable {X:Cx} {a b c:afh} {ta tb tc:TE} {pos:Pos}
def HR (ha:PE X a ta) (hb:PE X b tb) {π} {s} {σ:St} {H} {R:V->V->Hp->Prop} (I:Inv X π σ H s)
  (h:ta σ H λx H1=>tb σ H1 λy H2=>R x y H2) {Q} {f:ì->ì->Sem ì}
  (hf:∀v u s2 x y H2,Inv X π σ H2 s2->RelV x v->RelV y u->R x y H2->ð (ã X.prog X.w) X.A (f v u) Q X.xe s2) :
  ð (ã X.prog X.w) X.A (Ź a X.env) (λv cQ=>ð (ã X.prog X.w) X.A (Ź b X.env) (λu Cc=>ð (ã X.prog X.w) X.A (f v u) Q X.xe Cc) X.xe cQ) X.xe s:=by
 refine aP (ha π s σ H _ I h) λv Z ⟨x,H1,Y,W,U⟩=>?_;refine aP (hb π Z σ H1 _ Y U) λu s2 ⟨y,H2,T,S,P⟩=>?_;exact hf v u s2 x y H2 T W S P
def aci (ho:bA X (ŧ op) r) (ha:PE X a ta) (hb:PE X b tb):PE X (.BinOp a op b pos) (yS r ta tb):=by
 intro Z s σ H Q I h;exact wpAny_BinOp (HR ha hb I h λv u Y x y W V U T q=>ho Z Y σ W x y v u Q V U T q)
def acj {r} (ho:yR X (unaryOp op) r) (ha:PE X a ta):PE X (.UnaryOp op a pos) (tUn r ta):=by
 intro Z s σ H Q I h;exact UnaryOp_ (aP (ha Z s σ H _ I h) λv Y ⟨x,W,V,U,T⟩=>ho Z Y σ W x v Q V U T)
def CG {C} {g:Int->Int->Int}
 (rule:∀i j t u s Q E,C i j->Q (.int (g i j) s.toks) { s with toks:=s.toks+1 }->ð (ã X.prog X.w) X.A (f (.int i t) (.int j u)) Q E s) :
  bA X f (rI C λi j=>.int (g i j)):=by
 intro U s σ H x y v u Q I Z Y h;let(i,j,rfl,rfl,W,q):=h;let(t,rfl):=Z;let(V,rfl):=Y;exact rule i j t V s _ _ W #[.int _,H,I.tok _,#[_,rfl],q]
def Rm {g:Int->Int->Int}
 (rule:∀i j t u s Q E,Q (.int (g i j) s.toks) { s with toks:=s.toks+1 }->ð (ã X.prog X.w) X.A (f (.int i t) (.int j u)) Q E s) :
  bA X f (qF λi j=>.int (g i j)):=by
 intro V s σ H x y v u Q I Z Y h;let(i,j,rfl,rfl,q):=h;let(t,rfl):=Z;let(W,rfl):=Y;exact rule i j t W s _ _ #[.int _,H,I.tok _,#[_,rfl],q]
def Cd {g:Int->Int->Bool}
 (rule:∀i j t u s Q E,Q (.bool (g i j)) s->ð (ã X.prog X.w) X.A (f (.int i t) (.int j u)) Q E s) :
  bA X f (qF λi j=>.bl (g i j)):=by
 intro V s σ H x y v u Q I Z Y h;let(i,j,rfl,rfl,q):=h;let(t,rfl):=Z;let(W,rfl):=Y;exact rule i j t W s _ _ #[.bl _,H,I,rfl,q]
def adU (i j:Int):Prop:=0<j/\j<1073741824
def adV (i j:Int):Prop:=0<=j/\j<=1000000/\i.natAbs<2 ^ 64
def Ce (i j:Int):Prop:=(-(2 ^ 64)<i/\i<2 ^ 64)\/(-(2 ^ 64)<j/\j<2 ^ 64)
def Ce.ok (h:Ce i j):IntMulOk i j:=by
 rcases h with ⟨Z,Y⟩ | ⟨Z,Y⟩
 .exact .of_left (intBits_le_64 Z Y)
 .exact .of_right (intBits_le_64 Z Y)
def aaD:bA X (ŧ .Add) (qF λi j=>.int (i+j)):=Rm λ_ _ _ _ _ _ _ q=>add_int q
def aaE:bA X (ŧ .Sub) (qF λi j=>.int (i-j)):=Rm λ_ _ _ _ _ _ _ q=>sub_int q
def aaF:bA X (ŧ .Mult) (rI Ce λi j=>.int (i*j)):=CG λ_ _ _ _ _ _ _ Z q=>mul_int q Z.ok
def Y4:bA X (ŧ .FloorDiv) (rI adU λi j=>.int (i / j)):=CG λi j _ _ _ _ _ Z q=>by
 have Y:=Z.1;have W:=Z.2;exact floordiv_int ⋯ (by rw[Int.fdiv_eq_ediv_of_nonneg i ⋯];exact q) (.inl (PyProof.noPylong_small ⋯))
def aaG:bA X (ŧ .Mod) (rI (λ_ j=>0<j) λi j=>.int (i % j)):=CG λi j _ _ _ _ _ Z q=>by
 exact mod_int' ⋯ (by rw[Int.fmod_eq_emod_of_nonneg i ⋯];exact q)
def aaH:bA X (ŧ .Pow) (rI adV λi j=>.int (i ^ j.toNat)):=CG λ_ _ _ _ _ _ _ Z q=>pow_int_small Z.1 Z.2.1 Z.2.2 q
def unI {g:Int->Int}
 (rule:∀i t s Q E,Q (.int (g i) s.toks) { s with toks:=s.toks+1 }->ð (ã X.prog X.w) X.A (f (.int i t)) Q E s) :
  yR X f (rU λi=>.int (g i)):=by
 intro Y s σ H x v Q I Z h;let(i,rfl,q):=h;let(t,rfl):=Z;exact rule i t s _ _ #[.int _,H,I.tok _,#[_,rfl],q]
def aaI:yR X (unaryOp .USub) (rU λi=>.int (-i)):=unI λ_ _ _ _ _ q=>neg_int q
end
noncomputable def HS:V->V->Bool
 | .aD,.aD=>ό | .aD,.int _=>ό | .int _,.aD=>ό | .aD,.bl _=>ό | .bl _,.aD=>ό | .aD,.str _=>ό | .str _,.aD=>ό
 | .int _,.int _=>ό | .bl _,.bl _=>ό | .str _,.str _=>ό | .kB _,.kB _=>ό
 | .int _,.str _=>ό | .str _,.int _=>ό | .bl _,.str _=>ό | .str _,.bl _=>ό
 |_,_=>ύ
def rEq:R2:=λx y H Q=>HS x y=ό/\Q (.bl (ώ (x=y))) H
def rNe:R2:=λx y H Q=>HS x y=ό/\Q (.bl (!ώ (x=y))) H
def NY:ώ (V.int i=V.int j)=(i==j):=by
 rw[ś];simp
def O4:ώ (V.bl i=V.bl j)=(i==j):=by
 rw[ś];simp
def Fb:ώ (V.str i=V.str j)=(i==j):=by
 rw[ś];simp
def NZ:ώ (V.kB i=V.kB j)=(i.toList==j.toList):=by
 rw[ś];cases i;cases j;simp
section
variable {X:Cx} {a b c:afh} {ta tb tc:TE} {pos:Pos}
def dh {σ:St} {H} {s} {Q} {k k'} (I:Inv X π σ H s) (q:Q (.bl k) H) (e:k=k'):EP X π σ Q (.bool k') s:=by
 subst e;exact#[.bl k,H,I,rfl,q]
def ack:bA X (ğ .Eq) rEq:=by
 intro U s σ H x y v u Q I V Z h;let(hs,q):=h
 cases x with
 |aD =>
  cases V
  cases y with
  |aD=>cases Z;exact PySem.EqNone.eq_none_none (dh I q ∅)
  |bl j=>cases Z;exact PySem.EqNone.eq_none_bool (dh I q ∅)
  |int j=>let(Y,rfl):=Z;exact PySem.EqNone.eq_none_int (dh I q ∅)
  |str j=>let(Y,rfl):=Z;exact PySem.EqNone.eq_none_str (dh I q ∅)
  |_=>exact absurd (show ύ=ό from hs) è
 |bl i =>
  cases V
  cases y with
  |aD=>cases Z;exact PySem.EqNone.eq_bool_none (dh I q ∅)
  |bl j=>cases Z;exact eq_bool (dh I q O4)
  |str j=>let(Y,rfl):=Z;exact PySem.EqMixed.eq_bool_str (dh I q ∅)
  |_=>exact absurd (show ύ=ό from hs) è
 |int i =>
  let(t,rfl):=V
  cases y with
  |aD=>cases Z;exact PySem.EqNone.eq_int_none (dh I q ∅)
  |int j=>let(Y,rfl):=Z;exact eq_int (dh I q NY)
  |str j=>let(Y,rfl):=Z;exact PySem.EqMixed.eq_int_str (dh I q ∅)
  |_=>exact absurd (show ύ=ό from hs) è
 |str i =>
  let(t,rfl):=V
  cases y with
  |aD=>cases Z;exact PySem.EqNone.eq_str_none (dh I q ∅)
  |bl j=>cases Z;exact PySem.EqMixed.eq_str_bool (dh I q ∅)
  |int j=>let(Y,rfl):=Z;exact PySem.EqMixed.eq_str_int (dh I q ∅)
  |str j=>let(Y,rfl):=Z;exact eq_str (dh I q Fb)
  |_=>exact absurd (show ύ=ό from hs) è
 |kB i =>
  let(t,rfl):=V
  cases y with
  |kB j=>let(Y,rfl):=Z;exact PySem.W.eq_bytes (dh I q NZ)
  |_=>exact absurd (show ύ=ό from hs) è
 |_=>cases y<;>exact absurd (show ύ=ό from hs) è
def acm:bA X (ğ .NotEq) rNe:=by
 intro U s σ H x y v u Q I V Z h;let(hs,q):=h
 cases x with
 |aD =>
  cases V
  cases y with
  |aD=>cases Z;exact PySem.EqNone.ne_none_none (dh I q ∅)
  |bl j=>cases Z;exact PySem.EqNone.ne_none_bool (dh I q ∅)
  |int j=>let(Y,rfl):=Z;exact PySem.EqNone.ne_none_int (dh I q ∅)
  |str j=>let(Y,rfl):=Z;exact PySem.EqNone.ne_none_str (dh I q ∅)
  |_=>exact absurd (show ύ=ό from hs) è
 |bl i =>
  cases V
  cases y with
  |aD=>cases Z;exact PySem.EqNone.ne_bool_none (dh I q ∅)
  |bl j=>cases Z;exact ne_bool (dh I q (ň not O4))
  |str j=>let(Y,rfl):=Z;exact PySem.EqMixed.ne_bool_str (dh I q ∅)
  |_=>exact absurd (show ύ=ό from hs) è
 |int i =>
  let(t,rfl):=V
  cases y with
  |aD=>cases Z;exact PySem.EqNone.ne_int_none (dh I q ∅)
  |int j=>let(Y,rfl):=Z;exact ne_int (dh I q (ň not NY))
  |str j=>let(Y,rfl):=Z;exact PySem.EqMixed.ne_int_str (dh I q ∅)
  |_=>exact absurd (show ύ=ό from hs) è
 |str i =>
  let(t,rfl):=V
  cases y with
  |aD=>cases Z;exact PySem.EqNone.ne_str_none (dh I q ∅)
  |bl j=>cases Z;exact PySem.EqMixed.ne_str_bool (dh I q ∅)
  |int j=>let(Y,rfl):=Z;exact PySem.EqMixed.ne_str_int (dh I q ∅)
  |str j=>let(Y,rfl):=Z;exact ne_str (dh I q (ň not Fb))
  |_=>exact absurd (show ύ=ό from hs) è
 |kB i =>
  let(t,rfl):=V
  cases y with
  |kB j=>let(Y,rfl):=Z;exact PySem.W.ne_bytes (dh I q (ň not NZ))
  |_=>exact absurd (show ύ=ό from hs) è
 |_=>cases y<;>exact absurd (hs) è
def acn:bA X (ğ .Lt) (qF λi j=>.bl (ώ (i<j))):=Cd λ_ _ _ _ _ _ _ q=>lt_int q
def aco:bA X (ğ .LtE) (qF λi j=>.bl (ώ (i<=j))):=Cd λ_ _ _ _ _ _ _ q=>le_int q
def acp:bA X (ğ .Gt) (qF λi j=>.bl (ώ (j<i))):=Cd λ_ _ _ _ _ _ _ q=>gt_int q
def acq:bA X (ğ .GtE) (qF λi j=>.bl (ώ (j<=i))):=Cd λ_ _ _ _ _ _ _ q=>ge_int q
def Y5:bA X (ğ .IsNot) (λx y H Q=>y=.aD/\Q (.bl (!ώ (x=.aD))) H):=by
 intro W s σ H x y v u Q I Z Y h;let(rfl,q):=h;cases Y;refine isnot_none_gen (dh I q ?_)
 cases x<;>first
  |(rfl)
  |(let(t,rfl):=Z;rfl)
def cF (b) (h:op≠.In:=by decide) (h2:op≠.NotIn:=by decide):afR op b=ύ:=by
 have e1:(op==CmpOp.In)=ύ:=by cases op<;>first|rfl|exact absurd rfl h
 have e2:(op==CmpOp.NotIn)=ύ:=by cases op<;>first|rfl|exact absurd rfl h2
 cases b<;>simp[afR,e1,e2]
def Y6 (ho:bA X (ğ op) r) (ha:PE X a ta) (hb:PE X b tb) (hm:afR op b=ύ):PE X (.Compare a [op] [b] pos) (yS r ta tb):=by
 intro Z s σ H Q I h;exact wpAny_Compare1 (HR ha hb I h λv u Y x y W V U T q=>ho Z Y σ W x y v u Q V U T q) hm
def BH (t:TE):TT:=fun σ H Q=>t σ H λx Z=>∃k,x=.bl k/\Q k Z
def Y7 (ho:bA X (ğ op) r) (ha:PE X a ta) (hb:PE X b tb) (hm:afR op b=ύ):PT X (.Compare a [op] [b] pos) (BH (yS r ta tb)):=by
 intro Z s σ H Q I h;refine wpAny_isTrue_Compare1 (aP (ha Z s σ H _ I h) λv Y ⟨x,W,V,U,T⟩=>aP (hb Z Y σ W _ V T) λu S ⟨y,R,P,O,N⟩ =>
  aP (ho Z S σ R x y v u _ P U O N) λc G ⟨z,M,L,K,k,e,J⟩=>?_) hm
 subst e;cases K;exact Ĺ #[M,L,J]
def O5 (r r':R2) (ta tb tc:TE):TE:=fun σ H Q=>ta σ H λx Y=>tb σ Y λy X=>r x y X λz Z=>∃k,z=.bl k /\
 (if k=ό then tc σ Z λW V=>r' y W V Q else Q (.bl ύ) Z)
def Xl {r r'} (ho:bA X (ğ op) r) (eV:bA X (ğ yT) r') (ha:PE X a ta) (hb:PE X b tb) (hc:PE X c tc)
  (hm:lastMarks [op,yT] [b,c]=ύ:=by with_unfolding_all rfl):PE X (.Compare a [op,yT] [b,c] pos) (O5 r r' ta tb tc):=by
 intro Z s σ H Q I h;refine Compare_chain (aP (ha Z s σ H _ I h) λv T ⟨x,S,R,P,O⟩=>chain_link (aP (hb Z T σ S _ R O) λu N ⟨y,M,L,Y,K⟩ =>
  aP (ho Z N σ M x y v u _ L P Y K) λd J ⟨z,W,V,G,k,e,U⟩=>?_)) hm
 subst e;cases G;refine Ĺ ?_
 cases k with
 |false=>exact ite_ff #[.bl ύ,W,V,rfl,U]
 |true=>exact ite_tt (chain_last (aP (hc Z J σ W _ V U) λF E ⟨D,C,B,A,w⟩=>eV Z E σ C y D u F Q B Y A w))
def sf (K:ae3) (x:V) (H:Hp) (k:Bool):Prop :=
 match x with
 | .aD=>k=ύ
 | .bl b=>k=b
 | .int i=>k=(i != 0)
 | .str y=>y.length<=â/\k=((y.length:Int) != 0)
 | .kB y=>y.size<=â/\k=((y.size:Int) != 0)
 | .ref p=>(∃Z,bJ K H p Z/\k=!Z.isEmpty)\/(∃Z,bE K H p Z/\k=!Z.isEmpty)\/∃Y,H p=ϊ (.dK Y)/\k=!Y.isEmpty
 |_=>False
def Vc {ax:List (κ×V)} {vs} (r:KV ax vs):(!vs.isEmpty)=!ax.isEmpty:=by
 cases r<;>rfl
def Mf (r:Vals xs aj):(!aj.toArray.isEmpty)=!xs.isEmpty:=by
 cases r<;>simp
def rF:(â)<2 ^ 63:=by decide
def O6:adT X (λx H Q=>∃k,sf X.K x H k/\Q k H):=by
 intro J s σ H x v Q I U h;let(k,e,q):=h;have G:=rF;have hs:â=16777216:=sizeLine_eq
 cases x with
 |aD =>
  cases U;have Z:k=ύ:=e;subst Z;exact truthy_none #[H,I,q]
 |bl b =>
  cases U;have Z:k=b:=e;subst Z;exact Ĺ #[H,I,q]
 |int i =>
  let(t,rfl):=U;have Z:k=(i != 0):=e;subst Z;exact PySem.P.truthy_int #[H,I,q]
 |str y =>
  let(t,rfl):=U;obtain⟨M,Z⟩:y.length<=â/\k=((y.length:Int) != 0):=e;subst Z;exact PySem.P.truthy_str ⋯ #[H,I.tok _,q]
 |kB y =>
  let(t,rfl):=U;obtain⟨M,Z⟩:y.size<=â/\k=((y.size:Int) != 0):=e;subst Z;exact PySem.W.truthy_bytes ⋯ #[H,I.tok _,q]
 |ref p =>
  cases U;have Z:(∃V,bJ X.K H p V/\k=!V.isEmpty)\/(∃V,bE X.K H p V/\k=!V.isEmpty)\/∃T,H p=ϊ (.dK T)/\k=!T.isEmpty:=e
  rcases Z with ⟨V,S,Z⟩ | ⟨V,S,Z⟩ | ⟨T,S,Z⟩
  .subst Z
   let(aj,r,O,N):=I.list S;have Y:=r.length;exact wpAny_truthy_list O.isList (by erw[ê];omega) #[H,I.tok _,by rw[Mf r];exact q]
  .subst Z
   let(aj,r,O,N):=I.tuple S;have Y:=r.length;exact truthy_tuple O (by erw[ê];omega) #[H,I.tok _,by rw[Mf r];exact q]
  .subst Z
   obtain⟨N,L,R,r,m⟩:T.length<=â/\(p==agK)=ύ/\∃R,KV T R/\s.heap.DictOf (AW X.prog X.w) p R:=I.aN p _ S;have Y:T.length=R.length:=Paired.length r;exact wpAny_truthy_dict L m ⋯ #[H,I.tok _,by rw[Vc r];exact q]
 |_=>exact(show False from e).elim
def Xm (ha:PE X a ta) (he:∀whole,ag5 a X.env whole=(do let v <- whole;agx a.pos;agw [v] (truthy v))) :
  PT X a (fun σ H Q=>ta σ H λx H'=>∃k,sf X.K x H' k/\Q k H'):=by
 intro Z s σ H Q I h;exact isTrue_plain (aP (ha Z s σ H _ I h) λv Y ⟨x,W,V,U,T⟩=>O6 Z Y σ W x v Q V U T) (he _)
def Vd:bA X (ŧ .Add) (λx y H Q=>∃i j,x=.str i/\y=.str j/\i.length+j.length<=â/\Q (.str (i++j)) H):=by
 intro U s σ H x y v u Q I Z Y h;let(i,j,rfl,rfl,W,q):=h;let(t,rfl):=Z;let(V,rfl):=Y;exact add_str (λV T=>#[.str _,H,I.tok _,#[_,rfl],q]) W
def vals1 (r:Vals [x] us):∃u,us=[u]/\RelV x u:=by
 cases r with
 |cons Z Y=>cases Y;exact#[_,rfl,Z]
def vals2 (r:Vals [x,y] us):∃u w',us=[u,w']/\RelV x u/\RelV y w':=by
 cases r with
 |cons Z Y =>
  cases Y with
  |cons X W=>cases W;exact#[_,_,rfl,Z,X]
def We (hc:X.calm=ό):cX X (.builtin "max") (λxs H Q=>∃i j,xs=[.int i,.int j]/\Q (.int (if j > i then j else i)) H):=by
 intro Y s σ H xs W Q I r h;let(i,j,rfl,q):=h;obtain⟨u,V,rfl,⟨t,rfl⟩,⟨U,rfl⟩⟩:=vals2 r;refine max_two_ints (I.ok.hd hc) λT S k=>#[_,H,I.kept k,?_,q];by_cases Z:j > i
 .rw[õ Z,õ Z];exact#[_,rfl]
 .rw[ÿ Z,ÿ Z];exact#[_,rfl]
def Wf (hc:X.calm=ό):cX X (.builtin "min") (λxs H Q=>∃i j,xs=[.int i,.int j]/\Q (.int (if j<i then j else i)) H):=by
 intro Y s σ H xs W Q I r h;let(i,j,rfl,q):=h;obtain⟨u,V,rfl,⟨t,rfl⟩,⟨U,rfl⟩⟩:=vals2 r;refine min_two_ints (I.ok.hd hc) λT S k=>#[_,H,I.kept k,?_,q];by_cases Z:j<i
 .rw[õ Z,õ Z];exact#[_,rfl]
 .rw[ÿ Z,ÿ Z];exact#[_,rfl]
end
structure cD (k) (A:Ĭ):Prop where
 hd:A.handled=ϋ
 dp:A.depth+3*k+5<recursionLimit
 un:A.units+16*k+200<agZ
 gd:A.guards=ϊ []
def cD.mono (r:cD k A) (h:j<=k):cD j A:=#[r.hd,by have:=r.dp;omega,by have:=r.un;omega,r.gd]
theorem cD.deeper (r:cD (k+1) A) (env):cD k (A.deeper env) :=
 #[r.hd,by have:=r.dp;show A.depth+1+3*k+5 < _;omega,by have:=r.un;show A.units+3+16*k+200 < _;omega,r.gd]
theorem cD.in1 (r:cD (k+1) A):cD k A.in1 :=
 #[r.hd,by have:=r.dp;show A.depth+3*k+5 < _;omega,by have:=r.un;show A.units+1+16*k+200 < _;omega,r.gd]
theorem cD.depth (r:cD k A):A.depth<recursionLimit:=by have:=r.dp;omega
def Ro:TA:=λ_ H Q=>Q [] H
def GV (ta:TE) (tr:TA):TA:=fun σ H Q=>ta σ H λx Z=>tr σ Z λY X=>Q (x::Y) X
section
variable {X:Cx} {e:afh} {es:List afh} {te:TE} {t:TA} {pos:Pos}
def ot:PA X [] Ro:=λ_ _ _ _ H Q I h=>Calls.spliced_nil #[_,H,I,.nil,h]
def oh (ha:PE X e te) (hr:PA X es t) (hs:Õ (e::es) X.env=(ύ,Ź e X.env)::Õ es X.env:=by rfl):PA X (e::es) (GV te t):=by
 intro pos Z s σ H Q I h;rw[hs];refine Calls.spliced_cons (aP (ha Z s σ H _ I h) λu Y ⟨x,W,V,U,T⟩=>?_);exact aP (hr pos Z Y σ W _ V T) λN M ⟨L,S,R,P,O⟩=>#[_,S,R,.cons U P,O]
def adW (t:TA):TE:=fun σ H Q=>t σ H λZ Y=>Z.length<=â/\∀p,Y p=ϋ->Q (.ref p) (upd Y p (.tup Z))
def adX (t:TA):TE:=fun σ H Q=>t σ H λZ Y=>Z.length<=â/\∀p,Y p=ϋ->Q (.ref p) (upd Y p (.lst Z))
def aaJ (h:PA X es t):PE X (.Tuple es x1 pos) (adW t):=by
 intro Y s σ H Q I W;refine wpAny_Tuple_spliced (aP (h pos Y s σ H _ I W) λV T ⟨S,R,Z,r,z,q⟩=>#[by rw[<- r.length];exact z,?_]);have U:=Z.aN.fresh (ahd _);refine#[.ref _,_,Z.laid (λb u e=>Á _ e) (ahd _) ?_,rfl,q _ U];exact#[z,V,r,#[_,Ê _ rfl,rfl,_,rfl]]
def O7 (h:PA X es t):PE X (.List es pos) (adX t):=by
 intro Y s σ H Q I W;refine wpAny_List_spliced (aP (h pos Y s σ H _ I W) λV T ⟨S,R,Z,r,z,q⟩=>#[by rw[<- r.length];exact z,?_]);have U:=Z.aN.fresh (ahd _);refine#[.ref _,_,Z.laid (λb u e=>Á _ e) (ahd _) ?_,rfl,q _ U];exact#[z,V,0,r,Ê _ rfl]
end
abbrev Sp:=List V->Hp->VK->XK->Prop
abbrev sL:=List Env->Hp->ß->XK->ì->ß->Prop
structure Cf (P) (w) (K) (mg) (base) (A:Ĭ) (outer) (s:ß) (H:Hp):Prop where
 frames:A.frames=ϊ outer
 mod:Mod K mg base
 bs:∀b o,base.get? b=ϊ o->s.heap.get? b=ϊ o/\H b=ϋ
 jX:base.objs.size<=s.heap.objs.size
 ko:s.heap.FunFrames base outer
 qD:∀b∈jW outer,H b=ϋ
 aN:dM P w H s.heap
 bare:AllBare s.gens
def CE (outer:List Env) (P:Ć) (w:ģ) (H:Hp) (s:ß) (Q:VK) (u:ì) (s':ß):Prop :=
 ∃v Z,s'.os=s.os/\AllBare s'.gens/\Un (jW outer) [] H Z s.heap s'.heap/\dM P w Z s'.heap/\RelV v u/\Q v Z
def CR (CX:sL) (outer:List Env) (P:Ć) (w:ģ) (H:Hp) (s:ß) (Q:VK) (E:XK) (r:Result) (s':ß):Prop :=
 match r with
 | .ok (.ret u)=>CE outer P w H s Q u s'
 | .ok _=>False
 | .error e=>CX outer H s E e s'
structure gC (P) (w) (K) (mg) (base) (CX) (k) (f) (fd) (ps:List Str) (sp:Sp):Prop where
 len:∀vs H Q E,sp vs H Q E->vs.length=ps.length
 run:∀A outer s H args us vs Q E,cD k A->Cf P w K mg base A outer s H->BindsTo s fd args (ps.zip us)->Vals vs us->sp vs H Q E ->
  ů (ã P w) A (.call (.ref f) args) (CR CX outer P w H s Q E) s
def gC.imp {K} {mg} {base} {CX} {k} {f} {fd} {ps} {sp RU} (F:gC P w K mg base CX k f fd ps sp)
  (h:∀vs H Q E,RU vs H Q E->sp vs H Q E):gC P w K mg base CX k f fd ps RU :=
 #[λvs H Q E q=>F.len vs H Q E (h _ _ _ _ q),λA outer s H args Z vs Q E Y X W V hs=>F.run A outer s H args Z vs Q E Y X W V (h _ _ _ _ hs)]
section
variable {X:Cx} {π:List (ę×Obj)} {σ:St} {H:Hp} {s s':ß}
def Inv.nj (I:Inv X π σ H s):Cf X.prog X.w X.K X.mg X.base X.A X.stack s H :=
 #[I.ok.frames,I.ok.mod,I.bs,Ó I.ok.jX I.sz,I.stack,I.E8,I.aN,I.bare]
def Inv.after (I:Inv X π σ H s) (h:CE X.stack X.prog X.w H s Q u s'):EP X π σ Q u s':=by
 let(v,Z,os,bare,un,Y,r,q):=h;let(V,g,d,t,W):=s';obtain rfl:W=s.os:=os;exact#[v,Z,I.call un Y bare (λb z=>absurd z ∅),r,q]
end
def Qm (sp:Sp) (au:List V) (E:XK) (t:TA):TE:=fun σ H Q=>t σ H λZ Y=>sp (Z++au) Y Q E
def Binds (K:ae3) (fd:FuncData) (ps:List Str) (ds:List ì):Prop :=
 ∀s Z,K.In s.heap->(Z++ds).length=ps.length->BindsTo s fd #[Z,[]] (ps.zip (Z++ds))
def Binds.all {K} {fd} {ps} (h:∀us,us.length=ps.length->bindArgs fd #[us,[]]=pure (ps.zip us)):Binds K fd ps []:=λs us _ Z=>by
 rw[ĕ] at Z |-;exact .of_eq (h us Z)
def Passes (CX:sL) (X:Cx) (E:XK):Prop:=∀Y (σ:St) H s e Z,Inv X Y σ H s->CX X.stack H s E e Z->X.xe e Z
section
variable {X:Cx} {CX:sL} {k:Nat} {f C:ę} {fd:FuncData} {ps:List Str} {sp:Sp} {au:List V} {ds:List ì} {E:XK} {x m:Str} {p pos apos:Pos} {e o:afh} {es:List afh} {ta:TE} {t:TA}
def FZ {σ:St} {H} {s} {Q} {us} {vs} (F:gC X.prog X.w X.K X.mg X.base CX k f fd ps sp) (hr:cD k X.A) (hb:Binds X.K fd ps ds) (hd:Vals au ds) (hx:Passes CX X E)
  (I:Inv X π σ H s) (r:Vals vs us) (h:sp (vs++au) H Q E):ð (ã X.prog X.w) X.A (call (.ref f) us) (EP X π σ Q) X.xe s:=by
 have Y:=r.append hd;have W:(us++ds).length=ps.length:=by rw[<- Y.length];exact F.len _ _ _ _ h
 refine wpAny_call (ξ (F.run _ _ s H _ _ _ Q E hr I.nj (hb s us I.sE W) Y h) λr V Z=>?_)
 cases r with
 |error e=>exact hx π σ H s e V I Z
 |ok U =>
  cases U with
  |ret u=>exact I.after Z
  |next=>exact afs Z
  |brk=>exact afs Z
  |cont=>exact afs Z
def Y8 (F:gC X.prog X.w X.K X.mg X.base CX k f fd ps sp) (hr:cD k X.A) (hg:Gl X x) (hm:X.mg x=ϊ (.ref f)) (hk:afd X.K (.ref f)=ό) (hb:Binds X.K fd ps ds) (hd:Vals au ds) (hx:Passes CX X E)
  (ha:PA X (e::es) t) (kD:(x==("__debug__"))=ύ:=by decide) (he:Õ (e::es) X.env=(ύ,Ź e X.env)::Õ es X.env:=by rfl) (cz:(ũ pos (Õ es X.env)).any (·.1)=ύ:=by rfl) :
  PE X (.Call (.Name x p) (e::es) [] pos) (Qm sp au E t):=by
 intro Y s σ H Q I h;refine afg (NX I hg hm ?_ kD);refine PySem.W.callWith_K I.ok.mod.vJ hk (aP (ha pos Y s σ H _ I h) λV U ⟨T,S,Z,r,q⟩=>#[Z.sE,?_]) he cz;exact FZ F hr hb hd hx Z r q
end
def PK (X:Cx) (CH:List agM) (t:TA):Prop :=
 ∀pos Z s (σ:St) H Q,Inv X Z σ H s->t σ H Q->ð (ã X.prog X.w) X.A (evalAll ((backToKw pos (agN CH X.env)).map (·.2))) (AP X Z σ Q) X.xe s
section
variable {X:Cx} {CX:sL} {k:Nat} {f C:ę} {fd:FuncData} {ps ks:List Str} {sp:Sp} {E:XK} {x m:Str} {p pos apos Cg:Pos} {e o:afh} {es:List afh} {CH:List agM} {te ta:TE} {t tk:TA} {nm:Option Str}
def O8:PK X [] Ro:=λ_ _ _ _ H Q I h=>wpAny_evalAll_nil #[_,H,I,.nil,h]
def Fc (ha:PE X e te) (hr:PK X CH t):PK X (#[nm,e,Cg]::CH) (GV te t):=by
 intro pos Z s σ H Q I h;refine wpAny_evalAll_cons (À (aP (ha Z s σ H _ I h) λu Y ⟨x,W,V,U,T⟩=>À (ō (Â ?_))));exact aP (hr pos Z Y σ W _ V T) λN M ⟨L,S,R,P,O⟩=>#[_,S,R,.cons U P,O]
variable {g:List ì->List ì->List ì} {gV:List V->List V->List V}
end
structure xh (N P:List Str) (sc:Scope):Prop where
 kind:sc.kind=.function
 co:sc.isCoroutine=ύ
 gen:sc.isGenerator=ύ
 nd:N.Nodup
 pre:N.take P.length=P
 par:∀x∈P,sc.names.lookup x=ϊ .local\/sc.names.lookup x=ϊ .cell
 aaK:∀y∈sc.names,y.2≠.free
theorem MA {kindOf} {x}:∀{binds} {m},(∀v,(x,v)∉binds)->bindL kindOf binds m x=m x
 | [],_,_=>rfl
 |(n,v)::r,m,h=>by
  delta bindL;rw[MA λw hw=>h w (Ì _ hw)];split
  .have:x≠n:=by rintro rfl;exact h v Ë
   simp[this]
  .rfl
theorem MB {kindOf} {x}:∀{binds} {m},(∀v,(x,v)∉binds)->bindC kindOf binds m x=m x
 | [],_,_=>rfl
 |(n,v)::r,m,h=>by
  delta bindC;rw[MB λw hw=>h w (Ì _ hw)];split
  .rfl
  .have:x≠n:=by rintro rfl;exact h v Ë
   simp[this]
theorem MC {kindOf} {x} {v}:∀{P:List Str} {vs} {i:Nat} {m},P.Nodup->P[i]?=ϊ x->vs[i]?=ϊ v->kindOf x=ϊ .local ->
  bindL kindOf (P.zip vs) m x=ϊ v
 | [],_,_,_,_,h,_,_=>by simp at h
 |_::_,[],_,_,_,_,h,_=>by simp at h
 |p::P,w::vs,0,m,nd,Z,Y,X=>by
  simp at Z Y;subst Z;subst Y;show bindL kindOf ((p,w)::P.zip vs) m p=_;delta bindL;rw[MA λv W=>(afi.mp nd).1 (agO W).1,õ X];simp
 |p::P,w::vs,i+1,m,nd,Z,Y,X=>by
  delta bindL;exact MC (afi.mp nd).2 (by simpa using Z) (by simpa using Y) X
theorem MD {kindOf} {x} {v}:∀{P:List Str} {vs} {i:Nat} {m},P.Nodup->P[i]?=ϊ x->vs[i]?=ϊ v->kindOf x≠ϊ .local ->
  bindC kindOf (P.zip vs) m x=ϊ v
 | [],_,_,_,_,h,_,_=>by simp at h
 |_::_,[],_,_,_,_,h,_=>by simp at h
 |p::P,w::vs,0,m,nd,Z,Y,X=>by
  simp at Z Y;subst Z;subst Y;show bindC kindOf ((p,w)::P.zip vs) m p=_;delta bindC;rw[MB λv W=>(afi.mp nd).1 (agO W).1,ÿ X];simp
 |p::P,w::vs,i+1,m,nd,Z,Y,X=>by
  delta bindC;exact MD (afi.mp nd).2 (by simpa using Z) (by simpa using Y) X
noncomputable def start (N:List Str) (vs:List V):St:=vs.map ϊ++Ñ (N.length-vs.length) ϋ
noncomputable def qm (CX:sL) (P:Ć) (w:ģ) (K:ae3) (mg:Str->Option ì) (base:afz) (N:List Str) (qual:Str) (scope:Scope) (f:ę) (cd:ì) (A:Ĭ) (outer:List Env) (s:ß) (H:Hp) (E:XK):Cx where
 prog:=P
 w:=w
 K:=K
 mg:=mg
 base:=base
 A:=A.deeper (envOfC qual scope s.heap.objs.size f cd)
 N:=N
 eR:=s
 yl:=H
 env:=envOfC qual scope s.heap.objs.size f cd
 outer:=outer
 stack:=envOfC qual scope s.heap.objs.size f cd::outer
 ex:=[]
 calm:=ό
 fn:=λ_=>ό
 pn:=[]
 xe:=λe Y=>ð (ã P w) (A.deeper (envOfC qual scope s.heap.objs.size f cd)) (leaving (envOfC qual scope s.heap.objs.size f cd) e) (λ_ Z=>CX outer H s E e Z) (λX Z=>CX outer H s E X Z) Y
def Nl {sc:Scope} {n} {x} (h:sc.names.lookup x=ϊ .cell):∃c,(afS n sc.names []).lookup x=ϊ c:=by
 have q:=af7 _ n [] (.inl h);exact afM.mp q
def Wg {P} {w} {K} {mg} {base} {N ps} {qual} {scope} {f} {cd} {A} {outer} {s s1} {H} {E} {us} {vs}
  (S:xh N ps scope) (hd:A.handled=ϋ) (e0:Cf P w K mg base A outer s H) (hl:vs.length=ps.length) (r:Vals vs us)
  (x:InCallC s s.heap.objs.size (bindL (envOfC qual scope s.heap.objs.size f cd).kindOf (ps.zip us) λ_=>ϋ) (afS (s.heap.objs.size+1) scope.names []) (bindC (envOfC qual scope s.heap.objs.size f cd).kindOf (ps.zip us) λ_=>ϋ) s1) :
  Inv (qm CX P w K mg base N qual scope f cd A outer s H E) [] (start N vs) H s1:=by
 have O:ps.length<=N.length:=by have:=ň List.length S.pre;rw[Ŏ] at this;omega
 let(X,M,rfl,V):=x.done;have W:∀b,b∉(qm CX P w K mg base N qual scope f cd A outer s H E).ex:=λb z=>absurd (show b∈([]) from z) ∅;refine#[#[e0.mod,S.kind,rfl,rfl,ahd _,λy z c X Z=>?_,λy hy=>?_,λy c _ h=>?_,λ_=>hd,Around.frames_deeper e0.frames,.inr #[rfl,rfl],λb z=>absurd z (W b),e0.bs,e0.jX,λb _ _=>W b,λb z=>absurd z (W b),e0.ko,e0.qD],
  rfl,e0.bare,Un.kept V,#[_,x.toInCall.ns,λi y v X Z L=>?_],λy c h=>#[_,x.cell y c h],e0.aN.fresh (ahd _),λy c h=>?_,λp Y=>absurd (show p∈([]) from Y) ∅,e0.aN.kept V,?_]
 .exact name_of_addr x.apart (ae6 X) (ae6 Z)
 .rcases hy with hy|hy
  .exact Nl hy
  .exact absurd rfl (S.aaK _ (ae6 hy))
 .exact Nat.le_of_lt (x.above y c (ae6 h))
 .have hi:i<vs.length:=by
   delta start at Z;by_cases hi:i<vs.length
   .exact hi
   .rw[ç (by simpa using hi)] at Z
    rw[ĵ] at Z
    split at Z<;>cases Z
  have R:vs[i]?=ϊ v:=by
   delta start at Z;rw[Ù (by simpa using hi),Þ] at Z
   cases e:vs[i]? with
   |none=>rw[e] at Z;cases Z
   |some a=>rw[e] at Z;cases Z;rfl
  let(u,U,Q):=r.get R;have Y:ps[i]?=ϊ y:=by
   rw[<- S.pre,ω ⋯];exact X
  have T:ps.Nodup:=by rw[<- S.pre];exact S.nd.sublist (Ż ..)
  refine#[u,Q,?_]
  rcases S.par y (ö Y) with k|k
  .exact .inl #[k,MC T Y U k]
  .let(c,e):=Nl k
   refine .inr #[.inl k,c,e,?_];have q:=x.cell y c e;rw[MD T Y U (by show scope.names.lookup y≠_;rw[k];decide)] at q;exact q
 .exact e0.aN.fresh (Nat.le_of_lt (x.above y c (ae6 h)))
 .delta start
  show _=N.length;rw[Î,Ã,afj];omega
def acr {P} {w} {K} {mg} {base} {k} {f} {name qual} {params} {body} {scope} {dV kV doc pm cU ct oc} {an od}
  {qG} {N ps} {sp} (lk:K.lookup f=ϊ #[oc,od,.func (ae2 name qual params body scope dV kV doc pm an cU ct),qG]) (kC:agm K cU qual=ό) (S:xh N ps scope)
  (len:∀vs H Q E,sp vs H Q E->vs.length=ps.length)
  (GW:∀A outer s H vs Q E,cD k (A.deeper (envOfC qual scope s.heap.objs.size f cU))->sp vs H Q E ->
   ∃t,fx (qm CX P w K mg base N qual scope f cU A outer s H E) body t/\t { nx:=λ_ H'=>Q .aD H',rt:=Q } (start N vs) H) :
  gC P w K mg base CX (k+1) f (ae2 name qual params body scope dV kV doc pm an cU ct) ps sp:=by
 refine#[len,λA outer s H args G vs Q E X Z F r O=>?_];have D:=len _ _ _ _ O;have M:=Z.mod.vJ.keeps λb o e=>(Z.bs b o e).1;have lim:=Z.mod.nolimit.keeps λb o e=>(Z.bs b o e).1;have U:∀y∈ps.zip G,scope.names.lookup y.1=ϊ _\/(scope.names.lookup y.1=ϊ _/\((afS (s.heap.objs.size+1) _ []).lookup y.1).isSome=ό):=λ⟨n,v⟩ C=>by
  rcases S.par n (agO C).1 with q|q
  .exact .inl q
  .exact .inr #[q,af7 _ _ _ (.inl q)]
 refine codeAny_call_function X.depth (M _ _ lk) rfl S.co S.gen rfl (PySem.W.codeRec_of M kC) (F _ _ _ _ ?_);refine wpAny_newFunctionEnv_cells S.kind U λenv B L x=>?_;subst B;refine#[lim.keeps x.toInCall.keep,codeAny_func ?_];let(t,z,p):=GW A outer s H vs Q E (X.deeper _) O;have I:Inv (qm CX P w K mg base N qual scope f cU A outer s H E) _ _ H L:=Wg S X.hd Z D r x;refine Ĝ (z L _ H _ I p) (λm T hs=>?_) λe T hs=>hs;have fin:∀{Y} {H'} {v} {u},Inv (qm CX P w K mg base N qual scope f cU A outer s H E) [] Y H' T->RelV v u->Q v H'->CE outer P w H s Q u T :=
  λ{Y H' v u} J R q=>#[v,H',J.os,J.bare,J.base,J.aN,R,q]
 cases m with
 |ret u =>
  let(v,Y,H',J,R,q):=hs;exact fin J R q
 |next =>
  let(Y,H',J,q):=hs;exact fin (v:=V.aD) J rfl q
 |brk =>
  let(_,_,_,q):=hs;exact afs q
 |cont =>
  let(_,_,_,q):=hs;exact afs q
section
variable {X:Cx} {x:Str} {p pos:Pos} {e:afh} {es:List afh} {t:TA} {id T:String} {r:List V->Hp->VK->Prop}
def IY (r:List V->Hp->VK->Prop) (t:TA):TE:=fun σ H Q=>t σ H λZ Y=>r Z Y Q
def Ez (hc:cX X (.builtin id) r) (hg:Gl X x) (hm:X.mg x=ϋ) (hv:ć x=ϊ (.builtin id)) (ha:PA X (e::es) t) (hn:x≠"__name__":=by decide) (kD:(x==("__debug__"))=ύ:=by decide)
  (he:Õ (e::es) X.env=(ύ,Ź e X.env)::Õ es X.env:=by rfl) (cz:(ũ pos (Õ es X.env)).any (·.1)=ύ:=by rfl):PE X (.Call (.Name x p) (e::es) [] pos) (IY r t):=by
 intro Z s σ H Q I h;refine afg (oq I hg hm hv ?_ hn kD);exact PyProof.Rows.callWith_builtin1 (aP (ha pos Z s σ H _ I h) λY W ⟨V,U,T,S,R⟩=>hc Z W σ U V Y Q T S R) he cz
def wL (hc:cX X (.type T) r) (hg:Gl X x) (hm:X.mg x=ϋ) (hv:ć x=ϊ (.type T)) (ha:PA X (e::es) t) (hn:x≠"__name__":=by decide) (kD:(x==("__debug__"))=ύ:=by decide)
  (he:Õ (e::es) X.env=(ύ,Ź e X.env)::Õ es X.env:=by rfl) (cz:(ũ pos (Õ es X.env)).any (·.1)=ύ:=by rfl):PE X (.Call (.Name x p) (e::es) [] pos) (IY r t):=by
 intro Z s σ H Q I h;refine afg (oq I hg hm hv ?_ hn kD);exact Ś (aP (ha pos Z s σ H _ I h) λY W ⟨V,U,S,R,P⟩=>hc Z W σ U V Y Q S R P) he cz
end
end L2
namespace HT
open PySem PyProof.Rows
noncomputable def lexLt:List Int->List Int->Bool
 | [],[]=>ύ
 | [],_::_=>ό
 |_::_,[]=>ύ
 |x::Z,y::Y=>if x=y then lexLt Z Y else ώ (x<y)
def jk (x y) (xs ys):lexLt (x::xs) (y::ys)=if x=y then lexLt xs ys else ώ (x<y):=rfl
def T7:lexLt [] []=ύ:=rfl
def TQ (y) (ys):lexLt [] (y::ys)=ό:=rfl
def TR (x) (xs):lexLt (x::xs) []=ύ:=rfl
def Xn (A) (s) (a) (t) (c) (u):∃e,SeqAt.EqAt A s (.int a t) (.int c u) e/\(e=ό↔a=c) :=
 #[_,SeqAt.EqAt.int_int a t c u,by simp]
def EA (A) (s) (a) (t) (c) (u) (prog) (w) (E) (Q) (h:Q (.bool (ώ (a<c))) s) :
  ð (ã prog w) A (richCompare .Lt (.int a t) (.int c u)) Q E s :=
 (PyProof.Rows.lt_int h)
section
open PySem.SeqAt
open PySem.AutoSeq1 (wpAny_loadPart')
open PySem.MeetsSeq PySem.MeetsSeq2 PySem.MeetsSeq3
def Lw (l b:ę) (items iq:Array ì) (n n2:Nat) (dd jZ:Option ę) (sl de:Array (Option ì)) (ns ms:List Int) (hi:Ņ items.toList ns) (hj:Ņ iq.toList ms) :
  Meets (ε.«tuple.__lt__» #[[.ref l,.ref b],[]])
   (λ_ R s=>s.heap.get? l=ϊ { cls:=.type "tuple",dict:=dd,data:=.seq items n,slots:=sl }/\s.heap.get? b=ϊ { cls:=.type "tuple",dict:=jZ,data:=.seq iq n2,slots:=de } /\
    R (.ok (.ret (.bool (lexLt ns ms)))) s) :=
 .of_wp λprog w A R s h=>by
  let(U,g,d,T,os):=s;let(I,H,h):=h;have f2:=AutoSeq1.sub_tuple_tuple;have z:items.size=ns.length:=by rw[<- hi.length];simp
  have v:iq.size=ms.length:=by rw[<- hj.length];simp
  wp_walk using agP I,agP H,agy _ (λrest b P=>b.1=ϋ/\P=#[U,g,d,T,os]/\∃(S ws:List ì) (W V:List Int),rest=S.zip ws /\
   Ņ S W/\Ņ ws V/\W.length+iq.size=V.length+items.size/\R (.ok (.ret (.bool (lexLt W V)))) #[U,g,d,T,os]) _
  case turn =>
   rintro ⟨y,x⟩ rest b P ⟨O,rfl,S,ws,W,V,Y,N,Q,Z,X⟩
   cases N with
   |nil=>rw[List.zip_nil_left] at Y;cases Y
   |cons a t M =>
    cases Q with
    |nil=>rw[List.zip_nil_right] at Y;cases Y
    |cons c u L =>
     rw[ļ] at Y
     injection Y with G F
     injection G with E D
     subst E D;rw[jk] at X;erw[Ú] at Z;let(e,C,K):=Xn A.in1 #[U,g,d,T,os] a t c u;refine À (C prog w _ _ ?_)
     cases e with
     |true =>
      rw[õ (K.mp rfl)] at X
      wp_walk
      exact#[rfl,rfl,_,_,_,_,F,M,L,by omega,X]
     |false =>
      rw[ÿ (λq=>absurd (K.mpr q) è)] at X;have B:=EA A.in1 #[U,g,d,T,os] a t c u prog w
      wp_walk using B
      exact#[_,rfl,by simpa using X]
  case fin =>
   rintro ⟨r,p⟩ P ⟨O,rfl,S,ws,W,V,Y,N,Q,Z,X⟩;simp only at O;subst O;have J:lexLt W V=ώ (items.size<iq.size):=by
    cases N with
    |nil =>
     cases Q with
     |nil =>
      erw[Ċ] at Z;rw[T7];exact(ø ⋯).symm
     |cons c u hw =>
      erw[Ċ,Ú] at Z;rw[TQ];exact(Ï ⋯).symm
    |cons a t J =>
     cases Q with
     |nil =>
      erw[Ċ,Ú] at Z;rw[TR];exact(ø ⋯).symm
     |cons c u hw =>
      rw[ļ] at Y;cases Y
   rw[J] at X
   wp_walk
   exact#[_,rfl,by simpa [agd] using X]
  case h =>
   exact#[rfl,rfl,items.toList,iq.toList,ns,ms,rfl,hi,hj,by omega,h]
end
section
variable {prog:Ć} {w:ģ} {A:Ĭ} {E:ì->ß->Prop} {s:ß}
def Ve (hl:ag2 s.heap l items) (hb:ag2 s.heap b iq) (hi:Ņ items.toList ns) (hj:Ņ iq.toList ms)
 (hu:A.units<agZ) (h:Q (.bool (lexLt ns ms)) s):ð (ã prog w) A (ğ .Lt (.ref l) (.ref b)) Q E s:=by
 obtain⟨⟨cls,X,data,W⟩,Z,V,n,U⟩:=id hl;obtain⟨⟨O,T,data2,S⟩,Y,R,P,hd2⟩:=id hb;subst V U R hd2;exact richCompare_meets_room (op:=.Lt) #[_,Z,rfl] #[_,Y,rfl] afk af8 (afT ..) (Lw l b items iq n P X T W S ns ms hi hj)
  #[Z,Y,#[(λx=>nomatch x),h]] hu
def Y9 (ht:ag2 s.heap t vs.toArray) (hb:ag2 s.heap b ws.toArray) (hv:vs≠[])
 (h1:ws=[]->Q (.ref t) s) (h2:ws≠[]->Q (.ref s.heap.objs.size) { s with heap:=s.heap.push { cls:=.type "tuple",data:=.seq (vs++ws).toArray } })
 (hsz:vs.length+ws.length<=â):ð (ã prog w) A (ŧ .Add (.ref t) (.ref b)) Q E s:=by
 obtain⟨⟨cls,X,data,W⟩,Z,S,n,R⟩:=id ht;obtain⟨⟨O,V,data2,U⟩,Y,P,T,hd2⟩:=id hb;subst S R P hd2;have e:vs.toArray++ws.toArray=(vs++ws).toArray:=by simp
 by_cases hw:ws=[]
 .exact concat_meets #[_,Z,rfl] #[_,Y,rfl] noFill_tuple_add seq_tuple_add af9 afU (afN ..)
   (tuple_addW1 t b _ _ n T X V W U (by simpa using hv) (by simp[hw])) #[Z,Y,h1 hw]
 .refine concat_meets #[_,Z,rfl] #[_,Y,rfl] noFill_tuple_add seq_tuple_add af9 afU (afN ..)
   (tuple_addW2 t b _ _ n T X V W U (by simpa using hv) (by simpa using hw) (by exact hsz)) #[Z,Y,?_]
  rw[e];exact h2 hw
noncomputable def bN (n d:Nat):Option Int->Nat
 |none=>d
 |some v=>if v<0 then (v+(n)).toNat else min v.toNat n
def ah3 (n d) (hd:d<=n) (o):bN n d o<=n:=by
 cases o with
 |none=>exact hd
 |some v =>
  show (if v<0 then (v+(n)).toNat else min _ n)<=n
  by_cases Z:v<0
  .rw[õ Z];omega
  .rw[ÿ Z];exact Nat.min_le_right ..
def N0 (v) (n d:Nat):(if v<0 then max (v+(n:Int)) 0 else min v (n))=((bN n d (ϊ v))):=by
 show (if v<0 then max _ 0 else min v _)=(((if v<0 then (v+(n)).toNat else min _ n):Nat))
 by_cases Z:v<0
 .erw[õ Z];omega
 .erw[ÿ Z];omega
def Vf (lo hi) (n:Nat):afA lo hi 1 (n)=(((bN n 0 lo):Int),((bN n n hi):Int)):=by
 have Z:=by omega
 delta afA;refine Prod.ext ?_ ?_
 .cases lo with
  |none=>rfl
  |some v=>exact N0 v n 0
 .cases hi with
  |none=>rfl
  |some v=>exact N0 v n n
def Vg (i j:Nat):afB (i) (j) 1=j-i:=by
 delta afB;have Z:(1:Int) > 0:=by omega
 erw[Z,ĭ,Int.ediv_one]
 split<;>omega
def Mg (p:IsPart v o) (h:Q o s):ð (ã prog w) A (Builtin.Slice.slicePartIndex v) Q E s:=by
 cases p with
 |none=>exact slicePart_none h
 |int i t=>exact slicePart_int h
def Lo {lo hi} {n:Nat} {Q} (hs:s.heap.IsSliceOf sl vl vu .none) (pl:IsPart vl lo) (pu:IsPart vu hi)
 (h:Q (((bN n 0 lo)),1,bN n n hi-bN n 0 lo) s):ð (ã prog w) A (Builtin.Slice.sliceApplied (.ref sl) (pure (n))) Q E s:=by
 let(os,Z,X,Y):=id hs;refine À (À (Ŀ Z Y rfl (À (Ŀ Z Y rfl (À (Ŀ Z Y rfl (Â ?_)))))));refine À (slicePart_none ?_);refine À (Mg pl (À (Mg pu (À (Â ?_)))))
 show ð _ _ (match afA lo hi 1 _ with | (lo,hi)=>pure (lo,(1:Int),afB lo hi 1)) _ _ s
 rw[Vf lo hi n];show ð _ _ (pure _) _ _ s;rw[Vg];exact Â h
def Xo (xs:Array ì) (i k:Nat):((Ô k).filterMap λ(m:Nat)=>xs[((i)+(m:Int)*1).toNat]?).toArray=((xs.toList.drop i).take k).toArray:=by
 have e:(λ(m:Nat)=>xs[((i)+(m:Int)*1).toNat]?)=λm=>xs[i+m]?:=by
  funext m;have:((i)+(m:Int)*1).toNat=i+m:=by omega
  rw[this]
 rw[e];have:=pick_run xs i k;rw[List.filterMap_map] at this;have e2:((λx=>xs[x]?) ∘ λx=>i+x)=λm=>xs[i+m]?:=rfl;rw[e2] at this;rw[this]
def Tx {lo hi} {Q} (ht:ag2 s.heap t items) (hs:s.heap.IsSliceOf sl vl vu .none) (pl:IsPart vl lo) (pu:IsPart vu hi)
 (hw:¬ (bN items.size 0 lo=0/\bN items.size items.size hi=items.size))
 (h:Q (.ref s.heap.objs.size) { s with heap:=s.heap.push { cls:=.type "tuple",data:=.seq ((items.toList.drop (bN items.size 0 lo)).take (bN items.size items.size hi-bN items.size 0 lo)).toArray } })
 (hsz:items.size<=â):ð (ã prog w) A (getItem (.ref t) (.ref sl)) Q E s:=by
 have Z:=by
  show ((items.toList.drop (bN items.size 0 lo)).take (bN items.size items.size hi-bN items.size 0 lo)).toArray.size<=â;rw[ê,Ŏ,θ,å];omega
 let(os,Y,X,U):=id hs;have W:s.TypeIs (.ref sl) _:=#[os,Y,X];delta getItem
 try with_reducible refine ĝ ?_
 refine À (wpAny_sequenceKey ht.typeIs (by decide) ?_);refine À (ċ ht.typeIs Į
  (Ą Į ht.typeIs entry_tuple_getitem ?_ (args_tuple_getitem ..)))
 show ð _ _ (afy _ >>= _) _ _ s;refine À (tupleItemsOf_ ht ?_);refine À (ago W ?_);refine À (Lo hs pl pu ?_);have V:¬ ((((bN items.size 0 lo):Int)==0&&(1:Int)==1&&(bN items.size items.size hi-bN items.size 0 lo)==items.size)=ό):=by
  intro q;rw[Ç,Ç] at q;have T:=eq_of_beq q.1.1;have S:=eq_of_beq q.2;exact hw #[by omega,by omega]
 show ð _ _ (if (((bN _ 0 lo):Int)==0&&(1)==1&&(bN _ _ hi-bN _ 0 lo)==items.size)=ό then _ else _) _ _ s
 rw[ÿ V,Xo]
 first
  |exact À (Č (Â #[_,rfl,Â h]) Z)
  |exact À _
  |exact À _
  |exact À _
end
end HT
namespace L2
open PySem PySem.Spec PyProof.Rows
abbrev TO:=St->Hp->(Option Int->Hp->Prop)->Prop
def PO (X:Cx) (e:Option afh) (t:TO):Prop :=
 ∀Z s (σ:St) H Q,Inv X Z σ H s->t σ H Q ->
  ð (ã X.prog X.w) X.A (evalPart e X.env) (λu W=>∃o Y,Inv X Z σ Y W/\IsPart u o/\Q o Y) X.xe s
def Za:TO:=λ_ H Q=>Q ϋ H
def acv (t:TE):TO:=fun σ H Q=>t σ H λx Z=>∃i,x=.int i/\Q (ϊ i) Z
def intsAre_of:∀{us},Vals (ns.map V.int) us->Ņ us ns:=by
 induction ns with
 |nil=>intro us r;cases r;exact .nil
 |cons n ns ih =>
  intro us r
  cases r with
  |cons Z Y =>
   let(t,e):=Z;subst e;exact .cons n t (ih Y)
section
variable {X:Cx} {e:afh} {te:TE} {lo hi:Option afh} {tl th:TO} {pos p2:Pos}
def Zb:PO X ϋ Za:=by
 intro Z s σ H Q I h;exact Â #[ϋ,H,I,.none,h]
def Zc (h:PE X e te):PO X (ϊ e) (acv te):=by
 intro Z s σ H Q I hw;refine aP (h Z s σ H _ I hw) λu T ⟨x,Y,W,V,U⟩=>?_;let(i,rfl,q):=U;let(t,rfl):=V;exact#[_,Y,W,.int i t,q]
def yV (X:Cx) (r:V->Option Int->Option Int->Hp->VK->Prop):Prop :=
 ∀Z s (σ:St) H x v Y W lo hi U Q,Inv X Z σ H s->RelV x v->s.heap.IsSliceOf U Y W .none->IsPart Y lo->IsPart W hi->r x lo hi H Q ->
  ∃T id,typeLookup (.type T) "__getitem__"=pure (ϊ (.builtin id))/\s.TypeIs v T/\ð (ã X.prog X.w) X.A (getItem v (.ref U)) (EP X Z σ Q) X.xe s
def tSl (r:V->Option Int->Option Int->Hp->VK->Prop) (te:TE) (tl th:TO):TE:=fun σ H Q=>te σ H λx Z=>tl σ Z λl Y=>th σ Y λu X=>r x l u X Q
def Xp (hr:yV X r) (he:PE X e te) (hl:PO X lo tl) (hu:PO X hi th):PE X (.Subscript e (.Slice lo hi ϋ p2) pos) (tSl r te tl th):=by
 intro Z s σ H Q I h;refine Subscript_ (aP (he Z s σ H _ I h) λv S ⟨x,R,P,O,N⟩=>?_);refine wpAny_Slice (aP (hl Z S σ R _ P N) λY M ⟨l,L,K,J,G⟩=>aP (hu Z M σ L _ K G) λW V ⟨u,U,F,pu,E⟩=>?_);refine Â ?_
 have D:Inv X Z σ U { V with heap:=V.heap.push { cls:=.type "slice",data:=.fields #v[Y,W,.none] } }:=F.kept λb z q=>Á _ q
 let(T,id,C,B,A):=hr Z _ σ U x v Y W l u _ Q D O (Heap.IsSliceOf.new ..) J pu E;exact tail_any B C A (by with_unfolding_all rfl)
noncomputable def oO (xs:List V) (lo hi:Option Int):List V:=(xs.drop (HT.bN xs.length 0 lo)).take (HT.bN xs.length xs.length hi-HT.bN xs.length 0 lo)
def LR (xs) (lo hi):(oO xs lo hi).length<=xs.length:=by
 delta oO;rw[Ŏ,θ];omega
def ad0 (K:ae3):V->Option Int->Option Int->Hp->VK->Prop:=λx lo hi H Q=>∃a Z,x=.ref a/\bE K H a Z /\
 ¬ (HT.bN Z.length 0 lo=0/\HT.bN Z.length Z.length hi=Z.length)/\∀p,H p=ϋ->Q (.ref p) (upd H p (.tup (oO Z lo hi)))
def Bm:yV X (ad0 X.K):=by
 intro R s σ H x v P O lo hi N Q I U hs T pu h;let(a,Y,rfl,S,hw,q):=h;cases U;let(aj,r,W,V):=I.tuple S;have Z:aj.toArray.size=Y.length:=by exact r.length.symm
 refine#[_,_,Į.lookup,W.typeIs,?_];refine HT.Tx W hs T pu (by rw[Z];exact hw) ?_ (by rw[Z];exact V);rw[Z];refine#[.ref _,_,I.laid (λb M q=>Á _ q) (ahd _) ?_,rfl,q _ (I.aN.fresh (ahd _))];exact#[Ó (LR Y lo hi) V,_,(r.drop _).take _,IsTup.new ..]
def acw (K:ae3):R2:=λx y H Q=>∃a b Y Z,x=.ref a/\y=.ref b/\bE K H a Y/\bE K H b Z/\Y≠[]/\Y.length+Z.length<=â /\
 (Z=[]->Q (.ref a) H)/\(Z≠[]->∀p,H p=ϋ->Q (.ref p) (upd H p (.tup (Y++Z))))
def Vals.Fd (r:Vals xs us):us=[]↔xs=[]:=by
 cases r with
 |nil=>simp
 |cons _ _=>simp
def Zd:bA X (ŧ .Add) (acw X.K):=by
 intro M s σ H x y v u Q I V U h;let(a,b,L,J,rfl,rfl,T,S,R,W,P,O):=h;cases V;cases U;let(aj,Y,N,_):=I.tuple T;let(G,Z,p2,_):=I.tuple S;refine HT.Y9 N p2 (λz=>R (Y.Fd.mp z)) (λz=>#[.ref a,H,I,rfl,P (Z.Fd.mp z)]) (λz=>?_) (by rw[<- Y.length,<- Z.length];exact W);refine#[.ref _,_,I.laid (λb F q=>Á _ q) (ahd _) ?_,rfl,O (λw=>z (Z.Fd.mpr w)) _ (I.aN.fresh (ahd _))];exact#[by rw[Î];exact W,_,Y.append Z,IsTup.new ..]
end
noncomputable def dZ (n:Nat) (i:Int):Option Nat:=if 0<=i then (if i<n then ϊ i.toNat else ϋ) else if -(n)<=i then ϊ (i+n).toNat else ϋ
def df {α:Type} (xs:List α) (i:Int):Option α:=(dZ xs.length i).bind λj=>xs[j]?
def Fe (h:dZ n i=ϊ j):seqIndex? i n=ϊ j/\j<n/\-(n)<=i/\i<n:=by
 delta dZ at h;by_cases Y:0<=i
 .rw[õ Y] at h
  by_cases Z:i<n
  .rw[õ Z] at h
   have e:=ahe h;exact#[by rw[seqIndex_of Y Z,e],by omega,by omega,Z]
  .rw[ÿ Z] at h;cases h
 .rw[ÿ Y] at h
  by_cases Z:-(n)<=i
  .rw[õ Z] at h
   have e:=ahe h;exact#[by rw[seqIndex_neg ⋯ Z,e],by omega,Z,by omega]
  .rw[ÿ Z] at h;cases h
def Ff {xs} {i} {v:α} (h:df xs i=ϊ v):∃j,seqIndex? i xs.length=ϊ j/\xs[j]?=ϊ v/\j<xs.length/\-(xs.length)<=i/\i<xs.length:=by
 delta df at h
 cases e:dZ _ i with
 |none=>rw[e] at h;cases h
 |some j =>
  rw[e] at h;let(Z,Y,X,W):=Fe e;exact#[j,Z,h,Y,X,W]
def N4 {xs} {j:Nat} {v:α} (h:xs[j]?=ϊ v):df xs (j)=ϊ v:=by
 have Z:=(Ä.mp h).1;have e:dZ xs.length (j)=ϊ j:=by
  delta dZ;rw[õ ⋯,õ ⋯];simp
 delta df;rw[e];exact h
def N5 (b:afh):Prop:=∀o i,subscripted b ύ o i=operate [o,i] (getItem o i)
def yW (X:Cx) (r:R2):Prop :=
 ∀value slice Z s (σ:St) H x y v u Q,Inv X Z σ H s->RelV x v->RelV y u->r x y H Q ->
  subscripted slice ύ v u=operate [v,u] (getItem v u)->ð (ã X.prog X.w) X.A (subscriptTail value slice v u) (EP X Z σ Q) X.xe s
def MtR (X:Cx) (id:String) (r:V->List V->Hp->VK->Prop):Prop :=
 ∀Z s (σ:St) H x Y v W Q,Inv X Z σ H s->RelV x v->Vals Y W->r x Y H Q ->
  ð (ã X.prog X.w) X.A (call (.builtin id) (v::W)) (EP X Z σ Q) X.xe s
section
variable {X:Cx} {a b:afh} {ta tb:TE} {pos:Pos}
def acx (hr:yW X r) (ha:PE X a ta) (hb:PE X b tb) (hs:N5 b):PE X (.Subscript a b pos) (yS r ta tb):=by
 intro Z s σ H Q I h;exact Subscript_ (HR ha hb I h λv u Y x y W V U T q=>hr a b Z Y σ W x y v u Q V U T q (hs ..))
def ad1 (K:ae3):R2:=λx y H Q=>∃p Z i v,x=.ref p/\y=.int i/\bJ K H p Z/\df Z i=ϊ v/\Q v H
def ad2 (K:ae3):R2:=λx y H Q=>∃p Z i v,x=.ref p/\y=.int i/\bE K H p Z/\df Z i=ϊ v/\Q v H
def ad3:R2:=λx y H Q=>∃z i c,x=.str z/\y=.int i/\z.length<=â/\df z.cps.toList i=ϊ c/\Q (.str #[#v[c]]) H
def N6:yW X (ad1 X.K):=by
 intro value slice T s σ H x y v u Q I S R h hs;let(p,F,i,z,rfl,rfl,P,O,q):=h;cases S;let(t,rfl):=R;let(aj,r,Y,E):=I.list P;let(j,Z,N,D,M,L):=Ff O;let(w,V,J):=r.get N;have G:=r.length;have C:=rF;have fin:EP X T σ Q w s:=#[z,H,I,J,q];by_cases U:0<=i
 .have W:=by
   rw[seqIndex_of U L] at Z;exact ahe Z
  exact item_listR Y.isList U ⋯ (by rw[W];simpa using V) fin hs
 .have W:(i+(aj.toArray.size)).toNat=j:=by
   rw[seqIndex_neg ⋯ M] at Z;rw[ê,<- G];exact ahe Z
  exact subscriptTail_builtinR Y.isList.typeIs slot_list_getitem.lookup
   (wpAny_getItem_list_neg Y.isList ⋯ (by rw[ê]<;>omega) ⋯ (by rw[W];simpa using V) #[rfl,fin]) hs
def aaL:yW X (ad2 X.K):=by
 intro value slice Y s σ H x y v u Q I W V h hs;let(p,M,i,z,rfl,rfl,U,T,q):=h;cases W;let(t,rfl):=V;let(aj,r,Z,L):=I.tuple U;let(j,S,R,J,G,F):=Ff T;let(w,P,O):=r.get R;have N:=r.length;have E:=rF;have fin:EP X Y σ Q w s:=#[z,H,I,O,q];exact subscriptTail_builtinR Z.typeIs slot_tuple_getitem.lookup
  (getItem_tuple Z ⋯ ⋯ (by rw[ê,<- N];exact S) (by simpa using P) #[rfl,fin]) hs
def aaM:yW X ad3:=by
 intro value slice P s σ H x y v u Q I Y W h hs;let(z,i,c,rfl,rfl,O,V,q):=h;let(t,rfl):=Y;let(N,rfl):=W;let(j,Z,U,M,T,S):=Ff V;have R:z.cps.toList.length=z.length:=by simp[Str.length]
 rw[R] at Z T S;have L:=rF;exact tail_any (typeIs_str s z t) slot_str_getitem.lookup (getItem_str (by
  have e1:ώ (i < -(2 ^ 63))=ύ:=ø ⋯;have e2:ώ (i ≥ 2 ^ 63)=ύ:=ø ⋯;rw[e1,e2,Bool.or_false]) (by rw[Z];simpa using U) #[.str _,H,I.tok _,#[_,rfl],q]) hs
def Vh (aj:List ì) (n j) (u):Š (·.setIfInBounds j u) { cls:=.type "list",data:=.seq aj.toArray n }={ cls:=.type "list",data:=.seq (aj.set j u).toArray n }:=by
 simp[Š]
theorem Inv.lst {σ:St} {H} {s} {p} {xs} (I:Inv X π σ H s) (h:H p=ϊ (.lst xs)) :
  ∃(aj:List ì) (n:Nat),Vals xs aj/\s.heap.get? p=ϊ { cls:=.type "list",data:=.seq aj.toArray n }/\xs.length<=â:=by
 let(z,aj,n,r,e):=I.aN p _ h;exact#[aj,n,r,e,z]
def Inv.aaN {σ:St} {H} {s} {p} {xs ys} {aj kq:List ì} {n n'} {f} (I:Inv X π σ H s) (h:H p=ϊ (.lst xs))
  (ho:s.heap.get? p=ϊ { cls:=.type "list",data:=.seq aj.toArray n }) (hf:f { cls:=.type "list",data:=.seq aj.toArray n }={ cls:=.type "list",data:=.seq kq.toArray n' }) (r:Vals ys kq) (hz:ys.length<=â) (t) :
  Inv X π σ (upd H p (.lst ys)) { s with heap:=s.heap.update p f,toks:=t }:=by
 have e:(s.heap.update p f).get? p=ϊ { cls:=.type "list",data:=.seq kq.toArray n' }:=by
  rw[þ f ho (by rw[hf]<;>rfl),hf]
 refine I.write (by rw[h];trivial) (.inl rfl) (λb u Z q=>(ò _ _ (Ř Z)).trans q) #[_,e] ?_;exact#[hz,kq,n',r,e]
def acy:V->V->V->Hp->(Hp->Prop)->Prop:=λo i v H Q=>∃p Z k j,o=.ref p/\i=.int k/\H p=ϊ (.lst Z)/\dZ Z.length k=ϊ j/\Q (upd H p (.lst (Z.set j v)))
def set_list:HN X acy:=by
 intro G s σ H o i v F E u Q I N M L h;let(p,D,k,j,rfl,rfl,T,K,q):=h;cases N;let(t,rfl):=M;let(aj,n,r,Y,J):=I.lst T;let(Z,C,S,R):=Fe K;have V:=r.length;have B:=rF;have P :=
  I.aaN T Y (Vh aj n j u) (r.set L j) (by rw[Ĥ];exact J) s.toks
 by_cases O:0<=k
 .have U:=by
   rw[seqIndex_of O R] at Z;exact ahe Z
  exact PySem.W.ki_setAt Y O ⋯ (by rw[ê,<- V];exact R) (by rw[U];exact#[_,P,q])
 .have U:(k+(aj.toArray.size)).toNat=j:=by
   rw[seqIndex_neg ⋯ S] at Z;rw[ê,<- V];exact ahe Z
  exact PySem.W.ki_setBack Y ⋯ (by rw[ê,<- V];exact S) ⋯ (by rw[U];exact#[_,P,q])
def Uq (lo hi) (n):(age lo hi ϋ n).1=((HT.bN n 0 lo))/\(age lo hi ϋ n).2.1=((HT.bN n n hi))/\(age lo hi ϋ n).2.2=1:=by
 refine#[?_,?_,rfl]
 .cases lo with
  |none=>simp[age,HT.bN]
  |some i =>
   erw[age,HT.bN,Option.getD_none,show (1:Int) > 0 by decide,ĭ];by_cases h:i<0
   .erw[h,ĭ]<;>omega
   .erw[h,Ğ]<;>omega
 .cases hi with
  |none=>simp[age,HT.bN]
  |some i =>
   erw[age,HT.bN,Option.getD_none,show (1:Int) > 0 by decide,ĭ];by_cases h:i<0
   .erw[h,ĭ]<;>omega
   .erw[h,Ğ]<;>omega
def T8 (aj:List ì) (lo hi):slicePick aj.toArray lo hi ϋ=((aj.drop (HT.bN aj.length 0 lo)).take (HT.bN aj.length aj.length hi-HT.bN aj.length 0 lo)).toArray:=by
 let(Z,Y,X):=Uq lo hi _;delta slicePick;rw[Z,Y,X]
 erw[sliceRange_one,pick_run,ê]<;>rfl
def ad4 (K:ae3):V->Option Int->Option Int->Hp->VK->Prop:=λx lo hi H Q=>∃a Z,x=.ref a/\bJ K H a Z/\∀p,H p=ϋ->Q (.ref p) (upd H p (.lst (oO Z lo hi)))
def Ze:yV X (ad4 X.K):=by
 intro R s σ H x v P O lo hi N Q I W hs V pu h;let(a,U,rfl,T,q):=h;cases W;let(aj,r,Y,S):=I.list T;have Z:=r.length;refine#[_,_,slot_list_getitem.lookup,Y.isList.typeIs,?_]
 refine wpAny_getItem_list_slice Y.isList hs V pu .none ∅ ?_ (by rw[ê]<;>omega)
 rw[T8,<- Z];refine#[.ref _,_,I.laid (λb M q=>Á _ q) (ahd _) ?_,rfl,q _ (I.aN.fresh (ahd _))];exact#[Ó (LR U lo hi) S,_,0,(r.drop _).take _,Ê _ rfl]
def DE:cX X (.builtin "len") (λxs H Q=>∃p ys,xs=[.ref p]/\(bJ X.K H p ys\/bE X.K H p ys)/\Q (.int ys.length) H):=by
 intro T s σ H xs S Q I r h;let(p,ys,rfl,hq,q):=h;let(u,rfl,V):=vals1 r;cases V;have R:=rF
 rcases hq with hq|hq
 .let(aj,Y,W,U):=I.list hq
  have Z:=Y.length
  exact Calls.call_len_list W.isList (by erw[ê]<;>omega) #[.int _,H,I.tok _,#[_,by rw[ê,Z]],q]
 .let(aj,Y,W,U):=I.tuple hq
  have Z:=Y.length
  exact len_tuple W (by erw[ê]<;>omega) #[.int _,H,I.tok _,#[_,by rw[ê,Z]],q]
def Ur:cX X (.builtin "len") (λxs H Q=>∃z,xs=[.str z]/\z.length<=â/\Q (.int z.length) H):=by
 intro Z s σ H xs Y Q I r h;let(z,rfl,W,q):=h;let(u,rfl,t,rfl):=vals1 r;have V:=rF;exact len_str ⋯ #[.int _,H,I.tok _,#[_,rfl],q]
def Lx:cX X (.type "tuple") (λxs H Q=>∃p ys,xs=[.ref p]/\((bJ X.K H p ys/\∀l,H l=ϋ->Q (.ref l) (upd H l (.tup ys)))\/(bE X.K H p ys/\Q (.ref p) H))):=by
 intro O s σ H xs N Q I r h;let(p,ys,rfl,h):=h;let(u,rfl,S):=vals1 r;cases S
 rcases h with ⟨Z,q⟩ | ⟨Z,q⟩
 .let(aj,Y,W,V):=I.list Z
  have U:=Y.length
  refine call_tuple_list W.isList (λM R=>?_) (by erw[ê]<;>omega)
  have T:=I.kept (t':=s.toks) R;have P :=
   T.laid (t':=s.toks) (λb o e=>Á _ e) (ahd _) (show fO _ _ _ _ _ (.tup ys) from #[V,aj,Y,IsTup.new ..])
  exact#[.ref _,_,P,rfl,q _ (T.aN.fresh (ahd _))]
 .let(aj,Y,W,V):=I.tuple Z
  exact call_tuple_same W #[.ref p,H,I,rfl,q]
def RW (K:ae3) (T:String) (x:V) (H:Hp):Prop:=match x with
 | .str _=>T="str"
 | .int _=>T="int"
 | .ref p=>(T="list"/\∃Y,bJ K H p Y)\/(T="tuple"/\∃o,K.lookup p=ϊ o/\o.cls=.type "tuple"/\o.dict=ϋ) \/
   (T="dict"/\((∃Z,H p=ϊ (.dK Z))\/∃Z,H p=ϊ (.dT Z)))\/(T="set"/\∃S n,H p=ϊ (.set S n))
 |_=>False
def aaO {σ:St} {H} {s} {T} {x} {v} (I:Inv X π σ H s) (r:RelV x v) (ty:RW X.K T x H) :
  s.TypeIs v T/\∀a,v=.ref a->∃ob,s.heap.get? a=ϊ ob/\ob.dict=ϋ:=by
 cases x with
 |str z =>
  let(t,rfl):=r;cases (ty)
  exact#[typeIs_str s z t,λ_ e=>nomatch e]
 |int i =>
  let(t,rfl):=r;cases (ty)
  exact#[typeIs_int s i t,λ_ e=>nomatch e]
 |ref p =>
  cases r
  rcases ty with ⟨rfl,Q,V⟩ | ⟨rfl,o,Z,U,Y⟩ | ⟨rfl,Z⟩ | ⟨rfl,S,n,Z⟩
  .let(aj,_,W,_):=I.list V
   refine#[W.isList.typeIs,λa e=>?_];cases e;let(o,n,e,c,Y,_):=W;exact#[o,e,Y]
  .refine#[#[o,I.sE p o Z,U],λa e=>?_]
   cases e;exact#[o,I.sE _ o Z,Y]
  .have z:∃o,s.heap.get? p=ϊ o/\o.ExactDict:=by
    rcases Z with ⟨R,Z⟩ | ⟨R,Z⟩
    .let(_,_,_,_,o,_,_,e,ex,_):=I.aN p _ Z
     exact#[o,e,ex]
    .let(_,_,_,_,o,_,_,e,ex,_):=I.aN p _ Z
     exact#[o,e,ex]
   let(o,e,ex):=z;refine#[#[o,e,ex.1],λa e2=>?_];cases e2;exact#[o,e,ex.2.1]
  .let(o,_,_,_,e,ex,_):=I.aN p _ Z
   refine#[#[o,e,ex.1],λa e2=>?_];cases e2;exact#[o,e,ex.2.1]
 |_=>exact afs ty
def tBM (K:ae3) (T:String) (r:V->List V->Hp->VK->Prop) (to:TE) (t:TA):TE:=fun σ H Q=>to σ H λx Z=>RW K T x Z/\t σ Z λY X=>r x Y X Q
variable {o e:afh} {es:List afh} {to:TE} {t:TA} {name:Str} {apos dw:Pos} {T id:String} {r:V->List V->Hp->VK->Prop}
def Qn (pa:PlainAttrs T) (slot:Slot T name id) (hty:typeOf (.builtin id)=pure (.type "method_descriptor")) (hm:MtR X id r) (ho:PE X o to) (ha:PA X (e::es) t)
  (xP:agH o name X.env (Ź o X.env)=Ź o X.env:=by rfl)
  (yn:((ũ dw (Õ (e::es) X.env)).all (λx=>!x.1)&&(backToKw dw (agN [] X.env)).all (λx=>x.1.isSome)
   && ώ ((e::es).length+([]:List agM).length+(if ([]:List agM).isEmpty then 0 else 1)<30))=ό:=by rfl)
  (xQ:(apos.endLine==dw.line)=ό:=by rfl) (hs:Õ (e::es) X.env=(ύ,Ź e X.env)::Õ es X.env:=by rfl) (xp:(ũ dw (Õ es X.env)).any (·.1)=ύ:=by rfl) :
  PE X (.Call (.Attribute o name apos) (e::es) [] dw) (tBM X.K T r to t):=by
 intro Z s σ H Q I h;refine wpAny_Call_method_late xP yn xQ rfl (aP (ho Z s σ H _ I h) λv U ⟨x,S,Y,W,ty,R⟩=>?_);let(P,O):=aaO Y W ty;refine#[T,id,pa,slot,hty,P,O,?_];have V:=ha dw Z U σ S _ Y R;rw[hs] at V |-
 refine Calls.callWith_builtin (by show (ύ||(ũ dw _).any _)=ύ;rw[xp]<;>rfl) (Calls.evalArgs_plain ?_)
 exact aP V λN M ⟨L,J,G,F,E⟩=>hm Z M σ J x L v N Q G W F E
end
def RX (X:Cx) (id:String) (r:V->List V->Hp->VK->Prop):Prop :=
 ∀Z s (σ:St) H x Y v W Q,Inv X Z σ H s->RelV x v->Vals Y W->r x Y H Q ->
  ð (ã X.prog X.w) X.A (call (.builtin id) (v::W)) (EP X Z σ Q) X.xe s
def Vals.one:∀{x} {us},Vals [x] us->∃u,us=[u]/\RelV x u
 |_,_,.cons r .nil=>#[_,rfl,r]
theorem Vals.eraseIdx:∀{xs} {us} i,Vals xs us->Vals (xs.eraseIdx i) (us.eraseIdx i)
 |_,_,_,.nil=>.nil
 |_,_,0,.cons _ t=>t
 |_,_,i+1,.cons r t=>.cons r (Vals.eraseIdx i t)
theorem Vals.rep (h:Vals xs us):∀k,Vals (Ñ k xs).flatten (Ñ k us).flatten
 |0=>.nil
 |k+1=>by
  exact Vals.append h (Vals.rep h k)
theorem ME {α:Type}:∀(l:List α) i,(l.eraseIdx i).length<=l.length
 | [],_=>ahd _
 |_::_,0=>Ť _
 |_::r,i+1=>agz (ME r i)
theorem foldl_rep (aj):∀k (acc:List ì),
  List.foldl (λx1 x2=>x1++x2) acc.toArray (Ñ k aj.toArray)=(acc++(Ñ k aj).flatten).toArray
 |0,acc=>by simp
 |k+1,acc=>by
  have e:acc.toArray++aj.toArray=(acc++aj).toArray:=by simp
  have e2:(acc++aj)++(Ñ k aj).flatten=acc++(Ñ (k+1) aj).flatten:=by
   rw[ae7,abI,Ö]
  rw[<- e2,<- foldl_rep aj k _,<- e,ae7,List.foldl_cons]
section
variable {X:Cx} {π:List (ę×Obj)} {σ:St} {H:Hp} {s:ß} {l b:ę} {xs ys zs:List V}
def Inv.Rq {aj kq:List ì} {n} {f} {t'} (I:Inv X π σ H s) (hH:H l=ϊ (.lst xs))
  (e:s.heap.get? l=ϊ { cls:=.type "list",data:=.seq aj.toArray n }) (hf:f aj.toArray=kq.toArray) (hv:Vals ys kq) (hz:ys.length<=â) :
  Inv X π σ (upd H l (.lst ys)) { s with heap:=s.heap.update l (Š f),toks:=t' }:=by
 have q:=PySem.IsL.update e f;rw[hf] at q;refine I.write (by rw[hH];exact trivial) (.inl rfl) (λW u Z Y=>(ò _ _ (Ř Z)).trans Y) #[_,q] ?_;exact#[hz,kq,_,hv,q]
def Inv.Rr (I:Inv X π σ H s) (hv:Vals ys aj) (hz:ys.length<=â) :
  Inv X π σ (upd H s.heap.objs.size (.lst ys)) { s with heap:=s.heap.push { cls:=.type "list",data:=.seq aj.toArray },toks:=t' } :=
 I.laid (λ_ _ q=>Á _ q) (ahd _) #[hz,aj,0,hv,Ê _ rfl]
theorem Inv.fresh (I:Inv X π σ H s):H s.heap.objs.size=ϋ:=I.aN.fresh (ahd _)
def Inv.yo (I:Inv X π σ H s) (hH:H l=ϊ (.lst xs)):xs.length<=â/\∃(aj:List ì) (n:Nat),Vals xs aj/\xs.length=aj.length/\s.heap.get? l=ϊ { cls:=.type "list",data:=.seq aj.toArray n }:=by
 let(z,aj,n,r,e):=I.aN l _ hH;exact#[z,aj,n,r,r.length,e]
def Xq (h:n<=â):Builtin.List.listTooLong n=ύ:=by
 exact ø ⋯
end
section
variable {X:Cx}
def Zf:V->List V->Hp->VK->Prop:=λx Y H Q=>∃l Z y,x=.ref l/\Y=[y]/\H l=ϊ (.lst Z)/\Z.length<â/\Q .aD (upd H l (.lst (Z++[y])))
def Wh:RX X "list.append" Zf:=by
 intro U s σ H x T v S Q I Y W h;let(l,R,y,rfl,rfl,Z,P,q):=h;cases Y;let(u,rfl,V):=W.one;let(z,aj,n,r,O,e):=I.yo Z;refine call_meets F.slot_list_append #[_,e,rfl] F.entry_list_append (F.args_list_append_2 ..) (PySem.list_append l _ n u (by rw[ê];omega)) #[e,?_];refine#[.aD,_,I.Rq Z e ∅ (r.append (.cons V .nil)) ?_,rfl,q];rw[Î,ο];omega
def aaP:V->List V->Hp->VK->Prop:=λx Y H Q=>∃l Z i k y,x=.ref l/\Y=[.int i]/\H l=ϊ (.lst Z)/\-(2 ^ 63)<=i/\i<2 ^ 63/\seqIndex? i Z.length=ϊ k/\Z[k]?=ϊ y/\Q y (upd H l (.lst (Z.eraseIdx k)))
def Xr:RX X "list.pop" aaP:=by
 intro M s σ H x L v K Q I Y W h;let(l,V,i,k,y,rfl,rfl,Z,U,T,S,R,q):=h;cases Y;let(u,rfl,P):=W.one;let(t,rfl):=P;let(z,aj,n,r,O,e):=I.yo Z;let(w,hw,N):=r.get R;refine call_meets F.slot_list_pop #[_,e,rfl] F.entry_list_pop (F.args_list_pop_2 ..)
  (MeetsSeq.list_pop_at l _ n i t k w (fitsIndex_both U T) (by rw[ê,<- O];exact S) (by rw[<- ä];exact hw) (by rw[ê];omega)) #[e,?_]
 refine#[y,_,I.Rq Z e ?_ (r.eraseIdx k) ?_,N,q]
 .rw[List.eraseIdxIfInBounds_toArray]
 .have:=ME V k
  omega
def ad5:R2:=λx y H Q=>∃l b Z zs,x=.ref l/\y=.ref b/\H l=ϊ (.lst Z)/\H b=ϊ (.lst zs)/\Z.length+zs.length<=â/\∀p,H p=ϋ->Q (.ref p) (upd H p (.lst (Z++zs)))
def aaQ:bA X (ŧ .Add) ad5:=by
 intro R s σ H x y v u Q I Y W h;let(l,b,O,zs,rfl,rfl,V,U,N,q):=h;cases Y;cases W;let(z,aj,n,r,M,e):=I.yo V;let(L,Z,K,T,J,e2):=I.yo U;refine PySem.P.add_list e e2 ?_ (by rw[ê,ê];omega);have S:aj.toArray++Z.toArray=(aj++Z).toArray:=by simp
 rw[S];exact#[.ref _,_,I.Rr (r.append T) (by rw[Î];omega),rfl,q _ I.fresh]
def ad6:R2:=λx y H Q=>∃l k Z,x=.ref l/\y=.int k/\H l=ϊ (.lst Z)/\-(2 ^ 63)<=k/\k<2 ^ 63/\Z.length*k.toNat<=â /\
 ∀p,H p=ϋ->Q (.ref p) (upd H p (.lst (Ñ k.toNat Z).flatten))
def len_rep {α:Type} (xs:List α) (k):(Ñ k xs).flatten.length=k*xs.length:=by
 induction k with
 |zero=>simp
 |succ k ih=>rw[ae7,abI,Î,ih,Nat.succ_mul,Nat.add_comm]
def aaR:bA X (ŧ .Mult) ad6:=by
 intro G s σ H x y v u Q I S R h;let(l,k,E,rfl,rfl,P,O,N,T,q):=h;cases S;let(t,rfl):=R;let(z,aj,n,r,M,e):=I.yo P;have Z:aj.toArray.size*k.toNat<=â:=by rw[ê,<- M];exact T
 have Y:¬ aj.toArray.size*k.toNat > (2 ^ 63-1) / 8:=by
  have:(â)<=(2 ^ 63-1) / 8:=by decide
  omega
 have W:¬ (!Builtin.List.listFitsIndex k)=ό:=by
  rw[fitsIndex_both O N];exact è
 have V:¬ Builtin.List.listTooLong (aj.toArray.size*k.toNat)=ό:=by
  rw[Xq Z];exact è
 have U:List.foldl (λL K=>L++K) #v[] (Ñ (if aj.toArray.isEmpty=ό then 0 else k.toNat) aj.toArray)=(Ñ k.toNat aj).flatten.toArray:=by
  have f0:=λm=>by
   have:=foldl_rep aj m [];rw[ĥ] at this;exact this
  rw[f0]
  cases aj with
  |nil=>simp
  |cons a D=>rw[ÿ ∅]
 refine wpAny_binaryOp_repeat_ref (by decide) #[_,e,rfl] (λJ=>typeIs_int J k t) noFill_list_mul F.fills_int_mul agQ repeat_list F.slot_int_index.lookup
  (call_meets agQ (typeIs_int s k t) F.entry_int_rmul (F.args_int_rmul_2 ..) (int___rmul___int_list k t l _ n)
   #[e,rfl,#[_,e,rfl],call_meets F.slot_list_mul #[_,e,rfl] F.entry_list_mul (F.args_list_mul_2 ..) (AutoListH.list___mul___list_int_3 l _ n k t W Y V) #[e,?_]])
 rw[U];exact#[.ref _,_,I.Rr (r.rep _) (by rw[len_rep,Nat.mul_comm];exact T),rfl,q _ I.fresh]
end
section
variable {prog:Ć} {w:ģ} {A:Ĭ} {E:ì->ß->Prop} {s:ß}
set_option maxRecDepth 100000 in
end
end L2
namespace RY
open PySem PySem.W PySem.Calls PyProof.Rows
def TL:∀ns vs,WellAll P h vs (ns.map WData.int)->Ņ vs ns:=by
 intro ns
 induction ns with
 |nil =>
  intro vs w;cases w;exact .nil
 |cons n ns ih =>
  intro vs w
  cases w with
  |cons a b =>
   cases a;exact .cons _ _ (ih _ b)
def Wi {l:OpenLaw} {n} (hn:l.most=ϊ n) {P} {h} {args} {vals}
  (Cj:l.row.toRowW.claim.pre args=ό) (Jc:WellAll P h vals args) :
  ∃a vs ns,vals=[Value.ref a]/\args=[WData.list (ns.map WData.int)]/\h.get? a=ϊ { cls:=.type "list",data:=.seq vs.toArray }/\Ņ vs ns/\ns.length<=n:=by
 have X:=(pre_splitW Cj).1;have V:l.pre.holds _ _=ό:=(pre_splitW Cj).2;let(d,r,rfl,U,T):=hasAllW_cons X;obtain rfl:=hasAllW_nil T;let(M,rfl,S):=hasW_list U;let(ns,rfl):=items_int S;have Z:=by
  have Y:=by
   have Y:=(holds_andW V).1;rw[hn] at Y;exact Y
  have W:=condW_of Y (w_not (w_lt w_lit (w_len_list (w_arg rfl))))
  first
   |(exact absurd W (by decide))
   |(simp at W;omega)
 cases Jc with
 |cons R Q =>
  cases Q
  cases R with
  |list O N=>exact#[_,_,ns,rfl,rfl,O,TL ns _ N,Z]
def Wj (l:OpenLaw) (args):l.row.toRowW.claim.post args (.bool ό) args=ό :=
 postW_of
  (by first|rfl|decide|simp[WShape.has,WShape.arms,WShape.armsAll])
  (w_eq_bool (w_res rfl) w_lit) rfl
def UN {l:OpenLaw} {n} {q} {loose} {XP} {YP} {d}
  (hn:l.most=ϊ n) (yX:d.params.defaults=[])
  (call:∀w eR cQ mg mb fa o pm cd doc a vs ns,
   Ground q loose [] XP w eR mg mb cQ.heap->YP w cQ.heap ->
   cQ.heap.get? fa=ϊ o->o.data=.func (docDef d.name d.params d.body d.scope pm cd doc)->cQ.heap.CodeRec cd d.name->mg d.name=ϊ (.ref fa) ->
   cQ.heap.get? a=ϊ { cls:=.type "list",data:=.seq vs.toArray }->Ņ vs ns->ns.length<=n->cQ.gens=#v[] ->
   ů (ã l.prog w) callerA (.call (.ref fa) #[[.ref a],[]]) (λr s'=>r=.ok (.ret (.bool ό))/\OldK cQ.heap s'.heap/\s'.os=cQ.os/\AllBare s'.gens) cQ) :
  WalkO q loose XP YP l.row.toRowW d [] (λf vs=>PySem.call f vs):=by
 intro w eR cQ mg mb G Y fa o pm cd doc W kV V U T X S R args vals as Q P O N F;obtain rfl:W=.none:=Dflts.none X yX;obtain rfl:kV=.none:=Dflts.noKw X;let(a,vs,ns,rfl,rfl,M,hints,Z):=Wi hn Q N;refine enter_call (ξ (call w _ _ mg mb fa o pm cd doc a vs ns G Y V (fd_plain U) T S M hints Z R) λr s' L=>?_);let(rfl,K,J,I):=L
 exact#[.inl #[_,_,_,rfl,λ_=>rfl,.bool ό,Wj l _,λ_=>#[List.Pairwise.nil,λ_ H=>(nomatch H)]],K,J,I]
section
variable {prog:Ć} {w:ģ} {A:Ĭ} {E:ì->ß->Prop} {s:ß} {K:ae3}
noncomputable def ledger (h:afz) (L d:ę):List (ę×Obj):=(Ô h.objs.size).filterMap λa=>if a=L\/a=d then ϋ else (h.get? a).map λo=>(a,o)
end
end RY
namespace L2
open PySem PySem.Spec PyProof.Rows
theorem MF:∀{vs} {ns},Ņ vs ns->Vals (ns.map V.int) vs
 |_,_,.nil=>.nil
 |_,_,.cons n t h=>.cons #[t,rfl] (MF h)
def HV (H:Hp):Prop:=∀b,H b=ϋ\/∃o Z,H b=ϊ (.cE o (.lst Z))
def Xs {K} {mg mb} {CX} {k} {fa a} {fd} {x} {sp} {cQ} {vs} {ns}
  (KX:K.In cQ.heap) (vU:cQ.heap.Ns ù mg) (hb:cQ.heap.Ns builtinsNs mb) (hbb:∀x:Str,x≠"__name__"->mb x=ć x) (aea:cQ.heap.NoLimit) (hg:cQ.gens=#v[])
  (ha:cQ.heap.get? a=ϊ { cls:=.type "list",data:=.seq vs.toArray }) (hi:Ņ vs ns) (hl:ns.length<=â) (hr:cD k callerA)
  (F:∀base,K.In base->base.Ns ù mg->gC P w K mg base CX k fa fd [x] sp) (acA:∀s u,BindsTo s fd #[[u],[]] [(x,u)])
  (qH:∀H,HV H->bJ K H a (ns.map V.int)->sp [.ref a] H (λv _=>v=.bl ό) λ_ _ _=>False)
  (Je:∀H e s',CX [] H cQ (λ_ _ _=>False) e s'->False) :
  ů (ã P w) callerA (.call (.ref fa) #[[.ref a],[]]) (λr s'=>r=.ok (.ret (.bool ό))/\OldK cQ.heap s'.heap/\s'.os=cQ.os/\AllBare s'.gens) cQ:=by
 have Q:=MF hi;have U:=hi.length;have core:∀H,HV H->bJ K H a (ns.map V.int)->dM P w H cQ.heap->(∀b,H b≠ϋ->b=a)->(H a≠ϋ->K.lookup a=ϋ) ->
   ů (ã P w) callerA (.call (.ref fa) #[[.ref a],[]]) (λr s'=>r=.ok (.ret (.bool ό))/\OldK cQ.heap s'.heap/\s'.os=cQ.os/\AllBare s'.gens) cQ:=by
  intro H O I N M G;have L:∀{b} {o},cQ.heap.get? b=ϊ o->H b=ϋ->(ve _ H).get? b=ϊ o:=λe n=>Xi e n;have E:∀{b} {o} {Y} {X},cQ.heap.get? b=ϊ o->o.data=.dict Y X->H b=ϋ:=λ{b o Y X} e d=>by
   cases q:H b with
   |none=>rfl
   |some u =>
    have T:=M b (by rw[q];simp);subst T;rw[ha] at e;cases e;have D:=d;cases D
  have W:∀{b} {m},cQ.heap.Ns b m->(ve _ H).Ns b m:=λ⟨o,Y,X,e,d,r⟩=>#[o,Y,X,L e (E e d),d,r];have J:=λb o e=>L (KX b o e) (by
   cases q:H b with
   |none=>rfl
   |some u =>
    have T:=M b (by rw[q];simp);subst T;rw[G (by rw[q];simp)] at e;cases e)
  have C:Mod K mg _:=#[J,W vU,#[mb,W hb,hbb],let ⟨B,A,y⟩:=aea;#[B,W A,y]]
  have t:Cf P w K mg _ callerA _ _ H:=#[rfl,C,λb o e=>YW e,Ū (V8 ..),trivial,λb hb=>absurd (show b∈([]) from hb) ∅,N,.of_eq hg];refine ξ ((F _ J (W vU)).run callerA _ _ H _ [.ref a] [.ref a] _ _ hr t (acA _ _) (.cons rfl .nil) (qH H O I)) λr s' h=>?_
  cases r with
  |error e=>exact(Je H e s' h).elim
  |ok p =>
   cases p with
   |next=>exact afs h
   |brk=>exact afs h
   |cont=>exact afs h
   |ret u =>
    let(v,f,os,bare,un,S,l,q):=h;have j:=q;subst j;obtain rfl:u=Value.bool ό:=l;refine#[rfl,OldK.of_keep λb o e=>?_,os,bare]
    cases q:H b with
    |none=>exact un.keep b o e q (by intro z;exact absurd (show b∈([]) from z) ∅) ∅
    |some u =>
     rcases O b with z | ⟨i,c,z⟩
     .rw[q] at z;cases z
     .have g:=un.km b i _ z
      let(e1,_):=N b _ z;let(e2,_):=S b _ g;rw[e] at e1;cases e1;exact e2
 cases R:K.lookup a with
 |some o =>
  have e:=KX a o R;rw[ha] at e;cases e;refine core (λ_=>ϋ) (λ_=>.inl rfl) (.inr #[_,_,_,R,rfl,rfl,rfl,by rw[ê,U];exact hl,by simpa using Q]) (λb u z=>by have Z:=z;cases Z) (λb z=>absurd rfl z) λz=>absurd rfl z
 |none =>
  refine core (λb=>if b=a then ϊ _ else ϋ) (λb=>?_) (.inl (.inr #[{ cls:=.type "list",data:=.seq vs.toArray },õ rfl])) (λb u z=>?_) (λb z=>?_) λ_=>R
  .by_cases hb:b=a
   .exact .inr #[_,_,õ hb]
   .exact .inl (ÿ hb)
  .by_cases hb:b=a
   .have Z:=(õ hb).symm.trans z
    cases Z;subst hb;exact#[ha,by rw[Ã];exact hl,vs,_,Q,ha]
   .have Z:=(ÿ hb).symm.trans z
    cases Z
  .by_cases hb:b=a
   .exact hb
   .exact absurd (ÿ hb) z
noncomputable abbrev KOf {K:ae3} {h} (_:K.In h):ae3:=K
def Zg {l:PySem.W.OpenLaw} {n k} {q} {loose} {XP} {YP} {d} {K:Params->ae3} {CX:ģ->sL} {sp:ģ->Sp} {x}
  (hn:l.most=ϊ n) (hn2:n<=â) (yX:d.params.defaults=[]) (hr:cD k callerA)
  (hY:∀w h,YP w h->(K w.params).In h)
  (F:∀w mg fa h,(K w.params).In h->h.Ns ù mg->mg d.name=ϊ (.ref fa) ->
   ∃fd,(∀s u,BindsTo s fd #[[u],[]] [(x,u)]) /\
    ∀base,(K w.params).In base->base.Ns ù mg->gC l.prog w (K w.params) mg base (CX w) k fa fd [x] (sp w))
  (qH:∀w H a (ns:List Int),ns.length<=n->HV H->bJ (K w.params) H a (ns.map V.int)->sp w [.ref a] H (λv _=>v=.bl ό) λ_ _ _=>False)
  (Je:∀w H s e s',CX w [] H s (λ_ _ _=>False) e s'->False) :
  PySem.W.WalkO q loose XP YP l.row.toRowW d [] (λf vs=>PySem.call f vs):=by
 refine RY.UN hn yX λw M L mg J fa o pm cd doc a vs ns G Y I E D U S hints Z R=>?_;have X:=hY w _ Y;let(fd,Q,P):=F w mg fa _ X G.T.g U;exact Xs X G.T.g G.T.b G.T.builtins G.T.nolimit R S hints (Ó Z hn2) hr P Q (λH O N=>qH w H a ns Z O N) λH e s'=>Je w H _ e s'
noncomputable def rp (s:Stmt):Arguments:=match s with
 | .FunctionDef _ a ..=>a
 |_=>{ posonlyargs:=[],args:=[],vararg:=ϋ,kwonlyargs:=[],kw_defaults:=[],kwarg:=ϋ,defaults:=[] }
noncomputable def mP (s:Stmt):List Stmt:=match s with
 | .FunctionDef _ _ b ..=>b
 |_=>[]
noncomputable def iZ (s:Stmt):Scope:=match s with
 | .FunctionDef _ _ _ _ _ _ sc ..=>sc
 |_=>{ kind:=.function,names:=[],isGenerator:=ύ,isCoroutine:=ύ }
abbrev iS:sL:=λ_ _ _ _ _ _=>False
abbrev E0:XK:=λ_ _ _=>False
def GX:Passes iS X E0:=λ_ _ _ _ _ _ _ h=>h.elim
structure sR (K) (x qual) (st) (f) (fd):Prop where
 ex:∃(oc:ì) (od:Option ę) (kV doc pm:ì) (an:Option ę) (cU ct:ì) (qG:Array _),
  fd=ae2 x qual (rp st) (mP st) (iZ st) .none kV doc pm an cU ct/\K.lookup f=ϊ #[oc,od,.func fd,qG]/\agm K cU qual=ό
 kp:afd K (.ref f)=ό
section
variable {P:Ć} {w:ģ} {K:ae3} {mg:Str->Option ì} {base:afz}
def sR.ok {st} {f} {fd} {N ps} {k} {sp} (F:sR K x qual st f fd) (S:xh N ps (iZ st)) (len:∀vs H Q E,sp vs H Q E->vs.length=ps.length)
  (GW:∀cU A outer s H vs Q E,cD k (A.deeper (envOfC qual (iZ st) s.heap.objs.size f cU))->sp vs H Q E ->
   ∃t,fx (qm iS P w K mg base N qual (iZ st) f cU A outer s H E).vM (mP st) t/\t { nx:=λ_ H'=>Q .aD H',rt:=Q } (start N vs) H):gC P w K mg base iS (k+1) f fd ps sp:=by
 let(W,V,kV,doc,pm,an,cU,U,T,rfl,lk,Z):=F.ex;refine acr lk Z S len λA outer s H vs Q E Y X=>?_;let(t,h,q):=GW cU A outer s H vs Q E Y X;exact#[t,h.vM,q]
def sR.binds {st} {f} {fd} {ps} (F:sR K x qual st f fd)
  (h:∀kV doc pm an cU ct us,us.length=ps.length->bindArgs (ae2 x qual (rp st) (mP st) (iZ st) .none kV doc pm an cU ct) #[us,[]]=pure (ps.zip us)):Binds K fd ps []:=by
 let(Z,Y,kV,doc,pm,an,cU,ct,X,rfl,lk,W):=F.ex;exact .all (h kV doc pm an cU ct)
def O9 {st} {f} {oc} {od an} {qG} {kV doc pm cU ct} (l:K.lookup f=ϊ #[oc,od,.func (ae2 x qual (rp st) (mP st) (iZ st) .none kV doc pm an cU ct),qG])
  (c:agm K cU qual=ό) (k:afd K (.ref f)=ό):sR K x qual st f (ae2 x qual (rp st) (mP st) (iZ st) .none kV doc pm an cU ct):=#[#[oc,od,kV,doc,pm,an,cU,ct,qG,rfl,l,c],k]
end
def lW (H H':Hp):Prop:=∀b o,H b=ϊ o->H' b=ϊ o
def lW.refl (H):lW H H:=λ_ _ h=>h
theorem EB (env):∀(l:List _) acc,(∀n,(n,ą)∈l->∃c,env.cells.lookup n=ϊ c) ->
  ∃cl,(forIn l acc (λ(p:Str×NameKind) cs=>(do
   if (p.2==ą)=ό then do let c <- cellOf env p.1;pure (ŀ ((p.1,c)::cs)) else pure (ŀ cs))))=pure cl /\
   ∀n c,cl.lookup n=ϊ c↔(((n,ą)∈l/\env.cells.lookup n=ϊ c)\/((n,ą)∉l/\acc.lookup n=ϊ c))
 | [],acc,_=>#[acc,rfl,λn c=>by simp]
 |(x,k)::r,acc,h=>by
  rw[List.forIn_cons]
  cases Y:(k==ą) with
  |false =>
   have U:k≠.free:=by intro e;rw[e] at Y;cases Y
   let(cl,e,q):=EB env r acc λn X=>h n (Ì _ X);refine#[cl,?_,λn c=>?_]
   .exact e
   .rw[q n c]
    have:(n,ą)∈(x,k)::r↔(n,ą)∈r:=by
     constructor
     .intro Z
      rcases Ð.mp Z with z|z
      .injection z with _ T
       exact absurd T.symm U
      .exact z
     .exact Ì _
    rw[this]
  |true =>
   have S:k=.free:=by cases k<;>first|rfl|cases Y
   subst S;let(Q,W):=h x Ë;let(cl,e,q):=EB env r _ λn X=>h n (Ì _ X);refine#[cl,?_,λn c=>?_]
   .erw[ĭ,cellOf,W]
    exact e
   .rw[q n c]
    by_cases V:n=x
    .subst V
     constructor
     .rintro (⟨_,z⟩ | ⟨_,z⟩)
      .exact .inl #[Ë,z]
      .rw[š,ι] at z
       exact .inl #[Ë,W.trans z]
     .rintro (⟨_,z⟩ | ⟨z,_⟩)
      .by_cases Z:(n,ą)∈r
       .exact .inl #[Z,z]
       .refine .inr #[Z,?_]
        rw[š,ι];exact W.symm.trans z
      .exact absurd Ë z
    .have:(n,ą)∈(x,ą)::r↔(n,ą)∈r:=by
      constructor
      .intro Z
       rcases Ð.mp Z with z|z
       .injection z with R _
        exact absurd R V
       .exact z
      .exact Ì _
     rw[this,š,beq_false_of_ne V]
def F0 (h:∀n,(n,ą)∈sc.names->∃c,env.cells.lookup n=ϊ c) :
  ∃cl,closureFor sc env=pure cl/\∀n c,cl.lookup n=ϊ c↔((n,ą)∈sc.names/\env.cells.lookup n=ϊ c):=by
 let(cl,e,q):=EB env _ _ h;refine#[cl,?_,λn c=>?_]
 .exact(ň (λz=>z >>= λr=>pure r) e)
 .rw[q n c]
  simp
theorem Nn (f:Str->NameKind->NameKind) (x):∀l:List _,(l.map λp=>(p.1,f p.1 p.2)).lookup x=(l.lookup x).map (f x)
 | []=>rfl
 |(n,k)::r=>by
  rw[Ü,š,š]
  cases h:x==n with
  |true =>
   have e:=by simpa using h
   subst e;rfl
  |false=>exact Nn f x r
def Am (sc) (env) (x):(relabel sc env).names.lookup x=(sc.names.lookup x).map λk=>if (k==ą&&env.scope.kind==.function&&env.kindOf x==ϊ .cell)=ό then NameKind.cell else k:=by
 rw[<- Nn (λx k=>if (k==ą&&env.scope.kind==.function&&env.kindOf x==ϊ _)=ό then NameKind.cell else k)]
 congr 1;apply ae8;rintro ⟨n,k⟩ _;dsimp only
 split<;>rfl
noncomputable abbrev cK (X:Cx) (N:List Str) (sc:Scope) (cl:List (Str×ę)) (C:ę) (s:ß) (H:Hp) (ex:List ę) (pn:List (ę×Obj)):Cx where
 prog:=X.prog
 w:=X.w
 K:=X.K
 mg:=X.mg
 base:=X.base
 A:=X.A
 N:=N
 eR:=s
 yl:=H
 env:=compEnvC sc cl C X.env
 outer:=X.stack
 stack:=X.stack
 ex:=ex
 fn:=λ_=>ύ
 calm:=X.calm
 pn:=pn
 xe:=λ_ _=>False
structure rG (X:Cx) (sc:Scope) (N:List Str) (nt) (cap:List Nat):Prop where
 kind:sc.kind=.function
 F3:∀x∈sc.names,x.2≠.cell
 names:∀x∈sc.names,x.2=.local->sc.names.lookup x.1=ϊ .local
 frees:∀x∈sc.names,x.2=.free->sc.names.lookup x.1=ϊ .free/\(X.env.scope.names.lookup x.1=ϊ .cell\/X.env.scope.names.lookup x.1=ϊ .free)
 len:N.length=nt+cap.length
 HW:∀k j,cap[k]?=ϊ j->∃x,X.N[j]?=ϊ x/\N[nt+k]?=ϊ x/\(x,ą)∈sc.names
noncomputable def mV (nt:Nat) (cap:List Nat) (σ:St):St:=Ñ nt ϋ++cap.map λj=>(σ[j]?).getD ϋ
def PF (X:Cx) (tests:List afh) (t:TT):Prop :=
 ∀Z s (σ:St) H Q,Inv X Z σ H s->t σ H Q ->
  ð (ã X.prog X.w) X.A (forIn tests ό λc r=>if r=ό then do let ok <- ag5 c X.env (Ź c X.env);pure (ŀ ok) else pure (ŀ r)) (TP X Z σ Q) X.xe s
def aed:TT:=λ_ H Q=>Q ό H
def aaS:PF X [] aed:=λ_ _ _ H _ I h=>wpAny_tests_nil #[H,I,h]
def aaT (h:PT X c t):PF X [c] t:=λZ s σ H Q I hw=>wpAny_tests_one (h Z s σ H Q I hw)
def l9 (g:TG) (nt:Nat):Prop:=∀x o Z H R,o.length=nt->g x (o++Z) H R->g x (o++Z) H fun Y W=>(∃X,X.length=nt/\Y=X++Z)/\R Y W
noncomputable def oz (cap:List Nat) (σ:St):St:=cap.map λj=>(σ[j]?).getD ϋ
def Jg (mk:ę->List V->HO) (ma:List V->Prop) (J:It) (nt:Nat) (aW:St) (g:TG) (tf:TT) (te:TE) (H:Hp) (Q:VK):Prop:=∃W:Nat->Nat->List V->Hp->Prop,(∃m,W 0 m [] H) /\
 ∀i m Z Y,W i m Z Y->(J.stop i Y/\ma Z/\∀D,Y D=ϋ->Q (.ref D) (upd Y D (mk D Z))) \/
  (J.go i Y/\ma Z/\∃N:List V->Hp->Prop,(∀X U,N X U->∃T,T < m/\W (i+1) T X U) /\
   ∀o x S,o.length=nt->J.yN i Y x S->g x (o++aW) S fun R O=>tf R O λb P=>if b=ό then te R P λv M=>N (Z++[v]) M else N Z P)
def CW (J:It) (nt:Nat) (aW:St) (g:TG) (tf:TT) (te:TE) (H:Hp) (Q:VK):Prop:=Jg (λ_ Z=>.lst Z) (λZ=>Z.length<=â) J nt aW g tf te H Q
def rQ (wi:TI) (nt:Nat) (cap:List Nat) (g:TG) (tf:TT) (te:TE):TE:=fun σ H Q=>wi σ H λJ Z=>CW J nt (oz cap σ) g tf te Z Q
section
variable {fs ex:List ę} {H H':Hp} {h h1 h2:afz} {P:Ć} {w:ģ}
def Un.adopt {D:ę} {o} (u:Un fs ex H H' h h1) (hp:h.objs.size<=D) (hn:H' D=ϋ):Un fs ex H (upd H' D o) h h1 where
 keep:=u.keep
 slot:=u.slot
 free:=λb Y q n X=>by rw[bR (ë (È (Í q) hp))];exact u.free b Y q n X
 there:=u.there
 kU:=λb Z q=>by rw[bR (fL (u.kU b Z q) hn)];exact u.kU b Z q
 km:=λb Y Z q=>by rw[bR (fL (u.km b Y Z q) hn)];exact u.km b Y Z q
 lV:=λb W q=>by
  let(more,e):=u.lV b W q;exact#[more,by rw[bR (fL e hn)];exact e]
def Un.but {C:ę} (u:Un fs ex H H' h h1) (hp:h.objs.size<=C) (sb:Ļ C h1 h2):Un fs ex H H' h h2:=by
 have ne:∀b Z,h.get? b=ϊ Z->b≠C:=λb Z q=>ë (È (Í q) hp);refine#[λb Z q n X Y=>(sb.2 b (ne b Z q)).trans (u.keep b Z q n X Y),λb Z q n X Y=>?_,u.free,λb Z q Y=>?_,u.kU,u.km,u.lV]
 .let(W,e):=u.slot b Z q n X Y
  exact#[W,(sb.2 b (ne b Z q)).trans e]
 .let(V,e):=u.there b Z q Y
  exact#[V,(sb.2 b (ne b Z q)).trans e]
def dM.but (x:dM P w H h1) (hn:H C=ϋ) (sb:Ļ C h1 h2):dM P w H h2:=λa o e =>
 (x a o e).js (λb u Z q=>(sb.2 b (by
  rintro rfl
  rcases Z with z|z
  .subst z;rw[hn] at e;cases e
  .rw[hn] at z;cases z)).trans q) (λ_ q=>q) λ_ _ q=>q
def dM.adopt (x:dM P w H h) (hn:H D=ϋ) (new:fO P w (upd H D o) h D o):dM P w (upd H D o) h:=λb u e=>by
 by_cases Z:b=D
 .subst Z;rw[eJ] at e;cases e;exact new
 .rw[bR Z] at e
  exact(x b u e).js (λc v _ q=>q) (λc q=>by rw[bR (fL q hn)];exact q) λc Y q=>by rw[bR (fL q hn)];exact q
end
section
variable {X:Cx} {sc:Scope} {N:List Str} {nt:Nat} {cap:List Nat} {cl:List (Str×ę)} {s:ß} {h1:afz} {H:Hp} {σ:St} {π:List (ę×Obj)} {fp:List ę} {C:ę} {t':Nat}
def Inv.block (I:Inv X π σ H s) (S:rG X sc N nt cap) (dj:∀n c,cl.lookup n=ϊ c↔((n,ą)∈sc.names/\X.env.cells.lookup n=ϊ c)) (hf:∀b∈fp,cY X π H b) (iT:∀b∈fp,b<s.heap.objs.size)
  (hk:∀b o,s.heap.get? b=ϊ o->h1.get? b=ϊ o) (hC:s.heap.objs.size<=C) (vU:∃m,h1.Ns C m):Inv (cK X N sc cl C s H fp (X.pn++π)) [] (mV nt cap σ) H { s with heap:=h1,toks:=t' }:=by
 have Q:=I.mU;have M:∀x,(relabel sc _).names.lookup x=ϊ .cell\/(relabel sc X.env).names.lookup x=ϊ .free->(x,ą)∈sc.names:=λx Z=>by
  rw[Am] at Z
  cases e:sc.names.lookup x with
  |none=>rw[e] at Z;rcases Z with z|z<;>cases z
  |some k =>
   have Y:(x,k)∈sc.names:=by
    let(f,a,e1,_):=List.lookup_eq_some_iff.mp e;rw[e1];simp
   rw[e] at Z
   cases k with
   |free=>exact Y
   |cell=>exact absurd rfl (S.F3 _ Y)
   |_=>revert Z;simp
 have L:∀x,(x,ą)∈sc.names->∃c,X.env.cells.lookup x=ϊ c:=λx Z=>I.ok.has x (S.frees _ Z rfl).2;have ok:Cx.Ok (cK X N sc cl C s H fp (X.pn++π)):=by
  refine#[I.ok.mod,?_,I.ok.glob,I.ok.blt,hC,?_,?_,?_,I.ok.hd,I.ok.frames,.inl rfl,?_,I.bs,Ó I.ok.jX I.sz,?_,?_,I.stack,I.E8]
  .exact S.kind
  .intro x y c Z K
   exact I.ok.inj x y c ((dj x c).mp Z).2 ((dj y c).mp K).2
  .intro x Z
   have Y:=M x Z;let(c,e):=L x Y;exact#[c,(dj x c).mpr #[Y,e]]
  .intro x c Z
   cases Z
  .intro b W
   refine#[ë (È (iT b W) hC),λx c e=>?_];exact(hf b W).2.2.2.2.1 x c ((dj x c).mp e).2
  .intro b o e W
   rcases(hf b W).2.2.2.1 with z|z
   .exact I.ok.ni b o e z
   .exact absurd (È (Í e) (Ó I.ok.jX z)) (ó _)
  .intro b W z
   rcases Ð.mp (Q b z) with e|e
   .exact(hf b W).2.1 e
   .exact(hf b W).2.2.1 e
 let(m,Y):=vU;let(mX,J,G):=I.loc;refine#[ok,rfl,I.bare,Un.kept hk,#[m,Y,λi x v e1 e2 e3=>?_],λx c e=>?_,I.aN.fresh hC,λx c e=>I.jJ x c ((dj x c).mp e).2,λp F=>?_,I.aN.kept hk,?_]
 .
  have hi:=by
   apply afE;intro P;have:(mV nt cap σ)[i]?=ϊ ϋ:=by
    delta mV;rw[Ù (by simpa using P),ĵ,õ P]
   rw[this] at e2;cases e2
  have V:(cap.map λj=>(σ[j]?).getD ϋ)[i-nt]?=ϊ (ϊ v):=by
   have e:=e2;delta mV at e;rw[ç (by simpa using hi)] at e;simpa using e
  rw[Þ] at V
  cases U:cap[i-nt]? with
  |none=>rw[U] at V;cases V
  |some j =>
   rw[U] at V;have ev:(σ[j]?).getD ϋ=ϊ v:=ahe V;have E:σ[j]?=ϊ (ϊ v):=by
    cases q:σ[j]? with
    |none=>rw[q] at ev;cases ev
    |some z=>rw[q] at ev;exact ň ϊ ev
   let(y,f1,f2,O):=S.HW _ _ U;rw[Nat.add_sub_cancel' hi] at f2;have D:=ahe (f2.symm.trans e1);subst D;let(g1,g2):=S.frees _ O rfl;have B:vK _ y:=.inr g2;let(u,r,l):=G j y v f1 E B;refine#[u,r,.inr #[?_,?_]]
   .show (relabel sc _).names.lookup y=ϊ _\/(relabel sc _).names.lookup y=ϊ _
    rw[Am,g1];erw[ž];split
    .exact .inl rfl
    .exact .inr rfl
   .rcases l with ⟨k,_⟩ | ⟨_,c,A,w⟩
    .have t:X.env.scope.names.lookup y=ϊ _:=k
     rw[t] at g2
     rcases g2 with z|z<;>cases z
    .let(T,R,hd):=w
     exact#[c,(dj y c).mpr #[O,A],T,hk _ _ R,hd]
 .let(v,T,R,hd):=I.cell x c ((dj x c).mp e).2
  exact#[v,T,hk _ _ R,hd]
 .have h:p∈X.pn++π:=by simpa using F
  let(e,n,ne,g,d):=I.pin p h;refine#[hk _ _ e,n,ë (È (Í e) hC),λz=>?_,d]
  rcases Ð.mp (Q _ z) with q|q
  .exact ne q
  .exact g q
 .delta mV
  rw[Î,afj,Ã];exact S.len.symm
end
inductive Kn where
 |aD|bl|int|str|tup|lst|cb
 deriving DecidableEq
def vV (K:ae3) (H:Hp):V->Kn->Prop
 | .aD,.aD=>True
 | .bl _,.bl=>True
 | .int _,.int=>True
 | .str _,.str=>True
 | .ref a,.tup=>∃Z,bE K H a Z
 | .ref a,.lst=>∃Z,bJ K H a Z
 | .ref a,.cb=>∃Y,H a=ϊ (.dK Y)
 |_,_=>False
noncomputable def vi:Kn->String->Bool
 | .int,"int"=>ό
 | .bl,"int"=>ό
 | .bl,"bool"=>ό
 | .str,"str"=>ό
 | .tup,"tuple"=>ό
 | .lst,"list"=>ό
 |_,_=>ύ
section
variable {X:Cx}
def Inv.xq {σ:St} {H} {s} {a} {xs} (I:Inv X π σ H s) (h:bE X.K H a xs):∃o,s.heap.get? a=ϊ o/\o.cls=.type "tuple":=by
 obtain⟨aj,r,⟨o,e,c,_⟩,_⟩:=I.tuple h;exact#[o,e,c]
def Inv.xr {σ:St} {H} {s} {a} {xs} (I:Inv X π σ H s) (h:bJ X.K H a xs):∃o,s.heap.get? a=ϊ o/\o.cls=.type "list":=by
 obtain⟨aj,r,⟨o,n,e,c,_⟩,_⟩:=I.list h;exact#[o,e,c]
def Inv.xt {σ:St} {H} {s} {a} {ax} (I:Inv X π σ H s) (h:H a=ϊ (.dK ax)):∃o,s.heap.get? a=ϊ o/\o.cls=.type "dict":=by
 let(_,_,W,_,p):=(I.aN a _ h);let(o,V,U,Z,Y,_):=p;exact#[o,Z,Y.1]
def Us:cX X (.builtin "isinstance") (λxs H Q=>∃x k,xs=[x,.ty "int"]/\vV X.K H x k/\Q (.bl (vi k "int")) H):=by
 intro T s σ H xs S Q I r h;let(x,k,rfl,Z,q):=h;let(u,c,rfl,Y,rc):=vals2 r;cases rc
 cases k with
 |aD =>
  cases x with
  |aD =>
   cases Y;exact IsiPair.NoneType_int #[.bl ύ,H,I.tok _,rfl,q]
  |_=>exact Z.elim
 |bl =>
  cases x with
  |bl b =>
   cases Y;exact IsiPair.bool_int #[.bl ό,H,I,rfl,q]
  |_=>exact Z.elim
 |int =>
  cases x with
  |int i =>
   let(t,rfl):=Y;exact IsiPair.int_int #[.bl ό,H,I,rfl,q]
  |_=>exact Z.elim
 |str =>
  cases x with
  |str y =>
   let(t,rfl):=Y;exact IsiPair.str_int #[.bl ύ,H,I.tok _,rfl,q]
  |_=>exact Z.elim
 |tup =>
  cases x with
  |ref a =>
   cases Y;let(z,W):=Z;let(o,V,U):=I.xq W;exact IsiPair.tuple_int V U #[.bl ύ,H,I.tok _,rfl,q]
  |_=>exact Z.elim
 |lst =>
  cases x with
  |ref a =>
   cases Y;let(z,W):=Z;let(o,V,U):=I.xr W;exact IsiPair.list_int V U #[.bl ύ,H,I.tok _,rfl,q]
  |_=>exact Z.elim
 |cb =>
  cases x with
  |ref a =>
   cases Y;let(z,W):=Z;let(o,V,U):=I.xt W;exact IsiPair.dict_int V U #[.bl ύ,H,I.tok _,rfl,q]
  |_=>exact Z.elim
def Ua:cX X (.builtin "isinstance") (λxs H Q=>∃x k,xs=[x,.ty "bool"]/\vV X.K H x k/\Q (.bl (vi k "bool")) H):=by
 intro T s σ H xs S Q I r h;let(x,k,rfl,Z,q):=h;let(u,c,rfl,Y,rc):=vals2 r;cases rc
 cases k with
 |aD =>
  cases x with
  |aD =>
   cases Y;exact IsiPair.NoneType_bool #[.bl ύ,H,I.tok _,rfl,q]
  |_=>exact Z.elim
 |bl =>
  cases x with
  |bl b =>
   cases Y;exact IsiPair.bool_bool #[.bl ό,H,I,rfl,q]
  |_=>exact Z.elim
 |int =>
  cases x with
  |int i =>
   let(t,rfl):=Y;exact IsiPair.int_bool #[.bl ύ,H,I.tok _,rfl,q]
  |_=>exact Z.elim
 |str =>
  cases x with
  |str y =>
   let(t,rfl):=Y;exact IsiPair.str_bool #[.bl ύ,H,I.tok _,rfl,q]
  |_=>exact Z.elim
 |tup =>
  cases x with
  |ref a =>
   cases Y;let(z,W):=Z;let(o,V,U):=I.xq W;exact IsiPair.tuple_bool V U #[.bl ύ,H,I.tok _,rfl,q]
  |_=>exact Z.elim
 |lst =>
  cases x with
  |ref a =>
   cases Y;let(z,W):=Z;let(o,V,U):=I.xr W;exact IsiPair.list_bool V U #[.bl ύ,H,I.tok _,rfl,q]
  |_=>exact Z.elim
 |cb =>
  cases x with
  |ref a =>
   cases Y;let(z,W):=Z;let(o,V,U):=I.xt W;exact IsiPair.dict_bool V U #[.bl ύ,H,I.tok _,rfl,q]
  |_=>exact Z.elim
def Ut:cX X (.builtin "isinstance") (λxs H Q=>∃x k,xs=[x,.ty "str"]/\vV X.K H x k/\Q (.bl (vi k "str")) H):=by
 intro T s σ H xs S Q I r h;let(x,k,rfl,Z,q):=h;let(u,c,rfl,Y,rc):=vals2 r;cases rc
 cases k with
 |aD =>
  cases x with
  |aD =>
   cases Y;exact IsiPair.NoneType_str #[.bl ύ,H,I.tok _,rfl,q]
  |_=>exact Z.elim
 |bl =>
  cases x with
  |bl b =>
   cases Y;exact IsiPair.bool_str #[.bl ύ,H,I.tok _,rfl,q]
  |_=>exact Z.elim
 |int =>
  cases x with
  |int i =>
   let(t,rfl):=Y;exact IsiPair.int_str #[.bl ύ,H,I.tok _,rfl,q]
  |_=>exact Z.elim
 |str =>
  cases x with
  |str y =>
   let(t,rfl):=Y;exact IsiPair.str_str #[.bl ό,H,I,rfl,q]
  |_=>exact Z.elim
 |tup =>
  cases x with
  |ref a =>
   cases Y;let(z,W):=Z;let(o,V,U):=I.xq W;exact IsiPair.tuple_str V U #[.bl ύ,H,I.tok _,rfl,q]
  |_=>exact Z.elim
 |lst =>
  cases x with
  |ref a =>
   cases Y;let(z,W):=Z;let(o,V,U):=I.xr W;exact IsiPair.list_str V U #[.bl ύ,H,I.tok _,rfl,q]
  |_=>exact Z.elim
 |cb =>
  cases x with
  |ref a =>
   cases Y;let(z,W):=Z;let(o,V,U):=I.xt W;exact IsiPair.dict_str V U #[.bl ύ,H,I.tok _,rfl,q]
  |_=>exact Z.elim
def TU:cX X (.builtin "isinstance") (λxs H Q=>∃x k,xs=[x,.ty "tuple"]/\vV X.K H x k/\Q (.bl (vi k "tuple")) H):=by
 intro T s σ H xs S Q I r h;let(x,k,rfl,Z,q):=h;let(u,c,rfl,Y,rc):=vals2 r;cases rc
 cases k with
 |aD =>
  cases x with
  |aD =>
   cases Y;exact IsiPair.NoneType_tuple #[.bl ύ,H,I.tok _,rfl,q]
  |_=>exact Z.elim
 |bl =>
  cases x with
  |bl b =>
   cases Y;exact IsiPair.bool_tuple #[.bl ύ,H,I.tok _,rfl,q]
  |_=>exact Z.elim
 |int =>
  cases x with
  |int i =>
   let(t,rfl):=Y;exact IsiPair.int_tuple #[.bl ύ,H,I.tok _,rfl,q]
  |_=>exact Z.elim
 |str =>
  cases x with
  |str y =>
   let(t,rfl):=Y;exact IsiPair.str_tuple #[.bl ύ,H,I.tok _,rfl,q]
  |_=>exact Z.elim
 |tup =>
  cases x with
  |ref a =>
   cases Y;let(z,W):=Z;let(o,V,U):=I.xq W;exact IsiPair.tuple_tuple V U #[.bl ό,H,I,rfl,q]
  |_=>exact Z.elim
 |lst =>
  cases x with
  |ref a =>
   cases Y;let(z,W):=Z;let(o,V,U):=I.xr W;exact IsiPair.list_tuple V U #[.bl ύ,H,I.tok _,rfl,q]
  |_=>exact Z.elim
 |cb =>
  cases x with
  |ref a =>
   cases Y;let(z,W):=Z;let(o,V,U):=I.xt W;exact IsiPair.dict_tuple V U #[.bl ύ,H,I.tok _,rfl,q]
  |_=>exact Z.elim
def Ub:cX X (.builtin "isinstance") (λxs H Q=>∃x k,xs=[x,.ty "list"]/\vV X.K H x k/\Q (.bl (vi k "list")) H):=by
 intro T s σ H xs S Q I r h;let(x,k,rfl,Z,q):=h;let(u,c,rfl,Y,rc):=vals2 r;cases rc
 cases k with
 |aD =>
  cases x with
  |aD =>
   cases Y;exact IsiPair.NoneType_list #[.bl ύ,H,I.tok _,rfl,q]
  |_=>exact Z.elim
 |bl =>
  cases x with
  |bl b =>
   cases Y;exact IsiPair.bool_list #[.bl ύ,H,I.tok _,rfl,q]
  |_=>exact Z.elim
 |int =>
  cases x with
  |int i =>
   let(t,rfl):=Y;exact IsiPair.int_list #[.bl ύ,H,I.tok _,rfl,q]
  |_=>exact Z.elim
 |str =>
  cases x with
  |str y =>
   let(t,rfl):=Y;exact IsiPair.str_list #[.bl ύ,H,I.tok _,rfl,q]
  |_=>exact Z.elim
 |tup =>
  cases x with
  |ref a =>
   cases Y;let(z,W):=Z;let(o,V,U):=I.xq W;exact IsiPair.tuple_list V U #[.bl ύ,H,I.tok _,rfl,q]
  |_=>exact Z.elim
 |lst =>
  cases x with
  |ref a =>
   cases Y;let(z,W):=Z;let(o,V,U):=I.xr W;exact IsiPair.list_list V U #[.bl ό,H,I,rfl,q]
  |_=>exact Z.elim
 |cb =>
  cases x with
  |ref a =>
   cases Y;let(z,W):=Z;let(o,V,U):=I.xt W;exact IsiPair.dict_list V U #[.bl ύ,H,I.tok _,rfl,q]
  |_=>exact Z.elim
end
section
variable {X:Cx} {es:List afh} {t:TA} {pos:Pos}
def Np {bs:List Bool} (r:Vals (bs.map V.bl) aj):TruthOf X.prog X.w A (λi v=>aj.toArray[i]?=ϊ v) (λi=>bs.getD i ύ):=by
 intro i v s Q E T S;have Z:=by simpa using T
 have hi:=(Ä.mp Z).1;have Y:i<bs.length:=by
  have e:=r.length;rw[Ã] at e;omega
 have R:(bs.map V.bl)[i]?=ϊ (.bl (bs[i])):=by rw[Þ,É Y];rfl
 let(u,W,P):=Vals.get r R;rw[Z] at W;cases W;cases P;have e:bs.getD i ύ=bs[i]:=by simp[agp,É Y]
 have U:Q (bs.getD i ύ) s:=S;rw[e] at U;exact Ĺ U
def range_all (bs:List Bool):(Ô bs.length).all (λi=>bs.getD i ύ)=bs.all id:=by
 rw[ś,Ĉ,Ĉ];constructor
 .intro h b Z
  let(i,hi,e):=ť Z;have:=h i (é.mpr hi);simpa [É hi,e] using this
 .intro h i hi
  have hi:=é.mp hi;have:=h _ (Ţ hi);simpa [É hi] using this
def range_any (bs:List Bool):(Ô bs.length).any (λi=>bs.getD i ύ)=bs.any id:=by
 rw[ś,ĸ,ĸ];constructor
 .rintro ⟨i,hi,h⟩
  have hi:=é.mp hi;exact#[_,Ţ hi,by simpa [É hi] using h]
 .rintro ⟨b,Z,h⟩
  let(i,hi,e):=ť Z;exact#[i,é.mpr hi,by simpa [É hi,e] using h]
def Xt (hc:X.calm=ό):cX X (.builtin "all") (λxs H Q=>∃(p:ę) (bs:List Bool),xs=[.ref p]/\bJ X.K H p (bs.map V.bl)/\Q (.bl (bs.all id)) H):=by
 intro P s σ H xs O Q I r h;let(p,bs,rfl,W,q):=h;let(u,rfl,U):=vals1 r;cases U;let(aj,Y,Z,N):=I.list W;have T:aj.toArray.size=bs.length:=by
  have e:=Y.length;simpa using e.symm
 have S:X.A.in1.handled=ϋ:=I.ok.hd hc;refine call_all_walk (ź Z.isList ?_);have old:=ë (by let(o,n,e,_):=Z;exact Í e);refine#[_,_,_,_,_,_,λi=>bs.getD i ύ,rfl,Walks.list S _ p old _,#[#[_,Ê _ rfl,rfl,rfl],Z.isList.at λo e=>Á _ e],Np Y,λM L R=>?_];rw[T,range_all];exact#[.bl _,H,I.kept λb o e=>R b o (by simpa using ë (Í e)) (Á _ e),rfl,q]
def Xu (hc:X.calm=ό):cX X (.builtin "any") (λxs H Q=>∃(p:ę) (bs:List Bool),xs=[.ref p]/\bJ X.K H p (bs.map V.bl)/\Q (.bl (bs.any id)) H):=by
 intro P s σ H xs O Q I r h;let(p,bs,rfl,W,q):=h;let(u,rfl,U):=vals1 r;cases U;let(aj,Y,Z,N):=I.list W;have T:aj.toArray.size=bs.length:=by
  have e:=Y.length;simpa using e.symm
 have S:X.A.in1.handled=ϋ:=I.ok.hd hc;refine call_any_walk (ź Z.isList ?_);have old:=ë (by let(o,n,e,_):=Z;exact Í e);refine#[_,_,_,_,_,_,λi=>bs.getD i ύ,rfl,Walks.list S _ p old _,#[#[_,Ê _ rfl,rfl,rfl],Z.isList.at λo e=>Á _ e],Np Y,λM L R=>?_];rw[T,range_any];exact#[.bl _,H,I.kept λb o e=>R b o (by simpa using ë (Í e)) (Á _ e),rfl,q]
end
noncomputable def yp:Key->PyData
 | .inl i=>.int i
 | .inr x=>.str x
mutual
def DV (K:ae3) (Z:ę->Prop) (H:Hp):PyData->V->Prop
 | .none,v=>v=.aD
 | .bool b,v=>v=.bl b
 | .int i,v=>v=.int i
 | .str x,v=>v=.str x
 | .tuple X,v=>∃a Y,v=.ref a/\bE K H a Y/\aB K Z H X Y
 | .list X,v=>∃a Y,v=.ref a/\¬ Z a/\H a=ϊ (.lst Y)/\aB K Z H X Y
 | .dict U,v=>∃a W,v=.ref a/\¬ Z a/\H a=ϊ (.dK W)/\∃l:List (Key×Int),W=l.map (λp=>(p.1,V.int p.2))/\U=l.map λp=>(yp p.1,PyData.int p.2)
def aB (K:ae3) (Z:ę->Prop) (H:Hp):List PyData->List V->Prop
 | [],Y=>Y=[]
 |d::X,Y=>∃v r,Y=v::r/\DV K Z H d v/\aB K Z H X r
end
section
variable {X:Cx} {π:List (ę×Obj)} {σ:St} {H:Hp} {s:ß} {Z:ę->Prop}
theorem LS:∀{l:List (Key×Int)} {vs} {es},KV (l.map λp=>(p.1,V.int p.2)) vs->Pairs (AW P w) es vs ->
  ReadsAll h (es.map (·.key)) ((l.map λp=>(yp p.1,PyData.int p.2)).map (·.1)) []/\ReadsAll h (es.map (·.val)) ((l.map λp=>(yp p.1,PyData.int p.2)).map (·.2)) []
 | [],_,_,.nil,.nil=>#[.nil,.nil]
 |(k,i)::l,_,_,.cons (b:=q) r t,.cons (e:=e) X W U=>by
  let(a1,a2):=LS t U;let(Z,T,S):=r;have Z:k=q.1:=Z;refine#[?_,?_]
  .have Y:=X
   rw[<- Z] at Y;have:Reads h e.key (yp k) []:=by
    rcases mK Y with ⟨j,u,e1,e2⟩ | ⟨x,u,e1,e2⟩
    .rw[e1,e2];exact .int j u
    .rw[e1,e2];exact .str x u
   exact ReadsAll.cons this a1
  .have:Reads h e.val (.int i) []:=by rw[W,S];exact .int i T
   exact ReadsAll.cons this a2
mutual
theorem DV.reads (I:Inv X π σ H s):∀{d} {v} {u},DV X.K Z H d v->RelV v u->∃as,Reads s.heap u d as
 | .none,v,u,h,r=>by
  have e:=h;subst e;cases r;exact#[_,.none]
 | .bool b,v,u,h,r=>by
  have e:=h;subst e;cases r;exact#[_,.bool b]
 | .int i,v,u,h,r=>by
  have e:=h;subst e;let(t,rfl):=r;exact#[_,.int i t]
 | .str x,v,u,h,r=>by
  have e:=h;subst e;let(t,rfl):=r;exact#[_,.str x t]
 | .tuple S,v,u,h,r=>by
  let(a,R,e,Y,W):=h;subst e;cases r;obtain⟨aj,V,⟨o,e,c,n,U⟩,_⟩:=I.tuple Y;let(as,T):=aB.reads I W V;exact#[as,.tuple e c U (by simpa using T)]
 | .list S,v,u,h,r=>by
  let(a,R,e,_,Y,W):=h;subst e;cases r;obtain⟨aj,V,⟨o,n,e,c,_,U⟩,_⟩:=I.list (bJ.of Y);let(as,T):=aB.reads I W V;exact#[_,.list e c U (by simpa using T)]
 | .dict M,v,u,h,r=>by
  erw[DV] at h;let(a,L,e,_,Y,l,e1,e2):=h;subst e e1 e2;cases r;let(_,_,J,Q,o,G,F,g1,g2,g3,_,P,_):=(I.aN a _ Y);let(O,N):=LS Q P;exact#[_,.dict g1 g2.1 g3 O N]
theorem aB.reads (I:Inv X π σ H s):∀{ds} {vs} {us},aB X.K Z H ds vs->Vals vs us->∃as,ReadsAll s.heap us ds as
 | [],vs,us,h,r=>by
  have e:=h;subst e;cases r;exact#[_,.nil]
 |d::ds,vs,us,h,r=>by
  let(v,T,e,Y,W):=h;subst e
  cases r with
  |cons V U =>
   let(as,a1):=DV.reads I Y V;let(bs,a2):=aB.reads I W U;exact#[_,.cons a1 a2]
end
def Rt (K:ae3) (neg:Bool):R2:=λx y H Q=>∃(d e:PyData) (Z:ę->Prop),DV K Z H d x/\DV K Z H e y/\d.canLay0=ό/\e.canLay0=ό/\min d.depth e.depth<=100/\Q (.bl (if neg then !PyData.eqv d e else ł d e)) H
def aaU (hr:cD k X.A):bA X (ğ .Eq) (Rt X.K ύ):=by
 intro O s σ H x y v u Q I Y W h;let(d,e,Z,V,U,T,S,N,q):=h;let(as,R):=V.reads I Y;let(bs,P):=U.reads I W;exact SeqAt.eqOverData _ _ _ _ _ _ _ _ _ _ _ _ R P T S (by have:=hr.un;omega) #[.bl _,H,I,rfl,q]
def aaV (hr:cD k X.A):bA X (ğ .NotEq) (Rt X.K ό):=by
 intro O s σ H x y v u Q I Y W h;let(d,e,Z,V,U,T,S,N,q):=h;let(as,R):=V.reads I Y;let(bs,P):=U.reads I W;exact SeqAt.neOverData _ _ _ _ _ _ _ _ _ _ _ _ R P T S (by have:=hr.un;omega) #[.bl _,H,I,rfl,q]
end
end L2
namespace HT
open PySem PySem.Spec PyProof.Rows
section
variable {prog:Ć} {w:ģ} {A:Ĭ} {E:ì->ß->Prop} {s:ß}
def Wk (ht:ag2 s.heap t items) (h:Q ό s):ð (ã prog w) A (Builtin.Tuple.tupleIsExact (.ref t)) Q E s:=by
 exact À (ago ht.typeIs (Â h))
def TV {lo hi} {Q} (ht:ag2 s.heap t items) (hs:s.heap.IsSliceOf sl vl vu .none) (pl:IsPart vl lo) (pu:IsPart vu hi)
 (hw:bN items.size 0 lo=0/\bN items.size items.size hi=items.size) (h:Q (.ref t) s):ð (ã prog w) A (getItem (.ref t) (.ref sl)) Q E s:=by
 let(os,Z,Y,U):=id hs;have X:s.TypeIs (.ref sl) _:=#[os,Z,Y];delta getItem
 try with_reducible refine ĝ ?_
 refine À (wpAny_sequenceKey ht.typeIs (by decide) ?_);refine À (ċ ht.typeIs Į
  (Ą Į ht.typeIs entry_tuple_getitem ?_ (args_tuple_getitem ..)))
 show ð _ _ (afy _ >>= _) _ _ s;refine À (tupleItemsOf_ ht ?_);refine À (ago X ?_);refine À (Lo hs pl pu ?_);let(W,V):=hw
 show ð _ _ (if (((bN _ 0 lo):Int)==0&&(1)==1&&(bN _ _ hi-bN _ 0 lo)==items.size)=ό then _ else _) _ _ s
 rw[W,V,õ ∅]
 first
  |exact À (Wk ht (by exact À (ş (Â #[_,rfl,Â h]))))
  |exact À _
end
end HT
namespace L2
open PySem PySem.Spec PyProof.Rows
def lW.sqT {K} {H H'} {a} {xs} (e:lW H H') (h:bE K H a xs):bE K H' a xs:=by
 rcases h with (h | ⟨o,h⟩)|h
 .exact .inl (.inl (e _ _ h))
 .exact .inl (.inr #[o,e _ _ h])
 .exact .inr h
theorem lW.upd (hn:H p=ϋ):lW H (upd H p o):=λb u e=>by rw[bR (fL e hn)];exact e
def qo (K:ae3) (H:Hp) (ys:List V) (Q:VK):Prop:=∀a Z,lW H Z->bE K Z a ys->Q (.ref a) Z
def qo.here {K} {H} {ys} {Q} {a} (h:qo K H ys Q) (hs:bE K H a ys):Q (.ref a) H:=h a H (lW.refl H) hs
def qo.new {K} {H} {ys} {Q} {p} (h:qo K H ys Q) (hn:H p=ϋ):Q (.ref p) (L2.upd H p (.tup ys)):=h p _ (lW.upd hn) (bE.of eJ)
section
variable {X:Cx} {e:afh} {te:TE} {pos p2 p3 p4:Pos}
def Xv {lo hi} (h:HT.bN xs.length 0 lo=0/\HT.bN xs.length xs.length hi=xs.length):oO xs lo hi=xs:=by
 delta oO;rw[h.1,h.2];simp
def aee (K:ae3):V->Option Int->Option Int->Hp->VK->Prop:=λx lo hi H Q=>∃a Z,x=.ref a/\bE K H a Z/\qo K H (oO Z lo hi) Q
def Zh:yV X (aee X.K):=by
 intro S s σ H x v R P lo hi O Q I V hs U pu h;let(a,Z,rfl,W,q):=h;by_cases hw:HT.bN Z.length 0 lo=0/\HT.bN Z.length Z.length hi=Z.length
 .cases V
  let(aj,r,T,M):=I.tuple W;have Y:aj.toArray.size=Z.length:=by exact r.length.symm
  rw[Xv hw] at q;exact#[_,_,Į.lookup,T.typeIs,HT.TV T hs U pu (by rw[Y];exact hw) #[.ref a,H,I,rfl,q.here W]]
 .exact Bm S s σ H _ v R P lo hi O Q I V hs U pu #[a,Z,rfl,W,hw,λp N=>q.new N]
def acB (K:ae3):R2:=λx y H Q=>∃a b Z Y,x=.ref a/\y=.ref b/\bE K H a Z/\bE K H b Y/\Z.length+Y.length<=â/\qo K H (Z++Y) Q
def Zi:bA X (ŧ .Add) (acB X.K):=by
 intro P s σ H x y v u Q I W V h;let(a,b,U,O,rfl,rfl,Z,Y,N,q):=h;by_cases T:U=[]
 .subst T
  cases W;cases V;let(aj,M,L,_):=I.tuple Z;let(w,t,p2,_):=I.tuple Y;cases M;obtain⟨⟨cls,J,data,G⟩,S,F,n,E⟩:=id L;obtain⟨⟨r,D,data2,C⟩,R,B,A,hd2⟩:=id p2;subst F E B hd2;exact concat_meets #[_,S,rfl] #[_,R,rfl] noFill_tuple_add seq_tuple_add af9 afU (afN ..)
   (tuple_addW0 a b _ _ n A J D G C ∅) #[S,R,#[.ref b,H,I,rfl,q.here Y]]
 .refine Zd P s σ H _ _ v u Q I W V #[a,b,U,O,rfl,rfl,Z,Y,T,N,λe=>?_,λ_ p z=>q.new z]
  subst e;rw[ĕ] at q;exact q.here Z
end
end L2
namespace HZ
open PySem PySem.Spec PyProof.Rows
structure mh (P) (w) (A) (i l) (tn:Nat->afz->Prop) (val:Nat->Option ì):Prop where
 keep:∀k h h',tn k h->(∀o,h.get? i=ϊ o->h'.get? i=ϊ o)->(∀o,h.get? l=ϊ o->h'.get? l=ϊ o)->tn k h'
 item:∀k s Q E x,tn k s.heap->val k=ϊ x->(∀h',tn (k+1) h'->Ļ i s.heap h'->Q x { s with heap:=h' })->ð (ã P w) A (χ (.ref i)) Q E s
 stop:∀k s Q E,tn k s.heap->val k=ϋ->(∀h' e,agf i s.heap h'->(∃o,h'.get? e=ϊ o/\o.cls=.type "StopIteration")->E (.ref e) { s with heap:=h' })->ð (ã P w) A (χ (.ref i)) Q E s
 obj:∀k h,tn k h->∃o,h.get? i=ϊ o/\∀v,o.data≠.cell v
section
variable {P:Ć} {w:ģ} {A:Ĭ} {E:ì->ß->Prop} {s:ß}
def Vi (g:s.heap.IsTupleIter it t k) (gt:s.heap.IsTuple t aj) (gx:aj[k]?=ϊ x)
 (q:∀h',h'.IsTupleIter it t (k+1)->Ļ it s.heap h'->Q x { s with heap:=h' }):ð (ã P w) A (χ (.ref it)) Q E s:=by
 let(o,go,Y,Z):=id g;let(ol,X,_,nl,W):=gt;refine À (ċ g.typeIs ζ
  (Ą ζ g.typeIs F.entry_tuple_iterator_next ?_ (F.args_tuple_iterator_next_1 _)))
 show ð _ _ (field _ 0 >>= _) ..;refine À (Ŀ go Z rfl ?_);refine À (Ŀ go Z rfl ?_);refine À (Ď X W ?_);erw[ă,gx];refine À (Ŷ go Z ∅ (Â #[x,rfl,Â (q _ ?_ (ġ ..))]));exact#[_,þ _ go (Œ (Đ Z _)),(aft ..).trans Y,by rw[Đ Z];simp[ŷ]]
def TX (gh:A.handled=ϋ) (g:s.heap.IsTupleIter it t k) (gt:s.heap.IsTuple t aj) (gx:aj[k]?=ϋ)
 (q:∀h' e,agf it s.heap h'->(∃o,h'.get? e=ϊ o/\o.cls=.type "StopIteration")->E (.ref e) { s with heap:=h' }):ð (ã P w) A (χ (.ref it)) Q E s:=by
 let(o,go,W,Z):=id g;let(ol,Y,_,nl,X):=gt;refine À (ċ g.typeIs ζ
  (Ą ζ g.typeIs F.entry_tuple_iterator_next ?_ (F.args_tuple_iterator_next_1 _)))
 show ð _ _ (field _ 0 >>= _) ..;refine À (Ŀ go Z rfl ?_);refine À (Ŀ go Z rfl ?_);refine À (Ď Y X ?_);erw[ă,gx];refine À (ş (À (Ŷ go Z ∅ ?_)));refine À ?_
 refine À (m:=firstArgMember ..) (ſ (by first|rfl | (rfl)) ?_)
 refine Č ?_ (by size_fits);refine À (wpAny_handled ?_)
 first|rw[gh]|rw[gh]
 refine À (Â (wpAny_throw ?_));exact q _ _ (((ġ ..).extBut.push _).push _) #[_,Ê _ rfl,rfl]
def Zj (gh:A.handled=ϋ) (i l) (aj):mh P w A i l (λk h=>h.IsTupleIter i l k/\h.IsTuple l aj) (λk=>aj[k]?) where
 keep:=λk h Y Z U T=>#[Z.1.at U,by let(o,e,r):=Z.2;exact#[o,T o e,r]]
 item:=λk s Q E x Z e q=>Vi Z.1 Z.2 e λY g X=>by
  by_cases W:l=i
  .subst W
   let(o,e1,S,_):=Z.1;let(R,e2,V,_):=Z.2;rw[e1] at e2;cases e2;rw[S] at V;simp at V
  .let(o,e2,r):=Z.2
   exact q Y #[g,o,(X.2 l W).trans e2,r] X
 stop:=λk s Q E Z e q=>TX gh Z.1 Z.2 e q
 obj:=λk h Z=>by
  let(o,e,_,d):=Z.1;exact#[o,e,λv z=>by rw[d] at z;cases z]
def Zk (gh:A.handled=ϋ) (i l) (aj):mh P w A i l (λk h=>h.IsListIter i l k/\h.IsList l aj) (λk=>aj[k]?) where
 keep:=λk h Y Z U T=>#[Z.1.at U,Z.2.at T]
 item:=λk s Q E x Z e q=>wpAny_nextOf_list_item Z.1 Z.2 e λY g X=>by
  by_cases W:l=i
  .exfalso
   subst W;let(o,e1,S,_):=Z.1;let(R,e2,V,_):=Z.2;rw[e1] at e2;cases e2;rw[S] at V;simp at V
  .exact q Y #[g,Z.2.at λo e2=>(X.2 l W).trans e2] X
 stop:=λk s Q E Z e q=>wpAny_nextOf_list_end gh Z.1 Z.2 e q
 obj:=λk h Z=>by
  let(o,e,_,d):=Z.1;exact#[o,e,λv z=>by rw[d] at z;cases z]
structure Apart (z ti to j1 j2 m1 m2:ę):Prop where
 a1:ti≠z
 a2:to≠z
 a3:j1≠z
 a4:j2≠z
 a5:ti≠to
 a6:ti≠j1
 a7:ti≠j2
 a8:to≠j1
 a9:to≠j2
 b0:j1≠j2
 b1:m1≠z
 b2:m1≠to
 b3:m1≠j1
 b4:m1≠j2
 b5:m2≠z
 b6:m2≠to
 b7:m2≠j1
 b8:m2≠j2
def Xw {t1 t2} {v1 v2:Nat->Option ì} {k} {Q:ì->ß->Prop} (D:Apart z ti to j1 j2 m1 m2) (S1:mh P w A j1 m1 t1 v1) (S2:mh P w A j2 m2 t2 v2)
 (gz:IsZip s.heap z ti to .none) (gi:aga s.heap ti (.ref j1) (.ref j2)) (go:aga s.heap to a b) (h1:t1 k s.heap) (h2:t2 k s.heap) (hx:v1 k=ϊ x) (hy:v2 k=ϊ y)
 (q:∀h',IsZip h' z ti to (ŷ s.heap.objs.size)->aga h' to x y->t1 (k+1) h'->t2 (k+1) h'->aga h' s.heap.objs.size x y->h'.objs.size=s.heap.objs.size+1 ->
 (∀c o,c≠z->c≠to->c≠j1->c≠j2->s.heap.get? c=ϊ o->h'.get? c=ϊ o)->Q (.ref s.heap.objs.size) { s with heap:=h' }) :
  ð (ã P w) A (ε.«zip.__next__» #[[.ref z],[]]) (λfin s'=>∃v,fin=.done (.ret v)/\Q v s') E s:=by
 show ð _ _ (field _ 2 >>= _) _ _ _;refine À (Ŀ gz rfl (x:=.bool ύ) rfl ?_);refine À (Ŀ gz rfl rfl ?_);refine À (Ď gi rfl ?_);refine À ?_;refine À (Ŀ gz rfl rfl (Â ?_));refine À (ş ?_);refine À (Ŀ gz rfl (x:=.ref to) rfl ?_);refine À (ς gz ∅ λf n Y=>?_);refine À ?_;refine À (À (wpAny_onRaise ?_));refine À (S1.item k _ _ _ x (S1.keep k _ _ h1 (λo e=>Y.extBut _ _ D.a3 e) (λo e=>Y.extBut _ _ D.b1 e)) hx λm l V=>Â ?_);have F:aga m to a b:=V.extBut _ _ D.a8 (Y.extBut _ _ D.a2 go);refine À (Ď F rfl ?_);refine À (wpAny_updateSeq_pair F λd j X=>?_);refine À (Ŝ (Â ?_));refine À (À (wpAny_onRaise ?_));refine À (S2.item k _ _ _ y (S2.keep k _ _ h2 (λo e=>X.extBut _ _ D.a9.symm (V.extBut _ _ D.b0.symm (Y.extBut _ _ D.a4 e))) (λo e=>X.extBut _ _ D.b6 (V.extBut _ _ D.b7 (Y.extBut _ _ D.b5 e)))) hy λi N U=>Â ?_);have C:aga i to x b:=U.extBut _ _ D.a9 j;refine À (Ď C rfl ?_);refine À (wpAny_updateSeq_pair C λZ T s5=>?_)
 replace T:aga Z to x y:=T
 refine À (Ŝ (Â (Â ?_)));refine À (Ď T rfl ?_);refine À (wpAny_newTuple ?_);have B:Z.objs.size=s.heap.objs.size:=by rw[s5.1,U.1,X.1,V.1,Y.1]
 have u:IsZip Z z ti to _:=s5.extBut _ _ D.a2.symm (U.extBut _ _ D.a4.symm (X.extBut _ _ D.a2.symm (V.extBut _ _ D.a3.symm n)));have h:∀c o,c≠z->c≠to->c≠j1->c≠j2->s.heap.get? c=ϊ o->Z.get? c=ϊ o:=λc o W S M L e=>s5.extBut _ _ S (U.extBut _ _ L (X.extBut _ _ S (V.extBut _ _ M (Y.extBut _ _ W e))));have K:t1 _ Z:=S1.keep _ _ _ l (λo e=>s5.extBut _ _ D.a8.symm (U.extBut _ _ D.b0 (X.extBut _ _ D.a8.symm e))) (λo e=>s5.extBut _ _ D.b2 (U.extBut _ _ D.b4 (X.extBut _ _ D.b2 e)));have J:t2 _ Z:=S2.keep _ _ _ N (λo e=>s5.extBut _ _ D.a9.symm e) (λo e=>s5.extBut _ _ D.b6 e);have t:=Í u;refine À ?_;have g:IsZip (Z.push { cls:=.type "tuple",data:=.seq #v[x,y] }) z ti to _:=Á _ u;refine À (ς g ∅ λp7 I H=>?_)
 replace I:=I
 refine ς I ∅ λR O G=>?_
 replace O:IsZip R z ti to _:=O
 have up:∀c o,c≠z->Z.get? c=ϊ o->R.get? c=ϊ o:=λc o W e=>G.extBut _ _ W (H.extBut _ _ W (Á _ e));have r:=G.extBut _ _ (ŵ t) (H.extBut _ _ (ŵ t) (Ê _ rfl));have p:R.objs.size=Z.objs.size+1:=by rw[G.1,H.1,ĉ]
 rw[B] at O r p;refine Â #[_,rfl,?_];rw[B];exact q R O (up _ _ D.a2 T) (S1.keep _ _ _ K (λo e=>up _ o D.a3 e) (λo e=>up _ o D.b1 e)) (S2.keep _ _ _ J (λo e=>up _ o D.a4 e) (λo e=>up _ o D.b5 e)) r p λc o W S M L e=>up c o W (h c o W S M L e)
def Zl (D:Apart z ti to j1 j2 m1 m2) (S1:mh P w A j1 m1 t1 v1) (S2:mh P w A j2 m2 t2 v2)
 (gz:IsZip s.heap z ti to .none) (gi:aga s.heap ti (.ref j1) (.ref j2)) (go:aga s.heap to a b) (h1:t1 k s.heap) (h2:t2 k s.heap) (HX:v1 k=ϋ\/v2 k=ϋ)
 (q:∀h' e,(∀c o,c≠z->c≠to->c≠j1->c≠j2->s.heap.get? c=ϊ o->h'.get? c=ϊ o)->(∃o,h'.get? e=ϊ o/\o.cls=.type "StopIteration")->E (.ref e) { s with heap:=h' }) :
  ð (ã P w) A (ε.«zip.__next__» #[[.ref z],[]]) Q E s:=by
 show ð _ _ (field _ 2 >>= _) _ _ _;refine À (Ŀ gz rfl rfl ?_);refine À (Ŀ gz rfl rfl ?_);refine À (Ď gi rfl ?_);refine À ?_;refine À (Ŀ gz rfl rfl (Â ?_));refine À (ş ?_);refine À (Ŀ gz rfl rfl ?_);refine À (ς gz ∅ λB R Y=>?_);refine À ?_;erw[List.zipIdx_cons,List.zipIdx_nil,List.forIn_cons,List.forIn_nil];refine À (À (wpAny_onRaise ?_));have O:=S1.keep k _ _ h1 (λo e=>Y.extBut _ _ D.a3 e) (λo e=>Y.extBut _ _ D.b1 e)
 cases V:v1 k with
 |none =>
  refine À (S1.stop k _ _ _ O V λI e Z U=>?_);let(T,g1,g2):=U;have N:=Z _ _ D.a3.symm R;have ne:e≠z:=λu=>by subst u;rw[N] at g1;cases g1;simp at g2
  refine ς N ∅ λM _ X=>q M e (λc o W _ S _ u=>X.extBut _ _ W (Z _ _ S (Y.extBut _ _ W u))) #[T,X.extBut _ _ ne g1,g2]
 |some x =>
  have H:v2 k=ϋ:=by
   rcases HX with h|h
   .rw[V] at h;cases h
   .exact h
  refine À (S1.item k _ _ _ x O V λI y Z=>Â ?_);have L:=Z.extBut _ _ D.a8 (Y.extBut _ _ D.a2 go);refine À (Ď L rfl ?_);refine À (wpAny_updateSeq_pair L λM v X=>?_);refine À (Ŝ (Â ?_));refine À (À (wpAny_onRaise ?_));refine À (S2.stop k _ _ _ (S2.keep k _ _ h2 (λo e=>X.extBut _ _ D.a9.symm (Z.extBut _ _ D.b0.symm (Y.extBut _ _ D.a4 e))) (λo e=>X.extBut _ _ D.b6 (Z.extBut _ _ D.b7 (Y.extBut _ _ D.b5 e)))) H λt e K U=>?_);let(T,g1,g2):=U;have J:=K _ _ D.a4.symm (X.extBut _ _ D.a2.symm (Z.extBut _ _ D.a3.symm R));have ne:e≠z:=λu=>by subst u;rw[J] at g1;cases g1;simp at g2
  refine ς J ∅ λG _ s5=>q G e (λc o W F S C u=>s5.extBut _ _ W (K _ _ C (X.extBut _ _ F (Z.extBut _ _ S (Y.extBut _ _ W u))))) #[T,s5.extBut _ _ ne g1,g2]
def next_item (D:Apart z ti to j1 j2 m1 m2) (S1:mh P w A.in1 j1 m1 t1 v1) (S2:mh P w A.in1 j2 m2 t2 v2)
 (gz:IsZip s.heap z ti to .none) (gi:aga s.heap ti (.ref j1) (.ref j2)) (go:aga s.heap to a b) (h1:t1 k s.heap) (h2:t2 k s.heap) (hx:v1 k=ϊ x) (hy:v2 k=ϊ y)
 (q:∀h',IsZip h' z ti to (ŷ s.heap.objs.size)->aga h' to x y->t1 (k+1) h'->t2 (k+1) h'->aga h' s.heap.objs.size x y->h'.objs.size=s.heap.objs.size+1 ->
 (∀c o,c≠z->c≠to->c≠j1->c≠j2->s.heap.get? c=ϊ o->h'.get? c=ϊ o)->Q (ϊ (.ref s.heap.objs.size)) { s with heap:=h' }):ð (ã P w) A (agn (.ref z)) Q E s:=by
 have Z:s.TypeIs (.ref z) _:=#[_,gz,rfl];exact À (υ (ċ Z agR
  (Ą agR Z F.entry_zip_next (Xw D S1 S2 gz gi go h1 h2 hx hy λh' a1 a2 Y X W V U=>Â (q h' a1 a2 Y X W V U)) (F.args_zip_next_1 _))))
def next_end (D:Apart z ti to j1 j2 m1 m2) (S1:mh P w A.in1 j1 m1 t1 v1) (S2:mh P w A.in1 j2 m2 t2 v2)
 (gz:IsZip s.heap z ti to .none) (gi:aga s.heap ti (.ref j1) (.ref j2)) (go:aga s.heap to a b) (h1:t1 k s.heap) (h2:t2 k s.heap) (HX:v1 k=ϋ\/v2 k=ϋ)
 (q:∀h',(∀c o,c≠z->c≠to->c≠j1->c≠j2->s.heap.get? c=ϊ o->h'.get? c=ϊ o)->Q ϋ { s with heap:=h' }):ð (ã P w) A (agn (.ref z)) Q E s:=by
 have Z:s.TypeIs (.ref z) _:=#[_,gz,rfl];refine À (υ (ċ Z agR
  (Ą agR Z F.entry_zip_next (Zl D S1 S2 gz gi go h1 h2 HX λh' e Y X=>?_) (F.args_zip_next_1 _))))
 let(o,W,V):=X;exact À (afF #[o,W,V] isSubtype_stop (Â (q _ Y)))
end
end HZ
namespace L2
open PySem PySem.Spec PyProof.Rows
def aaW {π} {σ:St} {H} {s} {a b} {xs} (I:Inv X π σ H s) (h:bE X.K H a xs) (f:cY X π H b):a≠b:=by
 rintro rfl;let(f0,_,_,Y,_):=f
 rcases h with (h | ⟨o,h⟩) | ⟨o,aj,n,W,_⟩
 .rw[f0] at h;cases h
 .rw[f0] at h;cases h
 .have Z:=I.mod.vJ a o W
  rcases Y with z|z
  .exact I.ok.ni a o Z z
  .exact absurd (È (Í Z) (Ó I.ok.jX z)) (ó _)
def aaX {π} {σ:St} {H} {s} {a b} {xs} (I:Inv X π σ H s) (h:bJ X.K H a xs) (f:cY X π H b):a≠b:=by
 rintro rfl;let(f0,_,_,Y,_):=f
 rcases h with (h | ⟨o,h⟩) | ⟨o,aj,n,W,_⟩
 .rw[f0] at h;cases h
 .rw[f0] at h;cases h
 .have Z:=I.mod.vJ a o W
  rcases Y with z|z
  .exact I.ok.ni a o Z z
  .exact absurd (È (Í Z) (Ó I.ok.jX z)) (ó _)
def Inv.MG {π} {σ:St} {H} {s} {h'} {t'} {ch:List ę} (I:Inv X π σ H s) (k:∀b o,b∉ch->s.heap.get? b=ϊ o->h'.get? b=ϊ o) (hf:∀b∈ch,cY X π H b) :
  Inv X π σ H { s with heap:=h',toks:=t' }:=by
 have Y:∀b u,H b=ϊ u->b∉ch:=λb u e z=>by rw[(hf b z).1] at e;cases e
 refine I.step (λb W=>?_) (λb o _ _ Z e _=>k b o Z e) (λb o _ _ Z e _=>#[_,k b o Z e]) (λ_ _ _ _ n=>n) (λb o Z e=>#[o,k b o Z e]) (λ_ _ e=>e) (λ_ _ _ e=>e)
  (λb P e=>#[#v[],by rw[e];simp]) (λm V=>?_) (λb u e=>?_) I.bare
 .let(_,f1,_,U,f4,T):=hf b W
  exact#[U,f1,f4,T]
 .let(o,S,R,Q,r):=V
  exact#[o,S,R,k _ o (λz=>(hf _ z).2.1 rfl) Q,r]
 .refine(I.aN b u e).js (λc v Z q=>k c v ?_ q) (λ_ q=>q) λ_ _ q=>q
  rcases Z with z|z
  .rw[z];exact Y b u e
  .exact Y c _ z
def Inv.Wl {π} {σ:St} {H} {s} {h'} {t'} {ch:List ę} {p:ę} {u} (I:Inv X π σ H s) (k:∀b o,b∉ch->s.heap.get? b=ϊ o->h'.get? b=ϊ o) (hf:∀b∈ch,cY X π H b)
  (hp:s.heap.objs.size<=p) (new:fO X.prog X.w (upd H p u) h' p u):Inv X π σ (upd H p u) { s with heap:=h',toks:=t' }:=by
 have Y:=I.aN.fresh hp;have aN:=(I.MG (t':=t') k hf).aN.adopt Y new;refine I.step (λb W=>?_) (λb o _ _ Z e _=>k b o Z e) (λb o _ _ Z e _=>#[_,k b o Z e]) (λb o _ e n=>?_) (λb o Z e=>#[o,k b o Z e]) (λc P e=>by rw[bR (fL e Y)];exact e) (λc o v e=>by rw[bR (fL e Y)];exact e)
  (λc O e=>#[#v[],by rw[bR (fL e Y),e];simp]) (λm V=>?_) aN I.bare
 .let(_,f1,_,U,f4,T):=hf b W
  exact#[U,f1,f4,T]
 .rw[bR (ë (È (Í e) hp))]
  exact n
 .let(o,S,R,Q,r):=V
  exact#[o,S,R,k _ o (λz=>(hf _ z).2.1 rfl) Q,r]
@[reducible] def kF:Bool->ae3->Hp->ę->List V->Prop
 |true=>bE
 |false=>bJ
@[reducible] def mi:Bool->afz->ę->Array ì->Prop
 |true=>Heap.IsTuple
 |false=>Heap.IsList
@[reducible] def oT:Bool->afz->ę->ę->Nat->Prop
 |true=>Heap.IsTupleIter
 |false=>Heap.IsListIter
def Inv.vj {π} {σ:St} {H} {s} {a} {xs} (I:Inv X π σ H s):∀{k},kF k X.K H a xs->∃aj,Vals xs aj/\mi k s.heap a aj.toArray
 |true,h=>by let(i,r,p,_):=I.tuple h;exact#[i,r,p]
 |false,h=>by let(i,r,p,_):=I.list h;exact#[i,r,p.isList]
def Inv.Nq {π} {σ:St} {H} {s} {a} {xs ys} (I:Inv X π σ H s):∀{k},kF k X.K H a xs->kF k X.K H a ys->xs=ys
 |true,h,g=>I.My h g
 |false,h,g=>I.Nj h g
def Bn {π} {σ:St} {H} {s} {a b} {xs} (I:Inv X π σ H s):∀{k},kF k X.K H a xs->cY X π H b->a≠b
 |true,h,f=>aaW I h f
 |false,h,f=>aaX I h f
def Ck (gh:A.handled=ϋ) (i l) (aj):∀k,HZ.mh P w A i l (λn h=>oT k h i l n/\mi k h l aj) (λn=>aj[n]?)
 |true=>HZ.Zj gh i l aj
 |false=>HZ.Zk gh i l aj
def Bo (k:∀o,h.get? i=ϊ o->h'.get? i=ϊ o):∀{b},oT b h i l n->oT b h' i l n
 |true,x=>x.at k
 |false,x=>x.at k
def AX:∀{b},oT b h i l n->∃o,h.get? i=ϊ o/\∀v,o.data≠.cell v
 |true,x=>by let(o,e,_,d):=x;exact#[o,e,λv q=>by rw[d] at q;cases q]
 |false,x=>by let(o,e,_,d):=x;exact#[o,e,λv q=>by rw[d] at q;cases q]
def Cm (k l:Bool) (K:ae3) (a b:ę):It :=
 #[λi H=>∃Z Y x y,kF k K H a Z/\kF l K H b Y/\Z[i]?=ϊ x/\Y[i]?=ϊ y,λi H v X=>∃p x y,H p=ϋ/\v=.ref p/\X=upd H p (.tup [x,y])/\∀Z Y,kF k K H a Z->kF l K H b Y->Z[i]?=ϊ x/\Y[i]?=ϊ y,
  λi H=>∃Z Y,kF k K H a Z/\kF l K H b Y/\(Z.length<=i\/Y.length<=i)]
abbrev aef:=Cm ό ό
structure acC (it:Nat->afz->Prop) (jA:Nat->afz->Prop) (z ti to j1 j2) (i) (h):Prop where
 z:IsZip h z ti to .none
 ti:aga h ti (.ref j1) (.ref j2)
 to:∃u v,aga h to u v
 h1:it i h
 h2:jA i h
structure Ru (z ti to j1 j2:ę):Prop where
 a1:ti≠z
 a2:to≠z
 a3:j1≠z
 a4:j2≠z
 a5:ti≠to
 a6:ti≠j1
 a7:ti≠j2
 a8:to≠j1
 a9:to≠j2
 b0:j1≠j2
def Wm {P} {w} {K} {elts} {kk} {pos} (a b z ti to j1 j2) (F:Ru z ti to j1 j2) :
  Turn P w K (.Tuple elts kk pos) (Cm k1 k2 K a b) [z,ti,to,j1,j2] z (acC (λi h=>oT k1 h j1 a i) (λi h=>oT k2 h j2 b i) z ti to j1 j2) where
 mem:=by simp
 obj:=λi h Z c S=>by
  have M:=by simpa using S
  rcases M with rfl|rfl|rfl|rfl|rfl
  .exact#[_,Z.z,λv q=>nomatch q]
  .exact#[_,Z.ti,λv q=>nomatch q]
  .let(u,v,q):=Z.to;exact#[_,q,λv q=>nomatch q]
  .exact AX Z.h1
  .exact AX Z.h2
 keep:=λi h m Z k=>#[k z ∅ _ Z.z,k ti ∅ _ Z.ti,by let(u,v,q):=Z.to;exact#[u,v,k to ∅ _ q],Bo (λo e=>k j1 ∅ o e) Z.h1,Bo (λo e=>k j2 ∅ o e) Z.h2]
 item:=by
  intro X L hw J S i l s σ H E I Y Z G;subst L hw J;let(g,f,x,y,V,U,ex,j):=G;let(d,C,B):=I.vj V;let(i2,t,r):=I.vj U;let(u,eu,ru):=C.get ex;let(v,ev,rv):=t.get j;have ne:∀c∈[z,ti,to,j1,j2],a≠c/\b≠c:=λc W=>#[Bn I V (Y c W),Bn I U (Y c W)];have D:HZ.Apart z ti to j1 j2 a b:=#[F.a1,F.a2,F.a3,F.a4,F.a5,F.a6,F.a7,F.a8,F.a9,F.b0,(ne z ∅).1,(ne to ∅).1,(ne j1 ∅).1,(ne j2 ∅).1,(ne z ∅).2,(ne to ∅).2,(ne j1 ∅).2,(ne j2 ∅).2];let(w1,w2,O):=Z.to;have R:X.A.in1.handled=ϋ:=I.ok.hd S;refine HZ.next_item D (Ck R j1 a _ k1) (Ck R j2 b _ k2) Z.z Z.ti O #[Z.h1,B] #[Z.h2,r] (by simpa using eu) (by simpa using ev) λm c1 c2 c3 c4 c5 c6 N=>#[_,rfl,?_];refine wpAny_letOwnedTupleGo_zip c1 λh2 d1 T=>?_;have hn:=I.aN.fresh (ahd _);have p:=Í Z.z;have yq:ag2 h2 _ _:=#[_,T.extBut _ _ (ŵ p) c5,rfl,_,rfl]
  have I2:Inv X l σ (upd H _ (.tup _)) { s with heap:=h2,toks:=s.toks }:=I.Wl (λc o n e=>by
   have q:=by simpa using n
   exact T.extBut c o q.1 (N c o q.1 q.2.2.1 q.2.2.2.1 q.2.2.2.2 e)) Y (ahd _) #[by show 2<=â;decide,_,.cons ru (.cons rv .nil),yq]
  refine#[.ref _,_,I2,rfl,#[_,x,y,hn,rfl,rfl,λxs' ys' q1 q2=>?_],?_,λc W=>?_]
  .rw[I.Nq q1 V,I.Nq q2 U];exact#[ex,j]
  .refine#[d1,T.extBut _ _ F.a1 (N _ _ F.a1 F.a5 F.a6 F.a7 Z.ti),#[_,_,T.extBut _ _ F.a2 c2],Bo (λo e=>T.extBut _ _ F.a3 e) c3.1,Bo (λo e=>T.extBut _ _ F.a4 e) c4.1]
  .rw[bR]
   .exact(Y c W).1
   .intro e
    obtain⟨o,eo⟩:∃o,s.heap.get? c=ϊ o:=by
     have M:=by simpa using W
     rcases M with q|q|q|q|q
     .rw[q];exact#[_,Z.z]
     .rw[q];exact#[_,Z.ti]
     .rw[q];exact#[_,O]
     .rw[q];let(o,e,_):=AX Z.h1;exact#[o,e]
     .rw[q];let(o,e,_):=AX Z.h2;exact#[o,e]
    exact absurd (Í eo) (by rw[e];exact ó _)
 done:=by
  intro X L hw J S i l s σ H E I Y Z G;subst L hw J;let(g,f,V,U,hle):=G;let(d,C,B):=I.vj V;let(i2,t,r):=I.vj U;have ne:∀c∈[z,ti,to,j1,j2],a≠c/\b≠c:=λc W=>#[Bn I V (Y c W),Bn I U (Y c W)];have D:HZ.Apart z ti to j1 j2 a b:=#[F.a1,F.a2,F.a3,F.a4,F.a5,F.a6,F.a7,F.a8,F.a9,F.b0,(ne z ∅).1,(ne to ∅).1,(ne j1 ∅).1,(ne j2 ∅).1,(ne z ∅).2,(ne to ∅).2,(ne j1 ∅).2,(ne j2 ∅).2];let(w1,w2,O):=Z.to;have R:X.A.in1.handled=ϋ:=I.ok.hd S;have l1:=C.length;have l2:=t.length;refine HZ.next_end D (Ck R j1 a _ k1) (Ck R j2 b _ k2) Z.z Z.ti O #[Z.h1,B] #[Z.h2,r] ?_ λm N=>#[rfl,I.MG (λc o n e=>by
   have q:=by simpa using n
   exact N c o q.1 q.2.2.1 q.2.2.2.1 q.2.2.2.2 e) Y]
  rcases hle with q|q
  .simp;omega
  .simp;omega
 self:=λA i s Q E Z h=>wpAny_pyIter_zip Z.z h
end L2
namespace HZ
open PySem PySem.Spec PyProof.Rows L2
@[reducible] noncomputable def zc:Bool->String
 |true=>"tuple_iterator"
 |false=>"list_iterator"
abbrev y1 (k:Bool) (h:afz) (m1:ę):afz:=h.push { cls:=.type (zc k),data:=.fields #v[.ref m1,.int 0 0] }
abbrev y2 (k l:Bool) (h:afz) (m1 m2:ę):afz:=(y1 k h m1).push { cls:=.type (zc l),data:=.fields #v[.ref m2,.int 0 0] }
abbrev y3 (k l:Bool) (h:afz) (m1 m2:ę):afz:=(y2 k l h m1 m2).push { cls:=.type "tuple",data:=.seq #v[.ref h.objs.size,.ref (y1 k h m1).objs.size] }
abbrev y4 (k l:Bool) (h:afz) (m1 m2:ę):afz:=(y3 k l h m1 m2).push { cls:=.type "tuple",data:=.seq #v[.none,.none] }
abbrev y5 (k l:Bool) (h:afz) (m1 m2:ę):afz:=(y4 k l h m1 m2).push { cls:=.type "zip",data:=.fields #v[.none,.bool ύ,.bool ύ,.ref (y2 k l h m1 m2).objs.size,.ref (y3 k l h m1 m2).objs.size] }
def Qo:∀{k},mi k s.heap m xs->Q (.ref s.heap.objs.size) { s with heap:=s.heap.push { cls:=.type (zc k),data:=.fields #v[.ref m,.int 0 0] } }->ð (ã P w) A (ag6 (.ref m)) Q E s
 |true,h,q=>wpAny_pyIter_tuple h q
 |false,h,q=>ź h q
def Xx (o):∀{k},mi k h m xs->mi k (h.push o) m xs
 |true,x=>Heap.IsTuple.push x o
 |false,x=>Heap.IsList.push x o
def Zm (k l:Bool) (m1 m2:ę) (xs ys:Array ì) :
  Meets (ε.«zip.__new__» #[[.type "zip",.ref m1,.ref m2],[]]) (λ_ R s=>mi k s.heap m1 xs/\mi l s.heap m2 ys/\R (.ok (.ret (.ref (y4 k l s.heap m1 m2).objs.size))) { s with heap:=y5 k l s.heap m1 m2 }) :=
 .of_wp λprog w A R s h=>by
  let(Z,g,d,Y,os):=s;let(X,W,h):=h;have V:=sub_zip;have U:mi k (Shared.heap #[Z,g,d,Y,os]) m1 xs:=X;have L2:mi l (Shared.heap #[Z.push { cls:=.type (zc k),data:=.fields #v[.ref m1,.int 0 0] },g,d,Y,os]) m2 ys:=Xx _ W
  wp_walk using Qo U,Qo L2
  exact#[_,rfl,h]
section
variable {P:Ć} {w:ģ} {A:Ĭ} {E:ì->ß->Prop} {s:ß}
def N8:∀{k},h.get? i=ϊ { cls:=.type (zc k),data:=.fields #v[.ref m,.int 0 0] }->oT k h i m 0
 |true,e=>#[_,e,rfl,rfl]
 |false,e=>#[_,e,rfl,rfl]
def Wn (h1:mi k s.heap m1 xs) (h2:mi l s.heap m2 ys)
 (h:∀h',IsZip h' (s.heap.objs.size+4) (s.heap.objs.size+2) (s.heap.objs.size+3) .none->aga h' (s.heap.objs.size+2) (.ref s.heap.objs.size) (.ref (s.heap.objs.size+1)) ->
   aga h' (s.heap.objs.size+3) .none .none->oT k h' s.heap.objs.size m1 0->oT l h' (s.heap.objs.size+1) m2 0->h'.objs.size=s.heap.objs.size+5 ->
 (∀c o,s.heap.get? c=ϊ o->h'.get? c=ϊ o)->Q (.ref (s.heap.objs.size+4)) { s with heap:=h' }):ð (ã P w) A (call (.type "zip") [.ref m1,.ref m2]) Q E s:=by
 refine callType_new F.called_zip (by decide) (F.typeCall_zip_2 ..) (F.newCall_zip_2 ..) (λobj=>F.args_object_init_3 obj ..) F.entry_zip_new (Zm k l m1 m2 xs ys) #[h1,h2,?_];have e1:(y1 k _ m1).objs.size=s.heap.objs.size+1:=ĉ ..;have e2:(y2 k l s.heap m1 m2).objs.size=s.heap.objs.size+2:=by rw[ĉ,e1]
 have Z:(y3 k l s.heap m1 m2).objs.size=s.heap.objs.size+3:=by rw[ĉ,e2]
 have Y:(y4 k l s.heap m1 m2).objs.size=s.heap.objs.size+4:=by rw[ĉ,Z]
 have V:(y5 k l s.heap m1 m2).objs.size=s.heap.objs.size+5:=by rw[ĉ,Y]
 have X:(y5 k l s.heap m1 m2).get? _=ϊ _:=Ê _ rfl;have W:(y5 k l s.heap m1 m2).get? _=ϊ _:=Á _ (Ê _ rfl);have g3:(y5 k l s.heap m1 m2).get? _=ϊ _:=Á _ (Á _ (Ê _ rfl));have g2:(y5 k l s.heap m1 m2).get? _=ϊ _:=Á _ (Á _ (Á _ (Ê _ rfl)));have g1:(y5 k l s.heap m1 m2).get? _=ϊ _:=Á _ (Á _ (Á _ (Á _ (Ê _ rfl))));rw[e2,Z,Y] at X;rw[e1,e2] at g3;rw[Z] at W;rw[e1] at g2;rw[Y];exact#[#[_,X,rfl],h _ X g3 W (N8 g1) (N8 g2) V λc o q=>Á _ (Á _ (Á _ (Á _ (Á _ q))))]
end
end HZ
namespace L2
open PySem PySem.Spec PyProof.Rows
def Xy (n:Nat):Ru (n+4) (n+2) (n+3) n (n+1):=by constructor<;>(show (_:Nat)≠_)<;>omega
section
variable {X:Cx} {elts:List afh} {kk:Nat} {tp:Pos}
def Qp (k l:Bool) (K:ae3) (ta:TA):TI:=fun σ H R=>ta σ H λY Z=>∃a b X W,Y=[.ref a,.ref b]/\kF k K Z a X/\kF l K Z b W/\R (Cm k l K a b) Z
noncomputable abbrev acD:=Qp ό ό
def Wo:ć "zip"=ϊ (.type "zip"):=nofun
def aaY {σ:St} {H} {s} (I:Inv X π σ H s):∀b∈[s.heap.objs.size+4,s.heap.objs.size+2,s.heap.objs.size+3,s.heap.objs.size,s.heap.objs.size+1],cY X π H b:=λb Y=>by
 have Z:s.heap.objs.size<=b:=by
  have q:=by simpa using Y
  omega
 exact I.oM Z (I.aN.fresh Z)
def N9 {k l} {a b} {ta} {p pos} (hg:Gl X "zip") (hm:X.mg "zip"=ϋ) (ha:PA X [a,b] ta) (hs:Õ [a,b] X.env=[(ύ,Ź a X.env),(ύ,Ź b X.env)]:=by rfl) (eD:Õ [b] X.env=[(ύ,Ź b X.env)]:=by rfl) :
  PI X (.Tuple elts kk tp) (.Call (.Name "zip" p) [a,b] [] pos) (Qp k l X.K ta):=by
 intro W s σ H R I h;refine Call_ (oq I hg hm Wo (Ś (aP (ha pos W s σ H _ I h) λD C ⟨B,V,Z,U,T⟩=>?_) (by rw[hs,eD]) (by rw[eD];rfl)));let(a,b,A,z,e,S,Q,q):=T;subst e;let(u,v,rfl,P,O):=vals2 U;cases P;cases O;let(y,_,N):=Z.vj S;let(x,_,M):=Z.vj Q;refine HZ.Wn N M λw Y L J G F t E=>?_;refine wpAny_pyIter_zip Y ?_;exact#[_,_,_,_,V,rfl,Z.kept E,Wm a b _ _ _ _ _ (Xy _),#[Y,L,#[_,_,J],G,F],aaY Z,q]
def Zn {p pos} (hg:Gl X "zip") (hm:X.mg "zip"=ϋ) (ha:PA X [a,b] ta) (hs:Õ [a,b] X.env=[(ύ,Ź a X.env),(ύ,Ź b X.env)]:=by rfl) (eD:Õ [b] X.env=[(ύ,Ź b X.env)]:=by rfl) :
  PI X (.Tuple elts kk tp) (.Call (.Name "zip" p) [a,b] [] pos) (acD X.K ta):=N9 hg hm ha hs eD
end
end L2
namespace PySem
end PySem
namespace L2
open PySem PySem.Spec PyProof.Rows
def map_getD (ns:List Int):(Ô ns.length).map (λi=>ns.getD i 0)=ns:=by
 apply į;intro i;rw[Þ];by_cases h:i<ns.length
 .rw[Ł h]
  simp[agp,É h]
 .rw[Ġ (by simpa using h),Ġ ⋯]
  rfl
section
variable {X:Cx} {π:List (ę×Obj)} {σ:St} {H:Hp} {s:ß} {a:ę} {y v:V} {u r:ì} {o:Option V} {A:Ĭ} {E:ì->ß->Prop}
def Inv.big (I:Inv X π σ H s):agK<s.heap.objs.size:=by
 have h:=(I.mod.glob.keeps I.bk).lt;exact Nat.lt_trans (by decide) h
def Zo (I:Inv X π σ H s) (mu:yJ (H a)) (hs:Ļ a s.heap h') (he:∃q,h'.get? a=ϊ q) (new:fO X.prog X.w (upd H a ob) h' a ob) :
  Inv X π σ (upd H a ob) { s with heap:=h',toks:=t' } :=
 I.write mu (.inl rfl) (λb q Z z=>(hs.2 b Z).trans z) he new
end
structure M1 (X:Cx) (o) (m) (apos:Pos) (e) (dw):Prop where
 base:agH o m X.env (Ź o X.env)=Ź o X.env
 mj:((ũ dw (Õ [e] X.env)).all (λx=>!x.1)&&(backToKw dw (agN [] X.env)).all (λx=>x.1.isSome)
  && ώ (([e]).length+([]:List agM).length+(if ([]:List agM).isEmpty then 0 else 1)<30))=ό
 line:(apos.endLine==dw.line)=ό
 trees:ũ dw (Õ [e] X.env)=[(ύ,Ź e X.env)]
structure M2 (X:Cx) (o) (m) (apos:Pos) (e f) (dw):Prop where
 base:agH o m X.env (Ź o X.env)=Ź o X.env
 mj:((ũ dw (Õ [e,f] X.env)).all (λx=>!x.1)&&(backToKw dw (agN [] X.env)).all (λx=>x.1.isSome)
  && ώ (([e,f]).length+([]:List agM).length+(if ([]:List agM).isEmpty then 0 else 1)<30))=ό
 line:(apos.endLine==dw.line)=ό
 trees:ũ dw (Õ [e,f] X.env)=[(ύ,Ź e X.env),(ύ,Ź f X.env)]
noncomputable def Pa (sc:Scope) (on:List (Str×NameKind)) (oN N:List Str) (nt:Nat) (cap:List Nat):Bool :=
 ώ (sc.kind=.function)&&sc.names.all (λx=>ώ (x.2≠.cell))&&sc.names.all (λx=>ώ (x.2=.local->sc.names.lookup x.1=ϊ .local)) &&
 sc.names.all (λx=>ώ (x.2=.free->sc.names.lookup x.1=ϊ .free/\(on.lookup x.1=ϊ .cell\/on.lookup x.1=ϊ .free)))&&ώ (N.length=nt+cap.length) &&
 (Ô cap.length).all (λk=>match cap[k]? with
  |some j=>match oN[j]? with
   |some x=>ώ (N[nt+k]?=ϊ x)&&ώ ((x,ą)∈sc.names)
   |none=>ύ
  |none=>ό)
def xS (h:Pa sc X.env.scope.names X.N N nt cap=ό):rG X sc N nt cap:=by
 delta Pa at h;erw[Ç,Ĉ,Æ] at h;obtain⟨⟨⟨⟨⟨Z,Y⟩,W⟩,V⟩,U⟩,T⟩:=h;refine#[Z,Y,W,λx S e=>V x S e,U,λk j e=>?_];have R:=(Ä.mp e).1;have:=T k (é.mpr R);rw[e] at this;dsimp only at this
 cases ex:X.N[j]? with
 |none=>rw[ex] at this;cases this
 |some x =>
  rw[ex] at this;erw[Ç,Æ] at this;exact#[x,rfl,this.1,this.2]
end L2
namespace TS
open PySem
abbrev nk (l:List Nat):Prop:=l.Pairwise (· < ·)
def Xz (xs:Array Nat) (k d):xs.getD k d=xs.toList.getD k d:=by
 cases xs with
 |mk l =>
  by_cases h:k<l.length
  .simp[Array.getD,agp,h]
  .simp[Array.getD,agp,h]
def AY (h:nk l) (zd:a<b) (hb:b<l.length):l.getD a 0<l.getD b 0:=by
 have:=ŋ.mp h a b ⋯ hb zd;simpa [É hb,É (show a<l.length by omega)] using this
def XA (l:List Nat) (hk:k<l.length) (d e):l.getD k d=l.getD k e:=by
 simp[agp,É hk]
theorem Fh (xs) (j) (hr:nk xs.toList):∀fuel lo hi,hi-lo<=fuel->lo<=hi->hi<=xs.toList.length->(∀k,k<lo->xs.toList.getD k 0<j)->(∀k,hi<=k->k<xs.toList.length->j<=xs.toList.getD k 0) ->
  agg xs j fuel lo hi<=xs.toList.length/\(∀k,k<agg xs j fuel lo hi->xs.toList.getD k 0<j)/\(∀k,agg xs j fuel lo hi<=k->k<xs.toList.length->j<=xs.toList.getD k 0)
 |0,lo,hi,S,R,Z,Y,X=>by
  have e:lo=hi:=by omega
  subst e;exact#[Z,Y,X]
 |fuel+1,lo,hi,S,R,Z,Y,X=>by
  delta agg;by_cases U:lo<hi
  .rw[õ U]
   dsimp only;have T:(lo+hi) / 2<xs.toList.length:=by omega
   rw[Xz,XA _ T j 0];by_cases W:xs.toList.getD ((lo+hi) / 2) 0<j
   .rw[õ W]
    refine Fh xs j hr fuel _ _ ⋯ ⋯ Z (λk Q=>?_) X;by_cases V:k=(lo+hi) / 2
    .rw[V];exact W
    .exact Nat.lt_trans (AY hr ⋯ T) W
   .rw[ÿ W]
    refine Fh xs j hr fuel _ _ ⋯ ⋯ ⋯ Y (λk Q V=>?_);by_cases P:k=(lo+hi) / 2
    .rw[P];omega
    .have:=AY hr (show (lo+hi) / 2<k by omega) V
     omega
  .rw[ÿ U]
   have e:lo=hi:=by omega
   subst e;exact#[Z,Y,X]
def Mh (xs) (j) (hr:nk xs.toList):ħ xs j<=xs.toList.length/\(∀k,k<ħ xs j->xs.toList.getD k 0<j)/\(∀k,ħ xs j<=k->k<xs.toList.length->j<=xs.toList.getD k 0):=by
 exact Fh xs j hr _ 0 _ ⋯ (Ă _) ∅ (λk Z=>by omega) (λk Z Y=>by simp at Y;omega)
def UO {l:List Nat} {p j} (h:∀k,k<p->l.getD k 0<j):∀x∈l.take p,x<j:=by
 intro x Y;let(k,X,e):=ť Y;have Z:k<p/\k<l.length:=by rw[Ŏ] at X;omega
 have:=h k Z.1;rw[<- e];simpa [É Z.2] using this
def UP {l:List Nat} {p j} (h:∀k,p<=k->k<l.length->j<=l.getD k 0):∀x∈l.drop p,j<=x:=by
 intro x Y;let(k,X,e):=ť Y;have Z:p+k<l.length:=by rw[θ] at X;omega
 have:=h _ ⋯ Z;rw[<- e];simpa [É Z] using this
def XB (hr:nk xs.toList) (hn:xs[ħ xs j]?≠ϊ j):nk (SetTable.insertAt xs (ħ xs j) j).toList:=by
 let(T,V,U):=Mh xs j hr;rw[SetTable.toList_insertAt];have a1:=UO V;have a2:∀x∈xs.toList.drop (ħ xs j),j<x:=by
  intro x hx;have Y:=UP U;have X:nk (xs.toList.drop (ħ xs j)):=agq (Ń ..) hr
  cases Z:xs.toList.drop _ with
  |nil=>rw[Z] at hx;cases hx
  |cons y r =>
   rw[Z] at X hx Y;have hy:j≠y:=by
    intro e;apply hn;have:(xs.toList.drop (ħ xs j))[0]?=ϊ y:=by rw[Z];rfl
    have e2:xs.toList[ħ xs j]?=ϊ y:=by simpa using this
    rw[<- ä,e2,e]
   have W:=Nat.lt_of_le_of_ne (Y y Ë) hy
   rcases Ð.mp hx with e|hx
   .rw[e];exact W
   .exact Nat.lt_trans W ((û.mp X).1 x hx)
 first
  |(refine ô.mpr ⟨agq (Ż ..) hr,û.mpr ⟨a2,agq (Ń ..) hr⟩,λx hx y hy=>?_⟩
    rcases Ð.mp hy with e|hy
    .rw[e];exact a1 x hx
    .exact Nat.lt_trans (a1 x hx) (a2 y hy))
  |trace_state
theorem Fi (t) (h):∀fuel p j dm,(∀d,p.dummy=ϊ d->t.slot d=.dummy)->ag3 t (λ_=>h+1) h fuel p=ϊ (.empty j dm)->t.slot j=.empty/\∀d,dm=ϊ d->t.slot d=.dummy
 |0,p,j,dm,Y,e=>by simp[ag3] at e
 |fuel+1,p,j,dm,Y,e=>by
  delta ag3 at e
  cases hs:t.slot p.j with
  |empty =>
   rw[hs] at e;simp at e;rw[<- e.1,<- e.2];exact#[hs,Y]
  |dummy =>
   rw[hs] at e;refine Fi t h fuel _ j dm (λd Z=>?_) e;delta SetTable.advance at Z;split at Z
   .simp at Z;rw[<- Z];exact hs
   .simp at Z;rw[<- Z];exact hs
  |live i =>
   rw[hs] at e;have X:(h+1==h)=ύ:=by simp;omega
   erw[X,Ò,Ğ] at e;refine Fi t h fuel _ j dm (λd Z=>?_) e;delta SetTable.advance at Z;split at Z
   .exact Y d Z
   .exact Y d Z
def MH {t:SetTable} {j} (h:t.slot j=.empty\/t.slot j=.dummy):t.place[ħ t.place j]?≠ϊ j:=by
 intro e;have:t.slot j=.live (ħ t.place j):=by
  delta SetTable.slot;simp[e]
 rw[this] at h
 rcases h with h|h<;>cases h
def Wq {t:SetTable} {h} {j} {b} (e:t.freeSlot h=ϊ (j,b)):t.place[ħ t.place j]?≠ϊ j:=by
 delta SetTable.freeSlot SetTable.probe at e;split at e
 .rename_i Y Z X
  have k:=Fi t h _ _ Y Z (λd W=>by simp[SetTable.probeStart] at W) X;simp at e;rw[<- e.1]
  cases Z with
  |none=>exact MH (.inl k.1)
  |some d=>exact MH (.inr (k.2 d rfl))
 .cases e
structure jK (led) (t:SetTable):Prop where
 led:t.led=led
 rise:t.plain=ό->nk t.place.toList
def As (h:jK led t) (n):jK led (t.standIn n):=#[h.led,λz=>by simp[SetTable.standIn] at z]
def Vj {t} (h:jK led t) (es) (hs) (x):jK led (layNew t es hs x).2.1:=by
 delta layNew;split
 .rename_i slot Y e
  dsimp only;delta SetTable.orStandIn;have Z:jK led (t.put slot).1:=#[h.led,λz=>XB (h.rise z) (Wq e)];split
  .exact Z
  .exact As Z _
 .exact As h _
def XC {mask finger moves} {led plain} {hs} {o} (e:SetTable.laid mask finger moves led plain hs=ϊ (t,o)):jK led t/\t.plain=plain:=by
 delta SetTable.laid at e
 cases X:SetTable.layClean mask hs with
 |none=>rw[X] at e;simp at e
 |some owner =>
  rw[X] at e;simp at e;let(e1,e2):=e;subst e1;refine#[#[rfl,λ_=>?_],rfl];erw[List.map_filterMap];refine List.pairwise_filterMap.mpr ?_;refine List.Pairwise.imp ?_ (agb);intro a b U x Z y Y
  cases W:(owner[a]?.getD ϋ) with
  |none=>rw[W] at Z;simp at Z
  |some q =>
   cases V:(owner[b]?.getD ϋ) with
   |none=>rw[V] at Y;simp at Y
   |some r =>
    rw[W] at Z;simp at Z Y;omega
def Wr (h:jK led t) (es) (n):jK led (relayAll t es n).2.1:=by
 delta relayAll;split
 .rename_i Z o e
  dsimp only;split
  .have k:=XC e
   exact#[k.1.led.trans h.led,k.1.rise]
  .exact As h _
 .exact As h _
def MI (led):jK led (.fresh 0 0 led):=#[rfl,λ_=>List.Pairwise.nil]
open PySem.Spec PyProof.Rows
section
variable {P:Ć} {w:ģ} {A:Ĭ} {E:ì->ß->Prop} {s:ß} {led:Bool}
def gF (P:Ć) (w:ģ) (led:Bool) (h:afz) (a:ę) (S:Int->Bool) (n:Nat):Prop :=
 ∃o Z Y t,h.get? a=ϊ o/\o.ExactSet/\o.data=.set Z Y t/\ElemsOf (ψ P w) Z.toList/\(∀k,S k=ό↔∃e∈Z.toList,(ψ P w).is k e.2=ό)/\Z.size<afl/\t.fits Z.size=ό/\Z.size=n/\jK led t
def gF.at (x:gF P w led h a S n) (k:∀o,h.get? a=ϊ o->h'.get? a=ϊ o):gF P w led h' a S n:=by
 let(o,Z,Y,t,X,r):=x;exact#[o,Z,Y,t,k o X,r]
def gF.congr (x:gF P w led h a S n) (e:∀k,S k=S' k) (en:n=n'):gF P w led h a S' n':=by
 obtain rfl:S=S':=funext e;subst en;exact x
def Fj {es jc} {ep} {t t'} {h:afz} (hu:h.get? a=ϊ u) (hx:u.ExactSet) (hd:u.data=.set es ep t) {S}
  (c1:ElemsOf (ψ P w) jc.toList) (c2:∀k,S k=ό↔∃e∈jc.toList,(ψ P w).is k e.2=ό) (c3:jc.size<afl) (c4:t'.fits jc.size=ό) (c5:jK led t') :
  (h.update a (Obj.putSet jc t')).get? a=ϊ { u with data:=.set jc (ep+1) t' }/\gF P w led (h.update a (Obj.putSet jc t')) a S jc.size:=by
 have g:=(SetOf_store hu hx hd c1 c2 c3 c4).1;exact#[g,_,jc,_,t',g,hx,rfl,c1,c2,c3,c4,rfl,c5]
def Oa {S} {n} {k} {tk} {Q} (hS:gF P w led s.heap a S n) (Qq:n+1<afl)
  (h:∀h',Ļ a s.heap h'->gF P w led h' a (λj=>S j||ώ (j=k)) (if S k then n else n+1)->Q (!S k) { s with heap:=h' }) :
  ð (ã P w) A (setAddHashed a (.int k tk) ((ψ P w).hash k)) Q E s:=by
 let(u,U,c,t,R,K,O,J,I,m,C,i,g):=hS;have ky:(ψ P w).is k (.int k tk)=ό:=intKind_is ..;have sc:(ag8 k tk).scannable=ό:=rfl;refine À (abL R O C ?_);dsimp only;rw[byScan_of sc m J];refine À (À (ş ?_));refine À (wpAny_setScan_of ky R O C J ?_)
 cases f:U.toList.findIdx? (λe=>(ψ P w).is k _) with
 |some j =>
  let(hj,pj,_):=List.findIdx?_eq_some_iff_getElem.mp f;have N:=(I k).mpr #[_,Ţ hj,pj];have q:=h _ (Heap.SameBut.refl a _) #[u,U,c,t,R,K,O,J,λj'=>by
   rw[afV,Æ,<- I j'];exact#[λz=>z.elim id λe=>by rw[e];exact N,œ],m,C,by rw[N];exact i,g]
  rw[N] at q;exact Â (Â q)
 |none =>
  have N:S k=ύ:=by
   rw[<- afG,I k];rintro ⟨e,X,pe⟩;have z:=List.findIdx?_eq_none_iff.mp f e X;rw[pe] at z;cases z
  have way:∀b {B} {y},y () B->ð (ã P w) A (match b with|true=>rule "set.scan.the-table-gave-way"|false=>pure ()) y E B :=
   λb B y q=>by cases b<;>first|exact Â q|exact ş q
  have pm:=layNew_perm t U ((ψ P w).hash k) (.int k tk);have x:=layNew_fits t U ((ψ P w).hash k) (.int k tk);have H:=Vj g U ((ψ P w).hash k) (.int k tk);generalize layNew t U _ _=L at pm x H |-;let(Z,t1,ahZ,ah8):=L;dsimp only at pm x H |-;rw[Ŕ] at pm;have v:=(J.push ky sc).perm pm;have r:=mem_push_iff ky I pm;have z1:Z.size=n+1:=by
   have l:=pm.length_eq;rw[Î,å,å,i] at l;exact l
  have W:Z.size<afl:=by omega
  refine À (way _ ?_);let(g1,d):=Fj R K O v r W x H;have G:=ġ s.heap a (Obj.putSet Z t1);have fin:∀h',Ļ a _ h'->gF P w led h' a (λj=>S j||ώ _) Z.size->Q ό _:=λh' sb T=>by
   have q:=h h' sb;rw[N] at q;rw[z1] at T;exact q T
  have Y:=relayAll_perm t1 Z (SetTable.grown Z.size);have F:=relayAll_fits t1 Z (SetTable.grown Z.size);have D:=Wr H Z (SetTable.grown Z.size);have hv:hashByValue 8 (ag8 k tk)=pure ό:=rfl;split
  .refine À ?_
   refine Â ?_;erw[ĭ];refine À (agh R O ?_ (afu W));split
   .generalize relayAll t1 Z _=L2 at Y F D |-
    let(p,t2,o):=L2;have V:=by
     have l:=Y.length_eq;rwa [å] at l
    have f2:∀j,(S j||ώ _)=ό↔∃e∈p.toList,(ψ P w).is j _=ό:=λj=>(r j).trans #[λ⟨e,X,q⟩=>#[e,Y.mem_iff.mpr X,q],λ⟨e,X,q⟩=>#[e,Y.mem_iff.mp X,q]];refine À (way _ ?_);refine À (agh g1 rfl ?_ (afu (by rw[V];exact W)));let(g2,M):=Fj g1 K rfl (v.perm Y) f2 (by rw[V];exact W) F D;rw[V] at M;exact Â (Â (fin _ (G.trans (ġ _ a _)) M))
   .exact Â (Â (fin _ G d))
  .refine À (Â ?_)
   erw[ĭ];refine À (agh R O ?_ (afu W));split
   .generalize relayAll t1 Z _=L2 at Y F D |-
    let(p,t2,o):=L2;have V:=by
     have l:=Y.length_eq;rwa [å] at l
    have f2:∀j,(S j||ώ _)=ό↔∃e∈p.toList,(ψ P w).is j _=ό:=λj=>(r j).trans #[λ⟨e,X,q⟩=>#[e,Y.mem_iff.mpr X,q],λ⟨e,X,q⟩=>#[e,Y.mem_iff.mp X,q]];refine À (way _ ?_);refine À (agh g1 rfl ?_ (afu (by rw[V];exact W)));let(g2,M):=Fj g1 K rfl (v.perm Y) f2 (by rw[V];exact W) F D;rw[V] at M;exact Â (Â (fin _ (G.trans (ġ _ a _)) M))
   .exact Â (Â (fin _ G d))
end
def TY:entryFor table "set.__iter__"=ϊ ε.«frozenset.__iter__»:=entryFor_alias (id':="frozenset.__iter__") (by kernel_rfl) rfl nofun (by kernel_rfl)
def lG:Slot "set_iterator" "__next__" "set_iterator.__next__" :=
 .of (owner:="set_iterator") (n:="__next__") (by kernel_rfl) nofun nofun nofun
  (by first|exact .inl nofun|exact .inr nofun) (by kernel_rfl)
def Aj:entryFor table "set_iterator.__next__"=ϊ ε.«set_iterator.__next__»:=entryFor_of_tree (by kernel_rfl)
def An (a):argsOk "set_iterator.__next__" #[[a],[]]:=by kernel_rfl
def LB:Slot "set_iterator" "__iter__" "set_iterator.__iter__" :=
 .of (owner:="set_iterator") (n:="__iter__") (by kernel_rfl) nofun nofun nofun
  (by first|exact .inl nofun|exact .inr nofun) (by kernel_rfl)
def ku (h:afz) (I a:ę) (first:ì) (i n ep:Nat):Prop:=∃o,h.get? I=ϊ o/\o.cls=.type "set_iterator"/\o.data=.fields #v[first,.int i 0,.ref a,.int n 0,.int ep 0]
section
variable {P:Ć} {w:ģ} {A:Ĭ} {E:ì->ß->Prop} {s:ß}
def Ob {slot i n ep nx:Nat} {es} {Q} (hit:ku s.heap I a (.int slot 0) i n ep)
 (hu:s.heap.get? a=ϊ u) (hd:u.data=.set es ep t) (hf:t.fits es.size=ό) (hn:es.size=n)
 (hs:∀A' Q' E',Q' (ϊ (x,nx)) s->ð (ã P w) A' (setNext a slot i ep) Q' E' s)
 (hQ:∀h',ku h' I a (.int nx 0) (i+1) n ep->Ļ I s.heap h'->Q (ϊ x) { s with heap:=h' }):ð (ã P w) A (agn (.ref I)) Q E s:=by
 let(o,Y,X,Z):=id hit;have W:s.TypeIs (.ref I) _:=#[o,Y,X];refine À (υ (ċ W lG
  (Ą lG W Aj ?_ (An _))))
 refine À (Â ?_);refine À (afC Y Z ?_);refine À (ae9 hu hd hf ?_);rw[hn];simp only[ŕ,Ò,↓reduceIte,ă];refine À (hs _ _ _ ?_);refine À (Ŷ Y Z ∅ ?_);refine À (Ŷ (þ _ Y (Œ (Đ Z _))) (Đ Z _) ∅ ?_);refine Â #[x,rfl,Â (hQ _ #[_,þ _ (þ _ Y (Œ (Đ Z _))) (Œ (Đ (Đ Z _) _)),(aft ..).trans ((aft ..).trans X),?_] ((ġ ..).trans (ġ ..)))];rw[Đ (Đ Z _)];simp[ŷ]
def Vk (hm:m≠0) (h:Q (w.draws src (s.drawn.get src) % m) { s with drawn:=s.drawn.bump src }):ð (ã P w) A (choose src m) Q E s:=fun Y p Z=>by
 exact#[hm,h]
def MJ (hh:A.handled=ϋ) (ho:s.heap.get? I=ϊ o) (fH:o.data=.fields vs) (h2:2<vs.size)
 (hQ:∀h',agf I s.heap h'->Q ϋ { s with heap:=h' }) :
  ð (ã P w) A.in1 (setField (.ref I) 2 .none >>= λ_=>newExc (.type "StopIteration") [] >>= λe=>(raiseNew e)) (λfin s'=>∃v,fin=Fin.done (Flow.ret v)/\ð (ã P w) A (pure (ϊ v)) Q E s')
   (λe s'=>ð (ã P w) A (isInstance e (Ī "StopIteration") >>= λb=>if b=ό then pure ϋ else throw e) Q E s') s:=by
 refine À (Ŷ ho fH h2 ?_);refine À ?_
 refine À (m:=firstArgMember ..) (ſ (by first|rfl | (rfl)) ?_)
 refine Č ?_ (by size_fits);refine À (wpAny_handled ?_)
 first|rw[hh]|rw[hh]
 refine À (Â (wpAny_throw ?_));refine À (afF #[_,Ê _ rfl,rfl] isSubtype_stop ?_);exact Â (hQ _ (((ġ ..).extBut.push _).push _))
def Pb {slot i n ep:Nat} {es} {Q} (hh:A.handled=ϋ) (hit:ku s.heap I a (.int slot 0) i n ep)
 (hu:s.heap.get? a=ϊ u) (hd:u.data=.set es ep t) (hf:t.fits es.size=ό) (hn:es.size=n)
 (hs:∀A' Q' E',Q' ϋ s->ð (ã P w) A' (setNext a slot i ep) Q' E' s)
 (hQ:∀h',agf I s.heap h'->Q ϋ { s with heap:=h' }):ð (ã P w) A (agn (.ref I)) Q E s:=by
 let(o,Z,W,Y):=id hit;have X:s.TypeIs (.ref I) _:=#[o,Z,W];refine À (υ (ċ X lG
  (Ą lG X Aj ?_ (An _))))
 refine À (Â ?_);refine À (afC Z Y ?_);refine À (ae9 hu hd hf ?_);rw[hn];simp only[ŕ,Ò,↓reduceIte,ă];refine À (hs _ _ _ ?_);exact MJ hh Z Y ∅ hQ
def XD {i n ep pl:Nat} {es} {x} {Q} (hit:ku s.heap I a (.ref tp) i n ep)
 (hu:s.heap.get? a=ϊ u) (hd:u.data=.set es ep t) (hf:t.fits es.size=ό) (hn:es.size=n) (Jo:s.heap.IsTuple tp places) (cz:places[i]?=ϊ (.int pl tk)) (hx:es[pl]?=ϊ x)
 (hQ:∀h',ku h' I a (.ref tp) (i+1) n ep->Ļ I s.heap h'->Q (ϊ x.2) { s with heap:=h' }):ð (ã P w) A (agn (.ref I)) Q E s:=by
 let(o,Z,X,Y):=id hit;let(op,V,U,np,T):=Jo;have W:s.TypeIs (.ref I) _:=#[o,Z,X];refine À (υ (ċ W lG
  (Ą lG W Aj ?_ (An _))))
 refine À (Â ?_);refine À (afC Z Y ?_);refine À (ae9 hu hd hf ?_);rw[hn];simp only[ŕ,Ò,↓reduceIte,ă];refine À (Ď V T ?_);dsimp only;rw[cz];refine À (À (abL hu hd hf ?_));simp only[ŕ,Ò,↓reduceIte,ă];rw[hx];refine Â ?_;refine À (Ŷ Z Y ∅ ?_);refine Â #[_,rfl,Â (hQ _ #[_,þ _ Z (Œ (Đ Y _)),(aft ..).trans X,?_] (ġ ..))];rw[Đ Y];simp[ŷ]
def Zp (hh:A.handled=ϋ) (hit:ku s.heap I a (.ref tp) i n ep)
 (hu:s.heap.get? a=ϊ u) (hd:u.data=.set es ep t) (hf:t.fits es.size=ό) (hn:es.size=n) (Jo:s.heap.IsTuple tp places) (cz:places[i]?=ϋ)
 (hQ:∀h',agf I s.heap h'->Q ϋ { s with heap:=h' }):ð (ã P w) A (agn (.ref I)) Q E s:=by
 let(o,Z,W,Y):=id hit;let(op,V,U,np,T):=Jo;have X:s.TypeIs (.ref I) _:=#[o,Z,W];refine À (υ (ċ X lG
  (Ą lG X Aj ?_ (An _))))
 refine À (Â ?_);refine À (afC Z Y ?_);refine À (ae9 hu hd hf ?_);rw[hn];simp only[ŕ,Ò,↓reduceIte,ă];refine À (Ď V T ?_);dsimp only;rw[cz];refine À (Ŷ Z Y ∅ ?_);exact MJ hh (þ _ Z (Œ (Đ Y _))) (Đ Y _) ∅ λh' e=>hQ h' (Heap.ExtBut.trans (ġ ..).extBut e)
end
def Uc:entryFor table "set_iterator.__iter__"=ϊ ε.«dict_keyiterator.__iter__»:=entryFor_alias (id':="dict_keyiterator.__iter__") (by kernel_rfl) rfl nofun (by kernel_rfl)
def Uu (a):argsOk "set_iterator.__iter__" #[[a],[]]:=by kernel_rfl
section
variable {P:Ć} {w:ģ} {A:Ĭ} {E:ì->ß->Prop} {s:ß}
def Fm (hit:ku s.heap I a f i n ep) (h:Q (.ref I) s):ð (ã P w) A (ag6 (.ref I)) Q E s:=by
 let(o,Y,X,W):=id hit;have Z:s.TypeIs (.ref I) _:=#[o,Y,X];refine wpAny_pyIter_slot Z LB (Ą LB Z Uc ?_ (Uu _));exact Â #[_,rfl,_,_,Z,lG.lookup,h]
def ku.at (x:ku h I a f i n ep) (k:∀o,h.get? I=ϊ o->h'.get? I=ϊ o):ku h' I a f i n ep:=by
 let(o,Z,r):=x;exact#[o,k o Z,r]
def MK (jB:w.params.followText "set-order"=ό) (hu:s.heap.get? a=ϊ u) (hd:u.data=.set es ep t) (hf:t.fits es.size=ό)
 (h:Q' (((afW (w.params.setOrder a ep) es)[i]?).map λe=>(e.2,slot)) s):ð (ã P w) A (setNext a slot i ep) Q' E s:=by
 refine À (abL hu hd hf ?_)
 show ð _ _ (if w.params.followText _=ό then _ else _) ..
 rw[õ jB];simp only[ŕ,Ò,↓reduceIte];refine À (À (abL hu hd hf ?_))
 show ð _ _ (if w.params.followText _=ό then _ else _) ..
 rw[õ jB];refine À (afc (Â ?_));exact Â h
def ug (hr:nk xs.toList) (hi:i<=xs.toList.length) (h1:∀k,k<i->xs.toList.getD k 0<slot) (h2:∀k,i<=k->k<xs.toList.length->slot<=xs.toList.getD k 0):ħ xs slot=i:=by
 let(V,a1,a2):=Mh xs slot hr;by_cases Y:ħ xs slot<i
 .have X:=a2 _ (ahd _) ⋯
  have W:=h1 _ Y;omega
 .by_cases Z:i<ħ xs slot
  .have X:=a1 i Z
   have W:=h2 i (ahd _) ⋯;omega
  .omega
def Mi (jB:w.params.followText "set-order"=ύ) (hu:s.heap.get? a=ϊ u) (hd:u.data=.set es ep t) (hf:t.fits es.size=ό)
 (hl:t.led=ό) (hp:t.plain=ό\/es.size<=1) (hb:ħ t.place slot=i)
 (h:Q' (match es[i]?,t.place[i]? with|some (_,x),ϊ j=>ϊ (x,j+1) | _,_=>ϋ) s):ð (ã P w) A (setNext a slot i ep) Q' E s:=by
 refine À (abL hu hd hf ?_)
 show ð _ _ (if w.params.followText _=ό then _ else _) ..
 rw[ÿ (by rw[jB];decide)];split
 .rename_i Z
  have Y:(!t.plain&&ώ _)=ό:=Z
  rcases hp with hp|hp
  .rw[hp] at Y;cases Y
  .simp at Y;omega
 .refine À ?_
  show ð _ _ (if (!t.led&&!es.isEmpty)=ό then _ else _) ..
  rw[hl];refine Â ?_;rw[hb];exact Â h
def DY (sb:Ļ I s.heap h'):Moved [I] (λa b=>b=a) s { s with heap:=h' }:=#[λb o Z e=>by rw[sb.2 b (λz=>Z (by simp[z]))];exact e,rfl,rfl,rfl,ahd _]
def Ed (sb:agf I s.heap h'):Moved [I] (λa b=>b=a) s { s with heap:=h' }:=#[λb o Z e=>sb b o (λz=>Z (by simp[z])) e,rfl,rfl,rfl,ahd _]
end
def Vl (hh:A.handled=ϋ) (gM:a≠I) (jB:w.params.followText "set-order"=ό) (hd:u.data=.set es ep t) (hf:t.fits es.size=ό) (hsz:(afW (w.params.setOrder a ep) es).size=es.size) :
  WalksS P w A I [I,a] [I] (λa b=>b=a) es.size (λi v=>((afW (w.params.setOrder a ep) es).map (·.2))[i]?=ϊ v) (λi s=>ku s.heap I a (.int 0 0) i es.size ep/\s.heap.get? a=ϊ u) where
 sub:=λb W=>by simp at W;simp[W]
 grefl:=λ_=>rfl
 gtrans:=λ_ _ _ T S=>S.trans T
 frame:=λi s V L Z _ U=>#[Z.1.at λo e=>U I ∅ o e,U a ∅ _ Z.2]
 item:=λi s Q E hi Z Y=>by
  have R:i<(afW (w.params.setOrder a ep) es).size:=by rw[hsz];exact hi
  have ex:(afW (w.params.setOrder a ep) es)[i]?=ϊ (afW _ es)[i]:=by simp[R]
  refine Ob Z.1 Z.2 hd hf rfl (λO N M q=>MK jB Z.2 hd hf (by rw[ex];exact q)) λV it X=>?_;exact Y _ _ (by simp[ex]) #[it,by rw[X.2 a gM];exact Z.2] (DY X)
 done:=λs Q E Z Y=>by
  refine Pb hh Z.1 Z.2 hd hf rfl (λO N M q=>MK jB Z.2 hd hf (by
   rw[show (afW _ es)[es.size]?=ϋ by simp[hsz]];exact q)) λV X=>Y _ (Ed X)
 self:=λi s Q E Z Y=>Fm Z.1 Y
def UQ (hh:A.handled=ϋ) (gM:a≠I) (jB:w.params.followText "set-order"=ύ) (hd:u.data=.set es ep t) (hf:t.fits es.size=ό) (hl:t.led=ό) (hp:t.plain=ό\/es.size<=1) (hr:nk t.place.toList) :
  WalksS P w A I [I,a] [I] (λa b=>b=a) es.size (λi v=>(es.map (·.2))[i]?=ϊ v) (λi s=>∃slot:Nat,ku s.heap I a (.int slot 0) i es.size ep/\s.heap.get? a=ϊ u/\i<=es.size/\(∀k,k<i->t.place.toList.getD k 0<slot)/\∀k,i<=k->k<t.place.toList.length->slot<=t.place.toList.getD k 0) where
 sub:=λb N=>by simp at N;simp[N]
 grefl:=λ_=>rfl
 gtrans:=λ_ _ _ K J=>J.trans K
 frame:=λi s M B Y _ V=>by
  let(slot,X,Z,T):=Y;exact#[slot,X.at λo e=>V I ∅ o e,V a ∅ _ Z,T]
 item:=λi s Q E hi Y W=>by
  let(slot,X,Z,T,S,R):=Y;have H:t.place.toList.length=es.size:=by
   erw[SetTable.fits,Ç,beq_iff_eq,Æ] at hf;simpa using hf.1
  have L:i<t.place.toList.length:=by omega
  have e1:es[i]?=ϊ es[i]:=by simp[hi]
  have e2:t.place[i]?=ϊ (t.place.toList.getD i 0):=by
   simp[agp,É L]
  refine Ob X Z hd hf rfl (λG F D q=>Mi jB Z hd hf hl hp (ug hr ⋯ S R) (by rw[e1,e2];exact q)) λM it U=>?_;refine W _ _ (by simp[e1]) #[_,it,by rw[U.2 a gM];exact Z,hi,λk V=>?_,λk V C=>?_] (DY U)
  .by_cases O:k=i
   .rw[O];omega
   .have:=AY hr (show k<i by omega) L
    omega
  .have:=AY hr (show i<k by omega) C
   omega
 done:=λs Q E Y W=>by
  let(slot,X,Z,T,S,R):=Y;have H:t.place.toList.length=es.size:=by
   erw[SetTable.fits,Ç,beq_iff_eq,Æ] at hf;simpa using hf.1
  refine Pb hh X Z hd hf rfl (λG F D q=>Mi jB Z hd hf hl hp (ug hr ⋯ S R) (by
   rw[show es[es.size]?=ϋ by simp];exact q)) λM U=>W _ (Ed U)
 self:=λi s Q E Y W=>by
  let(slot,X,_):=Y;exact Fm X W
def UR (hh:A.handled=ϋ) (gM:a≠I) (hnt:tp≠I) (hd:u.data=.set es ep t) (hf:t.fits es.size=ό) (pl:List Nat) (cz:pl.length=es.size) (gP:∀x∈pl,x<es.size) :
  WalksS P w A I [I,a,tp] [I] (λa b=>b=a) es.size (λi v=>(pl.map λk=>(es.getD k (0,Value.none)).2)[i]?=ϊ v) (λi s=>ku s.heap I a (.ref tp) i es.size ep/\s.heap.get? a=ϊ u/\s.heap.IsTuple tp (pl.map λ(k:Nat)=>ŷ k).toArray) where
 sub:=λb U=>by simp at U;simp[U]
 grefl:=λ_=>rfl
 gtrans:=λ_ _ _ R O=>O.trans R
 frame:=λi s T tk Z _ Y=>#[Z.1.at λo e=>Y I ∅ o e,Y a ∅ _ Z.2.1,let ⟨o,V,r⟩:=Z.2.2;#[o,Y tp ∅ o V,r]]
 item:=λi s Q E hi Z X=>by
  have S:i<pl.length:=by omega
  have e1:=É S;have Y:=gP _ (Ţ S);refine XD (pl:=pl[i]) (x:=es.getD pl[i] (0,Value.none)) (tk:=0) Z.1 Z.2.1 hd hf rfl Z.2.2 (by simp[e1,ŷ]) (by simp[Y,Array.getD]) λT it W=>?_
  refine X _ _ (by simp[e1]) #[it,by rw[W.2 a gM];exact Z.2.1,let ⟨o,V,r⟩:=Z.2.2;#[o,by rw[W.2 tp hnt];exact V,r]] (DY W)
 done:=λs Q E Z X=>Zp hh Z.1 Z.2.1 hd hf rfl Z.2.2 (by simp[cz]) λT W=>X _ (Ed W)
 self:=λi s Q E Z X=>Fm Z.1 X
noncomputable def fu (w:ģ):Bool:=!(w.params.followText "set-order")
section
variable {P:Ć} {w:ģ} {A:Ĭ} {E:ì->ß->Prop} {s:ß}
def XE (a:ì)
 (hq:Q₁ (.ref s.heap.objs.size) { s with heap:=s.heap.push { cls:=.type "set",dict:=ϋ,data:=.set #v[] 0 (.fresh 0 0 (fu w)) } }) :
  ů (ã P w) A (.call (.builtin "set.__new__") #[[.type "set",a],[]]) (wants Q₁ E) s:=by
 refine afX ?_;show ð _ A.in1 (checkBuiltinCall "set.__new__" #[[.type "set",a],[]] >>= λ_=>again (.builtin "set.__new__" #[[.type "set",a],[]])) _ _ s;refine À ?_;refine ſ (F.newCall_set_1 a) ?_;refine Â #[Ķ F.plain_set_new _,Ģ F.entry_set_new ?_];rw[ņ F.plain_set_new _];delta ε.«set.__new__» Builtin.Frozenset.newClass;have ss:=sub_set_self;let(Z,Y,X,W,V):=s;dsimp only
 wp_walk
 refine afc (Â ?_);dsimp only;erw[newObj];refine À (wpAny_alloc ?_);exact Â (Â hq)
end
section
variable {P:Ć} {w:ģ} {A:Ĭ} {R:Result->ß->Prop} {I:ę} {fp wr:List ę} {G:Array GenState->Array GenState->Prop} {n:Nat} {Pv:Nat->ì->Prop} {St:Nat->ß->Prop} {led:Bool}
def XF (val) {i n} (h:i<=n):(ų val i).length<=(ų val n).length:=by
 induction h with
 |refl=>exact ahd _
 |step _ ih =>
  rw[firstMet_succ,step_length]
  split<;>omega
def XG (W:WalksS P w A.in1 I fp wr G n Pv St) (S) (zf:S∉fp)
  (val) (aeg:∀i v,Pv i v->∃t,v=.int (val i) t) (hb:(ų val n).length+1<afl) :
  ∀k i s,n-i=k->i<=n->St i s ->
   gF P w led s.heap S (λj=>(ų val i).any (·==j)) (ų val i).length ->
   (∀s',Moved (S::wr) G s s'->gF P w led s'.heap S (λj=>(ų val n).any (·==j)) (ų val n).length->R (.ok (.ret .none)) s') ->
   ů (ã P w) A (.builtin "set.update.loop" #[[.ref S,.ref I],[]]) R s:=by
 have nw:=λz=>zf (W.sub _ z);have sw:∀b∈wr,b∈S::wr:=λb z=>Ì _ z;intro k
 induction k with
 |zero =>
  intro i s O hi Z T Y;obtain rfl:i=n:=by omega
  refine Ģ F.entry_set_update_loop ?_;refine À (W.done s _ _ Z λs' m=>?_);exact Â (Y s' (m.mono sw) (T.at λo e=>m.heap S o nw e))
 |succ k ih =>
  intro i s O hi Z T Y;have lt:i<n:=by omega
  refine Ģ F.entry_set_update_loop ?_;rw[ņ F.plain_set_update_loop _];refine À (W.item i s _ _ lt Z λv s' pv N m=>?_);let(t,rfl):=aeg i v pv;have M:=T.at λo e=>m.heap S o nw e;refine À (ĝ ?_);refine À ((ψ P w).pyHash (intKind_is ..) ?_);have room:(ų val i).length+1<afl:=by have:=XF val hi;omega
  refine Oa M room λL Q K=>?_;have J:gF P w led L S (λj=>(ų val _).any _) (ų val (i+1)).length:=K.congr (λj=>by rw[firstMet_succ,step_any]) (by rw[firstMet_succ,step_length]);refine Â #[Ķ F.plain_set_update_loop _,ih _ _ ⋯ lt (W.frame _ s' _ _ N (Ť _) λb X o e=>?_) J λH V U=>?_]
  .rw[Q.2 b λz=>zf (z ▸ X)];exact e
  .refine Y H (Moved.trans W.gtrans ((m.mono sw).then_heap (Ť _) λb o X e=>?_) V) U
   rw[Q.2 b λz=>X (by rw[z];exact Ë)];exact e
end
section
variable {P:Ć} {w:ģ} {A:Ĭ} {E:ì->ß->Prop} {s:ß}
def Vm   
 (hh:A.handled=ϋ) (hl:s.heap.IsList l aj) (hi:Ņ aj.toList ns) (hb:(ų (λi=>ns.getD i 0) aj.size).length+1<afl)
 (h:∀(h':afz) (tk:Nat),gF P w (fu w) h' s.heap.objs.size (λk'=>(ų (λi=>ns.getD i 0) aj.size).any (·==k')) (ų (λi=>ns.getD i 0) aj.size).length ->
 (∀b o,b<s.heap.objs.size->s.heap.get? b=ϊ o->h'.get? b=ϊ o)->Q (.ref s.heap.objs.size) { s with heap:=h',toks:=tk }) :
  ð (ã P w) A (call (.type "set") [.ref l]) Q E s:=by
 let(c,tl,ur):=afm.mro;have um:=afm.made;have ub:=afm.sub;refine wpAny_call (afX ?_);show ð _ _ (callAny (.type "set") _) _ _ _;refine Â #[Code.quiet_builtin _ nofun,Ģ F.entry_type_call ?_];rw[Around.under_plain (weight_type_call_type "set" [.ref l] []) rfl];have h1:=afm.notType;have h2:=afm.canCreate;have I:=F.typeCall_set_1 (.ref l)
 repeat (any_goals (first|assumption|wp_step))
 refine ξ (XE (.ref l) (E:=E) (Q₁:=λobj O=>obj=.ref s.heap.objs.size/\O={ s with heap:=s.heap.push { cls:=.type "set",dict:=ϋ,data:=.set #v[] 0 (.fresh 0 0 (fu w)) } }) #[rfl,rfl]) λr O Y=>?_
 cases r with
 |error e=>exact Y
 |ok H =>
  cases H with
  |ret obj =>
   let(rfl,rfl):=Y;have v:(s.heap.push { cls:=.type "set",dict:=ϋ,data:=.set #v[] 0 (.fresh 0 0 (fu w)) }).get? s.heap.objs.size=ϊ { cls:=.type "set",dict:=ϋ,data:=.set #v[] 0 (.fresh 0 0 (fu w)) }:=Ê _ rfl
   have G:Shared.TypeIs { s with heap:=s.heap.push { cls:=.type "set",dict:=ϋ,data:=.set #v[] 0 (.fresh 0 0 (fu w)) } } (.ref s.heap.objs.size) "set":=#[_,v,rfl]
   have vl:=afm.init.lookup;have vb:=afm.init.bind (.ref s.heap.objs.size)
   repeat (any_goals (first|assumption|wp_step))
   refine ξ (codeAny_call_builtin (R:=wants (λr N=>r=.none/\∃h' tk,N={ s with heap:=h',toks:=tk } /\
     gF P w (fu w) h' s.heap.objs.size (λk'=>(ų (λi=>ns.getD i 0) aj.size).any (·==k')) (ų (λi=>ns.getD i 0) aj.size).length /\
     (∀b o,b<s.heap.objs.size->s.heap.get? b=ϊ o->h'.get? b=ϊ o)) E) afm.init.plain F.entry_set_init (check_set_init_1 G ?_)) λX N W=>?_
   .let(ol,M,L,nn,K):=hl
    let(oc,D,oa,V):=ol;simp only at L K;subst L;subst K;have U:(s.heap.push { cls:=.type "set",dict:=ϋ,data:=.set #v[] 0 (.fresh 0 0 (fu w)) }).get? l=ϊ { cls:=.type "list",dict:=D,data:=.seq aj nn,slots:=V }:=Á _ M;have u1:=F.sub_list_set;have u2:=F.sub_list_frozenset;have gM:(Ī "list"==Ī "dict")=ύ:=by decide
    have ul:(s.heap.push { cls:=.type "set",dict:=ϋ,data:=.set #v[] 0 (.fresh 0 0 (fu w)) }).IsList l aj:=#[_,U,rfl,nn,rfl];delta ε.«set.__init__» noKeywords Builtin.Frozenset.updateFrom;generalize C:ag6=PI
    wp_walk
    subst C;refine ź ul ?_;refine À (wpAny_runValue ?_);have J:l<s.heap.objs.size:=Í M;have B:A.in1.in1.in1.handled=ϋ:=by simp[hh]
    have z:l≠(s.heap.push { cls:=.type "set",dict:=ϋ,data:=.set #v[] 0 (.fresh 0 0 (fu w)) }).objs.size:=by
     rw[ĉ];exact ë (Ē J)
    have y:s.heap.objs.size∉[(s.heap.push { cls:=.type "set",dict:=ϋ,data:=.set #v[] 0 (.fresh 0 0 (fu w)) }).objs.size,l]:=by
     rw[ĉ];erw[Ð,Ø,ü,or_false,not_or];exact#[ë (μ _),ŵ J]
    have x:∀(i:Nat) (v:ì),aj[i]?=ϊ v->∃t,v=.int ((λi=>ns.getD i 0) i) t:=λi v u =>
     IntsAre.int_at hi i v (by rw[ä];exact u)
    refine XG (led:=fu w) ((Walks.list B _ l z aj).toS) s.heap.objs.size
     y (λi=>ns.getD i 0) x hb (aj.size-0) 0 _ ⋯ (Ă _)
     #[#[_,Ê _ rfl,rfl,rfl],(ul.push _)] ?v0 ?vR
    case v0 =>
     have q:((s.heap.push { cls:=.type "set",dict:=ϋ,data:=.set #v[] 0 (.fresh 0 0 (fu w)) }).push { cls:=.type "list_iterator",data:=.fields #v[.ref l,.int 0 0] }).get? s.heap.objs.size
       = ϊ { cls:=.type "set",dict:=ϋ,data:=.set #v[] 0 (.fresh 0 0 (fu w)) }:=Á _ v
     exact#[_,#v[],0,_,q,#[rfl,rfl,rfl],rfl,λe p=>by simp at p,λk=>by simp[firstMet_zero],by delta afl;simp,by rfl,rfl,MI _]
    case vR =>
     intro n Z T;let(h',m,j,tq,g):=n;have f:m=s.gens:=Z.gens;have d:j=s.drawn:=Z.drawn;have a:g=s.os:=Z.os;subst f;subst d;subst a;show ð _ _ _ _ _ _;refine Â ?_;show ð _ _ (ret Value.none) _ _ _;refine Â #[rfl,h',tq,rfl,T,λb o hb e=>?_];have v1:b≠s.heap.objs.size:=ë hb;have v2:b≠(s.heap.push { cls:=.type "set",dict:=ϋ,data:=.set #v[] 0 (.fresh 0 0 (fu w)) }).objs.size:=by
      rw[ĉ];exact ë (Ē hb)
     exact Z.heap b o (by erw[Ð,Ø,ü,or_false,not_or];exact#[v1,v2]) (Á _ (Á _ e))
   .cases X with
    |error e=>exact W
    |ok S =>
     cases S with
     |ret r =>
      let(rfl,h',tk,rfl,T,vk):=W
      repeat (any_goals (first|assumption|wp_step))
      exact h _ _ T vk
     |_=>exact W.elim
  |_=>exact Y.elim
end
theorem DZ {α:Type}:∀{l} {i} {x:α},l[i]?=ϊ x->(x::l.eraseIdx i).Perm l
 | [],i,x,h=>by simp at h
 |y::l,0,x,h=>by
  have:=by simpa using h
  subst this;exact List.Perm.refl _
 |y::l,i+1,x,h=>by
  have ih:=DZ (by simpa using h);exact(List.Perm.swap y x _).trans (List.Perm.cons y ih)
theorem Oc (next):∀fuel k (left:List α) out,left.length=fuel->(pickOrder.go next fuel k left out).toList.Perm (out.toList++left)
 |0,k,left,out,h=>by
  have:=ŝ.mp h;subst this;delta pickOrder.go;simp
 |fuel+1,k,left,out,h=>by
  delta pickOrder.go
  have Z:next k % left.length<left.length:=Nat.mod_lt _ ⋯
  rw[É Z];have Y:=DZ (É Z)
  have ih:=Oc next fuel (k+1) _ (out.push left[next k % left.length]) (by rw[List.length_eraseIdx_of_lt Z];omega)
  refine ih.trans ?_;rw[Ŕ,Ö];exact ū _ Y
def ML (next) (xs:Array α):(afW next xs).toList.Perm xs.toList:=by
 delta afW
 have:=Oc next xs.size 0 xs.toList #v[] ∅
 simpa using this
section
variable {P:Ć} {w:ģ} {A:Ĭ} {E:ì->ß->Prop}
def Vn (n):∀(xs:List α) s Q,xs.length=n->(∀ys d,ys.Perm xs->Q ys { s with drawn:=d })->ð (ã P w) A (drawOrder n xs) Q E s:=by
 induction n with
 |zero =>
  intro xs s Q h Z;have:=ŝ.mp h;subst this;delta drawOrder;exact Â (Z _ _ (List.Perm.refl _))
 |succ n ih =>
  intro xs s Q h Z
  cases xs with
  |nil=>simp at h
  |cons x xs =>
   refine À (Vk ∅ ?_);have Y:w.draws .order (s.drawn.get .order) % (x::xs).length<(x::xs).length:=Nat.mod_lt _ ∅;rw[É Y];refine À (ih _ _ _ (by rw[List.length_eraseIdx_of_lt Y];omega) λys d X=>?_);refine Â (Z _ d ?_);exact(List.Perm.cons _ X).trans (DZ (É Y))
def XH {s:ß} {a:ę} {u:Obj} {es} {ep:Nat} {t} {Q} (hu:s.heap.get? a=ϊ u) (hx:u.ExactSet) (hd:u.data=.set es ep t) (hf:t.fits es.size=ό) (ht:jK (fu w) t)
  (hsz:es.size<=â)
  (hQ:∀(h':afz) (d':Drawn) (I:ę) (fp:List ę) St (order:List ì),(∀b o,s.heap.get? b=ϊ o->h'.get? b=ϊ o)->(∀b∈fp,b<h'.objs.size)->(∀b∈fp,b=a\/s.heap.objs.size<=b)->I∈fp->s.heap.objs.size<=I->order.Perm (es.toList.map (·.2)) ->
   (∀A',A'.handled=ϋ->WalksS P w A' I fp [I] (λa b=>b=a) es.size (λi v=>order[i]?=ϊ v) St)->St 0 { s with heap:=h',drawn:=d' }->Q (.ref I) { s with heap:=h',drawn:=d' }) :
  ð (ã P w) A (ag6 (.ref a)) Q E s:=by
 have R:s.TypeIs (.ref a) "set":=#[u,hu,hx.1];have X:=Í hu;refine wpAny_pyIter_slot R F.slot_set_iter (Ą F.slot_set_iter R TY ?_ (F.args_set_iter_1 _));delta ε.«frozenset.__iter__» Builtin.Frozenset.slot0 slotArgs;simp only[List.isEmpty_nil,ŏ,Ò,↓reduceIte,bind_assoc,Ċ,ŕ];refine À (Â ?_);refine À (Â ?_);refine À (À (ae9 hu hd hf (Â ?_)));refine À (À (abL hu hd hf ?_));refine À (À (afc (Â ?_)));refine Â ?_
 show ð _ _ (if (!(w.params.followText _)&&(!t.plain&&ώ _))=ό then _ else _) _ _ _
 by_cases W:(!w.params.followText "set-order"&&(!t.plain&&ώ (es.size > 1)))=ό
 .rw[õ W]
  refine À (Vn _ _ _ _ ∅ λT d hp=>?_);refine À ?_;refine Č ?_ (by have:=hp.length_eq;rw[Ŗ] at this;show (List.toArray _).size<=â;rw[ê,Ã,this];exact hsz);have M:∀x∈T,x<es.size:=λx hx=>by simpa using hp.mem_iff.mp hx
  have S:=by simpa using hp.length_eq
  refine À (wpAny_setEpoch_of (Á _ hu) hd hf ?_);refine À (Č ?_);refine Â #[_,rfl,_,_,#[_,Ê _ rfl,rfl],lG.lookup,?_];have Y:(s.heap.push { cls:=.type "tuple",data:=.seq (T.map λ(i:Nat)=>ŷ i).toArray }).objs.size=s.heap.objs.size+1:=by simp[ĉ]
  refine hQ _ d _ _ _ _ (λb o e=>Á _ (Á _ e)) ?_ ?_ ∅ (by rw[Y];exact Ť _) ?_ (λA' V=>UR V (by rw[Y];exact ë (Ē X)) (by rw[Y];exact ë (μ _)) hd hf T S M) #[#[_,Ê _ rfl,rfl,rfl],Á _ (Á _ hu),#[_,Á _ (Ê _ rfl),rfl,_,rfl]]
  .intro b Z
   erw[Ð,ü,or_false] at Z;rw[ĉ]
   rcases Z with e|e|e
   .rw[e];exact μ _
   .rw[e,Y];exact Ē (Ē X)
   .rw[e,Y];exact Ē (μ _)
  .intro b Z
   erw[Ð,ü,or_false] at Z
   rcases Z with e|e|e
   .right;rw[e,Y];exact Ť _
   .exact .inl e
   .right;rw[e];exact ahd _
  .refine(List.Perm.map _ hp).trans ?_
   have:(Ô es.size).map (λk=>(es.getD k (0,Value.none)).2)=es.toList.map (·.2):=by
    apply į;intro i;rw[Þ];by_cases hi:i<es.size
    .simp[Array.getD,hi]
    .rw[Ġ (by simpa using hi),Ġ (by simpa using hi)]
     rfl
   rw[this]
 .rw[ÿ W]
  refine À (Â ?_);refine À (wpAny_setEpoch_of hu hd hf ?_);refine À (Č ?_);refine Â #[_,rfl,_,_,#[_,Ê _ rfl,rfl],lG.lookup,?_];have aq:∀(O:Obj),∀b∈[s.heap.objs.size,a],b<(s.heap.push O).objs.size:=λO b Z=>by
   erw[Ð,ü,or_false] at Z;rw[ĉ]
   rcases Z with e|e
   .rw[e];exact μ _
   .rw[e];exact Ē X
  have N:∀b∈[s.heap.objs.size,a],b=a\/s.heap.objs.size<=b:=λb Z=>by
   erw[Ð,ü,or_false] at Z
   rcases Z with e|e
   .right;rw[e];exact ahd _
   .exact .inl e
  cases U:w.params.followText _ with
  |true =>
   have L:=by
    have:=(ML (w.params.setOrder a ep) es).length_eq;simpa using this
   have hw:∀A',A'.handled=ϋ->WalksS P w A' _ _ _ (λa b=>b=a) es.size (λi v=>((afW _ es).toList.map (·.2))[i]?=ϊ v) _:=λA' V=>by
    have:=Vl (P:=P) V (a:=a) (ë X) U hd hf L;simpa using this
   exact hQ _ s.drawn _ [_,a] _ _ (λb o e=>Á _ e) (aq _) N ∅ (ahd _) (List.Perm.map _ (ML _ _)) hw #[#[_,Ê _ rfl,rfl,rfl],Á _ hu]
  |false =>
   have hp:t.plain=ό\/es.size<=1:=by
    rw[U] at W;simp at W
    cases K:t.plain with
    |true=>exact .inl rfl
    |false=>exact .inr (W K)
   have S:t.led=ό:=by rw[ht.led];delta fu;rw[U];rfl
   have J:nk t.place.toList:=by
    rcases hp with hp|hp
    .exact ht.rise hp
    .erw[SetTable.fits,Ç,beq_iff_eq,Æ] at hf
     have hle:t.place.toList.length<=1:=by simp[hf.1];exact hp
     match t.place.toList,hle with
     | [],_=>exact List.Pairwise.nil
     | [x],_=>exact Ş _ _
   have hw:∀A':Ĭ,A'.handled=ϋ->WalksS P w A' _ _ _ (λa b=>b=a) es.size (λi v=>(es.toList.map (·.2))[i]?=ϊ v) _:=λA' V=>by
    have:=UQ (P:=P) (u:=u) (t:=t) V (a:=a) (ë X) U hd hf S hp J;simpa using this
   exact hQ _ s.drawn _ [_,a] _ _ (λb o e=>Á _ e) (aq _) N ∅ (ahd _) (List.Perm.refl _) hw #[0,#[_,Ê _ rfl,rfl,rfl],Á _ hu,Ă _,λk H=>by omega,λk _ _=>Ă _]
end
section
variable {P:Ć} {w:ģ} {A:Ĭ} {E:ì->ß->Prop} {s:ß}
def split_len:splitId "set.__len__"=ϊ ("set","__len__"):=nofun
def ints_of (h:ElemsOf (ψ P w) es) (hp:vs.Perm (es.map (·.2))):∃ns,Ņ vs ns:=by
 have Z:∀v∈vs,∃k t,v=.int k t:=λv Z=>by
  let(e,W,rfl):=á.mp (hp.mem_iff.mp Z);obtain⟨⟨k,X,_⟩,_⟩:=h e W
  cases Y:e.2 with
  |int i t=>exact#[i,t,rfl]
  |_=>rw[Y] at X;simp[ψ,Value.isInt] at X
 clear hp
 induction vs with
 |nil=>exact#[_,.nil]
 |cons v vs ih =>
  let(k,t,rfl):=Z v Ë;let(ns,V):=ih λx Y=>Z x (Ì _ Y);exact#[_,.cons k t V]
def Pc {x y:Sem α} {Q} (hc:c=ό) (h:ð (ã P w) A x Q E s):ð (ã P w) A (if c=ό then x else y) Q E s:=by
 rw[õ hc];exact h
def US {a:ę} {u:Obj} {es:Array (Int×ì)} {ep:Nat} {t:SetTable} {Q:List ì->ß->Prop} (hh:A.handled=ϋ) (hu:s.heap.get? a=ϊ u) (hx:u.ExactSet) (hd:u.data=.set es ep t) (hf:t.fits es.size=ό) (ht:jK (fu w) t) (hsz:es.size<afl)
  (hQ:∀(h':afz) (d':Drawn) (tk:Nat) (vs:List ì),s.heap.objs.size<=h'.objs.size->(∀b o,s.heap.get? b=ϊ o->h'.get? b=ϊ o)->vs.Perm (es.toList.map (·.2))->Q vs { s with heap:=h',drawn:=d',toks:=tk }):ð (ã P w) A (collect (.ref a)) Q E s:=by
 have L:es.size<=â:=afu hsz;have K:a<s.heap.objs.size:=Í hu;delta collect;refine À (wpAny_runValue (Ģ F.entry_proto_collect ?_));rw[ņ F.plain_proto_collect _];show ð _ A.in1 (newList [] >>= λl=>again (.builtin "list.__iadd__" #[[l,.ref a],[]])) _ _ s;refine À (Č ?_);refine Â #[Ķ F.plain_list_iadd _,Ģ F.entry_list_iadd ?_];rw[ņ F.plain_list_iadd _];show ð _ A.in1 (agS (.ref s.heap.objs.size) (.ref a) (.ref s.heap.objs.size)) _ _ _
 generalize U:({ s with heap:=s.heap.push { cls:=.type "list",data:=.seq ([]:List ì).toArray } }:ß)=Y
 have J:Y.heap.objs.size=s.heap.objs.size+1:=by rw[<- U];simp[ĉ]
 have k:∀b o,s.heap.get? b=ϊ o->Y.heap.get? b=ϊ o:=λb o e=>by rw[<- U];exact Á _ e
 have T:Y.heap.get? a=ϊ u:=by rw[<- U];exact Á _ hu
 have i:Y.TypeIs (.ref a) "set":=#[u,T,hx.1];have h:Y.heap.get? s.heap.objs.size=ϊ { cls:=.type "list",data:=.seq ([]:List ì).toArray }:=by rw[<- U];exact Ê _ rfl
 delta agS;refine À (ago i ?_);have g:Builtin.List.listSameRef (.ref s.heap.objs.size) (.ref a)=ύ:=by
  simp[Builtin.List.listSameRef];exact ŵ K
 have f:(Ī "set"==Ī "list")=ύ:=by decide
 have d:(Ī "set"==Ī "tuple")=ύ:=by decide
 erw[g,f,d,Bool.or_false,Ò,Ğ];refine À (XH T hx hd hf ht L λh' d' I fp St order S k2 k6 k3 H G W st=>?_)
 have R:Shared.TypeIs { Y with heap:=h',drawn:=d' } (.ref a) "set":=#[u,S _ _ T,hx.1]
 have D:=S _ _ h;refine À (ĝ ?_);delta Builtin.List.listLengthHint;refine À (agT R F.slot_set_len.lookup ?_);dsimp only;rw[split_len];dsimp only;refine À (afF R sub_set_self ?_);rw[ÿ (by decide)];refine Pc nofun ?_;refine À (ago R ?_);dsimp only;refine Â ?_;refine Pc nofun ?_
 .·refine À (ş ?_)
   refine À ?_;show ð _ A.in1 (updateSeq s.heap.objs.size (·.push .none) >>= λ_=>updateSeq s.heap.objs.size (·.pop)) _ _ _;refine À (Ō D rfl ?_);have C:=þ (Š (·.push Value.none)) D rfl;refine Ō C rfl ?_;have O:=þ (Š (·.pop)) C rfl;have B:s.heap.objs.size∉fp:=λhm=>by
    rcases k6 _ hm with e|e
    .exact ŵ K e
    .rw[J] at e;exact Nat.not_succ_le_self _ e
   have y:∀b o,b≠s.heap.objs.size->h'.get? b=ϊ o->((h'.update s.heap.objs.size (Š (·.push Value.none))).update s.heap.objs.size (Š (·.pop))).get? b=ϊ o :=
    λb o X e=>(ò _ _ (Ř X)).trans ((ò _ _ (Ř X)).trans e)
   refine Â #[Ķ F.plain_extend_loop _,codeAny_extend_loopS (W A.in1 (by simp[hh])) L _ B _ es.size 0 _ _ _ rfl (Ă _) ((W A.in1 (by simp[hh])).frame 0 ({ Y with heap:=h',drawn:=d' }:ß) _ Y.toks st (ahd _) λb X o e=>y b o (λz=>B (z ▸ X)) e) O (ItemsOf.nil _) λx Z c m v r=>?_]
   show ð _ A (load s.heap.objs.size >>= _) _ _ x;refine À (wpAny_load v ?_);refine Â ?_;have N:order.length=es.size:=by simpa using G.length_eq
   have M:Z.toList=order:=by
    apply į;intro j;by_cases p:j<Z.size
    .have e1:Z[j]?=ϊ Z[j]:=by simp[p]
     rw[ä,e1,r.2 j _ e1]
    .rw[Ġ (by simpa using p),Ġ (by rw[N,<- r.1];omega)]
   let(h2,g2,n,t2,o2):=x;have eg:g2=Y.gens:=m.gens;have ed:n=d':=m.drawn;have eo:o2=Y.os:=m.os;subst eg ed eo;have q:=hQ h2 n t2 Z.toList (Nat.le_of_lt (Í v)) (λb o e=>m.heap b o (λX=>by
    erw[Ð,ü,or_false] at X;have V:=Í e
    rcases X with z|z
    .rw[z] at V;exact ó _ V
    .rw[J] at H;rw[z] at V;exact ó _ (È V (Nat.le_of_succ_le H))) (y b o (λz=>by
     have V:=Í e;rw[z] at V;exact ó _ V) (S b o (k b o e)))) (by rw[M];exact G)
   rw[<- U];exact q
def Vo (hh:A.handled=ϋ) (hu:s.heap.get? a=ϊ u) (hx:u.ExactSet) (hd:u.data=.set es ep t) (hf:t.fits es.size=ό) (ht:jK (fu w) t) (Jt:ElemsOf (ψ P w) es.toList) (h64:es.size<64)
 (h:∀h' d' tk (p:ę) vs ns out ms e,(∀b o,s.heap.get? b=ϊ o->h'.get? b=ϊ o)->s.heap.objs.size<=p->vs.Perm (es.toList.map (·.2))->Ņ vs ns->h'.get? p=ϊ { cls:=.type "list",data:=.seq out.toArray e }->Ņ out ms->ms.Perm ns->ms.Pairwise (·<=·)->Q (.ref p) { s with heap:=h',drawn:=d',toks:=tk }) :
  ð (ã P w) A (call (.builtin "sorted") [.ref a]) Q E s:=by
 refine Calls.call_function_entry kind_sorted plain_sorted entry_sorted (args_sorted1 _) ?_;refine À (Â ?_);refine À (US (by simp[hh]) hu hx hd hf ht (by delta afl;omega) λh' d' tk vs U T Z=>?_);let(ns,X):=ints_of Jt Z;have S:vs.length<64:=by have:=Z.length_eq;simp at this;omega
 refine À (afY ?_);have Y:(h'.push _).get? _=ϊ (seqObj "list" vs.toArray 0):=Ê _ rfl;refine À (ĝ (Ą slot_list_sort #[_,Y,rfl] entry_list_sort (list_sort_tree Y X S λout ms a1 a2 R=>#[_,rfl,?_]) (args_list_sort _)));let(e,O):=sortedHeap_at Y;refine Â #[_,rfl,h _ d' tk _ vs ns _ ms e (λb o N=>?_) ?_ Z X (by simpa  using O) a1 a2 R]
 .have W:=T b o N
  have V:=Í W;rw[sortedHeap_old (ë V) (by rw[size_push'];exact Ē V)];exact Á _ W
 .exact U
end
end TS
namespace L2
open PySem PySem.Spec PyProof.Rows
def dX (P:Ć) (w:ģ) (p:ę) (ns:List Int):afz->Prop:=λh=>∃(S:Int->Bool) (n:Nat),TS.gF P w (TS.fu w) h p S n/\(∀k,S k=ό↔k∈ns)/\n<=ns.length/\n=(ns.foldl acV []).length
section
variable {X:Cx}
def mQ (l:List Int) (k):(l.any (·==k))=ό↔k∈l:=by
 rw[ĸ];exact#[λ⟨x,Z,Y⟩=>by rw[<- beq_iff_eq.mp Y];exact Z,λh=>#[k,h,by simp]]
def Zq (hm:m=ns.length) (hS:TS.gF X.prog X.w (TS.fu X.w) h p (λk'=>(ų (λi=>ns.getD i 0) m).any (·==k')) (ų (λi=>ns.getD i 0) m).length):dX X.prog X.w p ns h:=by
 subst hm;refine#[_,_,hS,λk=>?_,firstMet_length_le ..,?_]
 .rw[firstMet_any,map_getD]
  exact mQ ns k
 .delta ų
  rw[map_getD]
def Zr (hx:dX X.prog X.w p ns h):fO X.prog X.w (upd H p (.ext (dX X.prog X.w p ns))) h p (.ext (dX X.prog X.w p ns)):=by
 refine#[hx,?_,λY W q k=>?_]
 .obtain⟨_,_,⟨o,_,_,_,Z,_⟩,_⟩:=hx
  exact#[o,Z]
 .let(S,n,T,r):=q
  exact#[S,n,T.at k,r]
def Vp (hc:X.calm=ό):cX X (.type "set") (λxs H Q=>∃(a:ę) (ns:List Int),xs=[.ref a]/\bJ X.K H a (ns.map V.int)/\(ns.foldl acV []).length<4000/\∀p,H p=ϋ->Q (.ref p) (upd H p (.ext (dX X.prog X.w p ns)))):=by
 intro R s σ H xs P Q I r h;let(a,ns,rfl,W,O,q):=h;let(u,rfl,U):=vals1 r;cases U;let(aj,Z,p,_):=I.list W;have Y:aj.toArray.size=ns.length:=by
  have e:=Z.length;simpa using e.symm
 refine TS.Vm (I.ok.hd hc) p.isList (by simpa using intsAre_of Z) (by rw[Y];delta ų;rw[map_getD];show _ + 1<4096;omega) λN M T S=>?_;exact#[.ref _,_,I.laid (λb o e=>S b o (Í e) e) (ahd _) (Zr (Zq Y T)),rfl,q _ (I.aN.fresh (ahd _))]
theorem LC:∀{out} {ms},Ņ out ms->Vals (ms.map V.int) out
 |_,_,.nil=>.nil
 |_,_,.cons n t h=>.cons #[t,rfl] (LC h)
theorem wA:∀(ns acc:List Int),acc.Nodup->(ns.foldl acV acc).Nodup
 | [],acc,h=>h
 |n::ns,acc,h=>by
  refine wA ns _ ?_;delta acV;split
  .exact h
  .rename_i Z
   rw[afG] at Z;refine afv.mpr #[h,by simp,λa Y b X=>?_];have:=by simpa using X
   subst this;intro e;subst e;rw[(mQ acc a).mpr Y] at Z;cases Z
theorem Nr:∀{vs} {ns},Ņ vs ns->∀k,k∈ns↔∃t,ag8 k t∈vs
 |_,_,.nil,k=>by simp
 |_,_,.cons n t h,k=>by
  rw[Ð,Nr h k];constructor
  .rintro (e | ⟨Z,h'⟩)
   .subst e;exact#[t,Ë]
   .exact#[Z,Ì _ h']
  .rintro ⟨Z,h'⟩
   rcases Ð.mp h' with e|h'
   .injection e with e _;exact .inl e
   .exact .inr #[Z,h']
theorem sub_len:∀{m l:List Int},m.Nodup->(∀k,k∈m->k∈l)->m.length<=l.length
 | [],l,_,_=>Ă _
 |x::m,l,h,Z=>by
  let(W,V):=afi.mp h;have Y:=Z x Ë;have ih:=sub_len V λk X=>(List.mem_erase_of_ne (λ(e:k=x)=>W (by rw[<- e];exact X))).mpr (Z k (Ì _ X));rw[List.length_erase_of_mem Y] at ih;have:=List.length_pos_of_mem Y;rw[Ú];omega
theorem LD:∀{l m:List Int},m.Nodup->(∀k,k∈m↔k∈l)->l.length<=m.length->l.Nodup
 | [],m,_,_,_=>afe
 |a::r,m,Z,Y,W=>by
  have V:a∉r:=λh=>by
   have:=sub_len Z λk U=>(Ð.mp ((Y k).mp U)).elim (λe=>e ▸ h) id;rw[Ú] at W;omega
  have X:=(Y a).mpr Ë;refine afi.mpr #[V,LD (Z.erase a) (λk=>?_) ?_]
  .rw[Z.mem_erase_iff,Y k,Ð]
   constructor
   .rintro ⟨T,h2|h2⟩
    .exact absurd h2 T
    .exact h2
   .intro h
    exact#[λe=>V (e ▸ h),.inr h]
  .rw[List.length_erase_of_mem X]
   rw[Ú] at W;omega
def wM (ns:List Int) (k):k∈ns.foldl acV []↔k∈ns:=by
 have:=firstMet_any (λi=>ns.getD i 0) ns.length k;delta ų at this;rw[map_getD] at this;rw[<- mQ,<- mQ,this]
def LF (hc:X.calm=ό):cX X (.builtin "sorted") (λxs H Q=>∃(p:ę) (ns:List Int),xs=[.ref p]/\H p=ϊ (.ext (dX X.prog X.w p ns))/\(ns.foldl acV []).length<64 /\
  ∀l (ms:List Int),H l=ϋ->ms.Pairwise (· < ·)->(∀k,k∈ms↔k∈ns)->Q (.ref l) (upd H l (.lst (ms.map V.int)))):=by
 intro π s σ H xs us Q I r h;let(p,ns,rfl,F,hl,q):=h;let(v,rfl,E):=vals1 r;cases E;obtain⟨⟨S,n,⟨u,es,ep,t,D,C,hd,B,W,M,A,hn,z⟩,y,kG,m⟩,_⟩:=I.aN p _ F;refine TS.Vo (I.ok.hd hc) D C hd A z B ⋯ λh' d' j l vs ks out ms e g L Y U f d T k8=>?_;have K:∀k,k∈ms↔k∈ns:=λk=>by
  rw[T.mem_iff,Nr U k,<- y k,W k];constructor
  .rintro ⟨t',R⟩
   let(x,P,Z):=á.mp (Y.mem_iff.mp R);exact#[x,P,by rw[Z];exact intKind_is ..]
  .rintro ⟨x,P,Z⟩
   obtain⟨i,t',G⟩:∃i t',x.2=.int i t':=by
    cases c:x.2 with
    |int i t'=>exact#[i,t',rfl]
    |_=>rw[c] at Z;simp[ψ,Value.isInt] at Z
   have zh:=(ψ _ _).inj _ k i (by rw[<- G];exact Z) (intKind_is ..);subst zh;exact#[t',Y.mem_iff.mpr (á.mpr #[x,P,G])]
 have O:ms.Nodup:=by
  have sV:=wA ns _ afe;refine LD sV (λk=>?_) ?_
  .rw[K k,wM]
  .have e1:=T.length_eq
   have e2:=U.length;have N:=Y.length_eq;simp at N;omega
 have aX:ms.Pairwise (· < ·):=by
  have:=List.pairwise_and_iff.mpr #[k8,O];exact this.imp λ⟨a,b⟩=>by omega
 have J:=I.laid (t':=j) (o:=.lst _) g L #[by
  rw[Ã,sizeLine_eq];have e1:=T.length_eq;have e2:=U.length;have N:=Y.length_eq;simp at N;omega,out,e,LC d,f]
 exact#[.ref l,_,J.BF (ch:=[]) rfl Un.refl J.aN J.bare (λb M=>by cases M),rfl,q l ms (I.aN.fresh L) aX K]
end
end L2
namespace HZ
open PySem PySem.Spec PyProof.Rows
open AutoSeq1 (wpAny_loadPart')
end HZ
namespace L2
open PySem PySem.Spec PyProof.Rows
end L2
namespace HZ
open PySem PySem.Spec PyProof.Rows
def TF:fillsNumberSlot (.type "tuple") "mul"=pure ύ:=by
 first|rfl | (kernel_rfl)|kernel_rfl
def Uv:seqRepeat? (.type "tuple")=pure (ϊ (.builtin "tuple.__mul__")):=by
 first|rfl|kernel_rfl
def Vq (a:Int) (t:Tok) (l) (items) (n:Nat) (d) (sl) :
  Meets (ε.«int.__rmul__» #[[.int a t,.ref l],[]]) (λ_ R s=>s.heap.get? l=ϊ { cls:=.type "tuple",dict:=d,data:=.seq items n,slots:=sl }/\R (.ok (.ret Value.notImplemented)) s) :=
 .of_wp λprog w A R s h=>by
  let(Z,h):=h;wp_walk;exact#[_,rfl,h]
section
variable {P:Ć} {w:ģ} {A:Ĭ} {E:ì->ß->Prop} {s:ß}
def Zs (ht:ag2 s.heap t vs.toArray) (hv:vs≠[]) (hk:1<=k) (hz:vs.length*k.toNat<=â)
 (h1:k=1->Q (.ref t) s) (h2:k≠1->Q (.ref s.heap.objs.size) { s with heap:=s.heap.push { cls:=.type "tuple",data:=.seq (Ñ k.toNat vs).flatten.toArray } }) :
  ð (ã P w) A (ŧ .Mult (.ref t) (.int k tk)) Q E s:=by
 obtain⟨⟨cls,Y,data,X⟩,Z,W,n,V⟩:=id ht;subst W V;have S:k<=16777216:=by
  have U:1<=vs.length:=by
   cases vs with
   |nil=>exact absurd rfl hv
   |cons a r=>simp
  have R:vs.length*k.toNat<=16777216:=by exact hz
  have:1*k.toNat<=vs.length*k.toNat:=agE _ U;omega
 refine wpAny_binaryOp_repeat_ref (by decide) #[_,Z,rfl] (λT=>typeIs_int T k tk) TF F.fills_int_mul agQ Uv F.slot_int_index.lookup
  (call_meets agQ (typeIs_int s k tk) F.entry_int_rmul (F.args_int_rmul_2 ..) (Vq k tk t _ n Y X) #[Z,rfl,#[_,Z,rfl],?_])
 refine Ą F.slot_tuple_mul #[_,Z,rfl] F.entry_tuple_mul ?_ (F.args_tuple_mul_2 ..);refine À ?_
 refine ſ (by first|rfl | (rfl)) ?_
 rw[ÿ (by simp;omega)];refine À (À (Ď Z rfl ?_));refine Â ?_;have ne:vs.toArray.isEmpty=ύ:=by
  cases vs with
  |nil=>exact absurd rfl hv
  |cons a r=>simp
 by_cases h:k=1
 .rw[õ (by rw[h];simp)]
  refine À (À (ago #[_,Z,rfl] (Â ?_)));exact À (ş (Â #[_,rfl,h1 h]))
 .rw[ÿ (by rw[ne];simp[h])]
  rw[ÿ (by rw[ne];simp;omega)];have O:(vs.toArray.size)*k=((vs.length*k.toNat:Nat)):=by
   rw[Int.natCast_mul];congr 1;omega
  have N:vs.length*k.toNat<=16777216:=by exact hz
  rw[ÿ ⋯];rw[ÿ (by
   delta Builtin.Tuple.tupleTooMany;rw[Æ];omega)]
  have e:=by
   have:=L2.foldl_rep vs k.toNat [];rw[ĥ] at this;exact this
  rw[e];refine À (Č ?_ (by
   show (List.toArray _).size<=â;rw[ê,L2.len_rep,Nat.mul_comm];exact hz))
  exact Â #[_,rfl,h2 h]
end
end HZ
namespace L2
open PySem PySem.Spec PyProof.Rows
section
variable {X:Cx}
def acG (K:ae3):R2:=λx y H Q=>∃a Z k,x=.ref a/\y=.int k/\bE K H a Z/\Z≠[]/\1<=k/\Z.length*k.toNat<=â/\qo K H (Ñ k.toNat Z).flatten Q
def Zt:bA X (ŧ .Mult) (acG X.K):=by
 intro P s σ H x y v u Q I V U h;let(a,Z,k,rfl,rfl,hs,T,S,W,q):=h;cases V;let(t,rfl):=U;let(aj,r,p,z):=I.tuple hs;have Y:=r.length;refine HZ.Zs p (λe=>T (by rw[e] at Y;exact ŝ.mp Y)) S (by rw[<- Y];exact W) (λe=>?_) (λ_=>?_)
 .have e1:(Ñ k.toNat Z).flatten=Z:=by rw[e];simp
  rw[e1] at q;exact#[.ref a,H,I,rfl,q.here hs]
 .have R:(Ñ k.toNat Z).flatten.length<=â:=by rw[len_rep,Nat.mul_comm];exact W
  exact#[.ref _,_,I.laid (o:=.tup _) (λb o e=>Á _ e) (ahd _) #[R,_,r.rep _,#[_,Ê _ rfl,rfl,_,rfl]],rfl,q.new (I.aN.fresh (ahd _))]
end
end L2
namespace HZ
open PySem PySem.Spec PyProof.Rows
def Od:mroOf (.type "reversed")=pure [.type "reversed",.type "object"]:=by kernel_rfl
def TZ:typeLookup (.type "reversed") "__new__"=pure (ϊ (.builtin "reversed.__new__")):=by kernel_rfl
def XI:Bind.madeBy (.type "reversed")=pure (ϊ "reversed.__new__"):=madeBy_type Od TZ nofun
def Ud:entryFor table "reversed.__new__"=ϊ ε.«reversed.__new__»:=entryFor_of_tree (by kernel_rfl)
def Ue:plainId "reversed.__new__"=ό:=nofun
def Uw (a):checkTypeCall "reversed" #[[a],[]]=pure ():=by kernel_rfl
def UT (a:ì):checkBuiltinCall "reversed.__new__" #[[.type "reversed",a],[]]=pure ():=by kernel_rfl
def Zu:isSubtype (.type "reversed") (.type "reversed")=pure ό:=by kernel_rfl
def Vr:isSubtype (.type "range_iterator") (.type "reversed")=pure ύ:=by kernel_rfl
def Ux:(Ī "reversed"==Ī "type")=ύ:=nofun
def Zv:((Manifest.find? "reversed").bind (·.mro.findSome? λt=>(Manifest.find? t).bind λb=>if b.noNew then ϊ ό else if b.attrs.any (·.1=="__new__") then ϊ ύ else ϋ)).getD ύ=ύ:=nofun
section
variable {P:Ć} {w:ģ} {A:Ĭ} {E:ì->ß->Prop} {s:ß}
def Uy (hr:s.heap.get? r=ϊ { cls:=.type "range",data:=.fields #v[.int a t1,.int b t2,.int c t3] }) (h:Q (a,b,c) s):ð (ã P w) A (Builtin.Range.rangeFields (.ref r)) Q E s:=by
 refine À (Ŀ hr rfl rfl ?_);refine À (ſ (by rfl) ?_);refine À (Ŀ hr rfl rfl ?_);refine À (ſ (by rfl) ?_);refine À (Ŀ hr rfl rfl ?_);exact Â h
def Zw {n:Nat} {Q:ì->ß->Prop} (hr:s.heap.get? r=ϊ { cls:=.type "range",data:=.fields #v[.int 0 t1,.int n t2,.int 1 t3] }) (hn:n<2 ^ 62)
 (h:Q (.ref s.heap.objs.size) { s with heap:=s.heap.push { cls:=.type "range_iterator",data:=.fields #v[ŷ (n-1),ŷ n,ŷ (-1)] } }) :
  ð (ã P w) A (ε.«reversed.__new__» #[[.type "reversed",.ref r],[]]) (λfin s'=>∃v,fin=.done (.ret v)/\Q v s') E s:=by
 have X:s.TypeIs (.ref r) "range":=#[_,hr,rfl];have ss:=Zu;delta ε.«reversed.__new__» Builtin.SmallTypes.newClass Builtin.SmallTypes.refuseKeywords;have V:=afn.lookup;have U:=afn.bind (.ref r)
 wp_walk
 refine ξ (codeAny_call_builtin (R:=wants (λv s'=>v=.ref s.heap.objs.size/\s'={ s with heap:=s.heap.push { cls:=.type "range_iterator",data:=.fields #v[ŷ (n-1),ŷ n,ŷ (-1)] } }) E) afn.plain F.entry_range_reversed (afn.check _ _ _ _ _ _ _ _ X (F.args_range_reversed_1 _) ?_)) λW T Z=>?_
 .delta ε.«range.__reversed__»
  refine À (ſ (a:=.ref r) (by rfl) ?_);refine À (Uy hr ?_);dsimp only;have sz:afP 0 n 1=n:=by
   delta afP;rw[õ (by decide)]
   split<;>omega
  rw[sz];have Y:(İ 0&&İ n&&İ 1&&İ (-1)&&İ (0-1)&&İ n)=ό:=by
   have S:(n:Int)<2 ^ 62:=by omega
   delta İ;erw[Ç,Æ];refine#[#[#[#[#[#[by decide,by decide],by omega,by omega],by decide,by decide],by decide,by decide],by decide,by decide],by omega,by omega]
  rw[Y];rw[ÿ (by decide)];refine À (Č ?_);refine Â ?_;refine#[rfl,?_];have e:(0:Int)+((n:Int)-1)*1=n-1:=by omega
  simp[ŷ]
 .cases W with
  |error e=>exact Z
  |ok Y =>
   cases Y with
   |ret v =>
    let(rfl,rfl):=Z;exact Â #[_,rfl,h]
   |_=>exact Z
def XJ {n:Nat} {Q:ì->ß->Prop} (hr:s.heap.get? r=ϊ { cls:=.type "range",data:=.fields #v[.int 0 t1,.int n t2,.int 1 t3] }) (hn:n<2 ^ 62)
 (h:Q (.ref s.heap.objs.size) { s with heap:=s.heap.push { cls:=.type "range_iterator",data:=.fields #v[ŷ (n-1),ŷ n,ŷ (-1)] } }):ð (ã P w) A (call (.type "reversed") [.ref r]) Q E s:=by
 have T:=Od;have S:=XI;have O:=Vr;have m4:=Ux;have N:=Zv;have M:=Uw (.ref r);refine wpAny_call (afX ?_);show ð _ _ (callAny (.type "reversed") _) _ _ _;refine Â #[Code.quiet_builtin _ nofun,Ģ F.entry_type_call ?_];rw[Around.under_plain (weight_type_call_type "reversed" [.ref r] []) rfl]
 repeat (any_goals (first|assumption|wp_step))
 refine ξ (codeAny_call_builtin (R:=wants (λv Z=>v=.ref s.heap.objs.size/\Z={ s with heap:=s.heap.push { cls:=.type "range_iterator",data:=.fields #v[ŷ (n-1),ŷ n,ŷ (-1)] } }) E) Ue Ud (ſ (UT _) ?_)) λX L Y=>?_
 .refine Ĝ (Zw (Q:=λv Z=>v=.ref s.heap.objs.size/\Z={ s with heap:=s.heap.push { cls:=.type "range_iterator",data:=.fields #v[ŷ (n-1),ŷ n,ŷ (-1)] } }) hr hn #[rfl,rfl]) (λf Z W=>?_) λ_ _ e=>e
  let(v,rfl,V):=W;exact V
 .cases X with
  |error e=>exact Y
  |ok U =>
   cases U with
   |ret v =>
    let(rfl,rfl):=Y
    have K:Shared.TypeIs { s with heap:=s.heap.push { cls:=.type "range_iterator",data:=.fields #v[ŷ (n-1),ŷ n,ŷ (-1)] } } (.ref s.heap.objs.size) "range_iterator":=#[_,Ê _ rfl,rfl]
    repeat (any_goals (first|assumption|wp_step))
   |_=>exact Y.elim
end
end HZ
namespace L2
open PySem PySem.Spec PyProof.Rows
noncomputable def H9 (n:Nat):It:=#[λi _=>i<n,λi H x Z=>Z=H/\x=.int ((n)-1-i),λi _=>n<=i]
def XM {K} {tg} (it) (n):Turn P w K tg (H9 n) [it] it (λi h=>IsRangeIter h it (((n)-1)+(i)*(-1)) ((n)-(i)) (-1)) where
 mem:=by simp
 obj:=λi h Z b Y=>by
  have e:=by simpa using Y
  subst e;exact#[_,Z,λv z=>by
   have J:=z;cases J]
 keep:=λi h U Z k=>k it ∅ _ Z
 item:=by
  intro X O hw N T i M s σ H E I V Z S;subst O hw N;let(f0,f1,f2,R,f4,Q):=V it ∅;have W:=Walks.range (prog:=X.prog) (w:=X.w) (I.ok.hd T) it ((n)-1) (-1) n;refine W.item i s _ _ S Z λv U G F L D=>?_;let(t,rfl):=F
  have C:Inv X M σ H { s with heap:=U,toks:=G }:=I.turned (λb o Y e=>D b o (by simpa using Y) e) f0 f1 R f4 Q
  refine#[_,rfl,BG L rfl rfl (by decide) #[.int _,H,C,#[t,?_],#[rfl,rfl],L,λb Y=>(V b Y).1]];rw[Int.mul_neg_one];rfl
 done:=by
  intro X O hw N T i M s σ H E I V Z S;let(f0,f1,f2,R,f4,Q):=V it ∅;exact wpAny_pyNext_range_end (I.ok.hd T) Z (by have:n<=i:=S;omega) λU B=>#[rfl,I.turned (λb o Y e=>B b o Y e) f0 f1 R f4 Q]
 self:=λ_ _ _ _ _ Z h=>af6 Z h
section
variable {X:Cx} {tg:afh}
def XN:ć "reversed"=ϊ (.type "reversed"):=nofun
def LU:cX X (.type "range") (λxs H Q=>∃j,xs=[.int j]/\∀p,H p=ϋ->Q (.ref p) (upd H p (.bL 0 j))):=by
 intro Y s σ H xs W Q I r h;let(j,rfl,q):=h;let(u,rfl,Z):=vals1 r;let(t,rfl):=Z;exact call_range_1 #[.ref _,_,I.laid (o:=.bL 0 j) (λb o e=>Á _ e) (ahd _) #[_,_,_,Ê _ rfl],rfl,q _ (I.aN.fresh (ahd _))]
def ael (ta:TA):TI:=fun σ H R=>ta σ H λY Z=>∃(p:ę) (n:Nat),Y=[.ref p]/\Z p=ϊ (.bL 0 n)/\n<2 ^ 62/\R (H9 n) Z
def aaZ {p pos} (hg:Gl X "reversed") (hm:X.mg "reversed"=ϋ) (ha:PA X [a] ta) (hs:Õ [a] X.env=[(ύ,Ź a X.env)]:=by rfl):PI X tg (.Call (.Name "reversed" p) [a] [] pos) (ael ta):=by
 intro V s σ H R I h;refine Call_ (oq I hg hm XN (Ś (aP (ha pos V s σ H _ I h) λL Y ⟨K,U,Z,T,S⟩=>?_) hs rfl));let(c,n,e,Q,P,q):=S;subst e;let(u,rfl,O):=vals1 T;cases O;let(t1,J,t3,N):=Z.aN c _ Q;refine HZ.XJ N P ?_;have W:IsRangeIter (Y.heap.push { cls:=.type "range_iterator",data:=.fields #v[ŷ ((n)-1),ŷ n,ŷ (-1)] }) Y.heap.objs.size (((n)-1)+((0:Nat))*(-1)) ((n)-((0:Nat))) (-1):=by
  have e1:((n)-1)+((0:Nat):Int)*(-1)=n-1:=by simp
  have e2:(n)-((0:Nat):Int)=n:=by simp
  rw[e1];exact Ê _ rfl
 refine af6 W ?_;refine#[_,_,_,_,U,rfl,Z.kept λb o e=>Á _ e,XM _ n,W,λb M=>?_,q];have e:=by simpa using M
 subst e;exact Z.oM (ahd _) (Z.aN.fresh (ahd _))
end
end L2
namespace HZ
open PySem PySem.Spec PyProof.Rows
section
variable {P:Ć} {w:ģ} {A:Ĭ} {R:Result->ß->Prop} {I:ę} {fp wr:List ę} {n:Nat} {Pv:Nat->ì->Prop} {St:Nat->afz->Prop} {kw:List (Str×ì)}
def ah0:(toString "min"++toString ".loop")="min.loop":=by decide
def XO (W:Walks P w A.in1 I fp wr n Pv St) (bt) (hc:CmpOf P w A.in1 .Lt Pv bt) (S) (nf:S∉fp) :
  ∀k j s vb c,n-(j+1)=k->j+1<=n->St (j+1) s.heap->Pv (ag4 bt j) vb ->
  s.heap.get? S=ϊ { cls:=.type "list",dict:=ϋ,data:=.seq #v[vb,vb] c,slots:=#v[] } ->
  (∀v h' tk,Pv (ag4 bt (n-1)) v->(∀b o,b∉wr->b≠S->s.heap.get? b=ϊ o->h'.get? b=ϊ o)->R (.ok (.ret v)) { s with heap:=h',toks:=tk }) ->
  ů (ã P w) A (.builtin "min.loop" #[[.ref I,.none,.ref S],kw]) R s:=by
 have nw:=λz=>nf (W.sub _ z);intro k
 induction k with
 |zero =>
  intro j s vb c D C N T X Q;have G:j+1=n:=by omega
  refine Ģ F.entry_min_loop ?_;refine À (Ď X rfl ?_);refine À (Ĩ (W.done s _ _ (G ▸ N) λh' tk Z=>?_));have V:=Z S _ nw X;refine À ?_;refine Ō V rfl (À (Ŝ (Â ?_)));exact Q vb _ tk (by rw[<- G];exact T) λb o O Y e=>(ò _ _ (Ř Y)).trans (Z b o O e)
 |succ k ih =>
  intro j s vb c D C N T X Q;have lt:j+1<n:=by omega
  refine Ģ F.entry_min_loop ?_;refine À (Ď X rfl ?_);refine À (Ĩ (W.item _ s _ _ lt N λv h' tk pv E Z=>?_));have V:=Z S _ nw X;show ð _ _ (tryCatch _ _ >>= _) _ _ _;refine À (Ĩ (ĝ (À (hc _ _ v vb _ _ _ pv T ?_))));refine À (ĝ (Ĺ ?_));refine À (Ŝ (Â ?_))
  cases O:bt _ _ with
  |true =>
   refine À ?_;refine Ō V rfl (À (Ŝ ?_));refine Â #[Ķ agA _,ih _ _ v _ ⋯ lt (W.frame _ _ _ E λb B o e=>(ò _ _ λz=>nf (by rw[z];exact B)).trans e) (by erw[ag4,O,ĭ];exact pv) (þ _ V rfl) λM L K J H=>?_];exact Q M L K J λb o U Y e=>H b o U Y ((ò _ _ (Ř Y)).trans (Z b o U e))
  |false =>
   refine À (Ŝ ?_);refine Â #[Ķ agA _,ih _ _ vb c ⋯ lt E (by erw[ag4,O,Ò,Ğ];exact T) V λM L K J H=>?_];exact Q M L K J λb o U Y e=>H b o U Y (Z b o U e)
def Ws (W:Walks P w A.in1 I fp wr n Pv St) (bt) (hc:CmpOf P w A.in1 .Lt Pv bt) (S) (nf:S∉fp) (d) (dn) (st:St 0 s.heap)
 (gS:s.heap.get? S=ϊ { cls:=.type "list",dict:=ϋ,data:=.seq #v[] c,slots:=#v[] })
 (hR:∀v h' tk,(n=0->v=d)->(0<n->Pv (ag4 bt (n-1)) v)->(∀b o,b∉wr->b≠S->s.heap.get? b=ϊ o->h'.get? b=ϊ o)->R (.ok (.ret v)) { s with heap:=h',toks:=tk }) :
  ů (ã P w) A (.builtin "min.loop" #[[.ref I,.none,.ref S],[(dn,d)]]) R s:=by
 have nw:=λz=>nf (W.sub _ z);refine Ģ F.entry_min_loop ?_;refine À (Ď gS rfl ?_);by_cases X:0<n
 .refine À (Ĩ (W.item 0 s _ _ X st λv h' tk pv T Z=>?_))
  have V:=Z S _ nw gS;show ð _ _ (updateSeq S (λ_=>#v[v,v]) >>= _) _ _ _;refine À ?_;refine Ō V rfl ?_;refine Â #[Ķ agA _,XO W bt hc S nf _ 0 _ v _ rfl X (W.frame _ _ _ T λb Q o e=>(ò _ _ λz=>nf (by rw[z];exact Q)).trans e) pv (þ _ V rfl) λO N M L K=>?_];exact hR O N M (λz=>absurd z ⋯) (λ_=>L) λb o Y U e=>K b o Y U ((ò _ _ (Ř U)).trans (Z b o Y e))
 .have J:n=0:=by omega
  refine À (Ĩ (W.done s _ _ (J ▸ st) λh' tk Z=>?_));refine À (ş (Â ?_));exact hR d h' tk (λ_=>rfl) (λz=>absurd z X) λb o Y _ e=>Z b o Y e
end
section
variable {P:Ć} {w:ģ} {A:Ĭ} {E:ì->ß->Prop} {s:ß}
def Vs (a d):argsOk "min" #[[a],[(Ĳ "default",d)]]:=by kernel_rfl
theorem Nt (ns:List Int):∀k,k<ns.length->ns.getD (ag4 (λi j=>ώ (ns.getD i 0<ns.getD j 0)) k) 0∈ns/\ag4 (λi j=>ώ (ns.getD i 0<ns.getD j 0)) k<=k/\∀i,i<=k->ns.getD (ag4 (λi j=>ώ (ns.getD i 0<ns.getD j 0)) k) 0<=ns.getD i 0
 |0,h=>by
  refine#[?_,ahd _,λi hi=>?_]
  .show ns.getD 0 0∈ns
   simp[agp,É h]
  .have:i=0:=by omega
   subst this;exact Int.le_refl _
 |k+1,h=>by
  let(X,W,Z):=Nt ns k ⋯;delta ag4;by_cases Y:ns.getD (k+1) 0<ns.getD (ag4 (λi j=>ώ (ns.getD i 0<ns.getD j 0)) k) 0
  .rw[õ (by simpa using Y)]
   refine#[by simp[agp,É h],ahd _,λi hi=>?_];by_cases e:i=k+1
   .rw[e];exact Int.le_refl _
   .have:=Z i ⋯
    omega
  .rw[ÿ (by simpa using Y)]
   refine#[X,by omega,λi hi=>?_];by_cases e:i=k+1
   .rw[e];omega
   .exact Z i ⋯
def Vt (hh:A.handled=ϋ) (hl:s.heap.IsList l aj) (hi:Ņ aj.toList ns)
 (h:∀v h' tk,(ns=[]->v=d)->(ns≠[]->∃t m,v=.int m t/\m∈ns/\∀k∈ns,m<=k)->(∀b o,s.heap.get? b=ϊ o->h'.get? b=ϊ o)->Q v { s with heap:=h',toks:=tk }) :
  ð (ã P w) A (call (.builtin "min") [.ref l] [(Ĳ "default",d)]) Q E s:=by
 have X:l<s.heap.objs.size:=by let(o,V,_):=hl;exact Í V
 have U:=by
  have:=hi.length;simpa using this
 refine kmk_tree F.kind_min F.plain_min F.entry_min (Vs ..) ?_;refine À (ſ (rfl) ?_);refine À (Â ?_);refine À (ź hl ?_);refine À (afY ?_ (Ă _));have R:(s.heap.push { cls:=.type "list_iterator",data:=.fields #v[.ref l,.int 0 0] }).objs.size=s.heap.objs.size+1:=ĉ ..;have W:=Walks.list (prog:=P) (w:=w) (A:=A.in1) (by simp[hh]) _ l (ë X) aj;have M:(s.heap.push { cls:=.type "list_iterator",data:=.fields #v[.ref l,.int 0 0] }).objs.size∉[s.heap.objs.size,l]:=by
  rw[R];intro Z;erw[Ð,ü,or_false] at Z
  rcases Z with e|e
  .exact Nat.succ_ne_self _ e
  .rw[<- e] at X;exact absurd X (Nat.not_lt_of_le (Ť _))
 refine Â #[Ķ agA _,Ws W (λi j=>ώ _) (CmpOf.ints_lt (λi=>ns.getD i 0) λi v T=>IntsAre.int_at hi i v (by rw[ä];exact T)) _ M d _ #[#[_,Á _ (Ê _ rfl),rfl,rfl],?_] (Ê _ rfl) λv h' tk L K J=>?_]
 .let(o,V,r):=hl
  exact#[o,Á _ (Á _ V),r]
 .refine h v h' tk (λe=>L (by rw[U,e];rfl)) (λe=>?_) λb o O=>?_
  .have S:=afK.mpr e
   have T:=K (by rw[U];exact S);let(t,N):=IntsAre.int_at hi _ v (by rw[ä];exact T);rw[U] at N;let(I,B,H):=Nt ns (ns.length-1) ⋯;refine#[t,_,N,I,λk G=>?_];let(i,D,C):=ť G;have:=H i ⋯;simpa [É D,C] using this
  .have Y:=Í O
   refine J b o (λZ=>?_) (λe=>?_) (Á _ (Á _ O))
   .have e:=by simpa using Z
    rw[e] at Y;exact ó _ Y
   .rw[e,R] at Y;exact absurd Y (Nat.not_lt_of_le (Ť _))
end
end HZ
namespace L2
open PySem PySem.Spec PyProof.Rows
section
variable {X:Cx} {p pos kp:Pos} {e d:afh} {ta tk:TA}
def acH (K:ae3) (ta tk:TA):TE:=fun σ H Q=>ta σ H λX W=>tk σ W λzs Y=>∃(a:ę) (Z:List Int) (y:V),X=[.ref a]/\zs=[y]/\bJ K Y a (Z.map V.int)/\∀v,(Z=[]->v=y)->(Z≠[]->∃m,v=.int m/\m∈Z/\∀k∈Z,m<=k)->Q v Y
def Wt:ć "min"=ϊ (.builtin "min"):=nofun
def Zx (hc:X.calm=ό) (hg:Gl X "min") (hm:X.mg "min"=ϋ) (ha:PA X [e] ta) (hk:PK X [#[ϊ "default",d,kp]] tk) (he:ũ pos (Õ [e] X.env)=(ύ,Ź e X.env)::ũ pos (Õ [] X.env):=by rfl) (cz:(ũ pos (Õ [e] X.env)).any (·.1)=ύ:=by rfl) :
  PE X (.Call (.Name "min" p) [e] [#[ϊ "default",d,kp]] pos) (acH X.K ta tk):=by
 intro W s σ H Q I h;refine afg (oq I hg hm Wt ?_);refine callWith_kw (aP (ha pos W s σ H _ I h) λx T ⟨w,S,R,P,O⟩=>?_) he cz;refine aP (hk pos W T σ S _ R O) λws r ⟨zs,V,Z,N,M⟩=>?_;let(a,L,y,e1,e2,hs,q):=M;subst e1 e2;let(u,rfl,J):=vals1 P;let(z,rfl,G):=vals1 N;cases J;let(aj,F,E,_):=Z.list hs;refine HZ.Vt (Z.ok.hd hc) E.isList (by simpa using intsAre_of F) λv o tk D C U=>?_;by_cases Y:L=[]
 .exact#[y,V,Z.kept U,by rw[D Y];exact G,q y (λ_=>rfl) λh=>absurd Y h]
 .let(t,m,rfl,B,A):=C Y
  exact#[.int m,V,Z.kept U,#[t,rfl],q _ (λh=>absurd h Y) λ_=>#[m,rfl,B,A]]
end
end L2
namespace DI
open PySem L2
set_option genInjectivity true in
inductive D where
 |aD|bl (b:Bool)|int (i:Int)|str (x:Str)|tup (ds:List D)|lst (ds:List D)|cb (ax:List (Key×Int))|aw (k:Nat)|ty (n:String)|cw (ns:List Int)|exc (c:Str) (m:Option Int)|cx (a:ę) (vs:List V) (ds:List D)
set_option genInjectivity true in
inductive Cell where
 |dead|lst (ds:List D)|dK (ax:List (Key×D))|dT (ax:List (D×Int))|tb (x:Str)|ins (c:Str) (fs:List (Str×D))
abbrev ai:=List Cell
abbrev Env:=List (Option D)
structure bF where
 c:Str
 many:Option Int
abbrev Res (α:Type):=Option (Except bF α×ai)
abbrev ag9 (α:Type):=Env->ai->Res α
noncomputable abbrev ok (a:α) (s:ai):Res α:=ϊ (.ok a,s)
def aq (r:Res α) (k:α->ai->Res β):Res β:=match r with
 |some (.ok a,s)=>k a s
 |some (.error x,s)=>ϊ (.error x,s)
 |none=>ϋ
@[simp] theorem bH {s} {k:α->ai->Res β}:aq (ϊ (.ok a,s)) k=k a s:=rfl
structure Wd where
 ρ:List ę
 aO:ai
 H:Hp
def Wd.Z (w:Wd) (a:ę):Prop:=∃(k:Nat) (c:Cell),w.ρ[k]?=ϊ a/\w.aO[k]?=ϊ c/\c≠.dead
def LstAt (w:Wd) (a:ę) (xs:List V):Prop:=¬ w.Z a/\w.H a=ϊ (.lst xs)
def LstAt.sq (h:LstAt w a xs):bJ K w.H a xs:=bJ.of h.2
def xT (K:ae3) (w:Wd) (a:ę) (xs:List V):Prop:=(¬ w.Z a/\Rd w.H a (.lst xs)) \/
 ∃(o:Obj) (aj:Array ì) (n:Nat),K.lookup a=ϊ o/\o.cls=.type "list"/\o.dict=ϋ/\o.data=.seq aj n/\aj.size<=â/\Vals xs aj.toList
def xT.sq (h:xT K w a xs):bJ K w.H a xs:=by
 rcases h with ⟨_,h⟩|h
 .exact .inl h
 .exact .inr h
mutual
def DV (K:ae3) (w:Wd):D->V->Prop
 | .aD,v=>v=.aD
 | .bl b,v=>v=.bl b
 | .int i,v=>v=.int i
 | .str x,v=>v=.str x
 | .tup Y,v=>∃a X,v=.ref a/\bE K w.H a X/\aB K w Y X
 | .lst Y,v=>∃a X,v=.ref a/\LstAt w a X/\aB K w Y X
 | .cb S,v=>∃a,v=.ref a/\¬ w.Z a/\w.H a=ϊ (.dK (S.map λp=>(p.1,V.int p.2)))
 | .aw k,v=>∃a,w.ρ[k]?=ϊ a/\v=.ref a
 | .ty n,v=>v=.ty n
 | .cw R,v=>∃a,v=.ref a/\xT K w a (R.map V.int)
 | .exc c m,v=>∃a o C,v=.ref a/\(¬ w.Z a/\w.H a=ϊ (.cE o (.own a)))/\(o.cls=.ref C/\Ā K ù c=ϊ (ϊ (.ref C)))/\∀i,m=ϊ i->PySem.W.notCls o=ό/\∃U T t,o.dict=ϊ U/\(¬ w.Z U/\w.H U=ϊ (.cE T (.own U)))/\PySem.W.lookIn "many" T=ϊ (ϊ (.int i t))
 | .cx a Q Y,v=>v=.ref a/\aB K w Y Q
def aB (K:ae3) (w:Wd):List D->List V->Prop
 | [],Z=>Z=[]
 |d::Y,Z=>∃v r,Z=v::r/\DV K w d v/\aB K w Y r
end
structure Fw (K) (w w':Wd):Prop where
 Jv:∀(k:Nat) a,w.ρ[k]?=ϊ a->w'.ρ[k]?=ϊ a
 tup:∀a xs,bE K w.H a xs->bE K w'.H a xs
 lst:∀a xs,¬ w.Z a->w.H a=ϊ (.lst xs)->¬ w'.Z a/\w'.H a=ϊ (.lst xs)
 cE:∀a o u,¬ w.Z a->w.H a=ϊ (.cE o u)->¬ w'.Z a/\w'.H a=ϊ (.cE o u)
 cb:∀a es,¬ w.Z a->w.H a=ϊ (.dK es)->¬ w'.Z a/\w'.H a=ϊ (.dK es)
def Fw.Qs (S:Fw K w w') (h:LstAt w a xs):LstAt w' a xs:=S.lst a xs h.1 h.2
def Fw.acI (S:Fw K w w') (h:xT K w a xs):xT K w' a xs:=by
 rcases h with ⟨Y,Z | ⟨o,Z⟩⟩|h
 .have q:=S.lst a xs Y Z
  exact .inl #[q.1,.inl q.2]
 .have q:=S.cE a o _ Y Z
  exact .inl #[q.1,.inr #[o,q.2]]
 .exact .inr h
mutual
theorem DV.fw (S:Fw K w w'):∀{d} {v},DV K w d v->DV K w' d v
 | .aD,_,h=>h
 | .bl _,_,h=>h
 | .int _,_,h=>h
 | .str _,_,h=>h
 | .tup X,v,h=>by
  let(a,Y,e,Z,r):=h;exact#[a,Y,e,S.tup a Y Z,aB.fw S r]
 | .lst X,v,h=>by
  let(a,Y,e,Z,r):=h;exact#[a,Y,e,S.Qs Z,aB.fw S r]
 | .cb M,v,h=>by
  let(a,e,T,Z):=h;let(R,Q):=S.cb a _ T Z;exact#[a,e,R,Q]
 | .aw k,v,h=>by
  let(a,e,e2):=h;exact#[a,S.Jv k a e,e2]
 | .ty _,_,h=>h
 | .cw L,v,h=>by
  let(a,e,Z):=h;exact#[a,e,S.acI Z]
 | .exc c m,v,h=>by
  let(a,o,C,e,Z,r,k):=h;refine#[a,o,C,e,S.cE a o _ Z.1 Z.2,r,λi hi=>?_];let(P,W,V,t,O,U,N):=k i hi;exact#[P,W,V,t,O,S.cE W V _ U.1 U.2,N]
 | .cx a J X,v,h=>by
  erw[DV] at h |-;exact#[h.1,aB.fw S h.2]
theorem aB.fw (S:Fw K w w'):∀{ds} {vs},aB K w ds vs->aB K w' ds vs
 | [],_,h=>h
 |d::ds,vs,h=>by
  erw[aB] at h |-;let(v,r,e,Z,Y):=h;exact#[v,r,e,DV.fw S Z,aB.fw S Y]
end
structure Le (K) (w w'):Prop where
 dv:∀d v,DV K w d v->DV K w' d v
 lst:∀a xs,LstAt w a xs->LstAt w' a xs
 tup:∀a xs,bE K w.H a xs->bE K w'.H a xs
 cE:∀a o u,¬ w.Z a->w.H a=ϊ (.cE o u)->¬ w'.Z a/\w'.H a=ϊ (.cE o u)
noncomputable instance:CoeFun (Le K w w') (λ_=>∀d v,DV K w d v->DV K w' d v):=#[Le.dv]
def Le.refl (w):Le K w w:=#[λ_ _ h=>h,λ_ _ h=>h,λ_ _ h=>h,λ_ _ _ h g=>#[h,g]]
def Le.trans (h:Le K a b) (g:Le K b c):Le K a c:=#[λd v x=>g.dv d v (h.dv d v x),λp Z x=>g.lst p Z (h.lst p Z x),λp Z x=>g.tup p Z (h.tup p Z x),λp o u z x=>let q:=h.cE p o u z x;g.cE p o u q.1 q.2]
def Fw.le (S:Fw K w w'):Le K w w':=#[λ_ _ h=>h.fw S,λ_ _ h=>S.Qs h,S.tup,S.cE]
theorem Le.all (h:Le K w w'):∀{ds} {vs},aB K w ds vs->aB K w' ds vs
 | [],_,x=>x
 |d::ds,vs,x=>by
  let(v,r,e,Z,Y):=x;exact#[v,r,e,h d v Z,Le.all h Y]
theorem aB.length:∀{ds} {vs},aB K w ds vs->ds.length=vs.length
 | [],vs,h=>by
  have e:=h;subst e;rfl
 |d::ds,vs,h=>by
  let(v,r,e,_,Z):=h;subst e;simp[aB.length Z]
theorem aB.get':∀{ds} {vs},aB K w ds vs->∀(i:Nat) d,ds[i]?=ϊ d->∃v,vs[i]?=ϊ v/\DV K w d v
 | [],vs,h,i,d,e=>by simp at e
 |d::ds,vs,h,i,Z,e=>by
  let(u,r,Y,X,W):=h;subst Y
  cases i with
  |zero =>
   have:=by simpa using e
   subst this;exact#[u,rfl,X]
  |succ i=>exact aB.get' W i Z (by simpa using e)
theorem aB.append:∀{ds es} {vs ws},aB K w ds vs->aB K w es ws->aB K w (ds++es) (vs++ws)
 | [],es,vs,ws,h,Z=>by
  have e:=h;subst e;exact Z
 |d::ds,es,vs,ws,h,Z=>by
  let(v,r,e,Y,X):=h;subst e;exact#[v,_,rfl,Y,aB.append X Z]
theorem aB.take:∀{ds} {vs} n,aB K w ds vs->aB K w (ds.take n) (vs.take n)
 | [],vs,n,h=>by
  have e:=h;subst e;simp[aB]
 |d::ds,vs,0,h=>by simp[aB]
 |d::ds,vs,n+1,h=>by
  let(v,r,e,Z,Y):=h;subst e;exact#[v,_,rfl,Z,aB.take n Y]
theorem aB.drop:∀{ds} {vs} n,aB K w ds vs->aB K w (ds.drop n) (vs.drop n)
 | [],vs,n,h=>by
  have e:=h;subst e;simp[aB]
 |d::ds,vs,0,h=>h
 |d::ds,vs,n+1,h=>by
  let(v,r,e,Y,Z):=h;subst e;exact aB.drop n Z
theorem aB.set (hd:DV K w d v):∀{ds} {vs} i,aB K w ds vs->aB K w (ds.set i d) (vs.set i v)
 | [],vs,i,h=>by
  have e:=h;subst e;simp[aB]
 |d'::ds,vs,0,h=>by
  let(u,r,e,Y,Z):=h;subst e;exact#[v,r,rfl,hd,Z]
 |d'::ds,vs,i+1,h=>by
  let(u,r,e,Y,Z):=h;subst e;exact#[u,_,rfl,Y,aB.set hd i Z]
def aB.one (h:DV K w d v):aB K w [d] [v]:=#[v,_,rfl,h,rfl]
def aB.two (h:DV K w d v) (h':DV K w d' v'):aB K w [d,d'] [v,v']:=#[v,_,rfl,h,aB.one h']
theorem aB.ints:∀(ns:List Int),aB K w (ns.map D.int) (ns.map V.int)
 | []=>rfl
 |n::ns=>#[_,_,rfl,rfl,aB.ints ns]
theorem aB.EC:∀{ns:List Int} {vs},aB K w (ns.map D.int) vs->vs=ns.map V.int
 | [],_,h=>h
 |n::ns,vs,h=>by
  let(v,r,e,Z,Y):=h;have e1:=Z;rw[e,e1,aB.EC Y];rfl
theorem aB.Fn:∀{bs:List Bool} {vs},aB K w (bs.map D.bl) vs->vs=bs.map V.bl
 | [],_,h=>h
 |n::X,vs,h=>by
  let(v,r,e,Z,Y):=h;have e1:=Z;rw[e,e1,aB.Fn Y];rfl
def DX (a:ę) (es:List (Int×ę)) (h:afz):Prop:=(a==agK)=ύ/\∃(o:Obj) (Z:Array DictEntry) (Y:Nat),h.get? a=ϊ o/\o.ExactDict/\o.data=.dict Z Y/\Z.toList=es.map λp=>(#[p.1,.ref p.2,.bool ό])
def acJ (w:Wd) (q:Str) (cv:ì):Prop:=∃Y X W t,cv=.ref Y/\(¬ w.Z Y/\w.H Y=ϊ (.cE X (.own Y)))/\X.data=.fields W/\W[1]?=ϊ (.str q t)
def aen (K:ae3) (w:Wd) (a:ę) (x:Str):Prop:=∃c Z,PySem.W.tabIn K x=ϊ (c,a)/\w.H a=ϊ (.qC Z)/\PySem.TriplesOk Z.toList/\∀pos Y,PySem.codeAmong pos Z.toList=ϊ Y->acJ w (x++".<locals>."++"<lambda>") Y
def uC (K:ae3) (w:Wd) (a:ę):Cell->Prop
 | .dead=>True
 | .lst U=>∃W,w.H a=ϊ (.lst W)/\aB K w U W
 | .dK Z=>∃Y,w.H a=ϊ (.dK Y)/\Y.map (·.1)=Z.map (·.1)/\aB K w (Z.map (·.2)) (Y.map (·.2))
 | .dT Z=>∃as,w.H a=ϊ (.ext (DX a ((Z.map (·.2)).zip as)))/\aB K w (Z.map (·.1)) (as.map V.ref)/\(Z.map (·.1)).Nodup
 | .tb x=>aen K w a x
 | .ins c fs=>∃(C T:ę) (X:List _),Ā K ù c=ϊ (ϊ (.ref C))/\w.H a=ϊ (.ins C T X)/\X.map (·.1)=fs.map (·.1)/\aB K w (fs.map (·.2)) (X.map (·.2))
structure aR (K) (w:Wd):Prop where
 len:w.ρ.length=w.aO.length
 nd:w.ρ.Nodup
 there:∀(k:Nat) a,w.ρ[k]?=ϊ a->w.H a≠ϋ
 cell:∀(k:Nat) a c,w.ρ[k]?=ϊ a->w.aO[k]?=ϊ c->uC K w a c
theorem uC.le (h:uC K w a c) (le:Le K w w') (e:c≠.dead->w'.H a=w.H a):uC K w' a c:=by
 cases c with
 |dead=>trivial
 |lst I =>
  let(R,Z,Y):=h;exact#[R,(e (by intro z;cases z)).trans Z,le.all Y]
 |dK Q =>
  let(P,Z,Y,X):=h;exact#[P,(e (by intro z;cases z)).trans Z,Y,le.all X]
 |dT Q =>
  let(as,Z,Y,X):=h;exact#[as,(e (by intro z;cases z)).trans Z,le.all Y,X]
 |tb x =>
  let(c,O,Z,Y,X,W):=h
  exact#[c,O,Z,(e (by intro z;cases z)).trans Y,X,λpos N q=>let ⟨U,T,V,t,M,S,L⟩:=W pos N q;#[U,T,V,t,M,le.cE U T _ S.1 S.2,L]]
 |ins c fs =>
  let(C,J,V,Z,Y,X,W):=h;exact#[C,J,V,Z,(e (by intro z;cases z)).trans Y,X,le.all W]
section
variable {K:ae3} {w:Wd}
def Wd.grow (w:Wd) (p:ę) (o:HO):Wd:={ w with H:=upd w.H p o }
def Rd.grow (hp:H p=ϋ) (h:Rd H a u):Rd (upd H p o) a u:=by
 rcases h with h | ⟨Z,h⟩
 .exact .inl (by rw[bR (fL h hp)];exact h)
 .exact .inr #[Z,by rw[bR (fL h hp)];exact h]
theorem bE.grow (hp:H p=ϋ) (h:bE K H a xs):bE K (upd H p o) a xs:=by
 rcases h with h|h
 .exact .inl (Rd.grow hp h)
 .exact .inr h
theorem Fw.grow (hp:w.H p=ϋ):Fw K w (w.grow p o) where
 Jv:=λ_ _ e=>e
 tup:=λa Y h=>bE.grow hp h
 lst:=λa Y Z h=>#[Z,by show upd _ p o a=_;rw[bR (fL h hp)];exact h]
 cE:=λa X Y Z h=>#[Z,by show upd _ p o a=_;rw[bR (fL h hp)];exact h]
 cb:=λa W Z h=>#[Z,by show upd _ p o a=_;rw[bR (fL h hp)];exact h]
theorem aR.grow (S:aR K w) (hp:w.H p=ϋ):aR K (w.grow p o) where
 len:=S.len
 nd:=S.nd
 there:=λk a e=>by
  have h:=S.there k a e;show upd _ p o a≠ϋ;delta upd;split
  .intro z;cases z
  .exact h
 cell:=λk a c e1 e2=>(S.cell k a c e1 e2).le (Fw.grow hp).le λ_=>by
  have h:=S.there k a e1;show upd _ p o a=w.H a;rw[bR];intro z;rw[z] at h;exact h hp
def Wd.cell (w:Wd) (p:ę) (o:HO) (c:Cell):Wd:=#[w.ρ++[p],w.aO++[c],upd w.H p o]
def Wd.F4 (S:aR K w) (h:(w.cell p o c).Z a):w.Z a\/a=p:=by
 let(k,Y,e1,e2,V):=h;have e1:(w.ρ++[p])[k]?=ϊ a:=e1;have e2:(w.aO++[c])[k]?=ϊ Y:=e2;by_cases X:k<w.ρ.length
 .rw[Ù X] at e1
  rw[Ù (by rw[<- S.len];exact X)] at e2;exact .inl #[k,Y,e1,e2,V]
 .rw[ç ⋯] at e1
  right
  cases W:k-w.ρ.length with
  |zero=>rw[W] at e1;exact(ahe e1).symm
  |succ j=>rw[W] at e1;cases e1
theorem Fw.cell (S:aR K w) (hp:w.H p=ϋ):Fw K w (w.cell p o c) where
 Jv:=λk a e=>by
  show (w.ρ++[p])[k]?=ϊ a;rw[Ù (Ä.mp e).1];exact e
 tup:=λa Y h=>bE.grow hp h
 lst:=λa Y Z h=>#[λz=>(Wd.F4 S z).elim Z (λe=>by (subst e;rw[hp] at h;cases h)),by show upd _ p o a=_;rw[bR (fL h hp)];exact h]
 cE:=λa X Y Z h=>#[λz=>(Wd.F4 S z).elim Z (λe=>by (subst e;rw[hp] at h;cases h)),by show upd _ p o a=_;rw[bR (fL h hp)];exact h]
 cb:=λa W Z h=>#[λz=>(Wd.F4 S z).elim Z (λe=>by (subst e;rw[hp] at h;cases h)),by show upd _ p o a=_;rw[bR (fL h hp)];exact h]
def aR.GZ (S:aR K w) (hp:w.H p=ϋ) (hc:uC K (w.cell p o c) p c):aR K (w.cell p o c) where
 len:=by show (w.ρ++[p]).length=(w.aO++[c]).length;simp[S.len]
 nd:=by
  show (w.ρ++[p]).Nodup;rw[afv];refine#[S.nd,by simp,λa W b V=>?_];let(k,e):=List.getElem?_of_mem W;have h:=S.there k a e;have U:=by simpa using V
  rw[U];intro z;rw[z] at h;exact h hp
 there:=λk a e=>by
  have e:(w.ρ++[p])[k]?=ϊ a:=e;show upd _ p o a≠ϋ;delta upd;split
  .intro z;cases z
  .rename_i T
   by_cases Y:k<w.ρ.length
   .rw[Ù Y] at e
    exact S.there k a e
   .rw[ç ⋯] at e
    cases Z:k-w.ρ.length with
    |zero=>rw[Z] at e;exact absurd (ahe e).symm T
    |succ j=>rw[Z] at e;cases e
 cell:=λk a X e1 e2=>by
  have e1:(w.ρ++[p])[k]?=ϊ a:=e1;have e2:(w.aO++[c])[k]?=ϊ X:=e2;by_cases Y:k<w.ρ.length
  .rw[Ù Y] at e1
   rw[Ù (by rw[<- S.len];exact Y)] at e2;refine(S.cell k a X e1 e2).le (Fw.cell S hp).le λ_=>?_;have h:=S.there k a e1;show upd _ p o a=w.H a;rw[bR];intro z;rw[z] at h;exact h hp
  .rw[ç ⋯] at e1
   rw[ç (by rw[<- S.len];omega)] at e2;rw[<- S.len] at e2
   cases Z:k-w.ρ.length with
   |zero =>
    rw[Z] at e1 e2;have e1:=ahe e1;have e2:=ahe e2;subst e1 e2;exact hc
   |succ j=>rw[Z] at e1;cases e1
noncomputable def Wd.same (w:Wd) (H':Hp):Wd:={ w with H:=H' }
theorem Fw.same (e:lW w.H H'):Fw K w (w.same H') :=
 #[λ_ _ e=>e,λa Y h=>e.sqT h,λa Y Z h=>#[Z,e _ _ h],λa o Y Z h=>#[Z,e _ _ h],λa X Z h=>#[Z,e _ _ h]]
theorem aR.same (S:aR K w) (e:lW w.H H'):aR K (w.same H') where
 len:=S.len
 nd:=S.nd
 there:=λk a q=>by
  have h:=S.there k a q;show H' a≠ϋ
  cases Z:w.H a with
  |none=>exact absurd Z h
  |some o=>rw[e _ _ Z];intro z;cases z
 cell:=λk a c e1 e2=>(S.cell k a c e1 e2).le (Fw.same e).le λ_=>by
  have h:=S.there k a e1
  cases Z:w.H a with
  |none=>exact absurd Z h
  |some o=>exact e _ _ Z
def Wd.put (w:Wd) (k:Nat) (a:ę) (o:HO) (c:Cell):Wd:=#[w.ρ,w.aO.set k c,upd w.H a o]
def LG {α:Type} {l:List α} (nd:l.Nodup) {i j:Nat} {a} (h1:l[i]?=ϊ a) (h2:l[j]?=ϊ a):i=j:=by
 exact(List.getElem?_inj (Ä.mp h1).1 nd).mp (h1.trans h2.symm)
def Wd.G0 (h0:w.ρ[k]?=ϊ a) (h1:w.aO[k]?=ϊ c0) (h2:c0≠.dead) (h:(w.put k a o c).Z b):w.Z b:=by
 let(j,Y,e1,e2,W):=h;have e2:(w.aO.set k c)[j]?=ϊ Y:=e2;by_cases X:k=j
 .subst X
  exact#[k,c0,e1,h1,h2]
 .rw[í X] at e2
  exact#[j,Y,e1,e2,W]
theorem Fw.put (S:aR K w) (h0:w.ρ[k]?=ϊ a) (h1:w.aO[k]?=ϊ c0) (h2:c0≠.dead):Fw K w (w.put k a o c):=by
 have W:w.Z a:=#[k,c0,h0,h1,h2];have T:∀X,¬ Rd w.H a (.tup X):=λX h=>by
  have q:=S.cell k a c0 h0 h1
  cases c0 with
  |dead=>exact h2 rfl
  |lst Q=>let(V,e,_):=q;rcases h with h | ⟨_,h⟩<;>(rw[e] at h;cases h)
  |dK R=>let(V,e,_):=q;rcases h with h | ⟨_,h⟩<;>(rw[e] at h;cases h)
  |dT R=>let(V,e,_):=q;rcases h with h | ⟨_,h⟩<;>(rw[e] at h;cases h)
  |tb x=>let(_,V,_,e,_):=q;rcases h with h | ⟨_,h⟩<;>(rw[e] at h;cases h)
  |ins c fs=>let(_,_,_,_,e,_):=q;rcases h with h | ⟨_,h⟩<;>(rw[e] at h;cases h)
 refine#[λ_ _ e=>e,λb X h=>?_,λb X Y h=>#[λz=>Y (Wd.G0 h0 h1 h2 z),?_],λb U X Y h=>#[λz=>Y (Wd.G0 h0 h1 h2 z),?_],λb P Y h=>#[λz=>Y (Wd.G0 h0 h1 h2 z),?_]]
 .rcases h with h|h
  .have ne:b≠a:=λe=>by subst e;exact T X h
   refine .inl ?_
   rcases h with h | ⟨U,h⟩
   .exact .inl (by show upd _ a o b=_;rw[bR ne];exact h)
   .exact .inr #[U,by show upd _ a o b=_;rw[bR ne];exact h]
  .exact .inr h
 .have ne:b≠a:=λe=>by subst e;exact Y W
  show upd _ a o b=_;rw[bR ne];exact h
 .have ne:b≠a:=λe=>by subst e;exact Y W
  show upd _ a o b=_;rw[bR ne];exact h
 .have ne:b≠a:=λe=>by subst e;exact Y W
  show upd _ a o b=_;rw[bR ne];exact h
def aR.Cn {a} {o} {c c0} (S:aR K w) (h0:w.ρ[k]?=ϊ a) (h1:w.aO[k]?=ϊ c0) (h2:c0≠.dead) (hc:uC K (w.put k a o c) a c):aR K (w.put k a o c) where
 len:=by show w.ρ.length=(w.aO.set k c).length;rw[Ĥ];exact S.len
 nd:=S.nd
 there:=λj b e=>by
  show upd _ a o b≠ϋ;delta upd;split
  .intro z;cases z
  .exact S.there j b e
 cell:=λj b Y e1 e2=>by
  have e1:w.ρ[j]?=ϊ b:=e1;have e2:(w.aO.set k c)[j]?=ϊ Y:=e2;by_cases Z:k=j
  .subst Z
   rw[h0] at e1;have e1:=ahe e1;rw[ñ (Ä.mp h1).1] at e2;have e2:=ahe e2;subst e1 e2;exact hc
  .rw[í Z] at e2
   refine(S.cell j b Y e1 e2).le (Fw.put S h0 h1 h2).le λ_=>?_;show upd _ a o b=w.H b;rw[bR];intro z;subst z;exact Z (LG S.nd h0 e1)
noncomputable def Wd.freeze (w:Wd) (k:Nat):Wd:={ w with aO:=w.aO.set k .dead }
def Wd.ED (h:(w.freeze k).Z b):w.Z b:=by
 let(j,Y,e1,e2,X):=h;have e2:(w.aO.set k _)[j]?=ϊ Y:=e2;by_cases W:k=j
 .subst W
  have V:=(Ä.mp e2).1;rw[Ĥ] at V;rw[ñ V] at e2;exact absurd (ahe e2).symm X
 .rw[í W] at e2
  exact#[j,Y,e1,e2,X]
theorem Fw.freeze:Fw K w (w.freeze k) :=
 #[λ_ _ e=>e,λ_ _ h=>h,λ_ _ Z h=>#[λz=>Z (Wd.ED z),h],λ_ _ _ Z h=>#[λz=>Z (Wd.ED z),h],λ_ _ Z h=>#[λz=>Z (Wd.ED z),h]]
theorem aR.freeze (S:aR K w):aR K (w.freeze k) where
 len:=by show w.ρ.length=(w.aO.set k _).length;rw[Ĥ];exact S.len
 nd:=S.nd
 there:=S.there
 cell:=λj b Z e1 e2=>by
  have e2:(w.aO.set k _)[j]?=ϊ Z:=e2;by_cases Y:k=j
  .subst Y
   have X:=(Ä.mp e2).1;rw[Ĥ] at X;rw[ñ X] at e2;rw[<- ahe e2];trivial
  .rw[í Y] at e2
   exact(S.cell j b Z e1 e2).le Fw.freeze.le λ_=>rfl
def Wd.Wu {a} (S:aR K w) (h:w.ρ[k]?=ϊ a):¬ (w.freeze k).Z a:=by
 intro zz;let(j,X,e1,e2,W):=zz;have e2:(w.aO.set k _)[j]?=ϊ X:=e2;have V:=LG S.nd h e1;subst V;have Y:=(Ä.mp e2).1;rw[Ĥ] at Y;rw[ñ Y] at e2;exact W (ahe e2).symm
end
structure cH (K) (w) (env:Env) (σ:St):Prop where
 len:env.length=σ.length
 val:∀(i:Nat) d,env[i]?=ϊ (ϊ d)->∃v,σ[i]?=ϊ (ϊ v)/\DV K w d v
theorem cH.le (h:cH K w env σ) (le:Le K w w'):cH K w' env σ :=
 #[h.len,λi d e=>by let(v,e1,e2):=h.val i d e;exact#[v,e1,le d v e2]]
theorem cH.set (h:cH K w env σ) (hd:DV K w d v) (i):cH K w (env.set i (ϊ d)) (σ.set i (ϊ v)):=by
 refine#[by rw[Ĥ,Ĥ];exact h.len,λj X e=>?_];by_cases Z:i=j
 .subst Z
  have Y:=(Ä.mp e).1;rw[Ĥ] at Y;rw[ñ Y] at e;have e:=ahe (ahe e);subst e;exact#[v,by rw[ñ (by rw[<- h.len];exact Y)],hd]
 .rw[í Z] at e
  rw[í Z];exact h.val j X e
def Out (K:ae3) (Ξ:Wd->bF->Prop) (w:Wd) {α} (r:Res α) (k:Wd->α->Prop):Prop:=match r with
 |none=>False
 |some (.ok a,s)=>∀Z,Le K w Z->aR K Z->Z.aO=s->k Z a
 |some (.error x,s)=>∀Z,Le K w Z->aR K Z->Z.aO=s->Ξ Z x
section
variable {K:ae3} {Ξ:Wd->bF->Prop} {w w':Wd} {α β:Type} {r:Res α} {k k':Wd->α->Prop}
def Out.from (h:Out K Ξ w r k) (le:Le K w w'):Out K Ξ w' r k:=by
 delta Out at h |-
 split<;>simp only at h
 .exact λZ Y X e2=>h Z (le.trans Y) X e2
 .exact λZ Y X e2=>h Z (le.trans Y) X e2
def Out.mono (h:Out K Ξ w r k) (hk:∀w2 a,Le K w w2->aR K w2->k w2 a->k' w2 a):Out K Ξ w r k':=by
 delta Out at h |-
 split<;>simp only at h
 .exact λw2 Z Y e2=>hk w2 _ Z Y (h w2 Z Y e2)
 .exact h
theorem Out.aq {q:Wd->β->Prop} (h:Out K Ξ w (DI.aq r g) q):Out K Ξ w r (λw2 a=>Out K Ξ w2 (g a w2.aO) q):=by
 match r,h with
 |some (.ok a,s),h =>
  intro w2 Z Y e2;rw[e2];exact Out.from h Z
 |some (.error x,s),h=>exact h
end
end DI
namespace DI
open PySem L2
def tE (K:ae3) (Ξ:Wd->bF->Prop) (f:ag9 D):TE:=fun σ H Q=>∃w env,w.H=H/\aR K w/\cH K w env σ/\Out K Ξ w (f env w.aO) λZ d=>∀v,DV K Z d v->Q v Z.H
def tT (K:ae3) (Ξ:Wd->bF->Prop) (f:ag9 Bool):TT:=fun σ H Q=>∃w env,w.H=H/\aR K w/\cH K w env σ/\Out K Ξ w (f env w.aO) λZ b=>Q b Z.H
def tA (K:ae3) (Ξ:Wd->bF->Prop) (f:ag9 (List D)):TA:=fun σ H Q=>∃w env,w.H=H/\aR K w/\cH K w env σ/\Out K Ξ w (f env w.aO) λZ X=>∀Y,aB K Z X Y->Q Y Z.H
def rO (K:ae3) (Ξ:Wd->bF->Prop) (o:D->D->ai->Res D):R2:=λx y H Q=>∃w Z Y,w.H=H/\aR K w/\DV K w Z x/\DV K w Y y/\Out K Ξ w (o Z Y w.aO) λX d=>∀v,DV K X d v->Q v X.H
def rU (K:ae3) (Ξ:Wd->bF->Prop) (o:D->ai->Res D):V->Hp->VK->Prop:=λx H Q=>∃w Z,w.H=H/\aR K w/\DV K w Z x/\Out K Ξ w (o Z w.aO) λY d=>∀v,DV K Y d v->Q v Y.H
def rC (K:ae3) (Ξ:Wd->bF->Prop) (o:List D->ai->Res D):List V->Hp->VK->Prop:=λX H Q=>∃w Z,w.H=H/\aR K w/\aB K w Z X/\Out K Ξ w (o Z w.aO) λY d=>∀v,DV K Y d v->Q v Y.H
def ae (i:Nat):ag9 D:=λenv s=>match env[i]? with
 |some (ϊ d)=>ok d s
 |_=>ϋ
def eC (d:D):ag9 D:=λ_ s=>ok d s
def e1 (o:D->ai->Res D) (f:ag9 D):ag9 D:=λenv s=>aq (f env s) λx s=>o x s
def e2 (o:D->D->ai->Res D) (f g:ag9 D):ag9 D:=λenv s=>aq (f env s) λx s=>aq (g env s) λy s=>o x y s
def ah:ag9 (List D):=λ_ s=>ok [] s
def af (f:ag9 D) (g:ag9 (List D)):ag9 (List D):=λenv s=>aq (f env s) λx s=>aq (g env s) λZ s=>ok (x::Z) s
def eB (o:List D->ai->Res D) (f:ag9 (List D)):ag9 D:=λenv s=>aq (f env s) λZ s=>o Z s
noncomputable def kR (ds:List D) (r:Res α):Res α:=if ds.length<=â then r else ϋ
def bp (f:ag9 (List D)):ag9 D:=λenv s=>aq (f env s) λZ s=>kR Z (ok (.tup Z) s)
def qp (f:ag9 (List D)):ag9 D:=λenv s=>aq (f env s) λZ s=>kR Z (ok (.lst Z) s)
def eNew (f:ag9 (List D)):ag9 D:=λenv s=>aq (f env s) λZ s=>kR Z (ok (.aw s.length) (s++[.lst Z]))
def cE:D->ai->Res D:=λd s=>match d with
 | .aw k=>match s[k]? with
  |some (.lst Z)=>ok (.lst Z) (s.set k .dead)
  |_=>ϋ
 |_=>ϋ
def qq (f:ag9 D):ag9 D:=λenv s=>aq (f env s) cE
def gg (d:D) (s:ai):Res Bool:=match d with
 | .bl b=>ok b s
 |_=>ϋ
def aU (f:ag9 D):ag9 Bool:=λenv s=>aq (f env s) gg
def truth (d:D) (s:ai):Res Bool:=match d with
 | .aD=>ok ύ s
 | .bl b=>ok b s
 | .int i=>ok (i != 0) s
 | .str x=>if x.length<=â then ok ((x.length:Int) != 0) s else ϋ
 | .tup Z=>ok (!Z.isEmpty) s
 | .lst Z=>ok (!Z.isEmpty) s
 | .cb Y=>ok (!Y.isEmpty) s
 | .aw k=>match s[k]? with
  |some (.lst Z)=>ok (!Z.isEmpty) s
  |some (.dK Y)=>ok (!Y.isEmpty) s
  |_=>ϋ
 | .ty _=>ϋ
 | .cw _=>ϋ
 | .exc ..=>ϋ
 | .cx ..=>ϋ
def dA (f:ag9 D):ag9 Bool:=λenv s=>aq (f env s) truth
def iP (f g:ag9 Bool):ag9 Bool:=λenv s=>aq (f env s) λb s=>if b=ό then g env s else ok ύ s
def jd (f g:ag9 Bool):ag9 Bool:=λenv s=>aq (f env s) λb s=>if b=ό then ok ό s else g env s
def hX (f:ag9 Bool):ag9 Bool:=λenv s=>aq (f env s) λb s=>ok (!b) s
def dR (f g:ag9 D):ag9 D:=λenv s=>aq (f env s) λx s=>aq (gg x s) λb s=>if b=ό then g env s else ok (.bl ύ) s
def mr (f g:ag9 D):ag9 D:=λenv s=>aq (f env s) λx s=>aq (gg x s) λb s=>if b=ό then ok (.bl ό) s else g env s
def yr (f:ag9 D):ag9 D:=λenv s=>aq (f env s) λx s=>aq (gg x s) λb s=>ok (.bl (!b)) s
def qK (c:ag9 Bool) (f g:ag9 D):ag9 D:=λenv s=>aq (c env s) λb s=>if b=ό then f env s else g env s
def sW (o o':D->D->ai->Res D) (f g h:ag9 D):ag9 D:=λenv s=>aq (f env s) λx s=>aq (g env s) λy s=>aq (o x y s) λz s=>aq (gg z s) λb s =>
 if b=ό then aq (h env s) λu s=>o' y u s else ok (.bl ύ) s
section
variable {X:Cx} {Ξ:Wd->bF->Prop} {e a b c:afh} {es rest:List afh} {pos:Pos} {f g h:ag9 D} {fa:ag9 (List D)} {ft gt:ag9 Bool}
def dF (h:PE X e t) (i:∀ σ H Q,t' σ H Q->t σ H Q):PE X e t':=λZ s σ H Q I Y=>h Z s σ H Q I (i σ H Q Y)
def F5 (h:PT X e t) (i:∀ σ H Q,t' σ H Q->t σ H Q):PT X e t':=λZ s σ H Q I Y=>h Z s σ H Q I (i σ H Q Y)
def Pd (h:PW X e t) (i:∀ σ H Q,t' σ H Q->t σ H Q):PW X e t':=λZ Y s σ H Q I W=>h Z Y s σ H Q I (i σ H Q W)
def Pe (h:PA X es t) (i:∀ σ H Q,t' σ H Q->t σ H Q):PA X es t':=λp Z s σ H Q I Y=>h p Z s σ H Q I (i σ H Q Y)
def kO (h:PS X st t) (i:∀D σ H,t' D σ H->t D σ H):PS X st t':=λY s σ H D I Z=>h s σ H D I (i D σ H Z)
def Oe (h:fx X st t) (i:∀D σ H,t' D σ H->t D σ H):fx X st t':=λY s σ H D I Z=>h s σ H D I (i D σ H Z)
def aK {K} {w} {a:α} {k} (S:aR K w) (h:Out K Ξ w (ok a w.aO) k):k w a:=h w (Le.refl w) S rfl
def ag (i) {x} (hN:X.N[i]?=ϊ x:=by rfl) (hv:vK X.env.scope x:=by first|exact œ rfl|exact ag7 (œ rfl)|exact ag7 (ag7 rfl)) (hd:(x==("__debug__"))=ύ:=by decide)
  (kC:(x==("__classdict__"))=ύ:=by decide):PE X (.Name x pos) (tE X.K Ξ (ae i)):=dF (O2 hN hv hd kC) fun σ H Q Z=>by
 let(w,env,Y,S,W,h):=Z;delta ae at h;split at h
 .rename_i d V
  let(v,e1,e2):=W.val i d V;subst Y;exact#[v,e1,aK S h v e2]
 .exact h.elim
def rR {v} (h:PE X e (tC v)) (hd:∀w,DV X.K w d v):PE X e (tE X.K Ξ (eC d)):=dF h fun σ H Q Z=>by
 let(w,env,Y,S,W,h):=Z;subst Y;exact aK S h v (hd w)
def aG:PE X (.Constant (.int i) j pos) (tE X.K Ξ (eC (.int i))):=rR aaq λ_=>rfl
def iQ {b j}:PE X (.Constant (.bool b) j pos) (tE X.K Ξ (eC (.bl b))):=rR ab7 λ_=>rfl
def acK:PE X (.Constant .none j pos) (tE X.K Ξ (eC .aD)):=rR FX λ_=>rfl
def oA:PE X (.Constant (.str x) j pos) (tE X.K Ξ (eC (.str x))):=rR aar λ_=>rfl
def AZ (σ) (H) (Q):tE K Ξ (e2 o f g) σ H Q->yS (rO K Ξ o) (tE K Ξ f) (tE K Ξ g) σ H Q:=by
 intro zz;let(w,env,rfl,S,Z,h):=zz;exact#[w,env,rfl,S,Z,(Out.aq h).mono λY x X W V v1 U=>#[Y,env,rfl,W,Z.le X,(Out.aq V).mono λT y R P O v2 N=>#[T,x,y,rfl,P,R _ _ U,N,O]]]
def cq (ho:bA X (ŧ op) (rO X.K Ξ o)) (ha:PE X a (tE X.K Ξ f)) (hb:PE X b (tE X.K Ξ g)):PE X (.BinOp a op b pos) (tE X.K Ξ (e2 o f g)):=dF (aci ho ha hb) AZ
def jn (ho:bA X (ğ op) (rO X.K Ξ o)) (ha:PE X a (tE X.K Ξ f)) (hb:PE X b (tE X.K Ξ g)) (hm:afR op b=ύ):PE X (.Compare a [op] [b] pos) (tE X.K Ξ (e2 o f g)):=dF (Y6 ho ha hb hm) AZ
def aa0 (σ) (H) (Q):tT K Ξ (aU f) σ H Q->BH (tE K Ξ f) σ H Q:=by
 intro zz;let(w,env,rfl,S,Y,h):=zz;refine#[w,env,rfl,S,Y,(Out.aq h).mono λV x U X Z v1 W=>?_]
 cases x with
 |bl b =>
  have e:=W;exact#[b,e,aK X Z]
 |_=>exact Z.elim
def Vu (i:∀ σ H Q,t' σ H Q->t σ H Q) (σ) (H) (Q):BH t' σ H Q->BH t σ H Q:=λh=>i _ _ _ h
def ck (ho:bA X (ğ op) (rO X.K Ξ o)) (ha:PE X a (tE X.K Ξ f)) (hb:PE X b (tE X.K Ξ g)) (hm:afR op b=ύ):PT X (.Compare a [op] [b] pos) (tT X.K Ξ (aU (e2 o f g))) :=
 F5 (Y7 ho ha hb hm) fun σ H Q h=>Vu AZ σ H Q (aa0 σ H Q h)
def aa1 {o o'} (σ) (H) (Q):tE K Ξ (sW o o' f g h) σ H Q->O5 (rO K Ξ o) (rO K Ξ o') (tE K Ξ f) (tE K Ξ g) (tE K Ξ h) σ H Q:=by
 intro zz;let(w,env,rfl,S,Z,h):=zz;refine#[w,env,rfl,S,Z,(Out.aq h).mono λO x W N M v1 L=>#[O,env,rfl,N,Z.le W,(Out.aq M).mono λJ y V I G v2 U=>#[J,x,y,rfl,I,V _ _ L,U,(Out.aq G).mono λF z T Y E t X=>?_]]];have R:=Out.aq E
 cases z with
 |bl b =>
  have e:=X;have P:=aK Y R;refine#[b,e,?_]
  cases b with
  |true =>
   exact#[F,env,rfl,Y,Z.le (W.trans (V.trans T)),(Out.aq P).mono λD u C B A v4 v=>#[D,y,u,rfl,B,(T.trans C) _ _ U,v,A]]
  |false =>
   exact aK Y P _ rfl
 |_=>exact R.elim
def Fo (ho:bA X (ğ op) (rO X.K Ξ o)) (eV:bA X (ğ yT) (rO X.K Ξ o')) (ha:PE X a (tE X.K Ξ f)) (hb:PE X b (tE X.K Ξ g)) (hc:PE X c (tE X.K Ξ h))
 (hm:lastMarks [op,yT] [b,c]=ύ:=by with_unfolding_all rfl):PE X (.Compare a [op,yT] [b,c] pos) (tE X.K Ξ (sW o o' f g h)):=dF (Xl ho eV ha hb hc hm) aa1
def Rw (ho:yR X (unaryOp op) (rU X.K Ξ o)) (ha:PE X a (tE X.K Ξ f)):PE X (.UnaryOp op a pos) (tE X.K Ξ (e1 o f)):=dF (acj ho ha) fun σ H Q Z=>by
 let(w,env,Y,S,W,h):=Z;subst Y;exact#[w,env,rfl,S,W,(Out.aq h).mono λV x P U T v1 R=>#[V,x,rfl,U,R,T]]
def dW:PA X [] (tA X.K Ξ ah):=Pe ot fun σ H Q Z=>by
 let(w,env,Y,S,W,h):=Z;subst Y;exact aK S h _ rfl
def ba (ha:PE X e (tE X.K Ξ f)) (hr:PA X es (tA X.K Ξ fa)) (hs:Õ (e::es) X.env=(ύ,Ź e X.env)::Õ es X.env:=by rfl):PA X (e::es) (tA X.K Ξ (af f fa)):=Pe (oh ha hr hs) fun σ H Q Y=>by
 let(w,env,W,S,Z,h):=Y;subst W;exact#[w,env,rfl,S,Z,(Out.aq h).mono λV x U T R v1 P=>#[V,env,rfl,T,Z.le U,(Out.aq R).mono λI G O N M L J=>aK N M _ #[v1,L,rfl,O _ _ P,J]]]
def uh {K} {w} {ds} {r:Res α} {k} (h:Out K Ξ w (kR ds r) k):ds.length<=â/\Out K Ξ w r k:=by
 delta kR at h;split at h
 .exact#[by assumption,h]
 .exact h.elim
def cP (ha:PA X es (tA X.K Ξ fa)):PE X (.Tuple es x1 pos) (tE X.K Ξ (bp fa)):=dF (aaJ ha) fun σ H Q W=>by
 let(w,env,V,S,U,h):=W;subst V;refine#[w,env,rfl,S,U,(Out.aq h).mono λM L J T R P Y=>?_];let(O,N):=uh R;refine#[by rw[<- Y.length];exact O,λp Z=>?_];exact N _ (Fw.grow Z).le (T.grow Z) rfl _ #[p,P,rfl,bE.of eJ,(Fw.grow Z).le.all Y]
def rH {p} (S:aR K w) (hp:w.H p=ϋ):¬ w.Z p:=λ⟨k,c,e1,_,_⟩=>S.there k p e1 hp
def BK (ha:PA X es (tA X.K Ξ fa)):PE X (.List es pos) (tE X.K Ξ (qp fa)):=dF (O7 ha) fun σ H Q U=>by
 let(w,env,T,S,R,h):=U;subst T;refine#[w,env,rfl,S,R,(Out.aq h).mono λP J I W O N V=>?_];let(M,L):=uh O;refine#[by rw[<- V.length];exact M,λp Y=>?_];exact L _ (Fw.grow Y).le (W.grow Y) rfl _ #[p,N,rfl,#[(show ¬ P.Z p from rH W Y),eJ],(Fw.grow Y).le.all V]
def oB (ha:PA X es (tA X.K Ξ fa)):PE X (.List es pos) (tE X.K Ξ (eNew fa)):=dF (O7 ha) fun σ H Q T=>by
 let(w,env,R,S,P,h):=T;subst R;refine#[w,env,rfl,S,P,(Out.aq h).mono λY O J Z N W V=>?_];let(M,L):=uh N;refine#[by rw[<- V.length];exact M,λp U=>?_];have le:=(Fw.cell (o:=.lst W) (c:=.lst O) Z U).le;refine L _ le (Z.GZ U #[W,eJ,le.all V]) rfl _ #[p,?_,rfl];show (Y.ρ++[p])[Y.aO.length]?=ϊ p;rw[<- Z.len];simp
def xU (ha:PE X a (tE X.K Ξ f)):PE X a (tE X.K Ξ (qq f)):=dF ha fun σ H Q W=>by
 let(w,env,V,S,U,h):=W;subst V;refine#[w,env,rfl,S,U,(Out.aq h).mono λM x L Y Z v1 T=>?_];delta cE at Z;split at Z
 .rename_i k
  split at Z
  .rename_i J R
   let(p,e1,e2):=T;let(P,O,N):=Y.cell k p _ e1 R;exact Z _ Fw.freeze.le Y.freeze rfl v1 #[p,P,e2,#[Wd.Wu Y e1,O],Fw.freeze.le.all N]
  .exact Z.elim
 .exact Z.elim
theorem sf.of {k} (S:aR K w) (hd:DV K w d v) (h:Out K Ξ w (truth d w.aO) k):∃b,sf K v w.H b/\k w b:=by
 cases d with
 |aD=>have e:=hd;subst e;exact#[_,rfl,aK S h]
 |bl b=>have e:=hd;subst e;exact#[_,rfl,aK S h]
 |int i=>have e:=hd;subst e;exact#[_,rfl,aK S h]
 |str x =>
  have e:=hd;subst e;delta truth at h
  split at h<;>first|contradiction|skip
  all_goals (rename_i e;cases e)
  split at h
  .exact#[_,#[by assumption,rfl],aK S h]
  .exact h.elim
 |tup Y =>
  let(a,Z,rfl,X,r):=hd;refine#[_,.inr (.inl #[Z,X,?_]),aK S h];have e:=r.length
  cases Y<;>cases Z<;>first|rfl|cases e
 |lst Y =>
  let(a,Z,rfl,X,r):=hd;refine#[_,.inl #[Z,X.sq,?_],aK S h];have e:=r.length
  cases Y<;>cases Z<;>first|rfl|cases e
 |cb W =>
  let(a,rfl,_,X):=hd;refine#[_,.inr (.inr #[_,X,?_]),aK S h]
  cases W<;>rfl
 |aw j =>
  let(a,e1,rfl):=hd;erw[truth] at h;split at h
  .rename_i Y V
   let(Z,U,T):=S.cell j a _ e1 V;refine#[_,.inl #[Z,bJ.of U,?_],aK S h];have e:=T.length
   cases Y<;>cases Z<;>first|rfl|cases e
  .rename_i W V
   let(es,U,T,R):=S.cell j a _ e1 V;refine#[_,.inr (.inr #[es,U,?_]),aK S h];have e:=ň List.length T
   cases W<;>cases es<;>first|rfl|simp at e
  .exact h.elim
 |ty n=>exact h.elim
 |cw Q=>exact h.elim
 |exc o _=>exact h.elim
 |cx o _ _=>exact h.elim
def fF (ha:PE X a (tE X.K Ξ f)) (he:∀whole,ag5 a X.env whole=(do let v <- whole;agx a.pos;agw [v] (truthy v)):=by intro _;rfl):PT X a (tT X.K Ξ (dA f)):=F5 (Xm ha he) fun σ H Q Z=>by
 let(w,env,Y,S,W,h):=Z;subst Y;exact#[w,env,rfl,S,W,(Out.aq h).mono λR x P V U v1 T=>sf.of V T U]
def kS (ha:PT X a (tT X.K Ξ ft)):PT X (.UnaryOp .Not a pos) (tT X.K Ξ (hX ft)):=F5 (aau ha) fun σ H Q Z=>by
 let(w,env,Y,S,W,h):=Z;subst Y;exact#[w,env,rfl,S,W,(Out.aq h).mono λT b R V U=>aK V U]
def xu (ha:PT X a (tT X.K Ξ ft)):PW X (.BoolOp .And [a] pos) (tT X.K Ξ ft):=YZ ha
def rS (ha:PT X a (tT X.K Ξ ft)):PW X (.BoolOp .Or [a] pos) (tT X.K Ξ ft):=aas ha
def w_and (ha:PT X a (tT X.K Ξ ft)) (hb:PW X (.BoolOp .And (b::rest) pos) (tT X.K Ξ gt)):PW X (.BoolOp .And (a::b::rest) pos) (tT X.K Ξ (iP ft gt)):=Pd (aat ha hb) fun σ H Q V=>by
 let(w,env,U,S,Z,h):=V;subst U;refine#[w,env,rfl,S,Z,(Out.aq h).mono λT b R Y W=>?_]
 cases b with
 |true=>exact#[T,env,rfl,Y,Z.le R,W]
 |false=>exact aK Y W
def w_or (ha:PT X a (tT X.K Ξ ft)) (hb:PW X (.BoolOp .Or (b::rest) pos) (tT X.K Ξ gt)):PW X (.BoolOp .Or (a::b::rest) pos) (tT X.K Ξ (jd ft gt)):=Pd (ab8 ha hb) fun σ H Q V=>by
 let(w,env,U,S,Z,h):=V;subst U;refine#[w,env,rfl,S,Z,(Out.aq h).mono λT b R Y W=>?_]
 cases b with
 |false=>exact#[T,env,rfl,Y,Z.le R,W]
 |true=>exact aK Y W
def iw (ha:PE X a (tE X.K Ξ f)):PE X (.BoolOp op [a] pos) (tE X.K Ξ f):=aav ha
def Fp {k} (S:aR K w) (hd:DV K w d v) (h:Out K Ξ w (gg d w.aO) k):∃b,v=.bl b/\k w b:=by
 cases d with
 |bl b=>exact#[b,hd,aK S h]
 |_=>exact h.elim
def f9 (ha:PE X a (tE X.K Ξ f)) (hb:PE X (.BoolOp .And (b::rest) pos) (tE X.K Ξ g)):PE X (.BoolOp .And (a::b::rest) pos) (tE X.K Ξ (dR f g)):=dF (aaw ha hb) fun σ H Q V=>by
 let(w,env,U,S,Y,h):=V;subst U;refine#[w,env,rfl,S,Y,(Out.aq h).mono λT x R Z P v1 O=>?_];let(b,e,W):=Fp Z O (Out.aq P);refine#[b,e,?_]
 cases b with
 |true=>exact#[T,env,rfl,Z,Y.le R,W]
 |false=>exact aK Z W _ rfl
def Co (ha:PE X a (tE X.K Ξ f)) (hb:PE X (.BoolOp .Or (b::rest) pos) (tE X.K Ξ g)):PE X (.BoolOp .Or (a::b::rest) pos) (tE X.K Ξ (mr f g)):=dF (acb ha hb) fun σ H Q V=>by
 let(w,env,U,S,Y,h):=V;subst U;refine#[w,env,rfl,S,Y,(Out.aq h).mono λT x R Z P v1 O=>?_];let(b,e,W):=Fp Z O (Out.aq P);refine#[b,e,?_]
 cases b with
 |false=>exact#[T,env,rfl,Z,Y.le R,W]
 |true=>exact aK Z W _ rfl
def Qt (ha:PE X a (tE X.K Ξ f)):PE X (.UnaryOp .Not a pos) (tE X.K Ξ (yr f)):=dF (aax ha) fun σ H Q Y=>by
 let(w,env,W,S,V,h):=Y;subst W;refine#[w,env,rfl,S,V,(Out.aq h).mono λP x O Z U v1 T=>?_];let(b,e,R):=Fp Z T (Out.aq U);exact#[b,e,aK Z R _ rfl]
def aeo (hc:PT X c (tT X.K Ξ ft)) (ha:PE X a (tE X.K Ξ f)) (hb:PE X b (tE X.K Ξ g)):PE X (.IfExp c a b pos) (tE X.K Ξ (qK ft f g)):=dF (Xj hc ha hb) fun σ H Q T=>by
 let(w,env,R,S,Z,h):=T;subst R;refine#[w,env,rfl,S,Z,(Out.aq h).mono λY b W V U=>?_]
 cases b with
 |true=>exact#[Y,env,rfl,V,Z.le W,U]
 |false=>exact#[Y,env,rfl,V,Z.le W,U]
def Pf (σ) (H) (Q):tE K Ξ (eB o fa) σ H Q->IY (rC K Ξ o) (tA K Ξ fa) σ H Q:=by
 intro zz;let(w,env,rfl,S,Z,h):=zz;exact#[w,env,rfl,S,Z,(Out.aq h).mono λY X T W V R U=>#[Y,X,rfl,W,U,V]]
def bG {p} {id} {o} (hc:cX X (.builtin id) (rC X.K Ξ o)) (hg:Gl X x) (hm:X.mg x=ϋ) (hv:ć x=ϊ (.builtin id)) (ha:PA X (e::es) (tA X.K Ξ fa)) (hn:x≠"__name__":=by decide) (kD:(x==("__debug__"))=ύ:=by decide)
  (he:Õ (e::es) X.env=(ύ,Ź e X.env)::Õ es X.env:=by rfl) (cz:(ũ pos (Õ es X.env)).any (·.1)=ύ:=by rfl):PE X (.Call (.Name x p) (e::es) [] pos) (tE X.K Ξ (eB o fa)):=dF (Ez hc hg hm hv ha hn kD he cz) Pf
def gv {p} {T} {o} (hc:cX X (.type T) (rC X.K Ξ o)) (hg:Gl X x) (hm:X.mg x=ϋ) (hv:ć x=ϊ (.type T)) (ha:PA X (e::es) (tA X.K Ξ fa)) (hn:x≠"__name__":=by decide) (kD:(x==("__debug__"))=ύ:=by decide)
  (he:Õ (e::es) X.env=(ύ,Ź e X.env)::Õ es X.env:=by rfl) (cz:(ũ pos (Õ es X.env)).any (·.1)=ύ:=by rfl):PE X (.Call (.Name x p) (e::es) [] pos) (tE X.K Ξ (eB o fa)):=dF (wL hc hg hm hv ha hn kD he cz) Pf
end
set_option genInjectivity true in
inductive Fl where
 |nx (env:Env)|rt (d:D)|bk (env:Env)|ct (env:Env)
def aep (K:ae3) (D:Ends) (w:Wd):Fl->Prop
 | .nx env=>∀ σ,cH K w env σ->D.nx σ w.H
 | .rt d=>∀v,DV K w d v->D.rt v w.H
 | .bk env=>∀ σ,cH K w env σ->D.bk σ w.H
 | .ct env=>∀ σ,cH K w env σ->D.ct σ w.H
def tS (K:ae3) (Ξ:Wd->bF->Prop) (f:ag9 Fl):TS:=λD σ H=>∃w env,w.H=H/\aR K w/\cH K w env σ/\Out K Ξ w (f env w.aO) (aep K D)
def bY:ag9 Fl:=λenv s=>ok (.nx env) s
def ay (f g:ag9 Fl):ag9 Fl:=λenv s=>aq (f env s) λfl s=>match fl with
 | .nx env=>g env s
 |fl=>ok fl s
def aL (f:ag9 D):ag9 Fl:=λenv s=>aq (f env s) λd s=>ok (.rt d) s
def cJ (f:ag9 D):ag9 Fl:=λenv s=>aq (f env s) λ_ s=>ok (.nx env) s
def bO (c:ag9 Bool) (f g:ag9 Fl):ag9 Fl:=λenv s=>aq (c env s) λb s=>if b=ό then f env s else g env s
def Qu:ag9 Fl:=λenv s=>ok (.ct env) s
def aM (f:ag9 D) (g:D->Env->Option Env):ag9 Fl:=λenv s=>aq (f env s) λd s=>match g d env with
 |some Z=>ok (.nx Z) s
 |none=>ϋ
noncomputable def gN (i:Nat):D->Env->Option Env:=λd env=>ϊ (env.set i (ϊ d))
noncomputable def jt:List (D->Env->Option Env)->List D->Env->Option Env
 | [],[],env=>ϊ env
 |g::Y,d::X,env=>match g d env with
  |some Z=>jt Y X Z
  |none=>ϋ
 |_,_,_=>ϋ
def gT (gs:List (D->Env->Option Env)):D->Env->Option Env:=λd env=>match d with
 | .tup Z=>jt gs Z env
 |_=>ϋ
def m8 (g:D->Env->Option Env) (b:ag9 Fl):List D->ag9 Fl
 | [],env,s=>ok (.nx env) s
 |d::Y,env,s=>match g d env with
  |none=>ϋ
  |some Z=>aq (b Z s) λX s=>match X with
   | .nx e=>m8 g b Y e s
   | .ct e=>m8 g b Y e s
   | .bk e=>ok (.nx e) s
   | .rt d=>ok (.rt d) s
def fv (it:ag9 (List D)) (g:D->Env->Option Env) (b:ag9 Fl):ag9 Fl:=λenv s=>aq (it env s) λZ s=>m8 g b Z env s
def ne (r:Res α):Res α:=match r with
 |some (.ok a,s)=>ϊ (.ok a,s)
 |_=>ϋ
@[simp] theorem iO {s}:ne (ϊ (.ok a,s))=ϊ (.ok a,s):=rfl
noncomputable def jL (cap:List Nat) (env:Env):Env:=cap.map λj=>(env[j]?).getD ϋ
def fj (nt:Nat) (aW:Env) (g:D->Env->Option Env) (t:ag9 Bool) (f:ag9 D):List D->ai->Res (List D)
 | [],s=>ok [] s
 |d::Z,s=>match g d (Ñ nt ϋ++aW) with
  |none=>ϋ
  |some env=>aq (ne (t env s)) λb s=>if b=ό then aq (ne (f env s)) λx s=>aq (fj nt aW g t f Z s) λY s=>ok (x::Y) s
   else fj nt aW g t f Z s
def aQ (nt:Nat) (cap:List Nat) (it:ag9 (List D)) (g:D->Env->Option Env) (t:ag9 Bool) (f:ag9 D):ag9 D:=λenv s =>
 aq (it env s) λZ s=>kR Z (aq (fj nt (jL cap env) g t f Z s) λY s=>ok (.lst Y) s)
def bu:ag9 Bool:=λ_ s=>ok ό s
def aS (np ns:Nat) (b:ag9 Fl):List D->ai->Res D:=λZ s=>if Z.length=np then aq (b (Z.map ϊ++Ñ (ns-np) ϋ) s) λY s=>match Y with
 | .rt d=>ok d s
 | .nx _=>ok .aD s
 |_=>ϋ else ϋ
abbrev bS:Wd->bF->Prop:=λ_ _=>False
def mv (K:ae3) (f:List D->ai->Res D):Sp:=λX H Q _=>∃w Z,w.H=H/\aR K w/\aB K w Z X/\Out K bS w (f Z w.aO) λY d=>∀v,DV K Y d v->Q v Y.H
section
variable {X:Cx} {Ξ:Wd->bF->Prop} {e a b c tg:afh} {es rest:List afh} {pos:Pos} {f g h:ag9 D} {fa:ag9 (List D)} {ft gt:ag9 Bool} {st:Stmt} {qL Ia:List Stmt} {fs gs:ag9 Fl}
def ef:fx X [] (tS X.K Ξ bY):=Oe Y0 λD σ H Z=>by
 let(w,env,Y,S,W,h):=Z;subst Y;exact aK S h σ W
def aF (h1:PS X st (tS X.K Ξ fs)) (h2:fx X qL (tS X.K Ξ gs)):fx X (st::qL) (tS X.K Ξ (ay fs gs)):=Oe (Xk h1 h2) λD σ H W=>by
 let(w,env,V,S,U,h):=W;subst V;refine#[w,env,rfl,S,U,(Out.aq h).mono λT R P Y h1=>?_]
 cases R with
 |nx Z=>exact fun O Q=>#[T,Z,rfl,Y,Q,h1]
 |rt d=>have q:=aK Y h1;exact q
 |bk Z=>have q:=aK Y h1;exact q
 |ct Z=>have q:=aK Y h1;exact q
def aH (h1:PS X st (tS X.K Ξ fs)):fx X [st] (tS X.K Ξ fs):=Y1 h1
def aV (he:PE X e (tE X.K Ξ f)):PS X (.Return (ϊ e) pos) (tS X.K Ξ (aL f)):=kO (aay he) λD σ H Z=>by
 let(w,env,Y,S,W,h):=Z;subst Y;exact#[w,env,rfl,S,W,(Out.aq h).mono λT d R V U=>aK V U]
def fk (he:PE X e (tE X.K Ξ f)) (hs:agL e ϋ pos.line X.env=pure ύ:=by rfl):PS X (.Expr e pos) (tS X.K Ξ (cJ f)):=kO (Y2 he hs) λD σ H Y=>by
 let(w,env,W,S,Z,h):=Y;subst W;exact#[w,env,rfl,S,Z,(Out.aq h).mono λR d V U T _ _=>aK U T σ (Z.le V)]
def dS (hc:PT X c (tT X.K Ξ ft)) (ha:fx X qL (tS X.K Ξ fs)) (hb:fx X Ia (tS X.K Ξ gs)):PS X (.If c qL Ia pos) (tS X.K Ξ (bO ft fs gs)):=kO (acf hc ha hb) λD σ H T=>by
 let(w,env,R,S,Z,h):=T;subst R;refine#[w,env,rfl,S,Z,(Out.aq h).mono λY b W V U=>?_]
 cases b with
 |true=>exact#[Y,env,rfl,V,Z.le W,U]
 |false=>exact#[Y,env,rfl,V,Z.le W,U]
noncomputable def qM:ag9 Fl:=λ_ _=>ϋ
def rj:fx X qL (tS X.K Ξ qM):=λ_ _ _ _ _ _ h=>by let(w,env,_,_,_,h):=h;exact h.elim
def gD (K:ae3) (g:D->Env->Option Env):TG:=λv σ H Q=>∃w env d Z,w.H=H/\aR K w/\cH K w env σ/\DV K w d v/\g d env=ϊ Z/\∀ Y,cH K w Z Y->Q Y H
def zk (K:ae3) (g:List D->Env->Option Env):sG:=λW σ H Q=>∃w env Y Z,w.H=H/\aR K w/\cH K w env σ/\aB K w Y W/\g Y env=ϊ Z/\∀ X,cH K w Z X->Q X H
def Ph (h:PG X e t) (i:∀v σ H Q,t' v σ H Q->t v σ H Q):PG X e t':=λZ s σ H v u Q I r Y=>h Z s σ H v u Q I r (i v σ H Q Y)
def Of (h:nF X es t) (i:∀v σ H Q,t' v σ H Q->t v σ H Q):nF X es t':=λZ s σ H v u Q I r Y=>h Z s σ H v u Q I r (i v σ H Q Y)
def cM (i) {x} (hN:X.N.Nodup) (hi:X.N[i]?=ϊ x:=by rfl) (hx:Loc X.env.scope x:=by first|exact œ rfl|exact ag7 rfl) (hf:X.fn x=ό\/X.env.scope.names.lookup x=ϊ .local:=by first|exact .inl rfl|exact .inr rfl):PG X (.Name x pos) (gD X.K (gN i)) :=
 Ph (cy hN hi hx hf) λv σ H Q Y=>by
  let(w,env,d,Z,T,S,W,V,U,k):=Y;have e:=ahe U;subst e;exact k _ (W.set V i)
def p9:nF X [] (zk X.K (jt [])):=Of mO λR σ H Q V=>by
 let(w,env,Z,Y,P,S,U,T,W,k):=V
 cases Z with
 |nil =>
  have e:=ahe W;subst e;exact#[T,k _ U]
 |cons d Z=>cases W
def fW {g} {gl} (h1:PG X e (gD X.K g)) (h2:nF X es (zk X.K (jt gl)))
  (hs:(η (e::es) X.env).map (·.2)=af5 e X.env::(η es X.env).map (·.2):=by rfl):nF X (e::es) (zk X.K (jt (g::gl))):=Of (fM h1 h2 hs) λJ σ H Q P=>by
 let(w,env,W,Y,T,S,O,N,Z,k):=P
 cases W with
 |nil=>cases Z
 |cons d W =>
  let(v,r,rfl,M,dr):=N;erw[jt] at Z
  cases V:g d env with
  |none=>rw[V] at Z;cases Z
  |some R =>
   rw[V] at Z;refine#[v,r,rfl,w,env,d,R,T,S,O,M,V,fun L U=>#[w,R,W,Y,T,S,U,dr,Z,k]]
theorem EE:∀{gl} {ds} {env env'},jt gl ds env=ϊ env'->ds.length=gl.length
 | [],[],_,_,_=>rfl
 |g::gl,d::ds,env,env',h=>by
  erw[jt] at h
  cases Z:g d env with
  |none=>rw[Z] at h;cases h
  |some e1=>rw[Z] at h;simp[EE h]
 | [],_::_,_,_,h=>by cases h
 |_::_,[],_,_,h=>by cases h
def qf {k} (hc:X.calm=ό) (h:nF X es (zk X.K (jt gl))) (hn:(η es X.env).length=gl.length:=by rfl) (sH:(η es X.env).findIdx? (·.1)=ϋ:=by rfl):PG X (.Tuple es k pos) (gD X.K (gT gl)) :=
 Ph (jI hc h hn sH) λv σ H Q V=>by
  let(w,env,d,Z,U,S,T,R,Y,k):=V
  cases d with
  |tup P =>
   let(p,O,e1,N,W):=R;subst U;exact#[p,O,e1,N,by rw[<- W.length];exact EE Y,w,env,P,Z,rfl,S,T,W,Y,k]
  |_=>cases Y
def A0 {g} (D) (σ) (H):tS K Ξ (aM f g) D σ H->se (tE K Ξ f) (gD K g) D σ H:=by
 intro zz;let(w,env,rfl,S,W,h):=zz;refine#[w,env,rfl,S,W,(Out.aq h).mono λU d T V Y v R=>?_]
 cases X:g d env with
 |none=>rw[X] at Y;exact Y.elim
 |some Z =>
  rw[X] at Y;exact#[U,env,d,Z,rfl,V,W.le T,R,X,aK V Y]
def rT {g} (he:PE X e (tE X.K Ξ f)) (hg:PG X tg (gD X.K g)) (hs:ae4 [tg] e pos.line X.env=pure ύ:=by rfl) (hw:ae5 [tg] e X.env=pure ϋ:=by rfl)
  (h1:(η [tg] X.env).map (·.2)=[af5 tg X.env]:=by rfl):PS X (.Assign [tg] e pos) (tS X.K Ξ (aM f g)):=kO (FY he hg hs hw h1) A0
def Ee {te:TE} {i} (D) (σ) (H):se (tE K Ξ f) (gD K (gN i)) D σ H->se (tE K Ξ f) (lS i) D σ H:=by
 intro zz;let(w,env,rfl,S,Y,h):=zz;refine#[w,env,rfl,S,Y,h.mono λR d Q P X v W=>?_];let(O,N,M,Z,L,J,V,U,T,k):=X v W;have e:=ahe T;subst e;exact k _ (V.set U i)
def bK (i) {x} {pos'} (hN:X.N.Nodup) (he:PE X e (tE X.K Ξ f)) (hi:X.N[i]?=ϊ x:=by rfl) (hx:Loc X.env.scope x:=by first|exact œ rfl|exact ag7 rfl) (hs:agL e (ϊ (.Name x pos')) pos.line X.env=pure ύ:=by rfl) (hf:X.fn x=ό\/X.env.scope.names.lookup x=ϊ .local:=by first|exact .inl rfl|exact .inr rfl) :
  PS X (.Assign [.Name x pos'] e pos) (tS X.K Ξ (aM f (gN i))):=kO (aaz hN hi hx he hs hf) λD σ H h=>Ee (te:=tE X.K Ξ f) D σ H (A0 D σ H h)
def mw (K:ae3) (w:Wd) (J:It) (ds:List D):Prop:=∀Z,Le K w Z->aR K Z->∀i,
 (∀d,ds[i]?=ϊ d->J.go i Z.H/\∀x X,J.yN i Z.H x X->∃Y,Y.H=X/\Le K Z Y/\aR K Y/\Y.aO=Z.aO/\DV K Y d x)/\(ds.length<=i->J.stop i Z.H)
def ee (K:ae3) (Ξ:Wd->bF->Prop) (f:ag9 (List D)):TI:=fun σ H R=>∃w env,w.H=H/\aR K w/\cH K w env σ/\Out K Ξ w (f env w.aO) λZ Y=>∀J,mw K Z J Y->R J Z.H
def xw (h:PI X tg e t) (i:∀ σ H R,t' σ H R->t σ H R):PI X tg e t':=λZ s σ H R I Y=>h Z s σ H R I (i σ H R Y)
def Zy {it} {g} (D0) (σ) (H):tS K Ξ (fv it g fs) D0 σ H->Rl (ee K Ξ it) (gD K g) (tS K Ξ fs) D0 σ H:=by
 intro zz;let(w,env,rfl,S,E,h):=zz;refine#[w,env,rfl,S,E,(Out.aq h).mono λN V r p o J D=>?_];refine#[λi m C B=>m=V.length-i/\i<=V.length/\∃X Z,X.H=B/\Le K N X/\aR K X/\cH K X Z C/\Out K Ξ X (m8 g fs (V.drop i) Z X.aO) _,
  #[_,rfl,Ă _,N,env,rfl,Le.refl _,p,E.le r,o],?_]
 intro i m C B zz;let(rfl,hi,X,Z,rfl,U,M,A,W):=zz;by_cases L:i<V.length
 .right
  let(n,l):=(D X U M i).1 _ (É L);rw[ĺ L] at W;erw[m8] at W
  cases I:g _ Z with
  |none=>rw[I] at W;exact W.elim
  |some z =>
   rw[I] at W;refine#[n,fun v T=>∃Y G,Y.H=T/\Le K N Y/\aR K Y/\cH K Y G _/\Out K Ξ Y _ _,fun v T ⟨Y,G,q⟩=>#[_,by omega,rfl,L,Y,G,q],λx T y=>?_];let(Y,rfl,R,u,es,k):=l x T y;refine#[Y,Z,_,z,rfl,u,A.le R,k,I,fun v j=>#[Y,z,rfl,u,j,?_]];rw[<- es] at W;refine(Out.aq (W.from R)).mono λt f s Q P=>?_
   cases f with
   |nx O=>exact fun c F=>#[t,O,rfl,U.trans (R.trans s),Q,F,P]
   |ct O=>exact fun c F=>#[t,O,rfl,U.trans (R.trans s),Q,F,P]
   |bk O=>have q:=aK Q P;exact q
   |rt d=>have q:=aK Q P;exact q
 .left
  have e:i=V.length:=by omega
  subst e;rw[agB] at W;exact#[(D X U M _).2 (ahd _),aK M W _ A]
def jo {it} {g} (hp:PassesOwn (ã X.prog X.w) X.A X.env X.xe) (hc:X.calm=ό) (hi:PI X tg iter (ee X.K Ξ it)) (hg:PG X tg (gD X.K g)) (hb:fx X qL (tS X.K Ξ fs))
  (hs:∀x,ú iter X.env x=pure x:=by intro _;rfl):PS X (.For tg iter qL [] pos) (tS X.K Ξ (fv it g fs)):=kO (aaC hp hc hi hg hb hs) Zy
theorem Out.ne {K} {w} {r:Res α} {k} (h:Out K Ξ w (DI.ne r) k):Out K bS w r k:=by
 match r,h with
 |some (.ok a,s),h=>exact h
def cH.block {env} {σ} (h:cH K w env σ) (nt) (cap) (o) (ho:o.length=nt):cH K w (Ñ nt ϋ++jL cap env) (o++oz cap σ):=by
 refine#[by simp[jL,oz,ho],λi d e=>?_];by_cases hi:i<nt
 .rw[Ù (by simpa using hi),ĵ,õ hi] at e
  cases e
 .rw[ç (by simpa using afE hi)] at e
  rw[ç ⋯,ho];erw[afj] at e;delta jL at e;delta oz;rw[Þ] at e |-
  cases Z:cap[i-nt]? with
  |none=>rw[Z] at e;cases e
  |some j =>
   rw[Z] at e;have ev:(env[j]?).getD ϋ=ϊ d:=ahe e;have Y:env[j]?=ϊ (ϊ d):=by
    cases q:env[j]? with
    |none=>rw[q] at ev;cases ev
    |some z=>rw[q] at ev;exact ň ϊ ev
   let(v,e1,e2):=h.val j d Y;exact#[v,by rw[ž,e1];rfl,e2]
def Wv {cap} {it} {g} {fin} (σ) (H) (Q)
  (si:∀w2 xs vs,aR K w2->aB K w2 xs vs->Out K Ξ w2 (fin xs w2.aO) (λw' d=>∀v,DV K w' d v->Q v w'.H)->∀p,w2.H p=ϋ->Q (.ref p) (upd w2.H p (.lst vs))) :
  tE K Ξ (λenv s=>aq (it env s) λds s=>kR ds (aq (fj nt (jL cap env) g ft f ds s) fin)) σ H Q->rQ (ee K Ξ it) nt cap (gD K g) (tT K bS ft) (tE K bS f) σ H Q:=by
 intro zz;let(w,env,rfl,S,C,h):=zz;refine#[w,env,rfl,S,C,(Out.aq h).mono λO ds k j N J B=>?_];let(hz,N):=uh N;refine#[λi m Y A=>m=ds.length-i/\i<=ds.length/\Y.length<=i/\∃w' Z,w'.H=A/\Le K O w'/\aR K w'/\aB K w' Z Y/\Out K Ξ w' (fj nt _ g ft f (ds.drop i) w'.aO) λw2 xs=>∀vs,aB K w2 (Z++xs) vs->∀p,w2.H p=ϋ->Q (.ref p) (upd w2.H p (.lst vs)),
  #[_,rfl,Ă _,Ă _,O,[],rfl,Le.refl _,j,rfl,(Out.aq N).mono λw2 xs W R c vs P p V=>?_],?_]
 .exact si w2 xs vs R P c p V
 intro i m Y A zz;let(rfl,hi,ha,w',Z,rfl,U,M,L,X):=zz;by_cases I:i<ds.length
 .right
  let(a,hy):=(B w' U M i).1 _ (É I);rw[ĺ I] at X;erw[fj] at X
  cases G:g _ _ with
  |none=>rw[G] at X;exact X.elim
  |some F =>
   rw[G] at X;refine#[a,by omega,λE z=>E.length<=i+1/\∃w' Z,w'.H=z/\Le K O w'/\aR K w'/\aB K w' Z E/\Out K Ξ w' _ λw2 xs=>∀vs,aB K w2 _ vs->∀p,w2.H p=ϋ->Q _ _,
    λE z ⟨D,q⟩=>#[_,by omega,rfl,I,D,q],λo x H3 ho y=>?_]
   let(w2,rfl,W,R,es,dv):=hy x H3 y;refine#[w2,_,_,F,rfl,R,(C.le (k.trans (U.trans W))).block nt cap o ho,dv,G,fun sJ u=>?_];rw[<- es] at X;refine#[w2,F,rfl,R,u,(Out.aq (X.from W)).ne.mono λt b T r n=>?_]
   cases b with
   |true =>
    refine#[t,F,rfl,r,u.le T,(Out.aq n).ne.mono λw4 d l S4 h4 v zj=>#[by simp;omega,w4,_,rfl,U.trans (W.trans (T.trans l)),S4,aB.append ((W.trans (T.trans l)).all L) (aB.one zj),(Out.aq h4).mono λw5 xs l5 S5 h5 vs P p V=>?_]];exact aK S5 h5 vs (by rw[Ö] at P;exact P) p V
   |false =>
    exact#[by omega,t,Z,rfl,U.trans (W.trans T),r,(W.trans T).all L,n]
 .left
  have e:i=ds.length:=by omega
  subst e;rw[agB] at X;refine#[(B w' U M _).2 (ahd _),by omega,λp V=>aK M X Y (by rw[ĕ];exact L) p V]
def Nu {cap} {it} {g} (σ) (H) (Q) :
  tE K Ξ (aQ nt cap it g ft f) σ H Q->rQ (ee K Ξ it) nt cap (gD K g) (tT K bS ft) (tE K bS f) σ H Q :=
 Wv σ H Q λW S V X U T p Y=>T _ (Fw.grow Y).le (X.grow Y) rfl _ #[p,V,rfl,#[(show ¬ W.Z p from rH X Y),eJ],(Fw.grow Y).le.all U]
end
def Og {o aW:St} {v} {i nt} (ho:o.length=nt) (hi:i<nt):(o++aW).set i (ϊ v)=o.set i (ϊ v)++aW:=by
 rw[List.set_append_left _ _ ⋯]
def Ww (hi:i<nt):l9 (lS i) nt:=by
 intro x o Y H R Z h;exact#[#[_,by rw[Ĥ];exact Z,Og Z hi],h]
def yt (g:sG) (nt:Nat):Prop:=∀Y o Z H R,o.length=nt->g Y (o++Z) H R->g Y (o++Z) H fun X V=>(∃W,W.length=nt/\X=W++Z)/\R X V
def XQ:yt HP nt:=λY o X H R Z h=>#[h.1,#[o,Z,rfl],h.2]
def Wx (hi:i<nt) (hg:yt g nt):yt (GU (lS i) g) nt:=by
 intro X o Y H R Z zz;let(v,r,e,h):=zz;refine#[v,r,e,?_];have h:g r _ H R:=h;show g r _ H _;rw[Og Z hi] at h |-;exact hg r _ Y H R (by rw[Ĥ];exact Z) h
def XR (hg:yt g nt):l9 (HQ K n g) nt:=by
 intro x o Y H R X zz;let(a,Z,e,W,V,h):=zz;exact#[a,Z,e,W,V,hg Z o Y H R X h]
structure Tg (K) (g0) (g) (nt):Prop where
 kH:l9 g0 nt
 imp:∀v σ H Q,gD K g v σ H Q->g0 v σ H Q
structure CS (K) (g0) (g) (nt):Prop where
 kH:yt g0 nt
 imp:∀v σ H Q,zk K (jt g) v σ H Q->g0 v σ H Q
def i3 (i) (hi:i<nt:=by decide):Tg K (lS i) (gN i) nt:=#[Ww hi,λv σ H Q Y=>by
 let(w,env,d,Z,U,S,X,W,V,k):=Y;have e:=ahe V;subst e;exact k _ (X.set W i)]
def oj:CS K HP [] nt:=#[XQ,λT σ H Q W=>by
 let(w,env,Z,Y,R,S,V,U,X,k):=W
 cases Z with
 |nil =>
  have e:=ahe X;subst e;exact#[U,k _ V]
 |cons d Z=>cases X]
def fV (i) (h:CS K g0 gl nt) (hi:i<nt:=by decide):CS K (GU (lS i) g0) (gN i::gl) nt:=#[Wx hi h.kH,λP σ H Q W=>by
 let(w,env,Y,Z,V,S,U,T,X,k):=W
 cases Y with
 |nil=>cases X
 |cons d Y =>
  let(v,r,rfl,R,dr):=T;exact#[v,r,rfl,h.imp _ _ _ _ #[w,_,Y,Z,V,S,U.set R i,dr,X,k]]]
def ou (h:CS K g0 gl nt) (hn:gl.length=n:=by rfl):Tg K (HQ K n g0) (gT gl) nt:=#[XR h.kH,λv σ H Q W=>by
 let(w,env,d,Z,V,S,U,T,Y,k):=W
 cases d with
 |tup R =>
  let(p,P,e1,O,X):=T;subst V;exact#[p,P,e1,O,by rw[<- X.length,EE Y];exact hn,h.imp _ _ _ _ #[w,env,R,Z,rfl,S,U,X,Y,k]]
 |_=>cases Y]
section
variable {X:Cx} {Ξ:Wd->bF->Prop} {e a b c tg el src:afh} {es rest tests:List afh} {pos:Pos} {f g h:ag9 D} {fa:ag9 (List D)} {ft gt:ag9 Bool} {st:Stmt} {qL Ia:List Stmt} {fs gs:ag9 Fl}
def aa2 (h:PF X tests t) (i:∀ σ H Q,t' σ H Q->t σ H Q):PF X tests t':=λZ s σ H Q I Y=>h Z s σ H Q I (i σ H Q Y)
def cm:PF X [] (tT K Ξ bu):=aa2 aaS fun σ H Q Z=>by
 let(w,env,Y,S,W,h):=Z;subst Y;exact aK S h
def ix (h:PT X c (tT K Ξ ft)):PF X [c] (tT K Ξ ft):=aaT h
def Mj (i_:∀v σ H Q,g1 v σ H Q->g0 v σ H Q) (wm:∀R R',(∀J H',R J H'->R' J H')->wi σ H R->wi σ H R') (h:rQ wi nt cap g1 tf te σ H Q):rQ wi nt cap g0 tf te σ H Q:=by
 refine wm _ _ (λJ H' Y=>?_) h;let(W,X,step):=Y;refine#[W,X,λi m Z V hw=>?_]
 rcases step i m Z V hw with q | ⟨U,T,N,S,P⟩
 .exact .inl q
 .exact .inr #[U,T,N,S,λo x O M y=>i_ _ _ _ _ (P o x O M y)]
def AL (R R') (i:∀J H',R J H'->R' J H') (h:ee K Ξ it σ H R):ee K Ξ it σ H R':=by
 let(w,env,Z,S,Y,h):=h;exact#[w,env,Z,S,Y,h.mono λV U _ _ X J W=>i J _ (X J W)]
def bq (f:ag9 D):ag9 (List D):=λenv s=>aq (f env s) λd s=>match d with
 | .lst Z=>ok Z s
 | .tup Z=>ok Z s
 |_=>ϋ
def XU {a} {ds} (h:DV K w (.lst ds) (.ref a)):mw K w (IU K a) ds:=λW V U i=>by
 have T:=V _ _ h;let(p,Z,e,Y,X):=T;cases e;refine#[λd S=>?_,λR=>#[Z,Y.sq,by rw[<- X.length];exact R]];let(v,ev,Q):=X.get' i d S;exact#[#[Z,v,Y.sq,ev],λx P ⟨e1,e2⟩=>#[W,e1.symm,Le.refl _,U,rfl,by
  have q:=e2 Z Y.sq;rw[ev] at q;cases q;exact Q]]
def Zz {a} {ds} (h:DV K w (.tup ds) (.ref a)):mw K w (IV K a) ds:=λW V U i=>by
 have T:=V _ _ h;let(p,Z,e,Y,X):=T;cases e;refine#[λd S=>?_,λR=>#[Z,Y,by rw[<- X.length];exact R]];let(v,ev,Q):=X.get' i d S;exact#[#[Z,v,Y,ev],λx P ⟨e1,e2⟩=>#[W,e1.symm,Le.refl _,U,rfl,by
  have q:=e2 Z Y;rw[ev] at q;cases q;exact Q]]
def cO (hl:PE X a (tE X.K Ξ f)):PI X tg a (ee X.K Ξ (bq f)):=by
 have both:PI X tg a (fun σ H R=>Ql _ _ σ H R\/Rk _ _ σ H R):=λN s σ H R I h=>h.elim (Y3 hl N s σ H R I) (aaB hl N s σ H R I);refine xw both fun σ H R ⟨w,env,M,S,W,h⟩=>?_;subst M;erw[bq] at h
 cases Z:f env _ with
 |none=>rw[Z] at h;exact h.elim
 |some r =>
  let(r,s):=r;rw[Z] at h
  cases r with
  |error x=>exact .inl #[w,env,rfl,S,W,by rw[Z];exact h]
  |ok d =>
   cases d with
   |lst L =>
    refine .inl #[w,env,rfl,S,W,?_];rw[Z];intro V U T e1 v Y;have Q:=Y;let(p,P,rfl,O,J):=Y;exact#[p,rfl,#[P,O.sq],h V U T e1 _ (XU Q)]
   |tup L =>
    refine .inr #[w,env,rfl,S,W,?_];rw[Z];intro V U T e1 v Y;have Q:=Y;let(p,P,rfl,O,J):=Y;exact#[p,rfl,#[P,O],h V U T e1 _ (Zz Q)]
   |_=>exact h.elim
noncomputable def bL (lo:Int) (n:Nat):List D:=(Ô n).map λ(i:Nat)=>D.int (lo+(i))
def iL:(bL lo n)[i]?=if i<n then ϊ (.int (lo+i)) else ϋ:=by
 delta bL;rw[Þ];by_cases h:i<n
 .rw[Ł h,õ h];rfl
 .rw[Ġ (by simp;omega),ÿ h];rfl
def fC:(bL lo n).length=n:=by simp[bL]
def Oh:mw K w (yO lo n) (bL lo n):=λX V W i=>by
 refine#[λd Z=>?_,λY=>by rw[fC] at Y;exact Y];rw[iL] at Z;split at Z
 .cases Z
  exact#[by assumption,λx U ⟨e1,e2⟩=>#[X,e1.symm,Le.refl _,W,rfl,e2]]
 .cases Z
noncomputable def kh (j:Int):Bool:=ώ (-(2 ^ 62)<=j)&&ώ (j<2 ^ 62)
def bT (fa:ag9 (List D)):ag9 (List D):=λenv s=>aq (fa env s) λZ s=>match Z with
 | [.int j]=>if kh j=ό then ok (bL 0 j.toNat) s else ϋ
 |_=>ϋ
def oW (fa:ag9 (List D)):ag9 (List D):=λenv s=>aq (fa env s) λZ s=>match Z with
 | [.int i,.int j]=>if (kh i&&kh j)=ό then ok (bL i (j-i).toNat) s else ϋ
 |_=>ϋ
def dq (hg:Gl X "range") (hm:X.mg "range"=ϋ) (ha:PA X [a] (tA X.K Ξ fa)) (hs:Õ [a] X.env=[(ύ,Ź a X.env)]:=by rfl):PI X tg (.Call (.Name "range" p) [a] [] pos) (ee X.K Ξ (bT fa)) :=
 xw (Wb hg hm ha hs) fun σ H R W=>by
  let(w,env,V,S,U,h):=W;subst V;refine#[w,env,rfl,S,U,(Out.aq h).mono λO N M T Z L Q=>?_];split at Z
  .rename_i j
   split at Z
   .rename_i Y
    erw[kh,Ç,Æ] at Y;let(v,r,rfl,P,dr):=Q;have e1:=P;have e2:=dr;subst e1 e2;exact#[j,rfl,Y.1,Y.2,aK T Z _ Oh]
   .exact Z.elim
  .exact Z.elim
def Bp {p} (hg:Gl X "range") (hm:X.mg "range"=ϋ) (ha:PA X [a,b] (tA X.K Ξ fa)) (hs:Õ [a,b] X.env=[(ύ,Ź a X.env),(ύ,Ź b X.env)]:=by rfl) (eD:Õ [b] X.env=[(ύ,Ź b X.env)]:=by rfl):PI X tg (.Call (.Name "range" p) [a,b] [] pos) (ee X.K Ξ (oW fa)) :=
 xw (Wc hg hm ha hs eD) fun σ H R W=>by
  let(w,env,V,S,U,h):=W;subst V;refine#[w,env,rfl,S,U,(Out.aq h).mono λM L J T Z I Q=>?_];split at Z
  .rename_i i j
   split at Z
   .rename_i Y
    erw[kh,Ç,Æ] at Y;let(v,r,rfl,P,v2,G,rfl,O,dr):=Q;have e1:=P;have e2:=O;have N:=dr;subst e1 e2 N;exact#[i,j,rfl,#[Y.1.1,Y.1.2,Y.2.1,Y.2.2],aK T Z _ Oh]
   .exact Z.elim
  .exact Z.elim
noncomputable def hZ (xs ys:List D):List D:=(xs.zip ys).map λp=>.tup [p.1,p.2]
def XW {i:Nat} (h:(hZ xs ys)[i]?=ϊ d):∃x y,xs[i]?=ϊ x/\ys[i]?=ϊ y/\d=.tup [x,y]:=by
 delta hZ at h;rw[Þ] at h
 cases Z:(xs.zip ys)[i]? with
 |none=>rw[Z] at h;cases h
 |some p =>
  rw[Z] at h;let(Y,X):=List.getElem?_zip_eq_some.mp Z;exact#[_,_,Y,X,(ahe h).symm]
def AM:(hZ xs ys).length=min xs.length ys.length:=by simp[hZ]
def Wy (S':aR K w') (hp:w'.H p=ϋ) (h1:DV K w' d x) (h2:DV K w' d2 y) :
  ∃w2,w2.H=upd w'.H p (.tup [x,y])/\Le K w' w2/\aR K w2/\w2.aO=w'.aO/\DV K w2 (.tup [d,d2]) (.ref p) :=
 #[_,rfl,(Fw.grow hp).le,S'.grow hp,rfl,p,_,rfl,bE.of eJ,(Fw.grow hp).le.all (aB.two h1 h2)]
@[reducible] noncomputable def my:Bool->List D->D
 |true=>.tup
 |false=>.lst
def BL {a} {ds}:∀{k},DV K w (my k ds) (.ref a)->∃xs,kF k K w.H a xs/\aB K w ds xs
 |true,h=>by
  let(p,xs,e,Z,Y):=h;cases e;exact#[xs,Z,Y]
 |false,h=>by
  let(p,xs,e,Z,Y):=h;cases e;exact#[xs,Z.sq,Y]
def Nv {K} {w} {a b} {ds es} (h:DV K w (my k ds) (.ref a)) (g:DV K w (my l es) (.ref b)):mw K w (Cm k l K a b) (hZ ds es):=λF V P i=>by
 let(Z,Y,U):=BL (V _ _ h);let(X,W,T):=BL (V _ _ g);refine#[λd O=>?_,λN=>#[Z,X,Y,W,?_]]
 .let(x,y,e1,e2,rfl):=XW O
  let(v,ev,M):=U.get' i x e1;let(u,S,L):=T.get' i y e2;refine#[#[Z,X,v,u,Y,W,ev,S],λz E ⟨r,D,y1,J,I,H,G⟩=>?_];let(R,Q):=G Z X Y W;rw[ev] at R;rw[S] at Q;cases R;cases Q;subst I H;exact Wy P J M L
 .rw[AM] at N
  have:=U.length;have:=T.length;omega
def XX {a b} {ds es} (h:DV K w (.tup ds) (.ref a)) (g:DV K w (.tup es) (.ref b)):mw K w (aef K a b) (hZ ds es):=Nv h g
def vm (fa:ag9 (List D)):ag9 (List D):=λenv s=>aq (fa env s) λZ s=>match Z with
 | [.tup Y,.tup X]=>ok (hZ Y X) s
 |_=>ϋ
def acL {p} {elts} {kk} {ym} (hg:Gl X "zip") (hm:X.mg "zip"=ϋ) (ha:PA X [a,b] (tA X.K Ξ fa)) (hs:Õ [a,b] X.env=[(ύ,Ź a X.env),(ύ,Ź b X.env)]:=by rfl) (eD:Õ [b] X.env=[(ύ,Ź b X.env)]:=by rfl) :
  PI X (.Tuple elts kk ym) (.Call (.Name "zip" p) [a,b] [] pos) (ee X.K Ξ (vm fa)):=by
 refine xw (Zn hg hm ha hs eD) fun σ H R W=>?_;let(w,env,V,S,U,h):=W;subst V;refine#[w,env,rfl,S,U,(Out.aq h).mono λG F E T h D Q=>?_];split at h
 .let(v,r,rfl,Z,v2,C,rfl,Y,dr):=Q
  have P:=dr;subst P;have O:=Z;have N:=Y;let(p,M,rfl,L,_):=O;let(q,J,rfl,I,_):=N;exact#[p,q,M,J,rfl,L,I,aK T h _ (XX Z Y)]
 .exact h.elim
def ak (fn:List D->ai->Res D) (fa:ag9 (List D)):ag9 D:=λenv s=>aq (fa env s) λZ s=>ne (fn Z s)
def aa3 {fA} {fd} {Se} {fn} {x} {p} (F:gC X.prog X.w X.K X.mg X.base iS k fA fd Se (mv X.K fn)) (hr:cD k X.A) (hg:Gl X x) (hm:X.mg x=ϊ (.ref fA)) (hk:afd X.K (.ref fA)=ό) (hb:Binds X.K fd Se [])
  (ha:PA X (e::es) (tA X.K Ξ fa)) (kD:(x==("__debug__"))=ύ:=by decide) (he:Õ (e::es) X.env=(ύ,Ź e X.env)::Õ es X.env:=by rfl) (cz:(ũ pos (Õ es X.env)).any (·.1)=ύ:=by rfl) :
  PE X (.Call (.Name x p) (e::es) [] pos) (tE X.K Ξ (ak fn fa)):=dF (Y8 F hr hg hm hk hb .nil GX ha kD he cz) fun σ H Q Z=>by
 let(w,env,Y,S,W,h):=Z;subst Y;refine#[w,env,rfl,S,W,(Out.aq h).mono λV U O T R N P=>?_];show mv _ fn _ _ Q E0;rw[ĕ];exact#[V,U,rfl,T,P,R.ne]
def aB.env (h:aB K w ds vs) (n):cH K w (ds.map ϊ++Ñ (n-ds.length) ϋ) (vs.map ϊ++Ñ (n-vs.length) ϋ):=by
 have Y:=h.length;refine#[by simp[Y],λi d e=>?_];by_cases hi:i<ds.length
 .rw[Ù (by simpa using hi),Þ] at e
  rw[Ù (by simp;omega),Þ]
  cases Z:ds[i]? with
  |none=>rw[Z] at e;cases e
  |some W =>
   rw[Z] at e;cases e;let(v,ev,X):=h.get' i d Z;exact#[v,by rw[ev];rfl,X]
 .rw[ç (by simpa using afE hi),ĵ] at e
  split at e<;>cases e
end
def acM (F:sR K x qual st f fd) (S:xh N ps (iZ st))
 (hb:∀cU A outer s H E,cD k (A.deeper (PyProof.Rows.envOfC qual (iZ st) s.heap.objs.size f cU))->fx (qm iS P w K mg base N qual (iZ st) f cU A outer s H E).vM (mP st) (tS K bS b)) :
  gC P w K mg base iS (k+1) f fd ps (mv K (aS ps.length N.length b)):=by
 refine F.ok S (λW H Q E h=>?_) (λcU A outer s H W Q E V h=>?_)
 .let(w,U,rfl,S,Y,h):=h
  rw[<- Y.length];delta aS at h;split at h
  .assumption
  .exact h.elim
 .let(w,U,rfl,S,Y,h):=h
  refine#[_,hb cU A outer s _ E V,?_];delta aS at h;split at h
  .rename_i T
   rw[<- T] at h;refine#[w,_,rfl,S,Y.env _,(Out.aq h).mono λO R M X Z=>?_]
   cases R with
   |nx env=>intro L _;exact aK X Z _ rfl
   |rt d=>have q:=aK X Z;exact q
   |bk env=>exact Z.elim
   |ct env=>exact Z.elim
  .exact h.elim
mutual
noncomputable def py:D->PyData
 | .aD=>.none
 | .bl b=>.bool b
 | .int i=>.int i
 | .str x=>.str x
 | .tup Z=>.tuple (dU Z)
 | .lst Z=>.list (dU Z)
 | .cb Y=>.dict (Y.map λp=>(yp p.1,PyData.int p.2))
 | .aw _=>.none
 | .ty _=>.none
 | .cw _=>.none
 | .exc ..=>.none
 | .cx ..=>.none
noncomputable def dU:List D->List PyData
 | []=>[]
 |d::Z=>py d::dU Z
end
mutual
noncomputable def plain:D->Bool
 | .aD=>ό
 | .bl _=>ό
 | .int _=>ό
 | .str _=>ό
 | .tup Z=>ow Z
 | .lst Z=>ow Z
 | .cb _=>ό
 | .aw _=>ύ
 | .ty _=>ύ
 | .cw _=>ύ
 | .exc ..=>ύ
 | .cx ..=>ύ
noncomputable def ow:List D->Bool
 | []=>ό
 |d::Z=>plain d&&ow Z
end
mutual
noncomputable def lay:D->Bool
 | .aD=>ό
 | .bl _=>ό
 | .int _=>ό
 | .str x=>PyData.strOk x
 | .tup Z=>eT Z
 | .lst Z=>eT Z
 | .cb _=>ύ
 | .aw _=>ύ
 | .ty _=>ύ
 | .cw _=>ύ
 | .exc ..=>ύ
 | .cx ..=>ύ
noncomputable def eT:List D->Bool
 | []=>ό
 |d::Z=>lay d&&eT Z
end
mutual
noncomputable def dep:D->Nat
 | .tup Z=>dB Z+1
 | .lst Z=>dB Z+1
 | .cb Y=>1
 | .aD=>0
 | .bl _=>0
 | .int _=>0
 | .str _=>0
 | .aw _=>0
 | .ty _=>0
 | .cw _=>0
 | .exc ..=>0
 | .cx ..=>0
noncomputable def dB:List D->Nat
 | []=>0
 |d::Z=>max (dep d) (dB Z)
end
mutual
noncomputable def beq:D->D->Bool
 | .aD,.aD=>ό
 | .bl a,.bl b=>a==b
 | .bl a,.int j=>(if a then 1 else 0)==j
 | .int i,.bl b=>i==(if b then 1 else 0)
 | .int i,.int j=>i==j
 | .str x,.str y=>x==y
 | .tup Z,.tup Y=>i9 Z Y
 | .lst Z,.lst Y=>i9 Z Y
 |_,_=>ύ
noncomputable def i9:List D->List D->Bool
 | [],[]=>ό
 |x::Z,y::Y=>beq x y&&i9 Z Y
 |_,_=>ύ
end
mutual
theorem rf:∀d,lay d=ό->plain d=ό
 | .aD,_=>rfl
 | .bl _,_=>rfl
 | .int _,_=>rfl
 | .str _,_=>rfl
 | .tup Z,h=>by exact qU Z h
 | .lst Z,h=>by erw[lay,plain] at h |-;exact qU Z h
 | .cb _,h=>by simp[lay] at h
 | .aw _,h=>by simp[lay] at h
 | .ty _,h=>by simp[lay] at h
 | .cw _,h=>by simp[lay] at h
 | .exc ..,h=>by simp[lay] at h
 | .cx ..,h=>by simp[lay] at h
theorem qU:∀ds,eT ds=ό->ow ds=ό
 | [],_=>rfl
 |d::ds,h=>by
  erw[eT,ow,Ç] at h |-;exact#[rf d h.1,qU ds h.2]
end
mutual
theorem lL:∀d,lay d=ό->(py d).canLay0=ό/\(py d).depth=dep d
 | .aD,_=>#[rfl,by simp[py,dep,PyData.depth]]
 | .bl _,_=>#[rfl,by simp[py,dep,PyData.depth]]
 | .int _,_=>#[rfl,by simp[py,dep,PyData.depth]]
 | .str _,h=>#[h,by simp[py,dep,PyData.depth]]
 | .tup Z,h=>by
  let(Y,X):=wV Z (by simpa [lay] using h);erw[py,dep,PyData.depth,PyData.canLay0];exact#[Y,by rw[X]]
 | .lst Z,h=>by
  let(Y,X):=wV Z (by simpa [lay] using h);erw[py,dep,PyData.depth,PyData.canLay0];exact#[Y,by rw[X]]
 | .cb _,h=>by simp[lay] at h
 | .aw _,h=>by simp[lay] at h
 | .ty _,h=>by simp[lay] at h
 | .cw _,h=>by simp[lay] at h
 | .exc ..,h=>by simp[lay] at h
 | .cx ..,h=>by simp[lay] at h
theorem wV:∀ds,eT ds=ό->PyData.canLayAll0 (dU ds)=ό/\afo (dU ds)=dB ds
 | [],_=>#[rfl,rfl]
 |d::ds,h=>by
  erw[eT,Ç] at h;let(a1,a2):=lL d h.1;let(Z,Y):=wV ds h.2;erw[dU,dB,PyData.canLayAll0,afo,a1,Z,a2,Y,ķ,Ľ]
end
mutual
theorem uD:∀d e,lay d=ό->lay e=ό->ł (py d) (py e)=beq d e
 | .tup Z,.tup Y,h,g=>by
  exact EF Z Y (by simpa [lay] using h) (by simpa [lay] using g)
 | .lst Z,.lst Y,h,g=>by
  exact EF Z Y (by simpa [lay] using h) (by simpa [lay] using g)
 | .aD,e,_,g=>by cases e<;>simp_all [py,beq,ł,lay]
 | .bl _,e,_,g=>by cases e<;>simp_all [py,beq,ł,lay]
 | .int _,e,_,g=>by cases e<;>simp_all [py,beq,ł,lay]
 | .str _,e,_,g=>by cases e<;>simp_all [py,beq,ł,lay]
 | .tup _,.aD,_,_=>by simp[py,beq,ł]
 | .tup _,.bl _,_,_=>by simp[py,beq,ł]
 | .tup _,.int _,_,_=>by simp[py,beq,ł]
 | .tup _,.str _,_,_=>by simp[py,beq,ł]
 | .tup _,.lst _,_,_=>by simp[py,beq,ł]
 | .lst _,.aD,_,_=>by simp[py,beq,ł]
 | .lst _,.bl _,_,_=>by simp[py,beq,ł]
 | .lst _,.int _,_,_=>by simp[py,beq,ł]
 | .lst _,.str _,_,_=>by simp[py,beq,ł]
 | .lst _,.tup _,_,_=>by simp[py,beq,ł]
 | .cb _,_,h,_=>by simp[lay] at h
 | .aw _,_,h,_=>by simp[lay] at h
 | .ty _,_,h,_=>by simp[lay] at h
 | .cw _,_,h,_=>by simp[lay] at h
 | .exc ..,_,h,_=>by simp[lay] at h
 | .cx ..,_,h,_=>by simp[lay] at h
 |_,.cb _,_,h=>by simp[lay] at h
 |_,.aw _,_,h=>by simp[lay] at h
 |_,.ty _,_,h=>by simp[lay] at h
 |_,.cw _,_,h=>by simp[lay] at h
 |_,.exc ..,_,h=>by simp[lay] at h
 |_,.cx ..,_,h=>by simp[lay] at h
theorem EF:∀ds es,eT ds=ό->eT es=ό->PyData.eqvAll (dU ds) (dU es)=i9 ds es
 | [],[],_,_=>rfl
 | [],_::_,_,_=>rfl
 |_::_,[],_,_=>rfl
 |d::ds,e::es,h,g=>by
  erw[eT,Ç] at h g;erw[dU,i9,PyData.eqvAll,uD d e h.1 g.1,EF ds es h.2 g.2]
end
mutual
theorem DV.py:∀{d} {v},DV K w d v->plain d=ό->L2.DV K (λ_=>False) w.H (DI.py d) v
 | .aD,_,h,_=>h
 | .bl _,_,h,_=>h
 | .int _,_,h,_=>h
 | .str _,_,h,_=>h
 | .tup X,v,h,p=>by
  let(a,Y,e,Z,r):=h;exact#[a,Y,e,Z,aB.py r (by simpa [plain] using p)]
 | .lst X,v,h,p=>by
  let(a,Y,e,Z,r):=h;exact#[a,Y,e,not_false,Z.2,aB.py r (by simpa [plain] using p)]
 | .cb W,v,h,p=>by
  let(a,e,V,Z):=h;exact#[a,_,e,not_false,Z,W,rfl,rfl]
 | .aw _,_,_,p=>by simp[plain] at p
 | .ty _,_,_,p=>by simp[plain] at p
 | .cw _,_,_,p=>by simp[plain] at p
 | .exc ..,_,_,p=>by simp[plain] at p
 | .cx ..,_,_,p=>by simp[plain] at p
theorem aB.py:∀{ds} {vs},aB K w ds vs->ow ds=ό->L2.aB K (λ_=>False) w.H (DI.dU ds) vs
 | [],_,h,_=>h
 |d::ds,vs,h,p=>by
  let(v,r,e,Z,Y):=h;erw[ow,Ç] at p;exact#[v,r,e,DV.py Z p.1,aB.py Y p.2]
end
noncomputable def res (d:D) (s:ai):D:=match d with
 | .aw k=>match s[k]? with
  |some (.lst Z)=>.lst Z
  |_=>d
 |_=>d
theorem DV.res (S:aR K w) (h:DV K w d v) (p:plain (DI.res d w.aO)=ό):L2.DV K (λ_=>False) w.H (DI.py (DI.res d w.aO)) v:=by
 cases d with
 |aw k =>
  delta DI.res at p |-;simp only at p |-
  split at p<;>rename_i Z
  .let(a,e1,rfl):=h
   let(Y,X,W):=S.cell k a _ e1 Z;exact#[a,Y,rfl,not_false,X,W.py (by simpa [plain] using p)]
  .simp[plain] at p
 |_=>exact h.py p
noncomputable def zm:D->Bool
 | .str _=>ό
 |_=>ύ
def aa4 (h:zm d=ό):∃x,d=.str x:=by cases d<;>first|exact#[_,rfl]|cases h
def xV (x y:D):Option Bool:=if (zm x&&zm y)=ό then ϊ (beq x y) else if (lay x&&lay y&&ώ (min (dep x) (dep y)<=100))=ό then ϊ (beq x y) else ϋ
def cu (x y:D) (s:ai):Res D:=match xV (res x s) (res y s) with
 |some b=>ok (.bl b) s
 |none=>ϋ
def eU (x y:D) (s:ai):Res D:=match xV (res x s) (res y s) with
 |some b=>ok (.bl (!b)) s
 |none=>ϋ
def Oi (S:aR K w) (hx:DV K w x v) (hy:DV K w y u) (h:xV (res x w.aO) (res y w.aO)=ϊ b) :
  (HS v u=ό/\ώ (v=u)=b)\/∃(d e:PyData),L2.DV K (λ_=>False) w.H d v/\L2.DV K (λ_=>False) w.H e u/\d.canLay0=ό/\e.canLay0=ό/\min d.depth e.depth<=100/\ł d e=b:=by
 have str:∀{d} {v},zm (res d w.aO)=ό->DV K w d v->∃x,res d w.aO=.str x/\v=.str x:=λ{d v} hs W=>by
  let(x,e):=aa4 hs
  cases d with
  |str y=>cases e;exact#[x,rfl,W]
  |aw k =>
   delta res at e;simp only at e
   split at e<;>cases e
  |_=>cases e
 delta xV at h;split at h
 .rename_i hs
  rw[Ç] at hs;let(a,V,rfl):=str hs.1 hx;let(c,U,rfl):=str hs.2 hy;rw[V,U] at h;exact .inl #[rfl,by rw[<- ahe h];exact Fb]
 split at h
 .rename_i X
  right;erw[Ç,Æ] at X;obtain⟨⟨Z,Y⟩,T⟩:=X;let(R,Q):=lL _ Z;let(P,O):=lL _ Y;exact#[_,_,hx.res S (rf _ Z),hy.res S (rf _ Y),R,P,by rw[Q,O];exact T,by rw[uD _ _ Z Y];exact ahe h]
 .cases h
section
variable {X:Cx} {Ξ:Wd->bF->Prop}
def iR (hr:cD k X.A):bA X (ğ .Eq) (rO X.K Ξ cu):=by
 intro W s σ H x y v u Q I V U zz;let(w,J,G,rfl,S,T,R,h):=zz;delta cu at h;split at h
 .rename_i b P
  rcases Oi S T R P with ⟨Z,Y⟩ | ⟨d,e,Z,Y,O,N,M,L⟩
  .exact ack W s σ _ x y v u Q I V U #[Z,by rw[Y];exact aK S h _ rfl]
  exact aaU hr W s σ _ x y v u Q I V U #[d,e,_,Z,Y,O,N,M,by rw[L];exact aK S h _ rfl]
 .exact h.elim
def nq (hr:cD k X.A):bA X (ğ .NotEq) (rO X.K Ξ eU):=by
 intro W s σ H x y v u Q I V U zz;let(w,J,G,rfl,S,T,R,h):=zz;delta eU at h;split at h
 .rename_i b P
  rcases Oi S T R P with ⟨Z,Y⟩ | ⟨d,e,Z,Y,O,N,M,L⟩
  .exact acm W s σ _ x y v u Q I V U #[Z,by rw[Y];exact aK S h _ rfl]
  exact aaV hr W s σ _ x y v u Q I V U #[d,e,_,Z,Y,O,N,M,by rw[L];exact aK S h _ rfl]
 .exact h.elim
end
end DI
namespace DI
open PySem L2
def bU (r:Option D) (s:ai):Res D:=match r with
 |some d=>ok d s
 |none=>ϋ
def gw (h:Out K Ξ w (bU r w.aO) k):∃d,r=ϊ d/\Out K Ξ w (ok d w.aO) k:=by
 delta bU at h;split at h
 .exact#[_,rfl,h]
 .exact h.elim
noncomputable def sj (xs ys:List D):Bool:=ώ (xs.length+ys.length<=â)
def vn:D->D->Option D
 | .int i,.int j=>ϊ (.int (i+j))
 | .tup Z,.tup Y=>if sj Z Y=ό then ϊ (.tup (Z++Y)) else ϋ
 | .lst Z,.lst Y=>if sj Z Y=ό then ϊ (.lst (Z++Y)) else ϋ
 | .str x,.str y=>if ώ (x.length+y.length<=â)=ό then ϊ (.str (x++y)) else ϋ
 |_,_=>ϋ
def dG (x y:D) (s:ai):Res D:=bU (vn (res x s) (res y s)) s
noncomputable def Rx:D->D->Option D
 | .int i,.int j=>ϊ (.int (i-j))
 |_,_=>ϋ
def oE (x y:D) (s:ai):Res D:=bU (Rx x y) s
noncomputable def xW (i j:Int):Bool:=(ώ (-(2 ^ 64)<i)&&ώ (i<2 ^ 64))||(ώ (-(2 ^ 64)<j)&&ώ (j<2 ^ 64))
def Cp:D->D->Option D
 | .int i,.int j=>if xW i j=ό then ϊ (.int (i*j)) else ϋ
 | .tup Z,.int k=>if (!Z.isEmpty&&ώ (1<=k)&&ώ (Z.length*k.toNat<=â))=ό then ϊ (.tup (Ñ k.toNat Z).flatten) else ϋ
 | .lst Z,.int k=>if (ώ (-(2 ^ 63)<=k)&&ώ (k<2 ^ 63)&&ώ (Z.length*k.toNat<=â))=ό then ϊ (.lst (Ñ k.toNat Z).flatten) else ϋ
 |_,_=>ϋ
def jq (x y:D) (s:ai):Res D:=bU (Cp x y) s
noncomputable def Ie:D->D->Option D
 | .int i,.int j=>if ώ (0<j)=ό then ϊ (.int (i % j)) else ϋ
 |_,_=>ϋ
def oF (x y:D) (s:ai):Res D:=bU (Ie x y) s
noncomputable def Ig:D->D->Option D
 | .int i,.int j=>if (ώ (0<j)&&ώ (j<1073741824))=ό then ϊ (.int (i / j)) else ϋ
 |_,_=>ϋ
def xZ (x y:D) (s:ai):Res D:=bU (Ig x y) s
noncomputable def Ih:D->D->Option D
 | .int i,.int j=>if (ώ (0<=j)&&ώ (j<=1000000)&&ώ (i.natAbs<2 ^ 64))=ό then ϊ (.int (i ^ j.toNat)) else ϋ
 |_,_=>ϋ
def BM (x y:D) (s:ai):Res D:=bU (Ih x y) s
noncomputable def Ry:D->Option D
 | .int i=>ϊ (.int (-i))
 |_=>ϋ
def G3 (x:D) (s:ai):Res D:=bU (Ry x) s
theorem aB.flat (h:aB K w ds vs):∀n,aB K w (Ñ n ds).flatten (Ñ n vs).flatten
 |0=>rfl
 |n+1=>by
  exact aB.append h (aB.flat h n)
def jG (S:aR K w) (h:DV K w d v) (e:res d w.aO=.lst ds):∃a xs,v=.ref a/\w.H a=ϊ (.lst xs)/\aB K w ds xs:=by
 delta res at e;split at e
 .rename_i k
  split at e
  .rename_i V Z
   cases e;let(a,e1,rfl):=h;let(xs,Y,X):=S.cell k a _ e1 Z;exact#[a,xs,rfl,Y,X]
  .cases e
 .subst e
  let(a,xs,e,W,r):=h;exact#[a,xs,e,W.2,r]
def fX (h:res d s=e) (hl:∀ds,e≠.lst ds):d=e:=by
 delta res at h;split at h
 .split at h
  .exact absurd h.symm (hl _)
  .exact h
 .exact h
section
variable {X:Cx} {Ξ:Wd->bF->Prop}
def yq (S:aR K w) (au:aB K w ds vs) (h:Out K Ξ w (ok (D.tup ds) w.aO) λw' d=>∀v,DV K w' d v->Q v w'.H):qo K w.H vs Q:=λa Y e Z =>
 h _ (Fw.same e).le (S.same e) rfl _ #[a,vs,rfl,Z,(Fw.same e).le.all au]
def vo {ds} {vs} {Q:VK} (S:aR K w) (au:aB K w ds vs) (h:Out K Ξ w (ok (D.lst ds) w.aO) λw' d=>∀v,DV K w' d v->Q v w'.H):∀p,w.H p=ϋ->Q (.ref p) (upd w.H p (.lst vs)):=λp Y =>
 h _ (Fw.grow Y).le (S.grow Y) rfl _ #[p,vs,rfl,#[(show ¬ w.Z p from rH S Y),eJ],(Fw.grow Y).le.all au]
def aa5 {ds} {vs} {Q:VK} (S:aR K w) (au:aB K w ds vs) (h:Out K Ξ w (ok (D.tup ds) w.aO) λw' d=>∀v,DV K w' d v->Q v w'.H):∀p,w.H p=ϋ->Q (.ref p) (upd w.H p (.tup vs)):=λp Z =>
 h _ (Fw.grow Z).le (S.grow Z) rfl _ #[p,vs,rfl,bE.of eJ,(Fw.grow Z).le.all au]
def hU:bA X (ŧ .Add) (rO X.K Ξ dG):=by
 intro T s σ H x y v u Q I R P zz;let(w,J,G,rfl,S,Z,Y,h):=zz;let(d,e,h):=gw h;delta vn at e;split at e
 .rename_i i j e1 e2
  rw[fX e1 (by intro _ z;cases z)] at Z;rw[fX e2 (by intro _ z;cases z)] at Y;cases e;cases Z;cases Y;exact aaD T s σ _ _ _ v u Q I R P #[i,j,rfl,rfl,aK S h _ rfl]
 .rename_i M L e1 e2
  rw[fX e1 (by intro _ z;cases z)] at Z;rw[fX e2 (by intro _ z;cases z)] at Y;split at e
  .rename_i W
   cases e;let(a,as,rfl,O,V):=Z;let(b,bs,rfl,N,U):=Y;exact Zi T s σ _ _ _ v u Q I R P #[a,b,as,bs,rfl,rfl,O,N,by rw[<- V.length,<- U.length];exact ē W,yq S (V.append U) h]
  .cases e
 .rename_i M L e1 e2
  split at e
  .rename_i W
   cases e;let(a,as,rfl,O,V):=jG S Z e1;let(b,bs,rfl,N,U):=jG S Y e2;exact aaQ T s σ _ _ _ v u Q I R P #[a,b,as,bs,rfl,rfl,O,N,by rw[<- V.length,<- U.length];exact ē W,vo S (V.append U) h]
  .cases e
 .rename_i i j e1 e2
  rw[fX e1 (by intro _ z;cases z)] at Z;rw[fX e2 (by intro _ z;cases z)] at Y;split at e
  .rename_i W
   cases e;cases Z;cases Y;exact Vd T s σ _ _ _ v u Q I R P #[i,j,rfl,rfl,ē W,aK S h _ rfl]
  .cases e
 .cases e
def x8:bA X (ŧ .Sub) (rO X.K Ξ oE):=by
 intro Z s σ H x y v u Q I Y W zz;let(w,T,R,rfl,S,V,U,h):=zz;let(d,e,h):=gw h;delta Rx at e;split at e
 .rename_i i j
  cases V;cases U;exact aaE Z s σ _ _ _ v u Q I Y W #[i,j,rfl,rfl,aK S h _ rfl]
 .cases e
def uU:bA X (ŧ .Mult) (rO X.K Ξ jq):=by
 intro W s σ H x y v u Q I V U zz;let(w,M,L,rfl,S,T,R,h):=zz;let(d,e,h):=gw h;delta Cp at e;split at e
 .rename_i i j
  split at e
  .rename_i Z
   cases e;cases T;cases R;refine aaF W s σ _ _ _ v u Q I V U #[i,j,rfl,rfl,?_,aK S h _ rfl];delta Ce;simpa [xW] using Z
  .cases e
 .rename_i O k
  split at e
  .rename_i Z
   cases e;cases R;erw[Ç,Æ] at Z;let(a,as,rfl,P,Y):=T;have N:=Y.length;refine Zt W s σ _ _ _ v u Q I V U #[a,as,k,rfl,rfl,P,?_,Z.1.2,by rw[<- N];exact Z.2,yq S (Y.flat _) h];intro z;subst z
   cases O with
   |nil=>simp at Z
   |cons _ _=>cases N
  .cases e
 .rename_i O k
  split at e
  .rename_i Z
   cases e;cases R;erw[Ç,Æ] at Z;let(a,as,rfl,P,Y):=T;exact aaR W s σ _ _ _ v u Q I V U #[a,k,as,rfl,rfl,P.2,Z.1.1,Z.1.2,by rw[<- Y.length];exact Z.2,vo S (Y.flat _) h]
  .cases e
 .cases e
def uV:bA X (ŧ .Mod) (rO X.K Ξ oF):=by
 intro Z s σ H x y v u Q I Y W zz;let(w,R,P,rfl,S,V,U,h):=zz;let(d,e,h):=gw h;delta Ie at e;split at e
 .rename_i i j
  split at e
  .rename_i T
   cases e;cases V;cases U;exact aaG Z s σ _ _ _ v u Q I Y W #[i,j,rfl,rfl,ē T,aK S h _ rfl]
  .cases e
 .cases e
def Qv:bA X (ŧ .FloorDiv) (rO X.K Ξ xZ):=by
 intro Y s σ H x y v u Q I W V zz;let(w,R,P,rfl,S,U,T,h):=zz;let(d,e,h):=gw h;delta Ig at e;split at e
 .rename_i i j
  split at e
  .rename_i Z
   erw[Ç,Æ] at Z;cases e;cases U;cases T;exact Y4 Y s σ _ _ _ v u Q I W V #[i,j,rfl,rfl,Z,aK S h _ rfl]
  .cases e
 .cases e
def acN:bA X (ŧ .Pow) (rO X.K Ξ BM):=by
 intro Y s σ H x y v u Q I W V zz;let(w,R,P,rfl,S,U,T,h):=zz;let(d,e,h):=gw h;delta Ih at e;split at e
 .rename_i i j
  split at e
  .rename_i Z
   erw[Ç,Æ] at Z;cases e;cases U;cases T;exact aaH Y s σ _ _ _ v u Q I W V #[i,j,rfl,rfl,#[Z.1.1,Z.1.2,Z.2],aK S h _ rfl]
  .cases e
 .cases e
def Qw:yR X (unaryOp .USub) (rU X.K Ξ G3):=by
 intro Z s σ H x v Q I Y zz;let(w,V,rfl,S,W,h):=zz;let(d,e,h):=gw h;delta Ry at e;split at e
 .rename_i i
  cases W;exact aaI Z s σ _ _ v Q I Y #[i,rfl,aK S h _ rfl]
 .cases e
noncomputable def qr (p:Int->Int->Bool):D->D->Option D
 | .int i,.int j=>ϊ (.bl (p i j))
 |_,_=>ϋ
def oQ (x y:D) (s:ai):Res D:=bU (qr (λi j=>ώ (i<=j)) x y) s
def sk (x y:D) (s:ai):Res D:=bU (qr (λi j=>ώ (j<i)) x y) s
def Cq (x y:D) (s:ai):Res D:=bU (qr (λi j=>ώ (j<=i)) x y) s
def BN (x y:D) (s:ai):Res D:=bU (qr (λi j=>ώ (i<j)) x y) s
def vp:bA X (ğ .LtE) (rO X.K Ξ oQ):=by
 intro Z s σ H x y v u Q I Y W zz;let(w,T,R,rfl,S,V,U,h):=zz;let(d,e,h):=gw h;delta qr at e;split at e
 .rename_i i j
  cases V;cases U;exact aco Z s σ _ _ _ v u Q I Y W #[i,j,rfl,rfl,aK S h _ rfl]
 .cases e
def Ii:bA X (ğ .Gt) (rO X.K Ξ sk):=by
 intro Z s σ H x y v u Q I Y W zz;let(w,T,R,rfl,S,V,U,h):=zz;let(d,e,h):=gw h;delta qr at e;split at e
 .rename_i i j
  cases V;cases U;exact acp Z s σ _ _ _ v u Q I Y W #[i,j,rfl,rfl,aK S h _ rfl]
 .cases e
def aeq:bA X (ğ .GtE) (rO X.K Ξ Cq):=by
 intro Z s σ H x y v u Q I Y W zz;let(w,T,R,rfl,S,V,U,h):=zz;let(d,e,h):=gw h;delta qr at e;split at e
 .rename_i i j
  cases V;cases U;exact acq Z s σ _ _ _ v u Q I Y W #[i,j,rfl,rfl,aK S h _ rfl]
 .cases e
def acO:bA X (ğ .Lt) (rO X.K Ξ BN):=by
 intro Z s σ H x y v u Q I Y W zz;let(w,T,R,rfl,S,V,U,h):=zz;let(d,e,h):=gw h;delta qr at e;split at e
 .rename_i i j
  cases V;cases U;exact acn Z s σ _ _ _ v u Q I Y W #[i,j,rfl,rfl,aK S h _ rfl]
 .cases e
noncomputable def Sf:D->Bool
 | .aD=>ό
 |_=>ύ
def Bq (x y:D) (s:ai):Res D:=match y with
 | .aD=>ok (.bl (!Sf x)) s
 |_=>ϋ
def aa6 (h:DV K w d v):ώ (v=.aD)=Sf d:=by
 cases d with
 |aD=>cases h;rfl
 |bl b=>cases h;rfl
 |int b=>cases h;rfl
 |str b=>cases h;rfl
 |ty b=>cases h;rfl
 |tup Z=>let(a,Y,rfl,_):=h;rfl
 |lst Z=>let(a,Y,rfl,_):=h;rfl
 |cb Z=>let(a,rfl,_):=h;rfl
 |aw k=>let(a,_,rfl):=h;rfl
 |cw k=>let(a,rfl,_):=h;rfl
 |exc o _=>let(a,_,_,rfl,_):=h;rfl
 |cx o _ _=>let(rfl,_):=h;rfl
def aa7:bA X (ğ .IsNot) (rO X.K Ξ Bq):=by
 intro Z s σ H x y v u Q I Y W zz;let(w,T,R,rfl,S,V,U,h):=zz;delta Bq at h;split at h
 .cases U
  exact Y5 Z s σ _ _ _ v u Q I Y W #[rfl,by rw[aa6 V];exact aK S h _ rfl]
 .exact h.elim
def iU (d i:D) (s:ai):Option D:=match res d s,i with
 | .lst Z,.int i=>df Z i
 | .tup Z,.int i=>df Z i
 | .cw Y,.int i=>(df Y i).map D.int
 | .str x,.int i=>if ώ (x.length<=â)=ό then (df x.cps.toList i).map λc=>.str #[#v[c]] else ϋ
 |_,_=>ϋ
def aC (x y:D) (s:ai):Res D:=bU (iU x y s) s
theorem aB.at (h:aB K w ds vs) (e:df ds i=ϊ d):∃v,df vs i=ϊ v/\DV K w d v:=by
 delta df at e |-;rw[h.length] at e
 cases hi:dZ _ i with
 |none=>rw[hi] at e;cases e
 |some j =>
  rw[hi] at e;exact h.get' j d e
def aer:yW X (rO X.K Ξ aC):=by
 rintro value slice V s σ H x y v u Q I U T ⟨w,C,B,rfl,S,Z,R,h⟩ hs;let(d,e,P):=gw h;delta iU at e;split at e
 .rename_i E i e1
  cases R;let(a,O,rfl,W,N):=jG S Z e1;let(z,M,L):=N.at e;exact N6 value slice V s σ _ _ _ v u Q I U T #[a,O,i,z,rfl,rfl,bJ.of W,M,aK S P _ L] hs
 .rename_i E i e1
  cases R;rw[fX e1 (by intro _ z;cases z)] at Z;let(a,O,rfl,W,N):=Z;let(z,M,L):=N.at e;exact aaL value slice V s σ _ _ _ v u Q I U T #[a,O,i,z,rfl,rfl,W,M,aK S P _ L] hs
 .rename_i J i e1
  cases R;rw[fX e1 (by intro _ z;cases z)] at Z;let(a,rfl,W):=Z
  cases Y:df J i with
  |none=>rw[Y] at e;cases e
  |some n =>
   rw[Y] at e;cases e;refine N6 value slice V s σ _ _ _ v u Q I U T #[a,_,i,_,rfl,rfl,W.sq,?_,aK S P _ rfl] hs;delta df at Y |-;rw[Ã]
   cases F:dZ _ i with
   |none=>rw[F] at Y;cases Y
   |some j =>
    rw[F] at Y;show (J.map _)[j]?=ϊ _;rw[Þ,show J[j]?=ϊ n from Y];rfl
 .rename_i z i e1
  cases R;rw[fX e1 (by intro _ z;cases z)] at Z;cases Z;split at e
  .rename_i D
   cases G:df _ i with
   |none=>rw[G] at e;cases e
   |some c =>
    rw[G] at e;cases e;exact aaM value slice V s σ _ _ _ v u Q I U T #[z,i,c,rfl,rfl,ē D,G,aK S P _ rfl] hs
  .cases e
 .cases e
def aZ (ha:PE X a (tE X.K Ξ f)) (hb:PE X b (tE X.K Ξ g)) (hs:N5 b:=by intro _ _;rfl):PE X (.Subscript a b pos) (tE X.K Ξ (e2 aC f g)):=dF (acx aer ha hb hs) AZ
def yu (d:D) (s:ai):Option D:=match res d s with
 | .lst Z=>ϊ (.int Z.length)
 | .tup Z=>ϊ (.int Z.length)
 | .cw Y=>ϊ (.int Y.length)
 | .str x=>if ώ (x.length<=â)=ό then ϊ (.int x.length) else ϋ
 |_=>ϋ
def cR (ds:List D) (s:ai):Res D:=match ds with
 | [d]=>bU (yu d s) s
 |_=>ϋ
def lM (h:aB K w [d] vs):∃v,vs=[v]/\DV K w d v:=by
 let(v,r,rfl,Z,dr):=h;have e:=dr;subst e;exact#[v,rfl,Z]
def uE (h:aB K w [d,e] vs):∃v u,vs=[v,u]/\DV K w d v/\DV K w e u:=by
 let(v,r,rfl,Z,h):=h;let(u,rfl,Y):=lM h;exact#[v,u,rfl,Z,Y]
def iy:cX X (.builtin "len") (rC X.K Ξ cR):=by
 intro V s σ H U T Q I r zz;let(w,O,rfl,S,Y,h):=zz;delta cR at h;split at h
 .let(v,rfl,Z):=lM Y
  let(d,e,h):=gw h;delta yu at e;split at e
  .rename_i R e1
   cases e;let(a,U,rfl,W,Y):=jG S Z e1;exact DE V s σ _ _ T Q I r #[a,U,rfl,.inl (bJ.of W),by rw[<- Y.length];exact aK S h _ rfl]
  .rename_i R e1
   cases e;rw[fX e1 (by intro _ z;cases z)] at Z;let(a,U,rfl,W,Y):=Z;exact DE V s σ _ _ T Q I r #[a,U,rfl,.inr W,by rw[<- Y.length];exact aK S h _ rfl]
  .rename_i N e1
   cases e;rw[fX e1 (by intro _ z;cases z)] at Z;let(a,rfl,W):=Z;exact DE V s σ _ _ T Q I r #[a,_,rfl,.inl W.sq,by rw[Ã];exact aK S h _ rfl]
  .rename_i z e1
   rw[fX e1 (by intro _ z;cases z)] at Z;cases Z;split at e
   .rename_i P
    cases e;exact Ur V s σ _ _ T Q I r #[z,rfl,ē P,aK S h _ rfl]
   .cases e
  .cases e
 .exact h.elim
noncomputable def j3:List D->Option (List Bool)
 | []=>ϊ []
 | .bl b::Z=>(j3 Z).map λr=>b::r
 |_::_=>ϋ
theorem F6:∀{ds} {bs},j3 ds=ϊ bs->ds=bs.map D.bl
 | [],bs,h=>by cases h;rfl
 | .bl b::ds,bs,h=>by
  erw[j3] at h
  cases Z:j3 ds with
  |none=>rw[Z] at h;cases h
  |some r=>rw[Z] at h;cases h;rw[F6 Z];rfl
 | .aD::_,_,h=>by cases h
 | .int _::_,_,h=>by cases h
 | .str _::_,_,h=>by cases h
 | .tup _::_,_,h=>by cases h
 | .lst _::_,_,h=>by cases h
 | .cb _::_,_,h=>by cases h
 | .aw _::_,_,h=>by cases h
 | .ty _::_,_,h=>by cases h
 | .cw _::_,_,h=>by cases h
 | .exc ..::_,_,h=>by cases h
 | .cx ..::_,_,h=>by cases h
def ZA:j3 (bs.map D.bl)=ϊ bs:=by
 induction bs with
 |nil=>rfl
 |cons b bs ih=>erw[Ü,j3,ih,ž]
def kX (ds:List D) (s:ai):Res D:=match ds with
 | [d]=>match res d s with
  | .lst Z=>bU ((j3 Z).map λbs=>.bl (bs.all id)) s
  |_=>ϋ
 |_=>ϋ
def vq (ds:List D) (s:ai):Res D:=match ds with
 | [d]=>match res d s with
  | .lst Z=>bU ((j3 Z).map λbs=>.bl (bs.any id)) s
  |_=>ϋ
 |_=>ϋ
def oG (hc:X.calm=ό):cX X (.builtin "all") (rC X.K Ξ kX):=by
 intro V s σ H U T Q I r zz;let(w,O,rfl,S,Z,h):=zz;delta kX at h;split at h
 .let(v,rfl,R):=lM Z
  split at h
  .rename_i P e1
   let(d,e,h):=gw h
   cases Y:j3 P with
   |none=>rw[Y] at e;cases e
   |some bs =>
    rw[Y] at e;cases e;let(a,U,rfl,W,Z):=jG S R e1;rw[F6 Y] at Z;rw[Z.Fn] at W;exact Xt hc V s σ _ _ T Q I r #[a,bs,rfl,bJ.of W,aK S h _ rfl]
  .exact h.elim
 .exact h.elim
def Qx (hc:X.calm=ό):cX X (.builtin "any") (rC X.K Ξ vq):=by
 intro V s σ H U T Q I r zz;let(w,O,rfl,S,Z,h):=zz;delta vq at h;split at h
 .let(v,rfl,R):=lM Z
  split at h
  .rename_i P e1
   let(d,e,h):=gw h
   cases Y:j3 P with
   |none=>rw[Y] at e;cases e
   |some bs =>
    rw[Y] at e;cases e;let(a,U,rfl,W,Z):=jG S R e1;rw[F6 Y] at Z;rw[Z.Fn] at W;exact Xu hc V s σ _ _ T Q I r #[a,bs,rfl,bJ.of W,aK S h _ rfl]
  .exact h.elim
 .exact h.elim
def uW (ds:List D) (s:ai):Res D:=match ds with
 | [.int i,.int j]=>ok (.int (if j > i then j else i)) s
 |_=>ϋ
def BO (ds:List D) (s:ai):Res D:=match ds with
 | [.int i,.int j]=>ok (.int (if j<i then j else i)) s
 |_=>ϋ
def Pj (hc:X.calm=ό):cX X (.builtin "max") (rC X.K Ξ uW):=by
 intro Z s σ H T Y Q I r zz;let(w,R,rfl,S,W,h):=zz;delta uW at h;split at h
 .rename_i i j
  let(v,u,rfl,V,U):=uE W;cases V;cases U;exact We hc Z s σ _ _ Y Q I r #[i,j,rfl,aK S h _ rfl]
 .exact h.elim
def aa8 (hc:X.calm=ό):cX X (.builtin "min") (rC X.K Ξ BO):=by
 intro Z s σ H T Y Q I r zz;let(w,R,rfl,S,W,h):=zz;delta BO at h;split at h
 .rename_i i j
  let(v,u,rfl,V,U):=uE W;cases V;cases U;exact Wf hc Z s σ _ _ Y Q I r #[i,j,rfl,aK S h _ rfl]
 .exact h.elim
def cG (ds:List D) (s:ai):Res D:=match ds with
 | [d]=>match res d s with
  | .lst Z=>ok (.tup Z) s
  | .tup Z=>ok (.tup Z) s
  |_=>ϋ
 |_=>ϋ
def il:cX X (.type "tuple") (rC X.K Ξ cG):=by
 intro U s σ H Z T Q I r zz;let(w,O,rfl,S,Y,h):=zz;delta cG at h;split at h
 .let(v,rfl,W):=lM Y
  split at h
  .rename_i R e1
   let(a,Z,rfl,V,Y):=jG S W e1;exact Lx U s σ _ _ T Q I r #[a,Z,rfl,.inl #[bJ.of V,aa5 S Y h]]
  .rename_i R e1
   rw[fX e1 (by intro _ z;cases z)] at W;have P:=W;let(a,Z,rfl,V,Y):=W;exact Lx U s σ _ _ T Q I r #[a,Z,rfl,.inr #[V,aK S h _ P]]
  .exact h.elim
 .exact h.elim
end
def uZ (n:Nat) (x:D) (ds:List D):Bool:=lay x&&eT ds&&ώ (dep x<=n)
def inD (x:D) (ds:List D):Option Bool:=if uZ 100 x ds=ό then ϊ (ds.any λy=>beq y x) else ϋ
def rV (d:D) (s:ai):Option (List D):=match res d s with
 | .lst Z=>ϊ Z
 | .tup Z=>ϊ Z
 |_=>ϋ
def ic (x y:D) (s:ai):Res D:=match rV y s with
 |some Z=>bU ((inD x Z).map D.bl) s
 |none=>ϋ
def fY (x y:D) (s:ai):Res D:=match rV y s with
 |some Z=>bU ((inD x Z).map λb=>D.bl (!b)) s
 |none=>ϋ
def Nw (S:aR K w) (h:DV K w d v) (e:rV d w.aO=ϊ ds):∃a xs,v=.ref a/\(w.H a=ϊ (.lst xs)\/bE K w.H a xs)/\aB K w ds xs:=by
 delta rV at e;split at e
 .rename_i X e1
  cases e;let(a,xs,rfl,Z,Y):=jG S h e1;exact#[a,xs,rfl,.inl Z,Y]
 .rename_i X e1
  cases e;rw[fX e1 (by intro _ z;cases z)] at h;let(a,xs,rfl,Z,Y):=h;exact#[a,xs,rfl,.inr Z,Y]
 .cases e
section
variable {X:Cx} {Ξ:Wd->bF->Prop} {π:List (ę×Obj)} {σ:St} {s:ß}
theorem F7 (lx:lay x=ό):∀{ds},eT ds=ό->((dU ds).any λy=>ł y (py x))=ds.any λy=>beq y x
 | [],_=>rfl
 |d::ds,h=>by
  erw[eT,Ç] at h;erw[dU,List.any_cons,uD d x h.1 lx,F7 lx h.2]
def Pk (h:inD x ds=ϊ b):lay x=ό/\eT ds=ό/\dep x<=100/\(ds.any λy=>beq y x)=b:=by
 delta inD uZ at h;split at h
 .rename_i Z
  erw[Ç,Æ] at Z;exact#[Z.1.1,Z.1.2,Z.2,ahe h]
 .cases h
def kY (hr:cD k X.A):bA X (ğ .In) (rO X.K Ξ ic):=by
 intro π s σ H x y v u Q I J U zz;let(w,T,C,rfl,S,G,F,h):=zz;delta ic at h;split at h
 .rename_i Y E
  let(d,e,h):=gw h
  cases W:inD T Y with
  |none=>rw[W] at e;cases e
  |some b =>
   rw[W] at e;cases e;let(V,Z,B,D):=Pk W;let(R,z):=lL _ V;let(P,t):=wV _ Z;let(bs,O):=(G.py (rf _ V)).reads I J;have N:X.A.units+1+min (afo (dU Y)) (py T).depth<agZ:=by
    have:=hr.un;omega
   let(a,M,rfl,ha,L):=Nw S F E;have fin:EP X π σ Q (.bool ((dU Y).any λy=>ł y _)) s:=#[_,_,I,by rw[F7 V Z,D];rfl,aK S h _ rfl]
   rcases ha with ha|ha
   .let(cs,rc):=(show L2.DV _ (λ_=>False) _ (.list _) _ by exact#[a,M,rfl,not_false,ha,L.py (qU _ Z)]).reads I U
    exact SeqAt.in_list_reads rc O P R N fin
   .let(cs,rc):=(show L2.DV _ (λ_=>False) _ (.tuple _) _ by exact#[a,M,rfl,ha,L.py (qU _ Z)]).reads I U
    exact SeqAt.in_tuple_reads rc O P R N fin
 .exact h.elim
def rq (hr:cD k X.A):bA X (ğ .NotIn) (rO X.K Ξ fY):=by
 intro π s σ H x y v u Q I J U zz;let(w,T,B,rfl,S,G,F,h):=zz;delta fY at h;split at h
 .rename_i Y E
  let(d,e,h):=gw h
  cases W:inD T Y with
  |none=>rw[W] at e;cases e
  |some b =>
   rw[W] at e;cases e;let(V,Z,z,D):=Pk W;let(R,C):=lL _ V;let(P,t):=wV _ Z;let(bs,O):=(G.py (rf _ V)).reads I J;have N:X.A.units+1+min (afo (dU Y)) (py T).depth<agZ:=by
    have:=hr.un;rw[C];omega
   let(a,M,rfl,ha,L):=Nw S F E;have fin:EP X π σ Q (.bool (!(dU Y).any λy=>ł y _)) s:=#[_,_,I,by rw[F7 V Z,D];rfl,aK S h _ rfl]
   rcases ha with ha|ha
   .let(cs,rc):=(show L2.DV _ (λ_=>False) _ (.list _) _ by exact#[a,M,rfl,not_false,ha,L.py (qU _ Z)]).reads I U
    exact SeqAt.notIn_list_reads rc O P R N fin
   .let(cs,rc):=(show L2.DV _ (λ_=>False) _ (.tuple _) _ by exact#[a,M,rfl,ha,L.py (qU _ Z)]).reads I U
    exact SeqAt.notIn_tuple_reads rc O P R N fin
 .exact h.elim
def tP (K:ae3) (Ξ:Wd->bF->Prop) (f:ag9 (Option Int)):TO:=fun σ H Q=>∃w env,w.H=H/\aR K w/\cH K w env σ/\Out K Ξ w (f env w.aO) λZ i=>Q i Z.H
def vY:ag9 (Option Int):=λ_ s=>ok ϋ s
def vt (f:ag9 D):ag9 (Option Int):=λenv s=>aq (f env s) λd s=>match d with
 | .int i=>ok (ϊ i) s
 |_=>ϋ
variable {e a b:afh} {lo hi:Option afh} {pos p2 p3 p4:Pos} {f g:ag9 D}
def Pl (h:PO X lo t) (i:∀ σ H Q,t' σ H Q->t σ H Q):PO X lo t':=λπ s σ H Q I Z=>h π s σ H Q I (i σ H Q Z)
def aes:PO X ϋ (tP X.K Ξ vY):=Pl Zb fun σ H Q Z=>by
 let(w,env,Y,S,W,h):=Z;subst Y;exact aK S h
def acP (he:PE X e (tE X.K Ξ f)):PO X (ϊ e) (tP X.K Ξ (vt f)):=Pl (Zc he) fun σ H Q Y=>by
 let(w,env,W,S,V,h):=Y;subst W;refine#[w,env,rfl,S,V,(Out.aq h).mono λR d P U Z v T=>?_]
 cases d with
 |int i=>exact#[i,T,aK U Z]
 |_=>exact Z.elim
noncomputable def cutD (xs:List D) (lo hi:Option Int):List D:=(xs.drop (HT.bN xs.length 0 lo)).take (HT.bN xs.length xs.length hi-HT.bN xs.length 0 lo)
def Br (d:D) (lo hi:Option Int) (s:ai):Res D:=match res d s with
 | .tup Z=>ok (.tup (cutD Z lo hi)) s
 | .lst Z=>ok (.lst (cutD Z lo hi)) s
 |_=>ϋ
def vZ (f:ag9 D) (l h:ag9 (Option Int)):ag9 D:=λenv s=>aq (f env s) λd s=>aq (l env s) λlo s=>aq (h env s) λhi s=>Br d lo hi s
def rSl (K:ae3) (Ξ:Wd->bF->Prop):V->Option Int->Option Int->Hp->VK->Prop:=λx lo hi H Q=>∃w Z,w.H=H/\aR K w/\DV K w Z x/\Out K Ξ w (Br Z lo hi w.aO) λY d=>∀v,DV K Y d v->Q v Y.H
def aa9:yV X (rSl X.K Ξ):=by
 intro π s σ H x v U T lo hi R Q I P hs O pu zz;let(w,M,rfl,S,Y,h):=zz;delta Br at h;split at h
 .rename_i N e1
  rw[fX e1 (by intro _ z;cases z)] at Y;let(a,W,rfl,V,Z):=Y;refine Zh π s σ _ _ v U T lo hi R Q I P hs O pu #[a,W,rfl,V,yq S ?_ h];delta cutD oO;rw[Z.length];exact(Z.drop _).take _
 .rename_i N e1
  let(a,W,rfl,V,Z):=jG S Y e1;refine Ze π s σ _ _ v U T lo hi R Q I P hs O pu #[a,W,rfl,bJ.of V,vo S ?_ h];delta cutD oO;rw[Z.length];exact(Z.drop _).take _
 .exact h.elim
def aet (he:PE X e (tE X.K Ξ f)) (hl:PO X lo (tP X.K Ξ fl)) (hu:PO X hi (tP X.K Ξ fh)):PE X (.Subscript e (.Slice lo hi ϋ p2) pos) (tE X.K Ξ (vZ f fl fh)) :=
 dF (Xp aa9 he hl hu) fun σ H Q V=>by
  let(w,env,U,S,Z,h):=V;subst U;exact#[w,env,rfl,S,Z,(Out.aq h).mono λT d Y R P v O=>#[T,env,rfl,R,Z.le Y,(Out.aq P).mono λN i W M L=>#[N,env,rfl,M,Z.le (Y.trans W),(Out.aq L).mono λJ j I G F=>#[J,d,rfl,G,(W.trans I) _ _ O,F]]]]
def ja (d x:D) (s:ai):Res D:=match d with
 | .aw k=>match s[k]? with
  |some (.lst Z)=>if ώ (Z.length<â)=ό then ok .aD (s.set k (.lst (Z++[x]))) else ϋ
  |_=>ϋ
 |_=>ϋ
noncomputable def iE (d:D) (s:ai):Bool:=match d with
 | .aw k=>match s[k]? with
  |some (.lst _)=>ό
  |_=>ύ
 |_=>ύ
def gj (f g:ag9 D):ag9 D:=λenv s=>aq (f env s) λd s=>if iE d s=ό then aq (g env s) λx s=>ja d x s else ϋ
def Oj (S:aR K w) (dv:DV K w d v) (h:iE d w.aO=ό):∃k a ds xs,d=.aw k/\v=.ref a/\w.ρ[k]?=ϊ a/\w.aO[k]?=ϊ (.lst ds)/\w.H a=ϊ (.lst xs)/\aB K w ds xs:=by
 delta iE at h;split at h
 .rename_i k
  split at h
  .rename_i ds Z
   let(a,e1,rfl):=dv;let(xs,Y,X):=S.cell k a _ e1 Z;exact#[k,a,ds,xs,rfl,rfl,e1,Z,Y,X]
  .cases h
 .cases h
def aba (S:aR K w) (dv:DV K w d v) (du:DV K w y u) (h:Out K Ξ w (ja d y w.aO) q):∃a xs,v=.ref a/\w.H a=ϊ (.lst xs)/\xs.length<â/\∃w',w'.H=upd w.H a (.lst (xs++[u]))/\q w' .aD:=by
 delta ja at h;split at h
 .rename_i k
  split at h
  .rename_i Z Y
   split at h
   .rename_i W
    let(a,e1,rfl):=dv;let(xs,V,X):=S.cell k a _ e1 Y;have nd:(Cell.lst Z)≠.dead:=by intro z;cases z
    have le:=(Fw.put (o:=.lst (xs++[u])) (c:=.lst (Z++[y])) S e1 Y nd).le;refine#[a,xs,rfl,V,by rw[<- X.length];exact ē W,w.put k a _ (.lst (Z++[y])),rfl,?_];exact h _ le (S.Cn e1 Y nd #[_,eJ,le.all (X.append (aB.one du))]) rfl
   .exact h.elim
  .exact h.elim
 .exact h.elim
def oH {apos dw} (ho:PE X o (tE X.K Ξ f)) (ha:PE X a (tE X.K Ξ g))
  (xP:agH o "append" X.env (Ź o X.env)=Ź o X.env:=by rfl)
  (yn:((ũ dw (Õ [a] X.env)).all (λx=>!x.1)&&(backToKw dw (agN [] X.env)).all (λx=>x.1.isSome)
   && ώ (([a]).length+([]:List agM).length+(if ([]:List agM).isEmpty then 0 else 1)<30))=ό:=by rfl)
  (xQ:(apos.endLine==dw.line)=ό:=by rfl) (hs:Õ [a] X.env=(ύ,Ź a X.env)::Õ [] X.env:=by rfl) (xp:(ũ dw (Õ [] X.env)).any (·.1)=ύ:=by rfl) :
  PE X (.Call (.Attribute o "append" apos) [a] [] dw) (tE X.K Ξ (gj f g)) :=
 dF (Qn PySem.F.plainAttrs_list PySem.F.slot_list_append PySem.F.type_list_append Wh ho (oh ha ot hs) xP yn xQ hs xp) fun σ H Q T=>by
  let(w,env,Z,S,W,h):=T;subst Z;refine#[w,env,rfl,S,W,(Out.aq h).mono λR d P V Y v U=>?_];split at Y
  .rename_i O
   let(k,p,t,N,rfl,rfl,e1,e2,M,s):=Oj V U O;refine#[.inl #[rfl,N,bJ.of M],R,env,rfl,V,W.le P,(Out.aq Y).mono λr y L J I u G=>?_];let(E,D,C,B,A,q,Z,z):=aba J (L _ _ U) G I;refine#[E,D,u,C,rfl,B,A,?_];rw[<- Z];exact z _ rfl
  .exact Y.elim
def kZ (d i x:D) (s:ai):Option ai:=match d,i with
 | .aw k,.int n=>match s[k]? with
  |some (.lst Z)=>(dZ Z.length n).map λj=>s.set k (.lst (Z.set j x))
  |_=>ϋ
 |_,_=>ϋ
def qt (f o i:ag9 D):ag9 Fl:=λenv s=>aq (f env s) λx s=>aq (o env s) λd s=>aq (i env s) λn s=>match kZ d n x s with
 |some Z=>ok (.nx env) Z
 |none=>ϋ
def abb (S:aR K w) (dv:DV K w d v) (dn:DV K w i n) (du:DV K w x u) (h:kZ d i x w.aO=ϊ s'):∃a xs k j,v=.ref a/\n=.int k/\w.H a=ϊ (.lst xs)/\dZ xs.length k=ϊ j/\∃w',w'.H=upd w.H a (.lst (xs.set j u))/\w'.aO=s'/\Le K w w'/\aR K w':=by
 delta kZ at h;split at h
 .rename_i k m
  split at h
  .rename_i X Z
   cases Y:dZ _ m with
   |none=>rw[Y] at h;cases h
   |some j =>
    rw[Y] at h;cases h;let(a,e1,rfl):=dv;let(xs,V,W):=S.cell k a _ e1 Z;have nd:(Cell.lst X)≠.dead:=by intro z;cases z
    have le:=(Fw.put (o:=.lst (xs.set j u)) (c:=.lst (X.set j x)) S e1 Z nd).le;exact#[a,xs,m,j,rfl,dn,V,by rw[<- W.length];exact Y,_,rfl,rfl,le,S.Cn e1 Z nd #[_,eJ,le.all (W.set du j)]]
  .cases h
 .cases h
def G4 (he:PE X e (tE X.K Ξ f)) (ho:PE X o (tE X.K Ξ fo)) (hi:PE X i (tE X.K Ξ fi))
 (ha:∀v,af5 (.Subscript o i ju) X.env v=(do
   let ov <- agw [v] (Ź o X.env)
   let iv <- agw [v,ov] (Ź i X.env)
   agx ju
   agw [v,ov,iv] (setItem ov iv v)
   release [v,ov,iv] []):=by intro _;rfl)
 (hs:ae4 [.Subscript o i ju] e pos.line X.env=pure ύ:=by rfl) (hw:ae5 [.Subscript o i ju] e X.env=pure ϋ:=by rfl)
 (h1:(η [.Subscript o i ju] X.env).map (·.2)=[af5 (.Subscript o i ju) X.env]:=by rfl):PS X (.Assign [.Subscript o i ju] e pos) (tS X.K Ξ (qt f fo fi)) :=
 kO (FY he (O3 ho hi set_list ha) hs hw h1) λy σ H Q=>by
  let(w,env,W,S,Z,h):=Q;subst W;refine#[w,env,rfl,S,Z,(Out.aq h).mono λP x V O h1 u N=>?_];refine#[P,env,rfl,O,Z.le V,(Out.aq h1).mono λM d U L J v I=>?_];refine#[M,env,rfl,L,Z.le (V.trans U),(Out.aq J).mono λt n T G Y m F=>?_]
  cases R:kZ d n x _ with
  |none=>rw[R] at Y;exact Y.elim
  |some s =>
   rw[R] at Y;let(a,E,k,j,e1,e2,D,C,B,W,A,le,z):=abb G (T _ _ I) F ((U.trans T) _ _ N) R;refine#[a,E,k,j,e1,e2,D,C,?_];rw[<- W];exact Y B le z A σ (Z.le (V.trans (U.trans (T.trans le))))
end
def kd (d:D) (s:ai):Option Kn:=match res d s with
 | .aD=>ϊ .aD
 | .bl _=>ϊ .bl
 | .int _=>ϊ .int
 | .str _=>ϊ .str
 | .tup _=>ϊ .tup
 | .lst _=>ϊ .lst
 | .cb _=>ϊ .cb
 |_=>ϋ
def acQ (S:aR K w) (h:DV K w d v) (e:kd d w.aO=ϊ k):vV K w.H v k:=by
 delta kd at e
 split at e<;>rename_i e1<;>first | (done) | (try cases e)
 .rw[fX e1 (by intro _ z;cases z)] at h;cases h;trivial
 .rw[fX e1 (by intro _ z;cases z)] at h;cases h;trivial
 .rw[fX e1 (by intro _ z;cases z)] at h;cases h;trivial
 .rw[fX e1 (by intro _ z;cases z)] at h;cases h;trivial
 .rw[fX e1 (by intro _ z;cases z)] at h
  let(a,Y,rfl,Z,_):=h;exact#[Y,Z]
 .let(a,Y,rfl,Z,_):=jG S h e1
  exact#[Y,bJ.of Z]
 .rw[fX e1 (by intro _ z;cases z)] at h
  let(a,rfl,_,Z):=h;exact#[_,Z]
noncomputable def Qy (T:String):Bool:=T=="int"||T=="bool"||T=="str"||T=="tuple"||T=="list"
def nr (ds:List D) (s:ai):Res D:=match ds with
 | [d,.ty T]=>if Qy T=ό then bU ((kd d s).map λk=>.bl (vi k T)) s else ϋ
 |_=>ϋ
section
variable {X:Cx} {Ξ:Wd->bF->Prop} {e a b:afh} {es:List afh} {pos:Pos} {f g:ag9 D} {fa:ag9 (List D)}
def qg:cX X (.builtin "isinstance") (rC X.K Ξ nr):=by
 intro Z s σ H M Y Q I r zz;let(w,L,rfl,S,R,h):=zz;delta nr at h;split at h
 .rename_i d T
  let(v,u,rfl,P,O):=uE R;have N:=O;subst N;split at h
  .rename_i U
   let(J,e,h):=gw h
   cases V:kd d _ with
   |none=>rw[V] at e;cases e
   |some k =>
    rw[V] at e;cases e;have W:=acQ S P V;erw[Qy,afV,beq_iff_eq] at U
    rcases U with (((rfl|rfl)|rfl)|rfl)|rfl
    .exact Us Z s σ _ _ Y Q I r #[v,k,rfl,W,aK S h _ rfl]
    .exact Ua Z s σ _ _ Y Q I r #[v,k,rfl,W,aK S h _ rfl]
    .exact Ut Z s σ _ _ Y Q I r #[v,k,rfl,W,aK S h _ rfl]
    .exact TU Z s σ _ _ Y Q I r #[v,k,rfl,W,aK S h _ rfl]
    .exact Ub Z s σ _ _ Y Q I r #[v,k,rfl,W,aK S h _ rfl]
  .exact h.elim
 .exact h.elim
def qu (hv:ć x=ϊ (.type T)) (hg:Gl X x) (hm:X.mg x=ϋ) (hn:x≠"__name__":=by decide) (hd:(x==("__debug__"))=ύ:=by decide):PE X (.Name x pos) (tE X.K Ξ (eC (.ty T))):=rR (v:=.ty T) (YY hg hm hv rfl hn hd) λ_=>rfl
def cZ (g:∃t,X.mg x=ϊ (.int i t)) (hg:Gl X x) (hd:(x==("__debug__"))=ύ:=by decide):PE X (.Name x pos) (tE X.K Ξ (eC (.int i))):=by
 let(t,e):=g;exact rR (v:=.int i) (E9 hg e #[t,rfl] hd) λ_=>rfl
noncomputable def ki:List D->Option (List Int)
 | []=>ϊ []
 | .int i::Z=>(ki Z).map λr=>i::r
 |_::_=>ϋ
theorem wW:∀{ds} {ns},ki ds=ϊ ns->ds=ns.map D.int
 | [],ns,h=>by cases h;rfl
 | .int b::ds,ns,h=>by
  erw[ki] at h
  cases Z:ki ds with
  |none=>rw[Z] at h;cases h
  |some r=>rw[Z] at h;cases h;rw[wW Z];rfl
 | .aD::_,_,h=>by cases h
 | .bl _::_,_,h=>by cases h
 | .str _::_,_,h=>by cases h
 | .tup _::_,_,h=>by cases h
 | .lst _::_,_,h=>by cases h
 | .cb _::_,_,h=>by cases h
 | .aw _::_,_,h=>by cases h
 | .ty _::_,_,h=>by cases h
 | .cw _::_,_,h=>by cases h
 | .exc ..::_,_,h=>by cases h
 | .cx ..::_,_,h=>by cases h
def t9:ki (ns.map D.int)=ϊ ns:=by
 induction ns with
 |nil=>rfl
 |cons b bs ih=>erw[Ü,ki,ih,ž]
noncomputable def nu (i:Int):List Int->List Int
 | []=>[i]
 |j::r=>if i<j then i::j::r else if i=j then j::r else j::nu i r
def iz:List Int->List Int
 | []=>[]
 |i::r=>nu i (iz r)
theorem EG:∀{l},k∈nu i l↔k=i\/k∈l
 | []=>by simp[nu]
 |j::r=>by
  delta nu;split
  .simp
  .split
   .rename_i h;subst h;simp
   .rw[Ð,EG,Ð]
    constructor
    .rintro (h|h|h)
     .exact .inr (.inl h)
     .exact .inl h
     .exact .inr (.inr h)
    .rintro (h|h|h)
     .exact .inr (.inl h)
     .exact .inl h
     .exact .inr (.inr h)
theorem LV:∀{l},l.Pairwise (· < ·)->(nu i l).Pairwise (· < ·)
 | [],_=>by simp[nu]
 |j::r,h=>by
  let(Z,Y):=û.mp h;delta nu;split
  .rename_i X
   refine û.mpr #[λk hk=>?_,h]
   rcases Ð.mp hk with rfl|hk
   .exact X
   .have:=Z k hk;omega
  .split
   .exact h
   .refine û.mpr #[λk hk=>?_,LV Y]
    rcases EG.mp hk with rfl|hk
    .omega
    .exact Z k hk
theorem lH:∀{l},k∈iz l↔k∈l
 | []=>by simp[iz]
 |i::r=>by simp[iz,EG,lH]
theorem qT:∀l,(iz l).Pairwise (· < ·)
 | []=>List.Pairwise.nil
 |i::r=>LV (qT r)
theorem DB:∀{l m:List Int},l.Pairwise (· < ·)->m.Pairwise (· < ·)->(∀k,k∈l↔k∈m)->l=m
 | [],[],_,_,_=>rfl
 | [],j::m,_,_,h=>by have:=(h j).mpr Ë;cases this
 |i::l,[],_,_,h=>by have:=(h i).mp Ë;cases this
 |i::l,j::m,W,V,h=>by
  let(Y,U):=û.mp W;let(X,T):=û.mp V;have e:i=j:=by
   rcases Ð.mp ((h i).mp Ë) with e|e
   .exact e
   .rcases Ð.mp ((h j).mpr Ë) with e'|e'
    .exact e'.symm
    .have:=X i e;have:=Y j e';omega
  subst e;congr 1;refine DB U T λk=>?_;constructor
  .intro Z
   rcases Ð.mp ((h k).mp (Ì _ Z)) with e|e
   .subst e;have:=Y k Z;omega
   .exact e
  .intro Z
   rcases Ð.mp ((h k).mpr (Ì _ Z)) with e|e
   .subst e;have:=X k Z;omega
   .exact e
def Ef (l):(iz l).length<=l.length:=by
 induction l with
 |nil=>exact ahd _
 |cons x l ih =>
  have:(iz (x::l)).length<=(iz l).length+1:=by
   show (nu x _).length<=_;generalize iz l=m
   induction m with
   |nil=>exact ahd _
   |cons y m Z =>
    delta nu;split
    .simp
    .split
     .simp
     .erw[Ú];omega
  erw[Ú];omega
def Nx (ns):(ns.foldl Ŵ []).length<=(iz ns).length:=sub_len (wA ns _ afe) λk Z=>lH.mpr ((wM ns k).mp Z)
def kM (d:D) (s:ai):Res D:=match d with
 | .lst Y=>match ki Y with
  |some Z=>if ώ ((iz Z).length<64)=ό then ok (.lst ((iz Z).map D.int)) s else ϋ
  |none=>ϋ
 |_=>ϋ
def Vv {p p2 jb} (ha:PE X a (tE X.K Ξ f)) (hc:X.calm=ό) (hg:Gl X "sorted") (hm:X.mg "sorted"=ϋ) (hv:ć "sorted"=ϊ (.builtin "sorted")) (zq:Gl X "set") (zr:X.mg "set"=ϋ) (hv2:ć "set"=ϊ (.type "set"))
  (he:Õ [a] X.env=(ύ,Ź a X.env)::Õ [] X.env:=by rfl) (cz:(ũ jb (Õ [] X.env)).any (·.1)=ύ:=by rfl)
  (lB:Õ [.Call (.Name "set" p2) [a] [] jb] X.env=(ύ,Ź (.Call (.Name "set" p2) [a] [] jb) X.env)::Õ [] X.env:=by rfl) (sm:(ũ pos (Õ [] X.env)).any (·.1)=ύ:=by rfl) :
  PE X (.Call (.Name "sorted" p) [.Call (.Name "set" p2) [a] [] jb] [] pos) (tE X.K Ξ (e1 kM f)) :=
 dF (Ez (LF hc) hg hm hv (oh (wL (Vp hc) zq zr hv2 (oh ha ot he) (by decide) (by decide) he cz) ot lB) (by decide) (by decide) lB sm) fun σ H Q N=>by
  let(w,env,M,S,L,h):=N;subst M;refine#[w,env,rfl,S,L,(Out.aq h).mono λJ d B I Y v G=>?_];delta kM at Y;split at Y
  .split at Y
   .rename_i W F
    split at Y
    .rename_i V
     have V:=ē V;let(p,A,rfl,T,R):=G;rw[wW F] at R;rw[R.EC] at T;have E:=ŭ (Nx W) V;refine#[p,W,rfl,T.sq,by omega,λq P=>?_];refine#[q,W,rfl,eJ,E,λl z D hs C=>?_];have e:=DB hs (qT W) λk=>(C k).trans lH.symm;subst e;have U:=D;have O:=I.grow (o:=.ext (dX X.prog X.w q W)) P;exact Y _ ((Fw.grow P).le.trans (Fw.grow U).le) (O.grow U) rfl _ #[l,_,rfl,#[(show ¬ (J.grow q _).Z l from rH O U),eJ],aB.ints _]
    .exact Y.elim
   .exact Y.elim
  .exact Y.elim
def vv (i j:Nat) (fa:ag9 (List D)):ag9 Fl:=λenv s=>aq (fa env s) λZ s=>match Z with
 | [x,y]=>ok (.nx ((env.set i (ϊ x)).set j (ϊ y))) s
 |_=>ϋ
def Pn (i j) {x y} {px py pt} {kt k2 jy} (hc:X.calm=ό) (hN:X.N.Nodup) (ha:PA X [a,b] (tA X.K Ξ fa)) (hi:X.N[i]?=ϊ x:=by rfl) (hj:X.N[j]?=ϊ y:=by rfl) (iF:i≠j:=by decide)
  (hx:X.env.scope.names.lookup x=ϊ .local:=by rfl) (hy:X.env.scope.names.lookup y=ϊ .local:=by rfl)
  (hw:ae5 [.Tuple [.Name x px,.Name y py] kt pt] (.Tuple [a,b] k2 jy) X.env=pure (ϊ [x,y]):=by rfl)
  (hs:ae4 [.Tuple [.Name x px,.Name y py] kt pt] (.Tuple [a,b] k2 jy) pos.line X.env=pure ύ:=by rfl) :
  PS X (.Assign [.Tuple [.Name x px,.Name y py] kt pt] (.Tuple [a,b] k2 jy) pos) (tS X.K Ξ (vv i j fa)):=kO (aaA hc hN hi hj iF hx hy ha hw hs) λO σ H W=>by
 let(w,env,V,S,Y,h):=W;subst V;refine#[w,env,rfl,S,Y,(Out.aq h).mono λM L U T Z J R=>?_];split at Z
 .let(v,u,rfl,Q,P):=uE R
  exact#[v,u,rfl,aK T Z _ (((Y.le U).set Q i).set P j)]
 .exact Z.elim
end
end DI
namespace L2
open PySem PySem.Spec PyProof.Rows
structure DS (Y:Cx) (D) (π):Prop where
 loc:D≠Y.env.locals
 fs:D∉Y.fs
 new:Y.eR.heap.objs.size<=D
 cell:∀x c,Y.env.cells.lookup x=ϊ c->c≠D
 pin:∀p∈Y.pn++π,p.1≠D
structure sY (Y) (D) (nt) (aW:St) (π) (o:St) (H) (s) (acc):Prop where
 inv:Inv Y π (o++aW) H s
 len:o.length=nt
 lst:∃ys,s.heap.PlainList D ys/\Vals acc ys.toList
 free:H D=ϋ
 mj:acc.length<=â
abbrev sr:=St->Hp->List V->(St->List V->Hp->Prop)->Prop
def vw (Y:Cx) (D:ę) (nt:Nat) (aW:St) (c:Code) (m:Sem PySem.Fin) (ta:sr):Prop :=
 ∀X o H s Z Q,DS Y D X->sY Y D nt aW X o H s Z->ta (o++aW) H Z Q ->
  ð (ã Y.prog Y.w) Y.A m (λfn T=>fn=.again c/\∃W V U,sY Y D nt aW X W V T U/\Q (W++aW) U V) (λ_ _=>False) s
def CA (J:It) (g:TG) (tf:TT) (ta:sr) (τ:St) (acc:List V) (H:Hp) (Q:St->List V->Hp->Prop):Prop:=∃W:Nat->Nat->St->List V->Hp->Prop,(∃m,W 0 m τ acc H) /\
 ∀i m τ acc Z,W i m τ acc Z->(J.stop i Z/\Q τ acc Z) \/
  (J.go i Z/\∃N,(∀ X U T,N X U T->∃S,S < m/\W (i+1) S X U T) /\
   ∀x R,J.yN i Z x R->g x τ R fun Y O=>tf Y O λb P=>if b=ό then ta Y P acc N else N Y acc P)
def Qz (te:TE):sr:=fun Y H Z Q=>Z.length+1<=â/\te Y H λv X=>Q Y (Z++[v]) X
def QA (wi:TI) (g:TG) (tf:TT) (ta:sr):sr:=fun Y H Z Q=>wi Y H λJ X=>CA J g tf ta Y Z X Q
section
variable {Y:Cx} {D:ę} {nt:Nat} {aW:St}
def DS.obj (ds:DS Y D π) (B:sY Y D nt aW π o H s acc):∃oD ys nn,s.heap.get? D=ϊ oD/\oD={ cls:=.type "list",data:=.seq ys nn }/\Vals acc ys.toList/\Inv Y (π++[(D,oD)]) (o++aW) H s:=by
 obtain⟨ys,⟨nn,Z⟩,X⟩:=B.lst;refine#[_,ys,nn,Z,rfl,X,B.inv.jl λp W=>?_]
 rcases Û.mp W with z|z
 .exact B.inv.pin p (Å _ z)
 .have e:=by simpa using z
  subst e;exact#[Z,B.free,ds.loc,ds.fs,λv z=>by cases z]
def EH (hx:Y.xe=λ_ _=>False) (hE:PE Y el te):vw Y D nt aW c ((do let _ <- call (.builtin "list.append") [.ref D,<- Ź el Y.env]) >>= λ_=>again c) (Qz te):=by
 intro R o H s P Q Z B h;let(O,h):=h;let(oD,V,nn,w,N,U,I):=Z.obj B;have q:=hE _ s _ H _ I h;rw[hx] at q;refine À (À (aP q λy X M=>?_));let(v,T,S,L,K):=M;have W:=S.pin (D,oD) (Å _ (Å _ ∅));have J:X.heap.PlainList D V:=#[nn,by rw[<- N];exact W.1];have G:V.size<=â:=by
  have e:=U.length;erw[å] at e;omega
 refine À (wpAny_list_append_plain J λF E C=>Â (Â #[rfl,?_]));have A:=S.j6
 have z:Inv Y R _ T { X with heap:=F,toks:=X.toks }:=A.turned (λb o x e=>(C.2 b x).trans e) W.2.1 Z.loc (.inr Z.new) Z.cell Z.pin
 refine#[o,T,_,#[z,B.len,#[_,E,?_],W.2.1,by simpa using O],K];rw[Ŕ];exact Vals.append U (.cons L .nil)
def D1 (hx:Y.xe=λ_ _=>False) (hc:Y.calm=ό)
 (T:Turn Y.prog Y.w Y.K tg J fp it tn) (jg:tn 0 s.heap) (hf:∀b∈fp,cY Y π H b) (mz:D∉fp) (hG:PG Y tg g) (fJ:l9 g nt) (hF:PF Y tests tf) (hA:vw Y D nt aW (.compLoop e d (.ref it) (.ref D) Y.env) act ta) (ds:DS Y D π) (B:sY Y D nt aW π o H s acc) (hq:(Code.compLoop e d (.ref it) (.ref D) Y.env).quiet=ό)
 (aeu:∀(M:Model) A Q' E' s',ð (ã Y.prog Y.w) A (compTurn e d (.ref it) (.ref D) Y.env) Q' (λ_ _=>False) s'->ð (ã Y.prog Y.w) (A.under (.compLoop e d (.ref it) (.ref D) Y.env)) ((ã Y.prog Y.w).den (.compLoop e d (.ref it) (.ref D) Y.env)) Q' E' s')
 (ht:compTurn e d (.ref it) (.ref D) Y.env=(do
   agx p0
   match <- agn (.ref it) with
   |none=>pure (.done .next)
   |some v =>
    ř tg (.ref it) v
    af5 tg Y.env v
    let mut ok:=ό
    for c in tests do
     if ok then ok <- ag5 c Y.env (Ź c Y.env)
    if ok then act else again (.compLoop e d (.ref it) (.ref D) Y.env)))
 (h:CA J g tf ta (o++aW) acc H Q) :
  ů (ã Y.prog Y.w) Y.A (.compLoop e d (.ref it) (.ref D) Y.env) (λr s'=>r=.ok .next/\∃o' H' gE,sY Y D nt aW π o' H' s' gE/\Q (o'++aW) gE H') s:=by
 obtain⟨W,⟨m0,w0⟩,turn⟩:=h;have G:∀{H'} {P},(∀b∈fp,H' b=ϋ)->(∀p∈P,p.1∉fp)->∀b∈fp,cY Y (π++P) H' b:=λhn X b Z=>by
  let(_,f1,oX,f3,f4,f5):=hf b Z;refine#[hn b Z,f1,oX,f3,f4,λp oY=>?_]
  rcases Û.mp oY with z|z
  .exact f5 p (ě _ z)
  .rcases Û.mp z with z|z
   .exact f5 p (Å _ z)
   .exact λe=>X p z (e ▸ Z)
 refine codeAny_loop hq (λn s'=>∃i acc o H',sY Y D nt aW π o H' s' acc/\tn i s'.heap/\(∀b∈fp,H' b=ϋ)/\W i n (o++aW) acc H') (λn s3 hJ=>?_) m0 #[0,acc,o,H,B,jg,λb Z=>(hf b Z).1,w0];let(i,acc,o3,O,V,je,qE,w3):=hJ;refine aeu (ã Y.prog Y.w) _ _ _ _ ?_;rw[ht];let(oD,N,nn,ho,eo,F,zt):=ds.obj V;have E:∀p∈[(D,oD)],p.1∉fp:=λp X=>by
  have e:=by simpa using X
  subst e;exact mz
 have v7:∀{P} {C} {H'} {s'},Inv Y (π++[(D,oD)]++P) C H' s'->s'.heap.PlainList D N/\H' D=ϋ:=λL=>by
  have q:=L.pin (D,oD) (Å _ (ě _ (Å _ ∅)));exact#[#[nn,by rw[<- eo];exact q.1],q.2.1]
 refine À (ō (À ?_))
 rcases turn i n _ acc O w3 with ⟨stop,q⟩ | ⟨go,N',hN,step⟩
 .have y:=T.done Y rfl rfl rfl hc i _ s3 _ O (λ_ _=>False) zt (G qE E) je stop
  refine aP y λr s4 S=>?_;let(t,I4):=S;subst t;let(JC,n4):=v7 (by simpa using I4);exact Â #[rfl,o3,O,acc,#[I4.j6,V.len,#[N,JC,F],n4,V.mj],q]
 .have y:=T.item Y rfl rfl rfl hc i _ s3 _ O (λ_ _=>False) zt (G qE E) je go
  refine aP y λr s4 S=>?_;let(u,t,S):=S;subst t;refine À (aP S λ_ s5 h5=>?_);let(x,m,I5,r5,y5,l,yP):=h5;have yQ:=I5.pinned (G yP E) (T.obj _ _ l);have q5:=hG _ s5 _ m x u _ yQ r5 (fJ x o3 _ m _ V.len (step x m y5));rw[hx] at q5;refine À (aP q5 λ_ s6 h6=>?_);obtain⟨zu,H6,I6,⟨o6,zw,Cr⟩,q6⟩:=h6;have R:=hF _ s6 _ H6 _ I6 q6;rw[hx] at R;refine À (aP R λb s7 h7=>?_);let(H7,I,R):=h7;subst Cr;let(CT,n7):=v7 I;have k:=I.jl λp X=>by
   rcases Û.mp X with z|z
   .exact I.pin p (Å _ (ě _ (ě _ z)))
   .exact I.pin p (Å _ (Å _ z))
  have yv:∀{C} {H'} {s'},Inv Y (π++uB fp _) C H' s'->tn _ _/\∀b∈fp,H' b=ϋ:=λL=>by
   refine#[T.keep _ _ _ l λb Z o e=>(L.pin _ (Å _ (Å _ (tX Z e)))).1,λb Z=>?_];let(o,e,_):=T.obj _ _ l b Z;exact(L.pin _ (Å _ (Å _ (tX Z e)))).2.1
  cases b with
  |false =>
   let(j,f,w7):=hN _ _ _ R;let(t7,f7):=yv k;exact Â #[rfl,j,f,_,acc,o6,H7,#[k.j6,zw,#[N,CT,F],n7,V.mj],t7,f7,w7]
  |true =>
   have a:DS Y D (π++uB fp s5.heap):=#[ds.loc,ds.fs,ds.new,ds.cell,λp X=>by
    rcases Û.mp X with z|z
    ·exact ds.pin p (ě _ z)
    ·rcases Û.mp z with z|z
     ·exact ds.pin p (Å _ z)
     ·exact λe=>mz (e ▸ (Mz z).1)]
   refine aP (hA _ o6 H7 s7 acc N' a #[k,zw,#[N,CT,F],n7,V.mj] R) λfn s8 h8=>?_;let(efn,o8,H8,aev,U,q8):=h8;subst efn;let(j,f,w8):=hN _ _ _ q8;let(t8,f8):=yv U.inv;exact#[rfl,j,f,_,aev,o8,H8,#[U.inv.j6,U.len,U.lst,U.free,U.mj],t8,f8,w8]
end
def F8 (A) (Q') (E') (s')
 (h:ð (ã P w) A (compTurn (.ListComp el gens sc ps) d gL av ce) Q' (λ_ _=>False) s'):ð (ã P w) (A.under (.compLoop (.ListComp el gens sc ps) d gL av ce)) ((ã P w).den (.compLoop (.ListComp el gens sc ps) d gL av ce)) Q' E' s':=by
 exact wpAny_noted (Ĝ h (λ_ _ q=>q) λ_ _ z=>z.elim)
def XY (hd:gens[d]?=ϊ #[target,iter,ifs,0])
 (h0:ů (ã P w) A (.compLoop (.ListComp el gens sc ps) d it acc env) R s)
 (h:ð (ã P w) A (ag6 it) (λnM s'=>ů (ã P w) A (.compLoop (.ListComp el gens sc ps) d nM acc env) R s') (λ_ _=>False) s) :
  ů (ã P w) A (.compStart (.ListComp el gens sc ps) d it acc env) R s:=by
 refine afX ?_;refine wpAny_notedAt ?_;have Z:(clausesOf (.ListComp el gens sc ps))[d]?=ϊ _:=hd;delta compStart;rw[Z];refine À (afc (wpAny_ite ?_));split
 .first
   |exact À (Â (Â (Ý rfl h0)))
   |exact Â _
 .refine À (ş ?_)
  exact À (ō (À (Ĝ h (λnM s' Y=>Â (Ý rfl Y)) λ_ _ x=>x.elim)))
section
variable {Y:Cx} {D:ę} {nt:Nat} {aW:St}
def AN {el tg src} {gens} {sc} {ps} {tests} {d} {wi} {g} {tf} {ta} {act:ę->Sem _} {c} (hx:Y.xe=λ_ _=>False) (hc:Y.calm=ό) (hd:gens[d]?=ϊ #[tg,src,tests,0])
  (hi:PI Y tg src wi) (hG:PG Y tg g) (fJ:l9 g nt) (hF:PF Y tests tf) (hA:∀it,vw Y D nt aW (.compLoop (.ListComp el gens sc ps) d (.ref it) (.ref D) Y.env) (act it) ta)
  (ht:∀it,compTurn (.ListComp el gens sc ps) d (.ref it) (.ref D) Y.env=(do
   agx src.pos
   match <- agn (.ref it) with
   |none=>pure (.done .next)
   |some v =>
    ř tg (.ref it) v
    af5 tg Y.env v
    let mut ok:=ό
    for c in tests do
     if ok then ok <- ag5 c Y.env (Ź c Y.env)
    if ok then act it else again (.compLoop (.ListComp el gens sc ps) d (.ref it) (.ref D) Y.env)))
  (hs:∀x,ú src Y.env x=pure x) :
  vw Y D nt aW c (do
   let x <- Ź src Y.env
   agx src.pos
   let x <- ú src Y.env x
   let _ <- runOwn (.compStart (.ListComp el gens sc ps) d (<- agw [x] (ag6 x)) (.ref D) Y.env) Y.env
   again c) (QA wi g tf ta):=by
 intro X o H s Z Q W B h;let(oD,O,nn,f,N,M,I):=W.obj B;have q:=hi _ s _ H _ I h;rw[hx] at q;refine À (aP q λv a L=>À (ō ?_));rw[hs];refine À (Â (À (ĝ (aP L λgL K G=>?_))));let(it,F,tn,J,V,e,U,T,S,f2,ca):=G;subst e;have R:=U.pin (D,oD) (Å _ (Å _ ∅));have E:=λz=>(f2 D z).2.2.2.2.2 (D,oD) (Å _ (Å _ ∅)) rfl;have C:∀b∈F,cY Y X V b:=λb y=>by
  let(a1,a2,w,u,t,n):=f2 b y;refine#[a1,a2,w,u,t,λp m=>n p ?_]
  rcases Û.mp m with z|z
  .exact ě _ z
  .exact Å _ (ě _ z)
 have l:sY Y D nt aW X o V K Z:=#[U.j6,B.len,#[O,#[nn,by rw[<- N];exact R.1],M],R.2.1,B.mj];have loop:=D1 hx hc T S C E hG fJ hF (hA it) W l rfl (λ_ A k j P h=>F8 A k j P h) (ht it) ca;refine À (wpAny_runOwn ?_);refine ξ (XY hd loop (T.self _ _ _ _ _ S loop)) λr P i=>?_;let(e,q):=i;subst e;exact Â #[rfl,q]
end
def Bs (wi:TI) (nt:Nat) (cap:List Nat) (g:TG) (tf:TT) (ta:sr):TE:=fun σ H Q=>wi σ H λJ X=>CA J g tf ta (Ñ nt ϋ++oz cap σ) [] X λ_ Z Y=>∀D,Y D=ϋ->Q (.ref D) (upd Y D (.lst Z))
section
variable {X:Cx}
def Ny {el tg src} {tests} {rest} {sc} {ps} {N} {nt} {cap} {wi} {g} {tf} {ta} {act:Env->ę->ę->Sem _} (hc:X.calm=ό) (S:rG X sc N nt cap) (fJ:l9 g nt) (hi:PI X tg src wi)
  (hY:∀cl C s H ex pn,PG (cK X N sc cl C s H ex pn) tg g/\PF (cK X N sc cl C s H ex pn) tests tf/\∀D aW it,vw (cK X N sc cl C s H ex pn) D nt aW (.compLoop (.ListComp el (#[tg,src,tests,0]::rest) sc ps) 0 (.ref it) (.ref D) (compEnvC sc cl C X.env)) (act (compEnvC sc cl C X.env) D it) ta)
  (ht:∀it D ce,compTurn (.ListComp el (#[tg,src,tests,0]::rest) sc ps) 0 (.ref it) (.ref D) ce=(do
   agx src.pos
   match <- agn (.ref it) with
   |none=>pure (.done .next)
   |some v =>
    ř tg (.ref it) v
    af5 tg ce v
    let mut ok:=ό
    for c in tests do
     if ok then ok <- ag5 c ce (Ź c ce)
    if ok then act ce D it else again (.compLoop (.ListComp el (#[tg,src,tests,0]::rest) sc ps) 0 (.ref it) (.ref D) ce)))
  (hs:∀x,ú src X.env x=pure x:=by intro _;rfl):PE X (.ListComp el (#[tg,src,tests,0]::rest) sc ps) (Bs wi nt cap g tf ta):=by
 intro K s σ H Q I h;let(cl,x9,i):=F0 λn F=>I.ok.has n (S.frees _ F rfl).2;refine afO rfl hs x9 S.kind S.names (aP (hi K s σ H _ I h) λxv s1 h1=>aP h1 λgL W h2=>?_);let(it,O,tn,J,E,e,V,T,f,f2,ca):=h2;subst e;refine Č (wpAny_newFunctionEnv S.F3 (by intro y hy;simp at hy) (λh3 l B=>?_) S.kind);generalize d:W.heap.objs.size=D at l B |-;generalize a:W.heap.push _=G at l B |-;generalize zx:G.objs.size=C at l B |-;have hC:C=D+1:=by rw[<- zx,<- a,ĉ,d]
 have mC:D≠C:=by omega
 have U:=Ū d;have k:W.heap.objs.size<=C:=by omega
 have old:=λb o e=>B.extBut b o (ë (È (Í e) k)) (Á _ (a ▸ Á _ e));have kW:h3.PlainList D _:=#[_,B.extBut _ _ mC (Á _ (a ▸ d ▸ Ê _ rfl))];have iT:∀b∈O,b<W.heap.objs.size:=λb M=>by
  let(o,e,_):=T.obj _ _ f b M;exact Í e
 have IB:=V.block (t':=W.toks+([]:List (Str×ì)).length) S i f2 iT old k #[_,l];have zy:D∉jW _:=λz=>by
  rcases Ð.mp (V.mU D z) with e|e
  .exact absurd (È V.lt U) (by rw[e];exact ó _)
  .exact V.vh U e
 have mz:D∉O:=λz=>absurd (È (iT D z) U) (ó _);have xx:∀x c,cl.lookup x=ϊ c->c≠D:=λx c e z=>by
  let(v,o,ho,_):=V.cell x c ((i x c).mp e).2;exact absurd (È (Í ho) (by rw[z];exact U)) (ó _)
 have ya:∀p∈X.pn++K,p.1≠D:=λp hp z=>absurd (È (Í (V.pin p hp).1) (by rw[z];exact U)) (ó _);have fin:∀R τ P Z t,Inv (cK X N sc cl C W E O (X.pn++K)) [] τ P R->R.heap.PlainList D t->Vals Z t.toList->P D=ϋ->Z.length<=â->(∀D,P D=ϋ->Q (.ref D) (upd P D (.lst Z))) ->
   compPost (ã X.prog X.w) X.A X.xe ϋ (EP X K σ Q) (.ref D) C (.ok .next) R:=by
  intro R τ P Z t L pl rv F hz q;let(m,hm,_):=id L.loc;refine#[m,hm,λh' sb=>?_];have yw:=L.aN.but L.free sb;let(n,ho):=pl;have eV:=(sb.2 D mC).trans ho;have new:fO X.prog X.w (upd P D (.lst Z)) h' D (.lst Z):=#[hz,_,n,rv,by simpa using eV];have u:=(L.base.but k sb).adopt (o:=.lst Z) U F;refine#[.ref D,_,V.BF L.os u (yw.adopt F new) L.bare (λb M=>?_),rfl,q D F];let(_,f1,_,f3,f4,f5):=f2 b M;exact#[f3,f1,f4,f5]
 have mB:∀b∈O,cY (cK X N sc cl C W E O (X.pn++K)) [] E b:=λb M=>by
  let(f0,f1,oX,f3,f4,f5):=f2 b M;refine#[f0,ë (È (iT b M) k),λz=>?_,.inl M,λx c e=>f4 x c ((i x c).mp e).2,λp oY=>?_]
  .rcases Ð.mp (V.mU b z) with e|e
   .exact f1 e
   .exact oX e
  .exact f5 p (by simpa using oY)
 let(zA,zB,JE):=hY cl C W E O _;have loop:=D1 (Y:=cK X N sc cl C W E O _) rfl hc T
  (T.keep _ _ _ f λb _ o e=>old b o e) mB mz zA fJ zB (JE D _ it) #[mC,zy,U,xx,λp hp=>ya p (by simpa using hp)] #[IB,by simp,#[_,kW,.nil],V.aN.fresh U,Ă _] rfl (λ_ A Q' E' R h=>F8 A Q' E' R h) (ht it D _) ca
 have yb:=ξ loop λr R hr=>by
  let(e,o',P,gE,j,q'):=hr;subst e;let(t,pl,rv):=j.lst;exact fin R _ P gE t j.inv pl rv j.free j.mj q'
 exact agc yb (T.self _ _ _ _ _ (T.keep _ _ _ f λb _ o e=>old b o e) yb)
def XZ {el tg src} {tests} {rest} {sc} {ps pos pos'} {N} {nt} {cap} {wi} {g} {tf} {ta} {act:Env->ę->ę->Sem _} {i0} {x0} (s9:X.N.Nodup) (tj:X.N[i0]?=ϊ x0) (tm:Loc X.env.scope x0) (hc:X.calm=ό) (S:rG X sc N nt cap) (fJ:l9 g nt) (hi:PI X tg src wi)
  (hY:∀cl C s H ex pn,PG (cK X N sc cl C s H ex pn) tg g/\PF (cK X N sc cl C s H ex pn) tests tf/\∀D aW it,vw (cK X N sc cl C s H ex pn) D nt aW (.compLoop (.ListComp el (#[tg,src,tests,0]::rest) sc ps) 0 (.ref it) (.ref D) (compEnvC sc cl C X.env)) (act (compEnvC sc cl C X.env) D it) ta)
  (ht:∀it D ce,compTurn (.ListComp el (#[tg,src,tests,0]::rest) sc ps) 0 (.ref it) (.ref D) ce=(do
   agx src.pos
   match <- agn (.ref it) with
   |none=>pure (.done .next)
   |some v =>
    ř tg (.ref it) v
    af5 tg ce v
    let mut ok:=ό
    for c in tests do
     if ok then ok <- ag5 c ce (Ź c ce)
    if ok then act ce D it else again (.compLoop (.ListComp el (#[tg,src,tests,0]::rest) sc ps) 0 (.ref it) (.ref D) ce)))
  (hs:∀x,ú src X.env x=pure x:=by intro _;rfl)
  (tu:agL (.ListComp el (#[tg,src,tests,0]::rest) sc ps) (ϊ (.Name x0 pos')) pos.line X.env=pure ό:=by rfl)
  (tw:X.fn x0=ό\/X.env.scope.names.lookup x0=ϊ .local:=by first|exact .inl rfl|exact .inr rfl|assumption):PS X (.Assign [.Name x0 pos'] (.ListComp el (#[tg,src,tests,0]::rest) sc ps) pos) (se (Bs wi nt cap g tf ta) (lS i0)):=by
 intro F s σ H d I h;let(cl,x9,a):=F0 λn B=>I.ok.has n (S.frees _ B rfl).2;rw[exec_Assign_Name_used _ _ _ _ tu];refine À (ō (À ?_));obtain⟨Q,hQ⟩:∃Q,Q=λv t=>lS i0 v σ t d.nx:=#[_,rfl];have h:Bs wi nt cap g tf ta σ H Q:=by rw[hQ];exact h
 have nH:∀v t,Q v t->d.nx _ t:=λv t q=>by rw[hQ] at q;exact q
 refine À (Ĝ ?_ (λ_ V q=>Â (Â q)) (λ_ _ z=>z));refine afO rfl hs x9 S.kind S.names (aP (hi F s σ H _ I h) λxv s1 h1=>aP h1 λgL U h2=>?_);let(it,K,tn,J,l,e,W,T,gm,f2,ca):=h2;subst e;refine Č (wpAny_newFunctionEnv S.F3 (by intro y hy;simp at hy) (λh3 i k=>?_) S.kind);generalize hD:U.heap.objs.size=D at i k |-;generalize hG:U.heap.push _=G at i k |-;generalize zx:G.objs.size=C at i k |-;have hC:C=D+1:=by rw[<- zx,<- hG,ĉ,hD]
 have mC:D≠C:=by omega
 have L:=Ū hD;have R:U.heap.objs.size<=C:=by omega
 have old:=λb o e=>k.extBut b o (ë (È (Í e) R)) (Á _ (hG ▸ Á _ e));have kW:h3.PlainList D _:=#[_,k.extBut _ _ mC (Á _ (hG ▸ hD ▸ Ê _ rfl))];have iT:∀b∈K,b<U.heap.objs.size:=λb P=>by
  let(o,e,_):=T.obj _ _ gm b P;exact Í e
 have IB:=W.block (t':=U.toks+([]:List (Str×ì)).length) S a f2 iT old R #[_,i];have zy:D∉jW _:=λz=>by
  rcases Ð.mp (W.mU D z) with e|e
  .exact absurd (È W.lt L) (by rw[e];exact ó _)
  .exact W.vh L e
 have mz:D∉K:=λz=>absurd (È (iT D z) L) (ó _);have xx:∀x c,cl.lookup x=ϊ c->c≠D:=λx c e z=>by
  let(v,o,ho,_):=W.cell x c ((a x c).mp e).2;exact absurd (È (Í ho) (by rw[z];exact L)) (ó _)
 have ya:∀p∈X.pn++F,p.1≠D:=λp O z=>absurd (È (Í (W.pin p O).1) (by rw[z];exact L)) (ó _);have fin:∀V τ M Z j,Inv (cK X N sc cl C U l K (X.pn++F)) [] τ M V->V.heap.PlainList D j->Vals Z j.toList->M D=ϋ->Z.length<=â->(∀D,M D=ϋ->Q (.ref D) (upd M D (.lst Z))) ->
   compPost (ã X.prog X.w) X.A X.xe (ϊ (af5 (.Name x0 pos') X.env)) (λ_ V=>SP X F d .next V) (.ref D) C (.ok .next) V:=by
  intro V τ M Z j E pl rv B hz q;let(m,hm,_):=id E.loc;have yw:=E.aN;let(n,ho):=pl;have new:fO X.prog X.w (upd M D (.lst Z)) _ D (.lst Z):=#[hz,_,n,rv,by simpa using ho];have u:=(E.base.but R (Heap.SameBut.refl ..)).adopt (o:=.lst Z) L B;have IX:=W.BF E.os u (yw.adopt B new) E.bare (λb P=>by
   let(_,f1,_,f3,f4,f5):=f2 b P;exact#[f3,f1,f4,f5])
  have zC:upd M D (.lst Z) C=ϋ:=by
   rw[bR (Ř mC)];exact E.free
  have zD:C≠X.env.locals:=λz=>absurd (È W.lt R) (by rw[z];exact ó _);have JF:=W.vh R;let(oC,es,ep,JG,zE,sH):=id hm;have IP:Inv X ((C,oC)::F) σ _ V:=IX.jl λp O=>by
   rcases Ð.mp O with e|e
   .subst e
    exact#[JG,zC,zD,JF,λv z=>by rw[zE] at z;cases z]
   .exact IX.pin p (Å _ e)
  refine wpAny_assign_Name (n6 IP s9 tj tm (show RelV (.ref D) _ from rfl) (λs3 I3=>?_) tw);have p3:=(I3.pin _ (Å _ (Ë ..))).1;refine#[m,#[oC,es,ep,p3,zE,sH],λh' sb=>#[_,_,?_,nH _ _ (q D B)]];have I4:=I3.jl λp O=>I3.pin p (Å _ (Ì _ O));refine I4.turned (λb o P e=>(sb.2 b P).trans e) zC zD (.inr (Ó W.sz R)) (λx c e z=>?_) (λp O z=>?_)
  .let(v,o,gp,_):=W.cell x c e
   exact absurd (È (Í gp) (by rw[z];exact R)) (ó _)
  .exact absurd (È (Í (W.pin p O).1) (by rw[z];exact R)) (ó _)
 have mB:∀b∈K,cY (cK X N sc cl C U l K (X.pn++F)) [] l b:=λb P=>by
  let(f0,f1,oX,f3,f4,f5):=f2 b P;refine#[f0,ë (È (iT b P) R),λz=>?_,.inl P,λx c e=>f4 x c ((a x c).mp e).2,λp oY=>?_]
  .rcases Ð.mp (W.mU b z) with e|e
   .exact f1 e
   .exact oX e
  .exact f5 p (by simpa using oY)
 let(zA,zB,JE):=hY cl C U l K _;have loop:=D1 (Y:=cK X N sc cl C U l K _) rfl hc T
  (T.keep _ _ _ gm λb _ o e=>old b o e) mB mz zA fJ zB (JE D _ it) #[mC,zy,L,xx,λp O=>ya p (by simpa using O)] #[IB,by simp,#[_,kW,.nil],W.aN.fresh L,Ă _] rfl (λ_ A Q' E' V h=>F8 A Q' E' V h) (ht it D _) ca
 have yb:=ξ loop λr V hr=>by
  let(e,o',M,gE,f,q'):=hr;subst e;let(j,pl,rv):=f.lst;exact fin V _ M gE j f.inv pl rv f.free f.mj q'
 exact agc yb (T.self _ _ _ _ _ (T.keep _ _ _ gm λb _ o e=>old b o e) yb)
end
end L2
namespace DI
open PySem L2
def pK:ć "isinstance"=ϊ (.builtin "isinstance"):=nofun
def acR:ć "int"=ϊ (.type "int"):=nofun
def abc:ć "bool"=ϊ (.type "bool"):=nofun
def fg:ć "tuple"=ϊ (.type "tuple"):=nofun
def Po:ć "list"=ϊ (.type "list"):=nofun
def acS:ć "set"=ϊ (.type "set"):=nofun
def oJ:ć "all"=ϊ (.builtin "all"):=nofun
def QC:ć "any"=ϊ (.builtin "any"):=nofun
def iA:ć "len"=ϊ (.builtin "len"):=nofun
def G5:ć "max"=ϊ (.builtin "max"):=nofun
def BP:ć "min"=ϊ (.builtin "min"):=nofun
def pR:ć "sorted"=ϊ (.builtin "sorted"):=nofun
structure Gd (K) (mg:Str->Option ì) (x) (st) (ps) (f) (fd):Prop where
 mg:mg x=ϊ (.ref f)
 fn:sR K x x st f fd
 b:Binds K fd ps []
def BQ (K:ae3):Sp:=λY H Q _=>∃(a:ę) (Z:List Int),Y=[.ref a]/\bJ K H a (Z.map V.int)/\Z.length<=63/\∀X,Q (.bl ό) X
def abd (F:gC P w K mg base iS k f fd [x] (mv K g))
 (h:∀ns,ns.length<=63->∃s,g [.cw ns] []=ϊ (.ok (.bl ό),s)):gC P w K mg base iS k f fd [x] (BQ K):=F.imp λV H Q E ⟨a,ns,e,hS,Y,q⟩=>by
 subst e;let(s,hs):=h ns Y;have X:∀b,¬ (#[[],[],H]:Wd).Z b:=λb ⟨k,c,e1,_,_⟩=>by simp at e1
 refine#[#[_,[],H],[.cw ns],rfl,#[rfl,afe,λk a e=>by simp at e,λk a c e=>by simp at e],aB.one #[a,rfl,?_],?_]
 .rcases hS with hS|hS
  .exact .inl #[X a,hS]
  .exact .inr hS
 .rw[hs]
  intro U _ _ _ v W;have e:=W;subst e;exact q _
def jv (g:D->Env->Option Env) (t:ag9 Bool) (act:ag9 (List D)) (nj:Env):List D->ai->Res (List D)
 | [],s=>ok [] s
 |d::Z,s=>match g d nj with
  |none=>ϋ
  |some env=>aq (ne (t env s)) λb s=>if b=ό then aq (ne (act env s)) λY s=>aq (jv g t act nj Z s) λX s=>ok (Y++X) s
   else jv g t act nj Z s
def emit (f:ag9 D):ag9 (List D):=λenv s=>aq (f env s) λx s=>ok [x] s
def more (it:ag9 (List D)) (g:D->Env->Option Env) (t:ag9 Bool) (act:ag9 (List D)):ag9 (List D):=λenv s=>aq (it env s) λZ s=>jv g t act env Z s
def xA (nt:Nat) (cap:List Nat) (it:ag9 (List D)) (g:D->Env->Option Env) (t:ag9 Bool) (act:ag9 (List D)):ag9 D:=λenv s =>
 aq (it env s) λY s=>aq (ne (jv g t act (Ñ nt ϋ++jL cap env) Y s)) λZ s=>kR Z (ok (.lst Z) s)
def Sl (g:D->Env->Option Env) (sl:List Nat):Prop:=∀d env Z,g d env=ϊ Z->Z.length=env.length/\∀i,i∉sl->Z[i]?=env[i]?
def om (i):Sl (gN i) [i]:=λd env Z h=>by
 have e:=ahe h;subst e;refine#[Ĥ ..,λj Y=>?_];rw[í (λz=>Y (by simp[z]))]
theorem QE:∀(is:List Nat) ds env env',jt (is.map gN) ds env=ϊ env'->env'.length=env.length/\∀i,i∉is->env'[i]?=env[i]?
 | [],[],env,env',h=>by
  have e:=ahe h;rw[e];exact#[rfl,λ_ _=>rfl]
 | [],_::_,_,_,h=>by cases h
 |_::_,[],_,_,h=>by cases h
 |j::is,d::ds,env,env',h=>by
  have Z:=h;let(Y,X):=QE is ds _ env' Z;refine#[by rw[Y,Ĥ],λi hi=>?_];rw[X i (λz=>hi (Ì _ z)),í (λz=>hi (by rw[z];exact Ë ..))]
def Bm (is):Sl (gT (is.map gN)) is:=λd env Z h=>by
 cases d with
 |tup Y=>exact QE is Y env Z h
 |_=>cases h
def len_same {env env'} (hs:Sl g sl) (hg:g d env=ϊ env'):env'.length=env.length:=(hs d env env' hg).1
def jC (sl:List Nat) (env:Env):Prop:=∀i∈sl,∀d,env[i]?≠ϊ (ϊ d)
def cH.back {env env'} {σ} {g} {sl} {d} (hs:Sl g sl) (hf:jC sl env) (hg:g d env=ϊ env') (hl:env.length=σ.length) (h:cH K w env' σ):cH K w env σ :=
 #[hl,λi x e=>by
  by_cases hi:i∈sl
  ·exact absurd e (hf i hi x)
  ·exact h.val i x (by rw[(hs d env env' hg).2 i hi];exact e)]
def yc (K:ae3) (Pre:Env->Prop) (ta:sr) (act:ag9 (List D)):Prop:=∀w env V Y Z W U Q,Pre env->aR K w->cH K w env V->aB K w Z Y ->
 act env w.aO=ϊ (.ok W,U)->Y.length+W.length<=â->(∀X T S,Le K w X->aR K X->X.aO=U->cH K X env T->aB K X (Z++W) S->Q T S X.H)->ta V w.H Y Q
def ui {r:Res α} {k} {b:β} {s'} (h:aq r k=ϊ (.ok b,s')):∃a s,r=ϊ (.ok a,s)/\k a s=ϊ (.ok b,s'):=by
 match r,h with
 |some (.ok a,s),h=>exact#[a,s,rfl,h]
def Fq {r} {a:α} {s} (h:ne r=ϊ (.ok a,s)):r=ϊ (.ok a,s):=by
 match r,h with
 |some (.ok b,Z),h=>exact h
def DM {f}:yc K (λ_=>True) (Qz (tE K bS f)) (emit f):=by
 intro w env X W Z J I Q _ S Y V h U T;let(x,H,R,P):=ui h;cases P;refine#[by simpa using U,w,env,rfl,S,Y,?_];rw[R];intro O le N M v L;exact T O X _ le N M (Y.le le) (aB.append (le.all V) (aB.one L))
def MN {Pre} {g0} {g} {nt} {sl} {t} {act} {ta} {env} {w1} {J} {ds xs accD} {s'} {τ} {acc} {Q}
  (T:Tg K g0 g nt) (hs:Sl g sl) (hf:jC sl env) (hp:∀d env',g d env=ϊ env'->Pre env') (hA:yc K Pre ta act) (hJ:mw K w1 J ds) (S1:aR K w1) (eo:cH K w1 env τ) (da:aB K w1 accD acc)
  (h:jv g t act env ds w1.aO=ϊ (.ok xs,s')) (hl:acc.length+xs.length<=â) (hQ:∀w' fR vs,Le K w1 w'->aR K w'->w'.aO=s'->cH K w' env fR->aB K w' (accD++xs) vs->Q fR vs w'.H) :
  CA J g0 (tT K bS t) ta τ acc w1.H Q:=by
 refine#[λi m τ acc v=>m=ds.length-i/\i<=ds.length/\∃w' accD xs,w'.H=v/\Le K w1 w'/\aR K w'/\cH K w' env τ/\aB K w' accD acc/\jv g t act env (ds.drop i) w'.aO=ϊ (.ok xs,s')/\acc.length+xs.length<=â /\
   (∀Z fR vs,Le K w' Z->aR K Z->Z.aO=s'->cH K Z env fR->aB K Z (accD++xs) vs->Q fR vs Z.H),
  #[_,rfl,Ă _,w1,accD,xs,rfl,Le.refl _,S1,eo,da,h,hl,hQ],?_]
 intro i m τ acc v zz;let(rfl,hi,w',accD,xs,rfl,U,O,u,S,Y,N,M):=zz;by_cases L:i<ds.length
 .right
  let(c,a):=(hJ w' U O i).1 _ (É L);rw[ĺ L] at Y;erw[jv] at Y
  cases X:g _ env with
  |none=>rw[X] at Y;cases Y
  |some I =>
   rw[X] at Y;let(b,s2,G,s):=ui Y;have G:=Fq G;refine#[c,fun τ acc r=>∃w' accD xs,w'.H=r/\Le K w1 w'/\aR K w'/\cH K w' env τ/\aB K w' accD acc/\jv g t act env _ _=ϊ _/\acc.length+xs.length<=â /\
    (∀Z fR vs,Le K w' Z->aR K Z->Z.aO=s'->cH K Z env _->aB K Z (accD++xs) vs->Q _ vs _),fun sT oP r q=>#[_,by omega,rfl,L,q],λx H3 y=>?_]
   let(Z,rfl,V,p,es,dv):=a x H3 y;refine T.imp _ _ _ _ #[Z,env,_,I,rfl,p,u.le V,dv,X,fun sJ R=>#[Z,I,rfl,p,R,?_]];rw[es,G];intro o W n l
   cases b with
   |true =>
    let(ys,s3,P,h3):=ui s;have P:=Fq P;let(zs,s4,hz,h4):=ui h3;cases h4;rw[<- l] at P;refine hA o I _ acc accD ys s3 _ (hp _ _ X) n (R.le W) ((V.trans W).all S) P (by rw[Î] at N;omega) λw4 τ4 vs k S4 e4 j f=>?_;have lv:=f.length;refine#[w4,_,zs,rfl,U.trans (V.trans (W.trans k)),S4,j.back hs hf X ?_,f,by rw[e4];exact hz,?_,λF E D C B A z w=>M F _ D (V.trans (W.trans (k.trans C))) B A z (by rw[<- Ö];exact w)]
    .rw[<- j.len]
     exact(len_same hs X).symm
    .rw[Î] at N lv
     have:=S.length;omega
   |false =>
    exact#[o,accD,xs,rfl,U.trans (V.trans W),n,(R.le W).back hs hf X (by rw[<- R.len];exact(len_same hs X).symm),(V.trans W).all S,by rw[l];exact s,N,λF E D C B A z w=>M F _ D (V.trans (W.trans C)) B A z w]
 .left
  have e:i=ds.length:=by omega
  subst e;rw[agB] at Y;cases Y;exact#[(hJ w' U O _).2 (ahd _),M w' τ acc (Le.refl _) O rfl u (by rw[ĕ];exact S)]
def Au {Pre Ik} {g0} {g} {nt} {sl} {it} {t} {act} {ta} (T:Tg K g0 g nt) (hs:Sl g sl) (hA:yc K Pre ta act)
  (h1:∀env,Ik env->jC sl env) (h2:∀d env env',Ik env->g d env=ϊ env'->Pre env'):yc K Ik (QA (ee K bS it) g0 (tT K bS t) ta) (more it g t act):=by
 intro w env A V Y z y Q X S W U h R P;let(x,v,O,N):=ui h;refine#[w,env,rfl,S,W,?_];rw[O];intro u Z M e1 J L;exact MN T hs (h1 env X) (λd env' I=>h2 d env env' X I) hA L M (W.le Z) (Z.all U) (by rw[e1];exact N) R λH s G F E D C B=>P H _ G (Z.trans F) E D C B
def Eg (T:Tg K g0 g nt) (hs:Sl g sl) (zF:∀i∈sl,i<nt) (hA:yc K Pre ta act)
 (hp:∀d aW env',g d (Ñ nt ϋ++aW)=ϊ env'->Pre env') (σ) (H) (Q) :
  tE K Ξ (xA nt cap it g t act) σ H Q->Bs (ee K Ξ it) nt cap g0 (tT K bS t) ta σ H Q:=by
 intro zz;let(w,env,rfl,S,V,h):=zz;refine#[w,env,rfl,S,V,(Out.aq h).mono λB R P O Y J N=>?_]
 cases W:jv g t act _ R _ with
 |none=>rw[W] at Y;exact Y.elim
 |some r =>
  let(r,A):=r;rw[W] at Y
  cases r with
  |error x=>exact Y.elim
  |ok z =>
   let(M,Y):=uh Y;have L:=(V.le P).block nt cap (Ñ nt ϋ) ∅;refine MN T hs (λi hi d e=>?_) (λd env' I=>hp d _ env' I) hA N O L (accD:=[]) rfl W (by simpa using M) λG y F E U D v C p X=>?_
   .rw[Ù (by simpa using zF i hi),ĵ,õ (zF i hi)] at e
    cases e
   .exact Y _ (E.trans (Fw.grow X).le) (U.grow X) D _ #[p,F,rfl,#[(show ¬ G.Z p from rH U X),eJ],(Fw.grow X).le.all C]
def jC.of {g} {sl de} (hs:Sl g sl) (hd:∀i∈de,i<nt/\i∉sl) {d} {aW env':Env} (hg:g d (Ñ nt ϋ++aW)=ϊ env'):jC de env':=λi hi x e=>by
 let(Z,Y):=hd i hi;rw[(hs _ _ _ hg).2 i Y,Ù (by simpa using Z),ĵ,õ Z] at e;cases e
def jC.on (hs:Sl g sl) (hd:∀i∈de,i∉sl) (hf:jC de env) (hg:g d env=ϊ env'):jC de env':=λi hi x e=>by
 rw[(hs _ _ _ hg).2 i (hd i hi)] at e;exact hf i hi x e
section
variable {X:Cx} {Ξ:Wd->bF->Prop} {el tg src nN kz JJ Il:afh} {tests rJ Pp:List afh} {sc:Scope} {ps pos:Pos} {N:List Str} {nt:Nat} {cap:List Nat} {it jA CZ:ag9 (List D)} {gd oZ JK:D->Env->Option Env} {g0 v8 Si:TG} {sl de C0:List Nat} {ft mq Sj:ag9 Bool} {f:ag9 D}
abbrev uF (nt:Nat) (cap:List Nat) (it:ag9 (List D)) (g:D->Env->Option Env) (t:ag9 Bool) (jA:ag9 (List D)) (g2:D->Env->Option Env) (t2:ag9 Bool) (f:ag9 D):ag9 D:=xA nt cap it g t (more jA g2 t2 (emit f))
abbrev Pq (nt:Nat) (cap:List Nat) (it:ag9 (List D)) (g:D->Env->Option Env) (t:ag9 Bool) (jA:ag9 (List D)) (g2:D->Env->Option Env) (t2:ag9 Bool) (CZ:ag9 (List D)) (g3:D->Env->Option Env) (t3:ag9 Bool) (f:ag9 D):ag9 D:=xA nt cap it g t (more jA g2 t2 (more CZ g3 t3 (emit f)))
noncomputable def apart (nt:Nat) (sl de:List Nat):Bool:=de.all (λi=>ώ (i<nt)&&!sl.contains i)
def pT (h:apart nt sl de=ό):∀i∈de,i<nt/\i∉sl:=λi hi=>by
 have:=Ĉ.mp h i hi;erw[Ç,Æ,Ĕ,List.contains_eq_mem,decide_eq_false_iff_not] at this;exact this
noncomputable abbrev aew (e el:afh) (d:Nat):PySem.Env->ę->ę->Sem PySem.Fin:=λce D it=>(do let _ <- call (.builtin "list.append") [.ref D,<- Ź el ce]) >>= λ_=>again (.compLoop e d (.ref it) (.ref D) ce)
noncomputable abbrev Im (e src:afh) (d:Nat):PySem.Env->ę->ę->Sem PySem.Fin:=λce D it=>do
 let x <- Ź src ce
 agx src.pos
 let x <- ú src ce x
 let _ <- runOwn (.compStart e (d+1) (<- agw [x] (ag6 x)) (.ref D) ce) ce
 again (.compLoop e d (.ref it) (.ref D) ce)
def Ol (hc:X.calm=ό) (S:rG X sc N nt cap) (T:Tg X.K g0 gd nt) (gQ:Sl gd sl) (T2:Tg X.K v8 oZ nt) (eD:Sl oZ de) (hi:PI X tg src (ee X.K Ξ it))
  (hY:∀cl C s H ex pn,PG (cK X N sc cl C s H ex pn) tg g0/\PF (cK X N sc cl C s H ex pn) tests (tT X.K bS ft)/\PI (cK X N sc cl C s H ex pn) nN kz (ee X.K bS jA)/\PG (cK X N sc cl C s H ex pn) nN v8/\PF (cK X N sc cl C s H ex pn) rJ (tT X.K bS mq)/\PE (cK X N sc cl C s H ex pn) el (tE X.K bS f))
  (qI:apart nt sl de=ό:=by rfl) (nJ:apart nt [] sl=ό:=by rfl)
  (hs:∀x,ú src X.env x=pure x:=by intro _;rfl) (zG:∀ce x,ú kz ce x=pure x:=by intro _ _;rfl):PE X (.ListComp el [#[tg,src,tests,0],#[nN,kz,rJ,0]] sc ps) (tE X.K Ξ (uF nt cap it gd ft jA oZ mq f)) :=
 dF (Ny (act:=Im _ kz 0) hc S T.kH hi (λcl C s H ex pn=>by
   let(y1,y2,y3,y4,y5,Y):=hY cl C s H ex pn;exact#[y1,y2,λD W it=>AN rfl hc rfl y3 y4 T2.kH y5 (λU=>EH rfl Y) (λ_=>rfl) (zG _)]) (λ_ _ _=>rfl) hs)
  (Eg T gQ (λi hi=>(pT nJ i hi).1) (Au T2 eD DM (λ_ h=>h) (λ_ _ _ _ _=>trivial)) λd W Z V=>jC.of gQ (pT qI) V)
def Om {pos'} (i0) {x0} (s9:X.N.Nodup) (hc:X.calm=ό) (S:rG X sc N nt cap) (T:Tg X.K g0 gd nt) (gQ:Sl gd sl) (T2:Tg X.K v8 oZ nt) (eD:Sl oZ de) (hi:PI X tg src (ee X.K Ξ it))
  (hY:∀cl C s H ex pn,PG (cK X N sc cl C s H ex pn) tg g0/\PF (cK X N sc cl C s H ex pn) tests (tT X.K bS ft)/\PI (cK X N sc cl C s H ex pn) nN kz (ee X.K bS jA)/\PG (cK X N sc cl C s H ex pn) nN v8/\PF (cK X N sc cl C s H ex pn) rJ (tT X.K bS mq)/\PE (cK X N sc cl C s H ex pn) el (tE X.K bS f))
  (qI:apart nt sl de=ό:=by rfl) (nJ:apart nt [] sl=ό:=by rfl)
  (tj:X.N[i0]?=ϊ x0:=by rfl) (tm:Loc X.env.scope x0:=by first|exact œ rfl|exact ag7 rfl)
  (hs:∀x,ú src X.env x=pure x:=by intro _;rfl) (zG:∀ce x,ú kz ce x=pure x:=by intro _ _;rfl)
  (tu:agL (.ListComp el [#[tg,src,tests,0],#[nN,kz,rJ,0]] sc ps) (ϊ (.Name x0 pos')) pos.line X.env=pure ό:=by rfl)
  (tw:X.fn x0=ό\/X.env.scope.names.lookup x0=ϊ .local:=by first|exact .inl rfl|exact .inr rfl):PS X (.Assign [.Name x0 pos'] (.ListComp el [#[tg,src,tests,0],#[nN,kz,rJ,0]] sc ps) pos) (tS X.K Ξ (aM (uF nt cap it gd ft jA oZ mq f) (gN i0))) :=
 kO (XZ (act:=Im _ kz 0) s9 tj tm hc S T.kH hi (λcl C s H ex pn=>by
   let(y1,y2,y3,y4,y5,Y):=hY cl C s H ex pn;exact#[y1,y2,λD W it=>AN rfl hc rfl y3 y4 T2.kH y5 (λU=>EH rfl Y) (λ_=>rfl) (zG _)]) (λ_ _ _=>rfl) hs tu tw)
  λD σ H h=>Eg T gQ (λi hi=>(pT nJ i hi).1) (Au T2 eD DM (λ_ h=>h) (λ_ _ _ _ _=>trivial)) (λd W Z V=>jC.of gQ (pT qI) V) σ H _ (Ee (te:=tE X.K Ξ f) D σ H (A0 D σ H h))
def ZC (hc:X.calm=ό) (S:rG X sc N nt cap) (T:Tg X.K g0 gd nt) (gQ:Sl gd sl) (T2:Tg X.K v8 oZ nt) (eD:Sl oZ de) (T3:Tg X.K Si JK nt) (JL:Sl JK C0) (hi:PI X tg src (ee X.K Ξ it))
  (hY:∀cl C s H ex pn,PG (cK X N sc cl C s H ex pn) tg g0/\PF (cK X N sc cl C s H ex pn) tests (tT X.K bS ft)/\PI (cK X N sc cl C s H ex pn) nN kz (ee X.K bS jA)/\PG (cK X N sc cl C s H ex pn) nN v8/\PF (cK X N sc cl C s H ex pn) rJ (tT X.K bS mq) /\
   PI (cK X N sc cl C s H ex pn) JJ Il (ee X.K bS CZ)/\PG (cK X N sc cl C s H ex pn) JJ Si/\PF (cK X N sc cl C s H ex pn) Pp (tT X.K bS Sj)/\PE (cK X N sc cl C s H ex pn) el (tE X.K bS f))
  (qI:apart nt sl de=ό:=by rfl) (h13:apart nt sl C0=ό:=by rfl) (h23:apart nt de C0=ό:=by rfl) (nJ:apart nt [] sl=ό:=by rfl)
  (hs:∀x,ú src X.env x=pure x:=by intro _;rfl) (zG:∀ce x,ú kz ce x=pure x:=by intro _ _;rfl) (hf3:∀ce x,ú Il ce x=pure x:=by intro _ _;rfl):PE X (.ListComp el [#[tg,src,tests,0],#[nN,kz,rJ,0],#[JJ,Il,Pp,0]] sc ps) (tE X.K Ξ (Pq nt cap it gd ft jA oZ mq CZ JK Sj f)) :=
 dF (Ny (act:=Im _ kz 0) hc S T.kH hi (λcl C s H ex pn=>by
   let(y1,y2,y3,y4,y5,W,V,U,R):=hY cl C s H ex pn;exact#[y1,y2,λD Q it=>AN rfl hc rfl y3 y4 T2.kH y5 (λP=>AN (act:=λjA=>aew _ el 2 _ D jA) rfl hc rfl W V T3.kH U (λjA=>EH rfl R) (λ_=>rfl) (hf3 _)) (λ_=>rfl) (zG _)]) (λ_ _ _=>rfl) hs)
  (Eg (Pre:=λenv=>jC de env/\jC C0 env) T gQ (λi hi=>(pT nJ i hi).1) (Au T2 eD (Au T3 JL DM (λ_ h=>h) (λ_ _ _ _ _=>trivial)) (λ_ h=>h.1) (λd env Z h Y=>jC.on eD (λi hi=>(pT h23 i hi).2) h.2 Y)) λd Q Z Y=>#[jC.of gQ (pT qI) Y,jC.of gQ (pT h13) Y])
end
end DI
namespace L2
open PySem PySem.Spec PyProof.Rows
noncomputable abbrev Cx.iV (X:Cx):Cx:={ X with A:=X.A.in1,xe:=λ_ _=>False }
theorem Inv.iV {π} {σ:St} {H} {s} (I:Inv X π σ H s):Inv X.iV π σ H s :=
 #[#[I.ok.mod,I.ok.kind,I.ok.glob,I.ok.blt,I.ok.above,I.ok.inj,I.ok.has,I.ok.sD,I.ok.hd,I.ok.frames,I.ok.vL,I.ok.CC,I.ok.bs,I.ok.jX,I.ok.ni,I.ok.vf,I.ok.ko,I.ok.qD],I.os,I.bare,I.base,I.loc,I.cell,I.free,I.jJ,I.pin,I.aN,I.len]
def Inv.Io {π} {σ:St} {H} {s} (I:Inv X.iV π σ H s):Inv X π σ H s :=
 #[#[I.ok.mod,I.ok.kind,I.ok.glob,I.ok.blt,I.ok.above,I.ok.inj,I.ok.has,I.ok.sD,I.ok.hd,I.ok.frames,I.ok.vL,I.ok.CC,I.ok.bs,I.ok.jX,I.ok.ni,I.ok.vf,I.ok.ko,I.ok.qD],I.os,I.bare,I.base,I.loc,I.cell,I.free,I.jJ,I.pin,I.aN,I.len]
def Ip (X:Cx) (kv:ì) (rk:V->Hp->VK->Prop):Prop :=
 ∀Z s (σ:St) H x v Q,Inv X Z σ H s->RelV x v->rk x H Q->ð (ã X.prog X.w) X.A (call kv [v]) (EP X Z σ Q) X.xe s
def zH (K:ae3) (l:ę) (all:List V) (rk:V->Hp->VK->Prop) (rc:R2):List V->V->V->Hp->VK->Prop
 | [],Z,_,H,Q=>bJ K H l all/\Q Z H
 |x::Y,Z,X,H,Q=>bJ K H l all/\rk x H λk U=>rc k X U λz W=>∃b,z=.bl b/\if b=ό then zH K l all rk rc Y x k W Q else zH K l all rk rc Y Z X W Q
def Iq (K:ae3) (l:ę) (all:List V) (rk:V->Hp->VK->Prop) (rc:R2) (dv:V) (H:Hp) (Q:VK):Prop:=bJ K H l all/\match all with
 | []=>Q dv H
 |x::Z=>rk x H λk Y=>zH K l all rk rc Z x k Y Q
abbrev tD:V->Hp->VK->Prop:=λx H Q=>Q x H
def F9 (X:Cx) (π:List (ę×Obj)) (σ:St) (Q:VK) (r:Result) (s':ß):Prop:=match r with
 | .ok (.ret v)=>EP X π σ Q v s'
 | .ok _=>False
 | .error e=>X.xe e s'
def Wz {l I S} {q} {kw} {all} {π} {σ:St} {rk} {rc} {Q} (hc:X.calm=ό) (mE:l≠I) (jD:S≠I) (zJ:S≠l) (hK:Ip X.iV (.ref q) rk) (hC:bA X.iV (ğ .Lt) rc) :
  ∀rest j s H (vb kb:V) ub uk c,all.drop j=rest->j<=all.length->Inv X.iV π σ H s->cY X π H S->cY X π H I->s.heap.get? S=ϊ { cls:=.type "list",dict:=ϋ,data:=.seq #v[ub,uk] c,slots:=#v[] }->s.heap.IsListIter I l j->RelV vb ub->RelV kb uk ->
   zH X.K l all rk rc rest vb kb H Q->ů (ã X.prog X.w) X.A (.builtin "min.loop" #[[.ref I,.ref q,.ref S],kw]) (F9 X π σ Q) s:=by
 have acT:(toString "min"++toString ".loop")="min.loop":=by decide
 intro rest
 induction rest with
 |nil =>
  intro j s H vb kb ub uk c hd qN U Y Z O hit u rk' h;let(t,h):=h;have hj:=Nat.le_antisymm qN (by simpa using hd);subst hj;let(aj,J,r,hz):=U.list t;have n:=U.ok.hd hc;have W:=Walks.list (prog:=X.prog) (w:=X.w) n I l mE aj.toArray;have T:aj.toArray.size=all.length:=by exact J.length.symm
  refine Ģ aff ?_;refine À (Ď O rfl ?_);refine À (Ĩ (W.done _ _ _ #[by rw[T];exact hit,r.isList] λh' G N=>?_));have m:=N S _ (by simpa using jD) O
  have F:Inv _ π σ H { s with heap:=h',toks:=G }:=U.turned (λb o R e=>N b o (by simpa using R) e) Z.1 Z.2.1 Z.2.2.2.1 Z.2.2.2.2.1 Z.2.2.2.2.2
  refine À ?_;refine Ō m rfl (À (Ŝ (Â ?_)));have i:=F.turned (h':=h'.update S (Š λ_=>(#v[]))) (t':=G) (λb o R e=>(ò _ _ (Ř R)).trans e) Y.1 Y.2.1 Y.2.2.2.1 Y.2.2.2.2.1 Y.2.2.2.2.2;exact#[vb,H,i.Io,u,h]
 |cons x rest ih =>
  intro j s H vb kb ub uk c hd qN U Y Z O hit u zK h;let(t,h):=h;have E:=by
   have:=ň (λl=>l[0]?) hd;simpa using this
  have ek:=by
   have:=ň (List.drop 1) hd;simpa  using this
  let(aj,J,r,hz):=U.list t;have n:=U.ok.hd hc;have W:=Walks.list (prog:=X.prog) (w:=X.w) n I l mE aj.toArray;have T:aj.toArray.size=all.length:=by exact J.length.symm
  refine Ģ aff ?_;refine À (Ď O rfl ?_);refine À (Ĩ (W.item j _ _ _ (by rw[T];exact(Ä.mp E).1) #[hit,r.isList] λv h' G hP su N=>?_));let(D,nG,rx):=J.get E;have ev:=by
   have:=hP;rw[afp,nG] at this;exact ahe this
  subst ev;have m:=N S _ (by simpa using jD) O
  have F:Inv _ π σ H { s with heap:=h',toks:=G }:=U.turned (λb o R e=>N b o (by simpa using R) e) Z.1 Z.2.1 Z.2.2.2.1 Z.2.2.2.2.1 Z.2.2.2.2.2
  let(M,tF,lj,g):=id su.1;have nS:∀v,({ cls:=.type "list",dict:=ϋ,data:=.seq #v[ub,uk] c,slots:=#v[] }:Obj).data≠.cell v:=λv z=>by cases z
  have nI:∀v,M.data≠.cell v:=λv z=>by rw[g] at z;cases z
  have i:=F.jl (pins':=π++[(S,{ cls:=.type _,dict:=ϋ,data:=.seq _ c,slots:=#v[] }),(I,M)]) λp hp=>by
   rcases Û.mp hp with z|z
   .exact F.pin p (Å _ z)
   .rcases Ð.mp z with rfl|z
    .exact#[m,Y.1,Y.2.1,Y.2.2.1,nS]
    .rw[Ø.mp z]
     exact#[tF,Z.1,Z.2.1,Z.2.2.1,nI]
  refine À (Ĩ (ĝ (Ĝ (hK _ _ σ H x D _ i rx h) (λC s2 gO=>?_) λ_ _ z=>z.elim)));let(k,H2,I3,o7,h):=gO;refine À (Ĩ (ĝ (À (Ĝ (hC _ s2 σ H2 k kb C uk _ I3 o7 zK h) (λz B JM=>?_) λ_ _ z=>z.elim))));let(zv,L,f,rz,b,eb,h):=JM;subst eb;cases rz;refine À (ĝ (Ĺ ?_));refine À (Ŝ (Â ?_));have y:=f.pin (S,{ cls:=.type "list",dict:=ϋ,data:=.seq #v[ub,uk] c,slots:=#v[] }) (Å _ (Å _ ∅));have d:=f.pin (I,M) (Å _ (Å _ ∅));have I5:=f.j6;have P:cY X π L S:=#[y.2.1,Y.2];have o9:cY X π L I:=#[d.2.1,Z.2]
  cases b with
  |true =>
   refine À ?_;refine Ō y.1 rfl (À (Ŝ ?_));obtain⟨a,jz⟩:∃a,(B.heap.update S (Š λ_=>#v[D,C])).get? S=ϊ { cls:=.type _,dict:=ϋ,data:=.seq _ a,slots:=#v[] }:=#[_,þ _ y.1 rfl]
   have I6:Inv X.iV π σ L { B with heap:=B.heap.update S (Š λ_=>#v[D,C]),toks:=B.toks }:=I5.turned (λb o R e=>(ò _ _ (Ř R)).trans e) P.1 P.2.1 P.2.2.2.1 P.2.2.2.2.1 P.2.2.2.2.2
   exact Â #[Ķ ţ _,ih _ _ L x k D C a ek (Ä.mp E).1 I6 P o9 jz #[M,(ò _ _ jD).trans d.1,lj,g] rx o7 h]
  |false =>
   refine À (Ŝ ?_);exact Â #[Ķ ţ _,ih _ _ L vb kb ub uk c ek (Ä.mp E).1 I5 P o9 y.1 #[M,d.1,lj,g] u zK h]
def UU (a v d):argsOk "min" #[[a],[(Ĳ "key",v),(Ĳ "default",d)]]:=by kernel_rfl
def WA {l} {q} {all} {π} {σ:St} {H} {s} {rk} {rc} {dv} {du} {Q} (hc:X.calm=ό) (hK:Ip X.iV (.ref q) rk) (hC:bA X.iV (ğ .Lt) rc)
  (I0:Inv X π σ H s) (rd:RelV dv du) (h:Iq X.K l all rk rc dv H Q):ð (ã X.prog X.w) X.A (call (.builtin "min") [.ref l] [(Ĳ "key",.ref q),(Ĳ "default",du)]) (EP X π σ Q) X.xe s:=by
 have acT:(toString "min"++toString ".loop")="min.loop":=by decide
 let(hq,h):=h;let(aj,r,E,hz):=I0.list hq;have m:l<s.heap.objs.size:=by let(o,n,ho,_):=E;exact Í ho
 have hh:=I0.iV.ok.hd hc;refine kmk_tree PySem.F.kind_min PySem.F.plain_min PySem.F.entry_min (UU ..) ?_;refine À (ſ (rfl) ?_);refine À (Â ?_);refine À (ź E.isList ?_);refine À (afY ?_ (Ă _));generalize Y:s.heap.objs.size=I at *;have R:(s.heap.push { cls:=.type "list_iterator",data:=.fields #v[.ref l,.int 0 0] }).objs.size=I+1:=by rw[<- Y];exact ĉ ..
 generalize JN:(s.heap.push _).objs.size=S at *;have j:=ë m;have D:S≠I:=by rw[R];exact Nat.succ_ne_self _
 have zJ:S≠l:=by rw[R];exact ŵ (Ē m)
 have g:∀b o,s.heap.get? b=ϊ o->((s.heap.push { cls:=.type "list_iterator",data:=.fields #v[.ref l,.int 0 0] }).push { cls:=.type "list",dict:=ϋ,data:=.seq #v[] 0,slots:=#v[] }).get? b=ϊ o:=λb o e=>Á _ (Á _ e);have gI:((s.heap.push _).push { cls:=.type "list",dict:=ϋ,data:=.seq #v[] 0,slots:=#v[] }).get? I=ϊ { cls:=.type "list_iterator",data:=.fields #v[.ref l,.int 0 0] }:=Á _ (Y ▸ Ê _ rfl);have f:((s.heap.push _).push _).get? S=ϊ { cls:=.type "list",dict:=ϋ,data:=.seq #v[] 0,slots:=#v[] }:=JN ▸ Ê _ rfl;have nI:=I0.aN.fresh (Ū Y);have nS:H S=ϋ:=I0.aN.fresh (by rw[R];exact Ó (Ū Y) (Ť _));have Z:=I0.oM (Ū Y) nI;have P:=I0.oM (by rw[R];exact Ó (Ū Y) (Ť _)) nS;have d:=I0.iV.kept (t':=s.toks) g;refine Â #[Ķ ţ _,?_];show ů _ _ (.builtin "min.loop" _) (F9 X π σ Q) _;have W:=Walks.list (prog:=X.prog) (w:=X.w) hh I l j aj.toArray;have U:aj.toArray.size=all.length:=by exact r.length.symm
 have hit:Heap.IsListIter _ I l 0:=#[_,gI,rfl,rfl];have c:=E.isList.at λo e=>g l o e;refine Ģ aff ?_;rw[ņ ţ _];refine À (Ď f rfl ?_)
 cases all with
 |nil =>
  refine À (Ĩ (W.done _ _ _ #[by rw[U];exact hit,c] λh' C O=>?_));have N:=d.turned (t':=C) (λb o T e=>O b o (by simpa using T) e) Z.1 Z.2.1 Z.2.2.2.1 Z.2.2.2.2.1 Z.2.2.2.2.2;refine À (ş (Â ?_));exact#[dv,H,N.Io,rd,h]
 |cons x rest =>
  refine À (Ĩ (W.item 0 _ _ _ (by rw[U];simp) #[hit,c] λv h' C hP su O=>?_));let(M,nG,a):=r.get (i:=0) rfl;have ev:=by
   have:=hP;rw[afp,nG] at this;exact ahe this
  subst ev;have gR:=O S _ (by simpa using D) f;have N:=d.turned (t':=C) (λb o T e=>O b o (by simpa using T) e) Z.1 Z.2.1 Z.2.2.2.1 Z.2.2.2.2.1 Z.2.2.2.2.2;let(L,tF,lj,ij):=id su.1;have cS:∀v,({ cls:=.type "list",dict:=ϋ,data:=.seq #v[] 0,slots:=#v[] }:Obj).data≠.cell v:=λv z=>by cases z
  have cI:∀v,L.data≠.cell v:=λv z=>by rw[ij] at z;cases z
  have I3:=N.jl (pins':=π++[(S,{ cls:=.type _,dict:=ϋ,data:=.seq _ 0,slots:=#v[] }),(I,L)]) λp hp=>by
   rcases Û.mp hp with z|z
   .exact N.pin p (Å _ z)
   .rcases Ð.mp z with rfl|z
    .exact#[gR,P.1,P.2.1,P.2.2.1,cS]
    .rw[Ø.mp z]
     exact#[tF,Z.1,Z.2.1,Z.2.2.1,cI]
  refine À (Ĩ (ĝ (Ĝ (hK _ _ σ H x M _ I3 a h) (λB J gO=>?_) λ_ _ z=>z.elim)));let(k,G,y,o7,h):=gO;have u:=y.pin (S,{ cls:=.type "list",dict:=ϋ,data:=.seq #v[] 0,slots:=#v[] }) (Å _ (Å _ ∅));have pI:=y.pin (I,L) (Å _ (Å _ ∅));have I5:=y.j6;have V:cY X π G S:=#[u.2.1,P.2];have o9:cY X π G I:=#[pI.2.1,Z.2];refine À ?_;refine Ō u.1 rfl ?_;obtain⟨t,jz⟩:∃t,(J.heap.update S (Š λ_=>#v[M,B])).get? S=ϊ { cls:=.type _,dict:=ϋ,data:=.seq _ t,slots:=#v[] }:=#[_,þ _ u.1 rfl]
  have I6:Inv _ π σ G { J with heap:=J.heap.update S (Š λ_=>#v[M,B]),toks:=J.toks }:=I5.turned (λb o T e=>(ò _ _ (Ř T)).trans e) V.1 V.2.1 V.2.2.2.1 V.2.2.2.2.1 V.2.2.2.2.2
  exact Â #[Ķ ţ _,Wz hc j D zJ hK hC rest 1 _ G x k M B t rfl ∅ I6 V o9 jz #[L,(ò _ _ D).trans pI.1,lj,ij] a o7 h]
def Vw (a):argsOk "max" #[[a],[]]:=by kernel_rfl
def Vx (a):argsOk "min" #[[a],[]]:=by kernel_rfl
end L2
namespace HT
open PySem PyProof.Rows
def Ir (A:Ĭ) (s:ß) (y x:ì) (b:Bool):Prop:=∀prog w E Q,Q (.bool b) s->ð (ã prog w) A (richCompare .Lt y x) Q E s
inductive j9 (A) (s):List ì->List ì->Bool->Prop where
 |nn:j9 A s [] [] ύ
 |nc (y) (ys):j9 A s [] (y::ys) ό
 |cn (x) (xs):j9 A s (x::xs) [] ύ
 |eq {xs ys} {b}:SeqAt.EqAt A s x y ό->j9 A s xs ys b->j9 A s (x::xs) (y::ys) b
 |lt {xs ys} {b}:SeqAt.EqAt A s x y ύ->Ir A s x y b->j9 A s (x::xs) (y::ys) b
section
open PySem.SeqAt
open PySem.AutoSeq1 (wpAny_loadPart')
open PySem.MeetsSeq PySem.MeetsSeq2 PySem.MeetsSeq3
def Vy (l b:ę) (items iq:Array ì) (n n2:Nat) (dd jZ:Option ę) (sl de:Array (Option ì)) (tG:Bool) :
  Meets (ε.«tuple.__lt__» #[[.ref l,.ref b],[]])
   (λA R s=>s.heap.get? l=ϊ { cls:=.type "tuple",dict:=dd,data:=.seq items n,slots:=sl }/\s.heap.get? b=ϊ { cls:=.type "tuple",dict:=jZ,data:=.seq iq n2,slots:=de } /\
    j9 A.in1 s items.toList iq.toList tG/\R (.ok (.ret (.bool tG))) s) :=
 .of_wp λprog w A R s h=>by
  let(N,g,d,M,os):=s;let(K,J,I,h):=h;have f2:=AutoSeq1.sub_tuple_tuple
  wp_walk using agP K,agP J,agy _ (λrest b W=>b.1=ϋ/\W=#[N,g,d,M,os]/\∃(X ws:List ì),rest=X.zip ws /\
   j9 A.in1 #[N,g,d,M,os] X ws tG/\X.length+iq.size=ws.length+items.size) _
  case turn =>
   rintro ⟨y,x⟩ rest b W ⟨V,rfl,X,ws,Y,U,Z⟩
   cases U with
   |nn=>cases Y
   |nc _ _=>cases Y
   |cn _ _=>cases Y
   |eq T S =>
    rw[ļ] at Y
    injection Y with Q L
    injection Q with P O
    subst P O;erw[Ú] at Z;refine À (T prog w _ _ ?_)
    wp_walk
    exact#[rfl,rfl,_,_,L,S,by omega]
   |lt T S =>
    rw[ļ] at Y
    injection Y with Q L
    injection Q with P O
    subst P O;refine À (T prog w _ _ ?_);have H:=S prog w
    wp_walk using H
    exact#[_,rfl,by simpa using h]
  case fin =>
   rintro ⟨F,E⟩ W ⟨V,rfl,X,ws,Y,U,Z⟩;simp only at V;subst V;have G:tG=ώ (items.size<iq.size):=by
    cases U with
    |nn=>erw[Ċ] at Z;exact(ø ⋯).symm
    |nc _ _=>erw[Ċ,Ú] at Z;exact(Ï ⋯).symm
    |cn _ _=>erw[Ċ,Ú] at Z;exact(ø ⋯).symm
    |eq _ _=>rw[ļ] at Y;cases Y
    |lt _ _=>rw[ļ] at Y;cases Y
   rw[G] at h
   wp_walk
   exact#[_,rfl,by simpa [agd] using h]
  case h =>
   exact#[rfl,rfl,items.toList,iq.toList,rfl,I,by erw[å];omega]
end
open PySem.SeqAt PySem.MeetsSeq
section
variable {prog:Ć} {w:ģ} {A:Ĭ} {E:ì->ß->Prop} {s:ß}
def Oo (hl:ag2 s.heap l items) (hb:ag2 s.heap b iq) (hA:∀A',A'.units<=A.units+4->j9 A' s items.toList iq.toList tG)
 (hu:A.units<agZ) (h:Q (.bool tG) s):ð (ã prog w) A (richCompare .Lt (.ref l) (.ref b)) Q E s:=by
 obtain⟨⟨cls,X,data,W⟩,Z,V,n,U⟩:=id hl;obtain⟨⟨O,T,data2,S⟩,Y,R,P,hd2⟩:=id hb;subst V U R hd2;refine richCompare_meets_room #[_,Z,rfl] #[_,Y,rfl] afk af8 (afT ..) (Vy l b items iq n P X T W S tG)
  #[Z,Y,hA _ ?_,#[(λx=>nomatch x),h]] hu
 show A.units+1<=A.units+4;omega
end
end HT
namespace DI
open PySem L2 HT
mutual
noncomputable def jh:D->D->Option Bool
 | .int i,.int j=>ϊ (ώ (i<j))
 | .str x,.str y=>ϊ (ώ (x.cps.toList<y.cps.toList))
 | .tup Z,.tup Y=>gk Z Y
 |_,_=>ϋ
noncomputable def gk:List D->List D->Option Bool
 | [],[]=>ϊ ύ
 | [],_::_=>ϊ ό
 |_::_,[]=>ϊ ύ
 |x::Z,y::Y=>if beq x y=ό then gk Z Y else jh x y
end
section
variable {X:Cx} {Ξ:Wd->bF->Prop} {π:List (ę×Obj)} {σ:St} {s:ß} {w:Wd}
def acU (I:Inv X π σ w.H s) (A) (lx:lay x=ό) (ly:lay y=ό) (hu:A.units+dep x<agZ) (hx:DV X.K w x v) (hy:DV X.K w y u) (rx:RelV v vx) (ry:RelV u vy):SeqAt.EqAt A s vx vy (beq x y):=by
 let(as,Z):=(hx.py (rf _ lx)).reads I rx;let(bs,Y):=(hy.py (rf _ ly)).reads I ry;let(W,U):=lL _ lx;let(V,T):=lL _ ly;have:=SeqAt.eqAt_reads _ _ A s vx vy as bs Z Y W V ⋯;rw[uD _ _ lx ly] at this;exact this
mutual
theorem QG (I:Inv X π σ w.H s):∀A x y b v u vx vy,jh x y=ϊ b->lay x=ό->lay y=ό->A.units+5*dep x+5<agZ->DV X.K w x v->DV X.K w y u->RelV v vx->RelV u vy->Ir A s vx vy b
 |A,.int i,.int j,b,v,u,vx,vy,h,_,_,_,Z,Y,W,V=>by
  cases h;cases Z;cases Y;let(t,rfl):=W;let(T,rfl):=V;intro prog w E Q q;exact EA A s i t j T prog w E Q q
 |A,.str i,.str j,b,v,u,vx,vy,h,_,_,S,Z,Y,W,V=>by
  cases h;cases Z;cases Y;let(t,rfl):=W;let(T,rfl):=V;intro prog w E Q q;exact(PyProof.Rows.lt_str q)
 |A,.tup R,.tup P,b,v,u,vx,vy,h,O,N,S,Z,Y,W,V=>by
  erw[jh] at h;let(a,as,rfl,M,L):=Z;let(c,cs,rfl,J,U):=Y;cases W;cases V;let(aj,G,F,_):=I.tuple M;let(D,C,B,_):=I.tuple J;intro prog p E Q q;erw[dep] at S;exact Oo F B (λz r=>by
   have:=Pr I z R P b as cs aj D h (by simpa [lay] using O) (by simpa [lay] using N) ⋯ L U G C;simpa using this) ⋯ q
 |_,.aD,_,_,_,_,_,_,h,_,_,_,_,_,_,_=>by cases h
 |_,.bl _,_,_,_,_,_,_,h,_,_,_,_,_,_,_=>by cases h
 |_,.lst _,_,_,_,_,_,_,h,_,_,_,_,_,_,_=>by cases h
 |_,.cb _,_,_,_,_,_,_,h,_,_,_,_,_,_,_=>by cases h
 |_,.aw _,_,_,_,_,_,_,h,_,_,_,_,_,_,_=>by cases h
 |_,.ty _,_,_,_,_,_,_,h,_,_,_,_,_,_,_=>by cases h
 |_,.cw _,_,_,_,_,_,_,h,_,_,_,_,_,_,_=>by cases h
 |_,.exc ..,_,_,_,_,_,_,h,_,_,_,_,_,_,_=>by cases h
 |_,.cx ..,_,_,_,_,_,_,h,_,_,_,_,_,_,_=>by cases h
 |_,.int _,.aD,_,_,_,_,_,h,_,_,_,_,_,_,_=>by cases h
 |_,.int _,.bl _,_,_,_,_,_,h,_,_,_,_,_,_,_=>by cases h
 |_,.int _,.str _,_,_,_,_,_,h,_,_,_,_,_,_,_=>by cases h
 |_,.int _,.tup _,_,_,_,_,_,h,_,_,_,_,_,_,_=>by cases h
 |_,.int _,.lst _,_,_,_,_,_,h,_,_,_,_,_,_,_=>by cases h
 |_,.int _,.cb _,_,_,_,_,_,h,_,_,_,_,_,_,_=>by cases h
 |_,.int _,.aw _,_,_,_,_,_,h,_,_,_,_,_,_,_=>by cases h
 |_,.int _,.ty _,_,_,_,_,_,h,_,_,_,_,_,_,_=>by cases h
 |_,.int _,.cw _,_,_,_,_,_,h,_,_,_,_,_,_,_=>by cases h
 |_,.int _,.exc ..,_,_,_,_,_,h,_,_,_,_,_,_,_=>by cases h
 |_,.int _,.cx ..,_,_,_,_,_,h,_,_,_,_,_,_,_=>by cases h
 |_,.str _,.aD,_,_,_,_,_,h,_,_,_,_,_,_,_=>by cases h
 |_,.str _,.bl _,_,_,_,_,_,h,_,_,_,_,_,_,_=>by cases h
 |_,.str _,.int _,_,_,_,_,_,h,_,_,_,_,_,_,_=>by cases h
 |_,.str _,.tup _,_,_,_,_,_,h,_,_,_,_,_,_,_=>by cases h
 |_,.str _,.lst _,_,_,_,_,_,h,_,_,_,_,_,_,_=>by cases h
 |_,.str _,.cb _,_,_,_,_,_,h,_,_,_,_,_,_,_=>by cases h
 |_,.str _,.aw _,_,_,_,_,_,h,_,_,_,_,_,_,_=>by cases h
 |_,.str _,.ty _,_,_,_,_,_,h,_,_,_,_,_,_,_=>by cases h
 |_,.str _,.cw _,_,_,_,_,_,h,_,_,_,_,_,_,_=>by cases h
 |_,.str _,.exc ..,_,_,_,_,_,h,_,_,_,_,_,_,_=>by cases h
 |_,.str _,.cx ..,_,_,_,_,_,h,_,_,_,_,_,_,_=>by cases h
 |_,.tup _,.aD,_,_,_,_,_,h,_,_,_,_,_,_,_=>by cases h
 |_,.tup _,.bl _,_,_,_,_,_,h,_,_,_,_,_,_,_=>by cases h
 |_,.tup _,.int _,_,_,_,_,_,h,_,_,_,_,_,_,_=>by cases h
 |_,.tup _,.str _,_,_,_,_,_,h,_,_,_,_,_,_,_=>by cases h
 |_,.tup _,.lst _,_,_,_,_,_,h,_,_,_,_,_,_,_=>by cases h
 |_,.tup _,.cb _,_,_,_,_,_,h,_,_,_,_,_,_,_=>by cases h
 |_,.tup _,.aw _,_,_,_,_,_,h,_,_,_,_,_,_,_=>by cases h
 |_,.tup _,.ty _,_,_,_,_,_,h,_,_,_,_,_,_,_=>by cases h
 |_,.tup _,.cw _,_,_,_,_,_,h,_,_,_,_,_,_,_=>by cases h
 |_,.tup _,.exc ..,_,_,_,_,_,h,_,_,_,_,_,_,_=>by cases h
 |_,.tup _,.cx ..,_,_,_,_,_,h,_,_,_,_,_,_,_=>by cases h
theorem Pr (I:Inv X π σ w.H s):∀A xs ys b vs us ps qs,gk xs ys=ϊ b->eT xs=ό->eT ys=ό->A.units+5*dB xs+5<agZ->aB X.K w xs vs->aB X.K w ys us->Vals vs ps->Vals us qs->j9 A s ps qs b
 |A,[],[],b,vs,us,ps,qs,h,_,_,_,W,V,Z,Y=>by
  cases h;cases W;cases V;cases Z;cases Y;exact .nn
 |A,[],y::ys,b,vs,us,ps,qs,h,_,_,_,W,V,Z,Y=>by
  cases h;cases W;cases Z;let(u,r,rfl,_,_):=V;cases Y;exact .nc ..
 |A,x::xs,[],b,vs,us,ps,qs,h,_,_,_,W,V,Z,Y=>by
  cases h;cases V;cases Y;let(u,r,rfl,_,_):=W;cases Z;exact .cn ..
 |A,x::xs,y::ys,b,vs,us,ps,qs,h,U,T,L,W,V,Z,Y=>by
  let(v,r,rfl,N,dr):=W;let(u,J,rfl,M,Q):=V;erw[eT,Ç] at U T;erw[dB] at L;have G:=Nat.le_max_left (dep x) (dB xs)
  cases Z with
  |cons Z P =>
   cases Y with
   |cons Y O =>
    have S:=acU I A U.1 T.1 ⋯ N M Z Y;erw[gk] at h;split at h
    .rename_i R
     rw[R] at S;exact .eq S (Pr I A xs ys b _ _ _ _ h U.2 T.2 ⋯ dr Q P O)
    .rename_i R
     rw[afG] at R;rw[R] at S;exact .lt S (QG I A x y b _ _ _ _ h U.1 T.1 ⋯ N M Z Y)
end
def gG (x y:D) (s:ai):Res D:=if (lay x&&lay y&&ώ (dep x<=30))=ό then bU ((jh x y).map D.bl) s else ϋ
def vz (hr:cD k X.A):bA X (ğ .Lt) (rO X.K Ξ gG):=by
 intro O s σ H x y v u Q I U T zz;let(w,W,V,rfl,S,R,P,h):=zz;delta gG at h;split at h
 .rename_i Z
  erw[Ç,Æ] at Z;let(d,e,h):=gw h
  cases Y:jh W V with
  |none=>rw[Y] at e;cases e
  |some b =>
   rw[Y] at e;cases e;exact QG I _ W V b x y v u Y Z.1.1 Z.1.2 (by have:=hr.un;omega) R P U T _ _ _ _ #[.bl b,_,I,rfl,aK S h _ rfl]
 .exact h.elim
end
end DI
namespace DI
open PySem L2
def nv (kf:D->ai->Res D) (o:D->D->ai->Res D):D->D->List D->ai->Res D
 |b,_,[],s=>ok b s
 |b,k,d::Z,s=>aq (ne (kf d s)) λY s=>aq (ne (o Y k s)) λc s=>match c with
  | .bl ό=>nv kf o d Y Z s
  | .bl ύ=>nv kf o b k Z s
  |_=>ϋ
def QH (kf:D->ai->Res D) (o:D->D->ai->Res D) (dflt:Option D):List D->ai->Res D
 | [],s=>match dflt with
  |some d=>ok d s
  |none=>ϋ
 |d::Z,s=>aq (ne (kf d s)) λk s=>nv kf o d k Z s
def rK (K:ae3) (kf:D->ai->Res D):V->Hp->VK->Prop:=λx H Q=>∃w Z,w.H=H/\aR K w/\DV K w Z x/\Out K bS w (kf Z w.aO) λY d=>∀v,DV K Y d v->Q v Y.H
theorem Ga:∀{ds} {vs} {w} {b k} {vb vk},aR K w->LstAt w l all->aB K w ds vs->DV K w b vb->DV K w k vk ->
  Out K Ξ w (nv kf o b k ds w.aO) (λw' d=>∀v,DV K w' d v->Q v w'.H)->zH K l all (rK K kf) (rO K bS o) vs vb vk w.H Q
 | [],vs,w,b,k,vb,vk,S,Y,X,W,V,h=>by
  have e:=X;subst e;exact#[Y.sq,aK S h _ W]
 |d::ds,vs,w,b,k,vb,vk,S,Y,X,W,V,h=>by
  let(v,r,rfl,T,dr):=X;refine#[Y.sq,w,d,rfl,S,T,(Out.aq h).ne.mono λM L R J I G P=>#[M,L,k,rfl,J,P,R _ _ V,(Out.aq I).ne.mono λE c O N U D F=>?_]];have Z:=R.trans O
  cases c with
  |bl c =>
   have e:=F;refine#[c,e,?_]
   cases c with
   |true =>
    exact Ga N (Z.lst _ _ Y) (Z.all dr) (Z _ _ T) (O _ _ P) U
   |false =>
    exact Ga N (Z.lst _ _ Y) (Z.all dr) (Z _ _ W) (Z _ _ V) U
  |_=>exact U.elim
def ZD (S:aR K w) (hl:DV K w (.lst ds) v) (hd:∀d,dflt=ϊ d->∀w',DV K w' d dv)
 (h:Out K Ξ w (QH kf o dflt ds w.aO) (λw' d=>∀v,DV K w' d v->Q v w'.H)):∃l all,v=.ref l/\(all=[]->dflt≠ϋ)/\Iq K l all (rK K kf) (rO K bS o) dv w.H Q:=by
 let(l,all,rfl,X,Z):=hl;refine#[l,all,rfl,λe z=>?_,X.sq,?_]
 .subst e z
  have V:=Z.length
  cases ds with
  |nil=>exact h
  |cons _ _=>cases V
 .cases ds with
  |nil =>
   have e:=Z;subst e
   cases dflt with
   |none=>exact h.elim
   |some d=>exact aK S h _ (hd d rfl w)
  |cons d ds =>
   let(x,r,rfl,W,dr):=Z;exact#[w,d,rfl,S,W,(Out.aq h).ne.mono λP k Y U T O R=>Ga U (Y.lst _ _ X) (Y.all dr) (Y _ _ W) R T]
def abe {X:Cx} {kn} {fA} {fd} {p} {fn} (F:gC X.prog X.w X.K X.mg X.base iS kn fA fd [p] (mv X.K fn)) (hr:cD (kn+1) X.A) (hb:Binds X.K fd [p] []):Ip X.iV (.ref fA) (rK X.K λd s=>fn [d] s):=by
 intro W s σ H x v Q I Z zz;let(w,V,rfl,S,Y,h):=zz;exact FZ F hr.in1 hb .nil GX I (.cons Z .nil) #[w,_,rfl,S,aB.one Y,h]
def Gb (kf:D->ai->Res D) (o:D->D->ai->Res D) (dflt:Option D) (d:D) (s:ai):Res D:=match d with
 | .lst Z=>QH kf o dflt Z s
 |_=>ϋ
abbrev yd (fn:List D->ai->Res D):D->ai->Res D:=Gb (λd s=>fn [d] s) gG (ϊ .aD)
def ZE (S:aR K w) (hl:DV K w d v) (hd:∀d,dflt=ϊ d->∀w',DV K w' d dv)
 (h:Out K Ξ w (Gb kf o dflt d w.aO) (λw' d=>∀v,DV K w' d v->Q v w'.H)):∃l all,v=.ref l/\(all=[]->dflt≠ϋ)/\Iq K l all (rK K kf) (rO K bS o) dv w.H Q:=by
 delta Gb at h;split at h
 .exact ZD S hl hd h
 .exact h.elim
section
variable {X:Cx} {Ξ:Wd->bF->Prop} {e:afh} {p pos So Sq Cg Cs:Pos} {f:ag9 D}
def Oq {j} {kn} (F:gC X.prog X.w X.K X.mg X.base iS kn fA fd [pn] (mv X.K fn)) (hr:cD (kn+1) X.A) (hk:X.mg kx=ϊ (.ref fA)) (hb:Binds X.K fd [pn] []) (he:PE X e (tE X.K Ξ f)) (hc:X.calm=ό) (hg:Gl X "min") (hm:X.mg "min"=ϋ) (hgk:Gl X kx)
 (hs:Õ [e] X.env=(ύ,Ź e X.env)::Õ [] X.env:=by rfl) (hdk:(kx==("__debug__"))=ύ:=by decide)
 (heb:ũ pos (Õ [e] X.env)=(ύ,Ź e X.env)::ũ pos (Õ [] X.env):=by rfl) (cz:(ũ pos (Õ [e] X.env)).any (·.1)=ύ:=by rfl) :
  PE X (.Call (.Name "min" p) [e] [#[ϊ "key",.Name kx Cg,So],#[ϊ "default",.Constant .none j Cs,Sq]] pos) (tE X.K Ξ (e1 (yd fn) f)):=by
 intro O s σ H Q I zz;let(w,env,rfl,S,L,h):=zz;refine afg (oq I hg hm BP ?_);have J:=oh he (ot) hs;have W:PK X [#[ϊ "key",.Name kx Cg,So],#[ϊ "default",.Constant _ j Cs,Sq]] (GV (tC (.ref fA)) _):=Fc (E9 hgk hk rfl hdk) (Fc FX O8);refine PyProof.Rows.callWith_kw (aP (J pos O s σ _ (λN Y=>∃v,N=[v]/\∃(Z:Wd) (d:D),Z.H=Y/\aR _ Z/\DV _ Z d v/\Out _ Ξ Z (yd fn d Z.aO) (λV d=>∀v,DV _ V d v->Q v V.H)) I #[w,env,rfl,S,L,(Out.aq h).mono λZ d q U T v dv=>#[v,rfl,Z,d,rfl,U,dv,T]]) λo G ⟨N,Y,E,C,B⟩=>?_) heb cz;refine aP (W pos O G σ Y (λzs M=>zs=[.ref fA,.aD]/\M=Y) E #[rfl,rfl]) λws n ⟨zs,M,z,y,x⟩=>?_;let(e1,e2):=x;subst e1 e2;let(v,rfl,Z,d,rfl,U,dv,T):=B;let(l,all,rfl,_,t):=ZE U dv (λd e V=>by cases e;rfl) T;let(u,rfl,r):=vals1 C;let(m,k,rfl,R,P):=vals2 y;cases r;cases R;cases P;exact WA (dv:=.aD) hc (abe F hr hb) (vz (hr.in1)) z rfl t
end
def wD:List D->ai->Res D:=aS 2 2 (ay (bO (aU (e2 gG (ae 1) (eB cR (af (ae 0) ah)))) (aL (e2 aC (ae 0) (ae 1))) bY) (aL (eC (.int 0))))
def AO:List D->ai->Res D:=aS 2 3 (ay (aM (ak wD (af (ae 0) (af (ae 1) ah))) (gN 2)) (aL (eNew (af (eB uW (af (eC (.int 0)) (af (e2 oE (ae 2) (e2 BM (eC (.int 10)) (eC (.int 18)))) ah))) (af (e2 oF (ae 2) (eC (.int 2147483647))) ah)))))
def bC:List D->ai->Res D:=aS 2 4 (ay (bO (aU (e2 sk (e2 aC (ae 0) (eC (.int 0))) (eC (.int 0)))) (ay (aM (e2 oF (e2 aC (ae 0) (eC (.int 0))) (ae 1)) (gN 2)) (ay (qt (e2 xZ (e2 aC (ae 0) (eC (.int 0))) (ae 1)) (ae 0) (eC (.int 0))) (aL (ae 2)))) bY) (ay (qt (e2 oF (e2 dG (e2 jq (e2 aC (ae 0) (eC (.int 1))) (eC (.int 48271))) (eC (.int 29))) (eC (.int 2147483647))) (ae 0) (eC (.int 1))) (ay (aM (e2 oF (e2 dG (e2 dG (e2 jq (e2 aC (ae 0) (eC (.int 1))) (e2 aC (ae 0) (eC (.int 1)))) (e2 jq (eC (.int 39373)) (e2 aC (ae 0) (eC (.int 1))))) (eC (.int 7))) (eC (.int 2147483629))) (gN 3)) (ay (aM (e2 oF (e2 dG (e2 jq (ae 3) (ae 3)) (e2 jq (eC (.int 16807)) (ae 3))) (eC (.int 2147483587))) (gN 3)) (aL (e2 oF (e2 xZ (ae 3) (eC (.int 8))) (ae 1)))))))
def j7:List D->ai->Res D:=aS 2 3 (ay (aM (e2 dG (eC (.int 1)) (ak bC (af (ae 0) (af (eC (.int 4)) ah)))) (gN 2)) (aL (eB cG (af (aQ 1 [0,2] (bT (af (ae 1) ah)) (gN 0) (aU (e2 cu (ak bC (af (ae 1) (af (e2 dG (ae 2) (eC (.int 1))) ah))) (eC (.int 0)))) (ae 0)) ah))))
def Av:List D->ai->Res D:=aS 1 1 (aL (aQ 1 [0] (oW (af (eC (.int 1)) (af (eB cR (af (ae 0) ah)) ah))) (gN 0) (aU (e2 cu (e2 aC (ae 1) (ae 0)) (e2 aC (ae 1) (e2 oE (ae 0) (eC (.int 1)))))) (ae 0)))
def qV:List D->ai->Res D:=aS 1 1 (aL (bp (af (eB cR (af (ak Av (af (ae 0) ah)) ah)) (af (ae 0) ah))))
def qW:List D->ai->Res D:=aS 1 1 (aL (eB kX (af (aQ 2 [] (vm (af (ae 0) (af (vZ (ae 0) (vt (eC (.int 1))) vY) ah))) (gT [gN 0,gN 1]) bu (e2 gG (ae 0) (ae 1))) ah)))
def DN:List D->ai->Res D:=aS 1 1 (aL (dR (eB nr (af (ae 0) (af (eC (.ty "int")) ah))) (dR (yr (eB nr (af (ae 0) (af (eC (.ty "bool")) ah)))) (e2 Cq (ae 0) (eC (.int 0))))))
def tY:List D->ai->Res D:=aS 2 2 (aL (dR (ak DN (af (ae 0) ah)) (e2 gG (ae 0) (ae 1))))
def ue:List D->ai->Res D:=aS 1 1 (aL (ak tY (af (ae 0) (af (eC (.int (8))) ah))))
def pM:List D->ai->Res D:=aS 1 1 (aL (dR (eB nr (af (ae 0) (af (eC (.ty "tuple")) ah))) (dR (eB kX (af (aQ 1 [] (bq (ae 0)) (gN 0) bu (ak ue (af (ae 0) ah))) ah)) (ak qW (af (ae 0) ah)))))
def Ae:List D->ai->Res D:=aS 2 2 (aL (dR (eB nr (af (ae 0) (af (eC (.ty "tuple")) ah))) (dR (sW oQ oQ (eC (.int 1)) (eB cR (af (ae 0) ah)) (ae 1)) (eB kX (af (aQ 1 [] (bq (ae 0)) (gN 0) bu (ak pM (af (ae 0) ah))) ah)))))
def wF:List D->ai->Res D:=aS 1 1 (bO (hX (dA (ak Ae (af (ae 0) (af (eC (.int (10))) ah))))) qM bY)
def rg:List D->ai->Res D:=aS 2 2 (aL (eB kX (af (aQ 1 [0] (bq (ae 1)) (gN 0) bu (e2 ic (ae 0) (ae 1))) ah)))
def AA:List D->ai->Res D:=aS 3 4 (ay (aM (e2 aC (ae 0) (eB cR (af (ae 1) ah))) (gN 3)) (aL (eB kX (af (aQ 1 [3,0,2,1] (bT (af (eB cR (af (ae 1) ah)) ah)) (gN 0) (aU (e2 cu (e2 aC (ae 4) (ae 0)) (ae 3))) (ak rg (af (ae 1) (af (e2 aC (ae 2) (ae 0)) ah)))) ah))))
def AB:List D->ai->Res D:=aS 1 3 (ay (aM (qp (af (bp (af (eC (.int 0)) ah)) ah)) (gN 1)) (ay (fv (oW (af (eC (.int 1)) (af (eB cR (af (ae 0) ah)) ah))) (gN 2) (aM (uF 2 [0] (bq (ae 1)) (gN 0) bu (bT (af (eC (.int (2))) ah)) (gN 1) (dA (ak AA (af (ae 2) (af (ae 0) (af (ae 1) ah))))) (e2 dG (ae 0) (bp (af (ae 1) ah)))) (gN 1))) (aL (ae 1))))
def qS:List D->ai->Res D:=aS 1 1 (ay (cJ (ak wF (af (ae 0) ah))) (aL (e1 (yd qV) (ak AB (af (ae 0) ah)))))
end DI
namespace ST
open PySem PySem.W PyProof.Rows
structure Ord (α:Type) where
 lt:α->α->Bool
 qP:∀a,lt a a=ύ
 tr:∀a b c,lt a b=ό->lt b c=ό->lt a c=ό
 nO:∀a b,lt a b=ύ->lt b a=ύ->a=b
section
variable {α:Type} (O:Ord α)
def Ord.le (a b:α):Prop:=O.lt b a=ύ
variable {O}
def Ord.le_refl (a):O.le a a:=O.qP a
def Ord.le_of_lt (h:O.lt a b=ό):O.le a b:=by
 delta Ord.le
 cases Z:O.lt b a with
 |false=>rfl
 |true=>have:=O.tr _ _ _ h Z;rw[O.qP] at this;cases this
def Ord.jM (h:O.le a b) (g:O.le b c):O.le a c:=by
 delta Ord.le at *
 cases Z:O.lt c a with
 |false=>rfl
 |true =>
  cases Y:O.lt a b with
  |true=>have:=O.tr _ _ _ Z Y;rw[g] at this;cases this
  |false =>
   have e:=O.nO a b Y h;subst e;rw[g] at Z;cases Z
def Ord.acW (h:O.le a b) (g:O.le b a):a=b:=O.nO _ _ g h
end
def ok (c:Nat->Nat->Bool) (n:Nat):KasT β->(β->Prop)->Prop
 | .ret a,Q=>Q a
 | .ask i j k,Q=>i<n/\j<n/\ok c n (k (c i j)) Q
section
variable {α:Type} {O:Ord α} {x:Nat->α} {n:Nat}
noncomputable def ky (x:Nat->α) (p:Array Nat) (i:Nat):α:=x (p.getD i 0)
def Pm (n:Nat) (p:Array Nat):Prop:=p.size=n/\p.toList.Perm (Ô n)
def Up (O:Ord α) (f:Nat->α) (k:Nat):Prop:=∀i j,i<j->j<k->O.le (f i) (f j)
def Dn (O:Ord α) (f:Nat->α) (k:Nat):Prop:=∀i j,i<j->j<k->O.le (f j) (f i)
noncomputable abbrev asks (O:Ord α) (x:Nat->α) (i j:Nat):Bool:=O.lt (x i) (x j)
structure DS (O:Ord α) (x) (n) (p) (m q):Prop where
 pm:Pm n p
 q1:q+1<=m
 mn:m<=n
 dn:Dn O (ky x p) m
 bl:∀k,m-(q+1)<=k->k<m->ky x p k=ky x p (m-1)
end
section
variable {α:Type} {O:Ord α} {x:Nat->α} {prog:Ć} {w:ģ} {A:Ĭ} {E:ì->ß->Prop} {s:ß}
def sv (prog:Ć) (w:ģ) (A:Ĭ) (O:Ord α) (x:Nat->α) (us:List ì) (t:ß):Prop :=
 ð (ã prog w) A (keyKind' us.toArray) (fun Z Y=>Y=t/\∀i j C,i<us.length->j<us.length->C (O.lt (x i) (x j)) t->ð (ã prog w) A (keyLt' Z (us.getD i Value.none) (us.getD j Value.none)) C (λ_ _=>False) t) (λ_ _=>False) t
def mj (us:List ì) (h:us.length<2):(us.toArray.zip us.toArray).map (·.2)=((List.toArray (Ô us.length)).toList.map λi=>us.getD i Value.none).toArray:=by
 rcases us with _ | ⟨u,_ | ⟨v,r⟩⟩
 .exact Array.toList_inj.mp ∅
 .exact Array.toList_inj.mp ∅
 ·(simp at h;omega)
end
open HT
noncomputable def Ct:Ord Int where
 lt a b:=ώ _
 qP a:=ø (Int.lt_irrefl a)
 tr a b c h g:=by erw[Æ] at *;omega
 nO a b h g:=by erw[decide_eq_false_iff_not] at *;omega
def xi:∀a:List Int,lexLt a a=ύ:=λa=>by
 induction a with
 |nil=>rfl
 |cons i r ih=>rw[jk,õ rfl];exact ih
def Pt:∀a b c:List Int,lexLt a b=ό->lexLt b c=ό->lexLt a c=ό:=λa=>by
 induction a with
 |nil =>
  intro b c h g
  cases b with
  |nil=>cases h
  |cons j s=>cases c with
   |nil=>cases g
   |cons k t=>rfl
 |cons i r ih =>
  intro b c h g
  cases b with
  |nil=>cases h
  |cons j s =>
   cases c with
   |nil=>cases g
   |cons k t =>
    rw[jk] at h g |-;by_cases e1:i=j
    .subst e1
     rw[õ rfl] at h;by_cases e2:i=k
     .rw[õ e2] at g |-;exact ih s t h g
     .rw[ÿ e2] at g |-;exact g
    .rw[ÿ e1] at h
     have h:=ē h;by_cases e2:j=k
     .subst e2
      rw[ÿ e1];exact Ï h
     .rw[ÿ e2] at g
      have g:=ē g;rw[ÿ ⋯];exact Ï ⋯
def Ot:∀a b:List Int,lexLt a b=ύ->lexLt b a=ύ->a=b:=λa=>by
 induction a with
 |nil =>
  intro b h g
  cases b with
  |nil=>rfl
  |cons j s=>cases h
 |cons i r ih =>
  intro b h g
  cases b with
  |nil=>cases g
  |cons j s =>
   rw[jk] at h g;by_cases e:i=j
   .subst e
    rw[õ rfl] at h g;rw[ih s h g]
   .rw[ÿ e] at h
    rw[ÿ (Ř e)] at g;have h:=of_decide_eq_false h;have g:=of_decide_eq_false g;omega
def ny:Ord (List Int):=#[lexLt,xi,Pt,Ot]
section
variable {prog:Ć} {w:ģ} {A:Ĭ} {E:ì->ß->Prop} {s:ß}
def A2 (h:Ņ us ns):∀i,i<us.length->∃t,us.getD i Value.none=.int (ns.getD i 0) t:=by
 induction h with
 |nil=>intro i hi;simp at hi
 |cons n t h ih =>
  intro i hi
  cases i with
  |zero=>exact#[t,rfl]
  |succ i =>
   let(Z,e):=ih i (by simpa using hi);exact#[Z,by simpa using e]
def WB (hI:Ņ us ns) (h2:2<=us.length):sv prog w A Ct (λi=>ns.getD i 0) us s:=by
 delta sv;have e:keyKind' us.toArray=pure oneType':=by
  cases us with
  |nil=>simp at h2
  |cons v us=>cases us with
   |nil=>simp at h2
   |cons u us=>exact keyKind_ints hI
 rw[e];refine Â #[rfl,λi j C hi Z Y=>?_];let(t,e1):=A2 hI i hi;let(X,e2):=A2 hI j Z;rw[e1,e2];exact kat_lt_int Y
inductive k9 (h):List ì->List (List Int)->Prop where
 |nil:k9 h [] []
 |cons {aj} {ns} {us} {bP}:ag2 h a aj->Ņ aj.toList ns->k9 h us bP->k9 h (.ref a::us) (ns::bP)
def k9.keep (k:∀c o,h.get? c=ϊ o->h'.get? c=ϊ o) (t:k9 h us bP):k9 h' us bP:=by
 induction t with
 |nil=>exact .nil
 |cons a b _ ih =>
  let(o,Z,r):=a;exact .cons #[o,k _ _ Z,r] b ih
theorem k9.at (t:k9 h us bP):∀i,i<us.length->∃a aj,us.getD i Value.none=.ref a/\ag2 h a aj/\Ņ aj.toList (bP.getD i []):=by
 induction t with
 |nil=>intro i hi;simp at hi
 |cons a b _ ih =>
  intro i hi
  cases i with
  |zero=>exact#[_,_,rfl,a,b]
  |succ i =>
   let(c,aj,e,r):=ih i (by simpa using hi);exact#[c,aj,by simpa using e,r]
def abf (hx:Ņ xs ns):∀{ys} {ms} i,Ņ ys ms->fin=ώ (xs.length<ys.length)->Q (lexLt ns ms) s->KatLex prog w A b fin Q (xs.zip ys) i s:=by
 induction hx with
 |nil =>
  intro ys ms i Z Y h
  cases Z with
  |nil=>rw[Y];exact h
  |cons m t Z=>rw[Y];exact h
 |cons n t hx ih =>
  intro ys ms i Z Y h
  cases Z with
  |nil=>rw[Y];exact h
  |cons m X Z =>
   rw[jk] at h;refine kat_cons (wpAny_eqBool_int ?_);by_cases e:n=m
   .rw[õ e] at h
    rw[show (n==m)=ό by rw[e];exact ι m];exact kat_yes (ih _ Z (by rw[Y];simp) h)
   .rw[ÿ e] at h
    rw[beq_eq_false_iff_ne.mpr e];refine kat_no ?_
    cases (b&&i==0) with
    |true=>exact oneLt_int h
    |false=>exact kat_one _ _ (PyProof.Rows.lt_int h)
def acX (ha:ag2 s.heap a aj) (hc:ag2 s.heap c i8) (hi:Ņ aj.toList ns) (hj:Ņ i8.toList ms) (h:Q (lexLt ns ms) s) :
  ð (ã prog w) A (keyLt' (tuples' b) (.ref a) (.ref c)) Q E s:=by
 let(o,Z,_,n,Y):=ha;let(W,X,_,V,hd2):=hc;exact kat_lt Z Y X hd2 (abf hi 0 hj ∅ h)
def acY (hu:A.units<agZ) (ha:ag2 s.heap a aj) (hc:ag2 s.heap c i8) (hi:Ņ aj.toList ns) (hj:Ņ i8.toList ms) (h:Q (lexLt ns ms) s) :
  ð (ã prog w) A (keyLt' general' (.ref a) (.ref c)) Q E s:=by
 exact kat_one _ _ (Ve ha hc hi hj hu h)
def acZ (hu:A.units<agZ) (ha:ag2 s.heap a aj) (hc:ag2 s.heap c i8) (hi:Ņ aj.toList ns) (hj:Ņ i8.toList ms) (h:Q (lexLt ns ms) s) :
  ð (ã prog w) A (keyLt' oneType' (.ref a) (.ref c)) Q E s:=by
 rw[keyLt'_oneType];obtain⟨⟨cls,X,data,W⟩,Z,V,n,U⟩:=ha;obtain⟨⟨O,T,data2,S⟩,R,Y,P,hd2⟩:=hc;subst V U Y hd2;refine À (wpAny_cRoomFor hu (À (wpAny_callSpecialIfBound?_slot #[_,Z,rfl] afk ?_)));refine call_meets afk #[_,Z,rfl] af8 (afT ..) (Lw a c aj i8 n P X T W S ns ms hi hj) #[Z,R,?_];exact Ĺ h
inductive tI:List (Option ì)->List (List Int)->Prop where
 |nil:tI [] []
 |aD:tI fs bP->tI (ϋ::fs) ([]::bP)
 |one {r}:tI fs bP->tI (ϊ (.int n t)::fs) ((n::r)::bP)
def WC (t:k9 s.heap us bP):∀{Q},(∀fs,fs.length=us.length->tI fs bP->Q fs s)->ð M A (us.mapM firstOfTuple') Q E s:=by
 induction t with
 |nil=>intro Q h;exact Â (h _ rfl .nil)
 | @cons a aj S us bP X hi _ ih =>
  intro Q h;let(o,Z,W,n,V):=X;rw[List.mapM_cons];refine À ?_;refine À (Looks.here ((Looks.ld Z).andThen .now) ?_);rw[W];refine À (listItems_at Z V (Â (À (ih λfs U Y=>Â (h _ (by simp[U]) ?_)))));have T:aj[0]?=aj.toList[0]?:=by simp
  rw[T];generalize aj.toList=l at hi
  cases hi with
  |nil=>exact .aD Y
  |cons n t hi=>exact .one Y
def ZF (h:tI fs bP) (ha:fs.all (·.isSome)=ό):∃ns,Ņ (fs.filterMap id) ns/\(fs.filterMap id).length=fs.length:=by
 induction h with
 |nil=>exact#[_,.nil,rfl]
 |aD h ih=>simp at ha
 | @one fs bP n t r h ih =>
  let(ns,Z,Y):=ih (by simpa using ha);exact#[_,.cons n t Z,by simpa using Y]
def WD (hI:Ņ us ns) (h1:1<=us.length):oneTypeOnly' us.toArray=pure (ϊ (Ī "int")):=by
 rw[oneTypeOnly'_eq,List.mapM_toArray,mapM_typeOf_ints hI];erw[map_pure,pure_bind]
 cases us with
 |nil=>simp at h1
 |cons u us =>
  have Z:((List.map (λ_=>Ī "int") (u::us)).toArray.all λx=>x==Ī "int")=ό:=by
   erw[List.all_toArray,agr,Ĉ];intro _ _;rfl
  have Y:(List.map (λ_=>Ī "int") (u::us)).toArray[0]?=ϊ (Ī "int"):=by simp
  rw[Y];erw[Z,ĭ]
def X0 (t:k9 s.heap us bP):∀{Q},Q (us.map λ_=>Ī "tuple") s->ð M A (us.mapM typeOf) Q E s:=by
 induction t with
 |nil=>intro Q h;exact Â h
 | @cons a aj W us bP Z hi _ ih =>
  intro Q h;let(o,Y,X,n,V):=Z;rw[List.mapM_cons];refine À (Looks.here ((Looks.ld Y).andThen .now) ?_);rw[X];exact À (ih (Â h))
def WE (t:k9 s.heap us bP) (h2:2<=us.length) (hu:A.units<agZ):sv prog w A ny (λi=>bP.getD i []) us s:=by
 delta sv;rw[kat_kind_eq,List.mapM_toArray];refine À (À (WC t λfs P V=>Â ?_));by_cases U:fs.all (·.isSome)=ό
 .rw[õ (by simpa using U)]
  let(O,R,N):=ZF V U;refine À (ş ?_);rw[List.filterMap_toArray,WD R ⋯];refine À (Â (Â #[rfl,λi j C hi Z Y=>?_]));let(a,aj,e1,a1,X):=t.at i hi;let(c,S,e2,a2,W):=t.at j Z;rw[e1,e2];exact acX a1 a2 X W Y
 .rw[ÿ (by simpa using U)]
  by_cases V:((fs.toArray[0]?).bind id).isSome=ό
  .rw[õ V]
   refine Â #[rfl,λi j C hi Z Y=>?_];let(a,aj,e1,a1,X):=t.at i hi;let(c,S,e2,a2,W):=t.at j Z;rw[e1,e2];exact acY hu a1 a2 X W Y
  .rw[ÿ V,oneTypeOnly'_eq,List.mapM_toArray]
   refine À (À (À (X0 t (Â ?_))))
   have key:(match (List.map (λ_=>Ī "tuple") us).toArray[0]? with
     |some t=>if (List.map (λ_=>Ī "tuple") us).toArray.all (·==t)=ό then ϊ t else ϋ
     |none=>ϋ)=ϊ (Ī "tuple"):=by
    cases us with
    |nil=>simp at h2
    |cons u us =>
     have T:(List.map (λ_=>Ī "tuple") (u::us)).toArray[0]?=ϊ (Ī "tuple"):=by simp
     have Q:((List.map (λ_=>Ī "tuple") (u::us)).toArray.all λx=>x==Ī "tuple")=ό:=by
      erw[List.all_toArray,agr,Ĉ];intro _ _;rfl
     rw[T];erw[Q,ĭ]
   cases us with
   |nil=>simp at h2
   |cons u us =>
    have T:(List.map (λ_=>Ī "tuple") (u::us)).toArray[0]?=ϊ (Ī "tuple"):=by simp
    rw[T] at key |-;dsimp only at key |-;rw[key];refine Â (Â ⟨rfl,λi j C hi Z Y=>?_⟩);let(a,aj,e1,a1,X):=t.at i hi;let(c,S,e2,a2,W):=t.at j Z;rw[e1,e2];exact acZ hu a1 a2 X W Y
noncomputable def ins (O:Ord α) (a:α):List α->List α
 | []=>[a]
 |b::r=>if O.lt b a=ό then b::ins O a r else a::b::r
def gf (O:Ord α):List α->List α
 | []=>[]
 |a::r=>ins O a (gf O r)
end
section
variable {α:Type} {O:Ord α}
def Nz (a) (l):(ins O a l).Perm (a::l):=by
 induction l with
 |nil=>exact .refl _
 |cons b r ih =>
  delta ins;split
  .exact(List.Perm.cons b ih).trans (List.Perm.swap a b r)
  .exact .refl _
def jF (l):(gf O l).Perm l:=by
 induction l with
 |nil=>exact .refl _
 |cons a r ih=>exact(Nz a _).trans (ih.cons a)
def abg (a) (l) (h:l.Pairwise O.le):(ins O a l).Pairwise O.le:=by
 induction l with
 |nil=>exact Ş ..
 |cons b r ih =>
  let(X,W):=û.mp h;delta ins
  split<;>rename_i Z
  .refine û.mpr #[λc Y=>?_,ih W]
   rcases Ð.mp ((Nz a r).mem_iff.mp Y) with e|e
   .rw[e];exact Ord.le_of_lt Z
   .exact X c e
  .have Z:=by rw[afG] at Z;exact Z
   refine û.mpr #[λc Y=>?_,h]
   rcases Ð.mp Y with e|e
   .rw[e];exact Z
   .exact Ord.jM Z (X c e)
def wX (l):(gf O l).Pairwise O.le:=by
 induction l with
 |nil=>exact .nil
 |cons a r ih=>exact abg a _ ih
def Eh:∀{l m:List α},l.Perm m->l.Pairwise O.le->m.Pairwise O.le->l=m:=by
 intro l
 induction l with
 |nil=>intro m h _ _;exact h.nil_eq
 |cons a r ih =>
  intro m h Z Y
  cases m with
  |nil=>exact absurd h.length_eq ∅
  |cons b t =>
   let(a1,a2):=û.mp Z;let(X,W):=û.mp Y;have e:a=b:=by
    rcases Ð.mp (h.mem_iff.mp Ë) with e|e
    .exact e
    .rcases Ð.mp (h.mem_iff.mpr Ë) with e'|e'
     .exact e'.symm
     .exact Ord.acW (a1 b e') (X a e)
   subst e;rw[ih h.cons_inv a2 W]
def X1 (h:l.Perm m):gf O l=gf O m:=Eh ((jF l).trans (h.trans (jF m).symm)) (wX l) (wX m)
def WG (hp:Pm xs.length q) (hu:Up O (ky (λi=>xs.getD i d) q) xs.length):q.toList.map (λi=>xs.getD i d)=gf O xs:=by
 refine Eh ?_ ?_ (wX xs)
 .refine(hp.2.map _).trans ?_
  have:(Ô xs.length).map (λi=>xs.getD i d)=xs:=by
   apply į;intro i;by_cases hi:i<xs.length
   .simp[hi]
   .simp[hi,afE hi]
  rw[this];exact(jF xs).symm
 .rw[ŋ]
  intro i j hi W Z;have V:(q.toList.map λi=>xs.getD i d).length=xs.length:=by rw[Ã,å,hp.1]
  have Y:j<q.size:=by rw[hp.1];omega
  have X:i<q.size:=by omega
  have:=hu i j Z ⋯;delta ky at this;simpa [X,Y] using this
end
end ST
namespace DI
open PySem L2
section
variable {X:Cx} {Ξ:Wd->bF->Prop} {a e tg:afh} {p pos:Pos} {f:ag9 D} {fa:ag9 (List D)}
noncomputable def rW (n:Nat):List D:=(Ô n).map λi:Nat=>D.int ((n)-1-i)
def MO (n):(rW n).length=n:=by simp[rW]
def MP (n i):(rW n)[i]?=if i<n then ϊ (.int ((n)-1-i)) else ϋ:=by
 delta rW;rw[Þ];split
 .rename_i h;rw[Ł h];rfl
 .rw[Ġ (by simp;omega)];rfl
def abh:mw K w (H9 n) (rW n):=λX V W i=>by
 refine#[λd Z=>?_,λY=>by rw[MO] at Y;exact Y];rw[MP] at Z;split at Z
 .cases Z
  exact#[by assumption,λx U ⟨e1,e2⟩=>#[X,e1.symm,Le.refl _,W,rfl,e2]]
 .cases Z
def wa (fa:ag9 (List D)):ag9 (List D):=λenv s=>aq (fa env s) λZ s=>match Z with
 | [.int j]=>if (kh j&&ώ (0<=j))=ό then ok (rW j.toNat) s else ϋ
 |_=>ϋ
def QI {p2 jb} (hg:Gl X "reversed") (hm:X.mg "reversed"=ϋ) (zq:Gl X "range") (zr:X.mg "range"=ϋ) (ha:PA X [a] (tA X.K Ξ fa))
  (he:Õ [a] X.env=(ύ,Ź a X.env)::Õ [] X.env:=by rfl) (cz:(ũ jb (Õ [] X.env)).any (·.1)=ύ:=by rfl)
  (hs:Õ [.Call (.Name "range" p2) [a] [] jb] X.env=[(ύ,Ź (.Call (.Name "range" p2) [a] [] jb) X.env)]:=by rfl)
  (lB:Õ [.Call (.Name "range" p2) [a] [] jb] X.env=(ύ,Ź (.Call (.Name "range" p2) [a] [] jb) X.env)::Õ [] X.env:=by rfl) :
  PI X tg (.Call (.Name "reversed" p) [.Call (.Name "range" p2) [a] [] jb] [] pos) (ee X.K Ξ (wa fa)) :=
 xw (aaZ hg hm (oh (wL LU zq zr nofun ha (by decide) (by decide) he cz) ot lB) hs) fun σ H R V=>by
  let(w,env,U,S,T,h):=V;subst U;refine#[w,env,rfl,S,T,(Out.aq h).mono λN M L Q Z J P=>?_];split at Z
  .rename_i j
   split at Z
   .rename_i Y
    erw[kh,Ç,Æ] at Y;let(v,r,rfl,O,dr):=P;have e1:=O;have e2:=dr;subst e1 e2;refine#[j,rfl,λq W=>?_];refine#[q,j.toNat,rfl,?_,by omega,?_]
    .rw[eJ,agU Y.2]
    .exact Z _ (Fw.grow W).le (Q.grow W) rfl _ abh
   .exact Z.elim
  .exact Z.elim
noncomputable def QJ:List Int->D
 | []=>.aD
 |n::Z=>.int (Z.foldl min n)
theorem foldl_min:∀ns (n:Int),ns.foldl min n∈n::ns/\∀k∈n::ns,ns.foldl min n<=k
 | [],n=>by simp
 |m::ns,n=>by
  let(Y,Z):=foldl_min ns _;rw[List.foldl_cons];have W:=Z (min n m) Ë;refine#[?_,λk X=>?_]
  .rcases Ð.mp Y with h|h
   .rw[h]
    rcases Int.le_total n m with g|g
    .rw[Int.min_eq_left g];simp
    .rw[Int.min_eq_right g];simp
   .simp[h]
  .rcases Ð.mp X with h|h
   .omega
   .rcases Ð.mp h with h|h
    .omega
    .exact Z k (Ì _ h)
def BR (ds:List D) (s:ai):Res D:=match ds with
 | [d]=>match res d s with
  | .lst Z=>match ki Z with
   |some Y=>ok (QJ Y) s
   |none=>ϋ
  |_=>ϋ
 |_=>ϋ
def abi {j} {kp Cs} (ha:PA X [e] (tA X.K Ξ fa)) (hc:X.calm=ό) (hg:Gl X "min") (hm:X.mg "min"=ϋ) (he:ũ pos (Õ [e] X.env)=(ύ,Ź e X.env)::ũ pos (Õ [] X.env):=by rfl) (cz:(ũ pos (Õ [e] X.env)).any (·.1)=ύ:=by rfl) :
  PE X (.Call (.Name "min" p) [e] [#[ϊ "default",.Constant .none j Cs,kp]] pos) (tE X.K Ξ (eB BR fa)) :=
 dF (Zx hc hg hm ha (Fc FX O8) he cz) fun σ H Q T=>by
  let(w,env,R,S,P,h):=T;subst R;refine#[w,env,rfl,S,P,(Out.aq h).mono λE D C U Z B Y=>?_];delta BR at Z;split at Z
  .let(v,rfl,O):=lM Y
   split at Z
   .rename_i N e1
    cases V:ki N with
    |none=>rw[V] at Z;exact Z.elim
    |some W =>
     rw[V] at Z;let(a,A,rfl,ha,Y):=jG U O e1;rw[wW V] at Y;rw[Y.EC] at ha;refine#[a,W,_,rfl,rfl,bJ.of ha,λv M L=>aK U Z _ ?_]
     cases W with
     |nil=>exact M rfl
     |cons n W =>
      let(m,e,J,I):=L ∅;let(G,F):=foldl_min W n;have e2:=Int.le_antisymm (I _ G) (F _ J);subst e2;exact e
   .exact Z.elim
  .exact Z.elim
end
end DI
namespace L2
open PySem PySem.Spec PyProof.Rows
structure Pu (sc:Scope) (cl gU:List (Str×ę)) (C:Nat) (h:afz):Prop where
 old:∀n c,gU.lookup n=ϊ c->(C<c/\(n,NameKind.cell)∈sc.names/\∃v,h.IsCell c v)\/cl.lookup n=ϊ c
 own:∀n,sc.names.lookup n=ϊ .cell\/(cl.lookup n).isSome=ό->∃c,gU.lookup n=ϊ c
 inj:(∀x y c,cl.lookup x=ϊ c->cl.lookup y=ϊ c->x=y)->(∀x c,cl.lookup x=ϊ c->c<C)->∀x y c,gU.lookup x=ϊ c->gU.lookup y=ϊ c->x=y
theorem Ei:∀names n acc,(afS n names acc).lookup x=ϊ c->((x,NameKind.cell)∈names/\n<=c)\/acc.lookup x=ϊ c
 | [],n,acc,h=>.inr h
 |(y,k)::r,n,acc,h=>by
  delta afS at h;split at h
  .rename_i Z
   have Z:=by simpa using Z
   subst Z
   rcases Ei r _ _ h with ⟨h1,Y⟩|h1
   .exact .inl #[Ì _ h1,by omega]
   .rw[š] at h1
    split at h1
    .rename_i e
     have e:=by simpa using e
     subst e;cases h1;exact .inl #[Ë,ahd _]
    .exact .inr h1
  .rcases Ei r n acc h with ⟨h1,Y⟩|h1
   .exact .inl #[Ì _ h1,Y]
   .exact .inr h1
theorem Ej:∀(names) (n:Nat) (acc:List (Str×ę)),(∀x y c,acc.lookup x=ϊ c->acc.lookup y=ϊ c->x=y)->(∀x c,acc.lookup x=ϊ c->c<n)->∀x y c,(afS n names acc).lookup x=ϊ c->(afS n names acc).lookup y=ϊ c->x=y
 | [],n,acc,hi,X=>hi
 |(z,k)::r,n,acc,hi,X=>by
  delta afS;split
  .refine Ej r _ _ (λx y c Z Y=>?_) λx c Z=>?_
   .rw[š] at Z Y
    split at Z
    .rename_i e1
     split at Y
     .rename_i e2
      exact(by simpa using e1:x=z).trans (by simpa using e2:y=z).symm
     .cases Z
      exact absurd (X y _ Y) (ó _)
    .split at Y
     .cases Y
      exact absurd (X x _ Z) (ó _)
     .exact hi x y c Z Y
   .rw[š] at Z
    split at Z
    .cases Z;exact μ _
    .exact Ē (X x c Z)
  .exact Ej r n acc hi X
theorem EI {lo:Nat}:∀(names) (h) (acc:List (Str×ę)),lo<=h.objs.size->(∀x c,acc.lookup x=ϊ c->lo<=c->h.IsCell c ϋ)->(afS h.objs.size names acc).lookup x=ϊ c->lo<=c->(pushCells h names).IsCell c ϋ
 | [],h,acc,_,Z,e,Y=>Z x c e Y
 |(z,k)::r,h,acc,V,Z,e,Y=>by
  delta afS at e;delta pushCells;split at e
  .rename_i W
   rw[õ W];have U:(h.push { cls:=.type "cell",data:=.cell ϋ }).objs.size=h.objs.size+1:=ĉ ..;refine EI r _ _ ⋯ (λy d X T=>?_) (by rw[U];exact e) Y;rw[š] at X;split at X
   .cases X
    exact#[_,Ê _ rfl,rfl]
   .exact(Z y d X T).keeps λb o q=>Á _ q
  .rename_i W
   rw[ÿ W];exact EI r h acc V Z e Y
def Ug {Q:Env->ß->Prop}
 (hQ:∀gU h3,((∀x c,cl.lookup x=ϊ c->c<s.heap.objs.size)->Pu scope cl gU s.heap.objs.size h3)->h3.Ns s.heap.objs.size (λ_=>ϋ)->(∀b o,s.heap.get? b=ϊ o->h3.get? b=ϊ o)->Q (newEnv scope s.heap.objs.size globals gU qual ϋ .none (ϊ env) bi) { s with heap:=h3 }) :
  ð M A (newFunctionEnv scope globals cl [] qual ϋ .none (ϊ env) bi) Q E s:=by
 erw[newFunctionEnv,Option.isSome_some,ĭ];refine À (wpAny_alloc ?_)
 refine À (wpAny_layCells _ (λname kind cells=>by cases Z:kind==NameKind.cell<;>simp[Z]) _ _ _ _ ?_)
 rw[ĉ _];erw[List.forIn_nil];refine À (Â (Â ?_));have Y:(s.heap.push { cls:=.type "dict",data:=.dict #v[] }).objs.size=s.heap.objs.size+1:=ĉ ..;refine hQ _ _ (λX=>#[λn c e=>?_,λn W=>?_,λhi V=>Ej _ _ _ hi λx c e=>Ē (V x c e)]) ((Heap.Ns.new _ _).keeps (pushCells_keeps _ _)) λb o e=>pushCells_keeps _ _ b o (Á _ e)
 .rcases Ei _ _ _ e with ⟨h1,U⟩|h1
  .exact .inl #[by omega,h1,ϋ,EI _ _ cl ⋯ (λx d q T=>absurd (X x d q) (Nat.not_lt.mpr (Nat.le_of_succ_le T))) (by rw[Y];exact e) U]
  .exact .inr h1
 .exact afM.mp (af7 _ _ cl W)
abbrev cL (X:Cx) (N:List Str) (sc:Scope) (cl:List (Str×ę)) (C:ę) (s:ß) (H:Hp) (ex:List ę) (pn:List (ę×Obj)):Cx:={ cK X N sc cl C s H ex pn with fn:=λx=>sc.names.lookup x==ϊ .cell }
structure mW (X:Cx) (sc:Scope) (N:List Str) (nt) (cap:List Nat):Prop where
 kind:sc.kind=.function
 names:∀x∈sc.names,x.2=.local->sc.names.lookup x.1=ϊ .local
 cells:∀x∈sc.names,x.2=.cell->sc.names.lookup x.1=ϊ .cell
 frees:∀x∈sc.names,x.2=.free->sc.names.lookup x.1=ϊ .free/\(X.env.scope.names.lookup x.1=ϊ .cell\/X.env.scope.names.lookup x.1=ϊ .free)
 len:N.length=nt+cap.length
 HW:∀k j,cap[k]?=ϊ j->∃x,X.N[j]?=ϊ x/\N[nt+k]?=ϊ x/\(x,ą)∈sc.names
section
variable {X:Cx} {sc:Scope} {N:List Str} {nt:Nat} {cap:List Nat} {cl gU:List (Str×ę)} {s:ß} {h1:afz} {H:Hp} {σ:St} {π:List (ę×Obj)} {fp:List ę} {C:ę} {t':Nat}
def Inv.abj (I:Inv X π σ H s) (S:mW X sc N nt cap) (dj:∀n c,cl.lookup n=ϊ c↔((n,ą)∈sc.names/\X.env.cells.lookup n=ϊ c)) (kE:Pu sc cl gU C h1) (hf:∀b∈fp,cY X π H b) (iT:∀b∈fp,b<s.heap.objs.size)
  (hk:∀b o,s.heap.get? b=ϊ o->h1.get? b=ϊ o) (hC:s.heap.objs.size<=C) (vU:∃m,h1.Ns C m):Inv (cL X N sc gU C s H fp (X.pn++π)) [] (mV nt cap σ) H { s with heap:=h1,toks:=t' }:=by
 have M:=I.mU;have T:∀x c,cl.lookup x=ϊ c->c<s.heap.objs.size:=λx c e=>by
  let(v,o,W,_):=I.cell x c ((dj x c).mp e).2;exact Í W
 have G:∀x,(relabel sc _).names.lookup x=ϊ .cell\/(relabel sc X.env).names.lookup x=ϊ .free->(x,ą)∈sc.names\/sc.names.lookup x=ϊ _:=λx Z=>by
  rw[Am] at Z
  cases e:sc.names.lookup x with
  |none=>rw[e] at Z;rcases Z with z|z<;>cases z
  |some k =>
   have hm:(x,k)∈sc.names:=by
    let(l1,l2,e1,_):=List.lookup_eq_some_iff.mp e;rw[e1];simp
   rw[e] at Z
   cases k with
   |free=>exact .inl hm
   |cell=>exact .inr rfl
   |_=>revert Z;simp
 have F:∀x,(x,ą)∈sc.names->∃c,X.env.cells.lookup x=ϊ c:=λx Z=>I.ok.has x (S.frees _ Z rfl).2;have L:∀x c,(x,ą)∈sc.names->X.env.cells.lookup x=ϊ c->gU.lookup x=ϊ c:=λx c Z R=>by
  have e:=(dj x c).mpr #[Z,R];let(d,hd):=kE.own x (.inr (by rw[e];rfl))
  rcases kE.old x d hd with ⟨_,q,_⟩|q
  .have Q:=S.cells _ q rfl
   have V:=(S.frees _ Z rfl).1;rw[Q] at V;cases V
  .rw[e] at q
   cases q;exact hd
 have ok:Cx.Ok (cL X N sc gU C s H fp (X.pn++π)):=by
  refine#[I.ok.mod,?_,I.ok.glob,I.ok.blt,hC,?_,?_,?_,I.ok.hd,I.ok.frames,.inl rfl,?_,I.bs,Ó I.ok.jX I.sz,?_,?_,I.stack,I.E8]
  .exact S.kind
  .exact kE.inj (λx y c Z E=>I.ok.inj x y c ((dj x c).mp Z).2 ((dj y c).mp E).2) λx c e=>È (T x c e) hC
  .intro x Z
   rcases G x Z with hm|hm
   .let(c,e):=F x hm
    exact#[c,L x c hm e]
   .exact kE.own x (.inl hm)
  .intro x c Z e
   rcases kE.old x c e with ⟨q,_,_⟩|q
   .exact Ó hC (Nat.le_of_lt q)
   .have V:=(S.frees _ ((dj x c).mp q).1 rfl).1
    have Q:=by simpa using Z
    rw[Q] at V;cases V
  .intro b Y
   refine#[ë (È (iT b Y) hC),λx c e=>?_]
   rcases kE.old x c e with ⟨q,_,_⟩|q
   .exact ŵ (È (iT b Y) (Ó hC (Nat.le_of_lt q)))
   .exact(hf b Y).2.2.2.2.1 x c ((dj x c).mp q).2
  .intro b o e Y
   rcases(hf b Y).2.2.2.1 with z|z
   .exact I.ok.ni b o e z
   .exact absurd (È (Í e) (Ó I.ok.jX z)) (ó _)
  .intro b Y z
   rcases Ð.mp (M b z) with e|e
   .exact(hf b Y).2.1 e
   .exact(hf b Y).2.2.1 e
 let(m,hm):=vU;let(mX,D,B):=I.loc;refine#[ok,rfl,I.bare,Un.kept hk,#[m,hm,λi x v e1 e2 e3=>?_],λx c e=>?_,I.aN.fresh hC,λx c e=>?_,λp A=>?_,I.aN.kept hk,?_]
 .
  have hi:=by
   apply afE;intro K;have:(mV nt cap σ)[i]?=ϊ ϋ:=by
    delta mV;rw[Ù (by simpa using K),ĵ,õ K]
   rw[this] at e2;cases e2
  have U:(cap.map λj=>(σ[j]?).getD ϋ)[i-nt]?=ϊ (ϊ v):=by
   have e:=e2;delta mV at e;rw[ç (by simpa using hi)] at e;simpa using e
  rw[Þ] at U
  cases P:cap[i-nt]? with
  |none=>rw[P] at U;cases U
  |some j =>
   rw[P] at U;have ev:(σ[j]?).getD ϋ=ϊ v:=ahe U;have w:σ[j]?=ϊ (ϊ v):=by
    cases q:σ[j]? with
    |none=>rw[q] at ev;cases ev
    |some z=>rw[q] at ev;exact ň ϊ ev
   let(y,f1,f2,J):=S.HW _ _ P;rw[Nat.add_sub_cancel' hi] at f2;have t:=ahe (f2.symm.trans e1);subst t;let(g1,g2):=S.frees _ J rfl;have h:vK _ y:=.inr g2;let(u,r,l):=B j y v f1 w h;refine#[u,r,.inr #[?_,?_]]
   .show (relabel sc _).names.lookup y=ϊ _\/(relabel sc _).names.lookup y=ϊ _
    rw[Am,g1];erw[ž];split
    .exact .inl rfl
    .exact .inr rfl
   .rcases l with ⟨k,_⟩ | ⟨_,c,R,g⟩
    .have f:X.env.scope.names.lookup y=ϊ _:=k
     rw[f] at g2
     rcases g2 with z|z<;>cases z
    .let(O,W,hd):=g
     exact#[c,L y c J R,O,hk _ _ W,hd]
 .rcases kE.old x c e with ⟨_,_,q⟩|q
  .exact q
  .let(v,O,W,hd):=I.cell x c ((dj x c).mp q).2
   exact#[v,O,hk _ _ W,hd]
 .rcases kE.old x c e with ⟨q,_,_⟩|q
  .exact I.aN.fresh ⋯
  .exact I.jJ x c ((dj x c).mp q).2
 .have a:p∈X.pn++π:=by simpa using A
  let(e,n,ne,nf,d):=I.pin p a;refine#[hk _ _ e,n,ë (È (Í e) hC),λz=>?_,d]
  rcases Ð.mp (M _ z) with q|q
  .exact ne q
  .exact nf q
 .delta mV
  rw[Î,afj,Ã];exact S.len.symm
end
def UW {A} {R} {s} {el tg src} {tests} {sc} {ps} {gL av} {ce} {XT} (hx:∀x s,XT x s->notedBy (ã P w) A ce (λx s'=>R (.error x) s') x s) (J:Nat->ß->Prop)
  (turn:∀n s,J n s->ð (ã P w) A (agn gL) (λr s1=>match r with
   |none=>R (.ok .next) s1
   |some v=>ð (ã P w) A (ř tg gL v) (λ_ s2=>ð (ã P w) A (af5 tg ce v) (λ_ s3 =>
     ð (ã P w) A (forIn tests ό λc r=>if r=ό then do let ok <- ag5 c ce (Ź c ce);pure (ŀ ok) else pure (ŀ r)) (λok s4 =>
      if ok=ό then ð (ã P w) A (Ź el ce) (λy s5=>ð (ã P w) A (call (.builtin "list.append") [av,y]) (λ_ s6=>∃m,m<n/\J m s6) XT s5) XT s4
      else ∃m,m<n/\J m s4) XT s3) XT s2) XT s1) XT s)
  (n) (h:J n s):ů (ã P w) A (.compLoop (.ListComp el [#[tg,src,tests,0]] sc ps) 0 gL av ce) R s:=by
 refine codeAny_loop rfl J (λn s X=>?_) n h;refine wpAny_noted ?_;rw[compTurn_list];refine À (ō (À (Ĝ (turn n s X) (λr s1 Z=>?_) hx)))
 cases r with
 |none=>exact Â Z
 |some v =>
  refine À (Ĝ Z (λ_ s2 W=>?_) hx);refine À (Ĝ W (λ_ s3 V=>À (Ĝ V (λok s4 Y=>?_) hx)) hx)
  cases ok with
  |false=>exact Â #[rfl,Y]
  |true =>
   exact À (À (Ĝ Y (λy s5 U=>À (Ĝ U (λ_ s6 T=>Â (Â #[rfl,T])) hx)) hx))
structure G6 (P) (w) (E el tg src) (tests) (new:Sem ì) (ap) (mk:ę->List V->HO) (ma:List V->Prop) where
 o0:Obj
 live:o0.isFreed=ύ
 Ac:ę->List V->afz->Prop
 clauses:clausesOf E=[#[tg,src,tests,0]]
 turns:∀{R} {s} {gL av} {ce} {XT} (_:∀x s,XT x s->notedBy (ã P w) A ce (λx s'=>R (.error x) s') x s) (J:Nat->ß->Prop)
  (turn:∀n s,J n s->ð (ã P w) A (agn gL) (λr s1=>match r with
   |none=>R (.ok .next) s1
   |some v=>ð (ã P w) A (ř tg gL v) (λ_ s2=>ð (ã P w) A (af5 tg ce v) (λ_ s3 =>
     ð (ã P w) A (forIn tests ό λc r=>if r=ό then do let ok <- ag5 c ce (Ź c ce);pure (ŀ ok) else pure (ŀ r)) (λok s4 =>
      if ok=ό then ð (ã P w) A (Ź el ce) (λy s5=>ð (ã P w) A (call (.builtin ap) [av,y]) (λ_ s6=>∃m,m<n/\J m s6) XT s5) XT s4
      else ∃m,m<n/\J m s4) XT s3) XT s2) XT s1) XT s)
  (n) (_:J n s),ů (ã P w) A (.compLoop E 0 gL av ce) R s
 new:∀{X} {s} {Q},Q (.ref s.heap.objs.size) { s with heap:=s.heap.push o0 }->ð (ã P w) A new Q X s
 start:∀{R} {s} {it acc} {env},ů (ã P w) A (.compLoop E 0 it acc env) R s->ð (ã P w) A (ag6 it) (λnM s'=>ů (ã P w) A (.compLoop E 0 nM acc env) R s') (notedBy (ã P w) A env λx s'=>R (.error x) s') s->ů (ã P w) A (.compStart E 0 it acc env) R s
 init:∀{h},h.get? D=ϊ o0->Ac D [] h
 obj:∀{acc} {h},Ac D acc h->∃o,h.get? D=ϊ o/\∀v,o.data≠.cell v
 js:∀{acc} {h h'},Ac D acc h->(∀o,h.get? D=ϊ o->h'.get? D=ϊ o)->Ac D acc h'
 Ge:∀{acc} {h} {H},ma acc->Ac D acc h->fO P w (upd H D (mk D acc)) h D (mk D acc)
 add:∀{E} {s} {D} {acc} {v} {y} {Q},Ac D acc s.heap->RelV v y->ma acc->ma (acc++[v])->(∀h' tk,Ļ D s.heap h'->Ac D (acc++[v]) h'->Q .none { s with heap:=h',toks:=tk })->ð (ã P w) A (call (.builtin ap) [.ref D,y]) Q E s
section
variable {X:Cx}
def D2 {N} {nt:Nat} {cap} {wi:TI} {g:TG} {tf:TT} {te:TE} {p1:Pos} {use} {R} {π} {s:ß} {σ:St} {H:Hp} {Q:VK} {new} {ap:String} {mk} {ma} (B:G6 X.prog X.w E el tg src tests new ap mk ma) (hc:X.calm=ό) (S:mW X sc N nt cap) (fJ:l9 g nt) (hi:PI X tg src wi)
  (xy:Cx->ì->ß->Prop) (hY:∀cl (C:ę) (s:ß) (H:Hp) ex pn,PG ((cL X N sc cl C s H ex pn).i7 (xy (cL X N sc cl C s H ex pn))) tg g/\PF ((cL X N sc cl C s H ex pn).i7 (xy (cL X N sc cl C s H ex pn))) tests tf/\PE ((cL X N sc cl C s H ex pn).i7 (xy (cL X N sc cl C s H ex pn))) el te)
  (hs:∀x,ú src X.env x=pure x) (I:Inv X π σ H s) (h:wi σ H λJ H1=>Jg mk ma J nt (oz cap σ) g tf te H1 Q)
  (hxe:∀cl (C:ę) (s2:ß) (H2:Hp) fp (D:ę) (x:ì) (s':ß),Inv X π σ H2 s2->s2.heap.objs.size<=C->(∀b∈fp,cY X π H2 b)->xy (cL X N sc cl C s2 H2 fp (X.pn++π)) x s'->notedBy (ã X.prog X.w) X.A (compEnvC sc cl C X.env) (λx l8=>compPost (ã X.prog X.w) X.A X.xe use R (.ref D) C (.error x) l8) x s')
  (si:∀(s':ß) (H1:Hp) (D C:ę) m,(∀h',Ļ C s'.heap h'->Inv X π σ H1 { s' with heap:=h' })->s'.heap.Ns C m->H1 C=ϋ->C≠X.env.locals->C∉X.fs->X.eR.heap.objs.size<=C->(∀x c,X.env.cells.lookup x=ϊ c->c≠C)->(∀p∈X.pn++π,p.1≠C)->Q (.ref D) H1->compPost (ã X.prog X.w) X.A X.xe use R (.ref D) C (.ok .next) s') :
  ð (ã X.prog X.w) X.A (comprehension E sc X.env p1 new ύ (Ź src X.env) use) R X.xe s:=by
 let(cl,x9,dj):=F0 λn f=>I.ok.has n (S.frees _ f rfl).2;refine afO B.clauses hs x9 S.kind S.names (aP (hi π s σ H _ I h) λxv s1 h1=>aP h1 λgL s2 h2=>?_);obtain⟨it,fp,tn,J,H2,e,O,T,gm,f2,W,⟨m0,w0⟩,turn⟩:=h2;subst e;refine B.new (Ug λd h3 l jS sU=>?_);generalize hD:s2.heap.objs.size=D at l jS sU |-;generalize hG:s2.heap.push B.o0=G at l jS sU |-;generalize zx:G.objs.size=C at l jS sU |-;have hC:C=D+1:=by rw[<- zx,<- hG,ĉ,hD]
 have mC:D≠C:=by omega
 have k:=Ū hD;have t:s2.heap.objs.size<=C:=by omega
 have old:=λb o e=>sU b o (hG ▸ Á _ e);have kW:=B.init (sU _ _ (hG ▸ hD ▸ Ê _ B.live));have iT:∀b∈fp,b<s2.heap.objs.size:=λb U=>by
  let(o,e,_):=T.obj _ _ gm b U;exact Í e
 have l:=l λx c e=>by
  let(v,o,a,_):=O.cell x c ((dj x c).mp e).2;exact È (Í a) t
 have IB:=O.abj (t':=s2.toks) S dj l f2 iT old t #[_,jS];have zy:D∉jW X.stack:=λz=>by
  rcases Ð.mp (O.mU D z) with e|e
  .exact absurd (È O.lt k) (by rw[e];exact ó _)
  .exact O.vh k e
 have mz:D∉fp:=λz=>absurd (È (iT D z) k) (ó _);have xx:∀x c,d.lookup x=ϊ c->c≠D:=λx c e z=>by
  rcases l.old x c e with ⟨q,_,_⟩|e
  .rw[z] at q
   exact absurd q (by rw[hC];exact Nat.not_lt.mpr (Ť D))
  .let(v,o,a,_):=O.cell x c ((dj x c).mp e).2
   exact absurd (È (Í a) (by rw[z];exact k)) (ó _)
 have ya:∀p∈X.pn++π,p.1≠D:=λp L z=>absurd (È (Í (O.pin p L).1) (by rw[z];exact k)) (ó _);have IB:=IB.i7 (xy (cL X N sc d C s2 H2 fp (X.pn++π)));have Sr:∀x s',((cL X N sc d C s2 H2 fp (X.pn++π)).i7 _).xe x s'->notedBy _ X.A _ (λx l8=>compPost _ X.A X.xe use R (.ref D) C (.error x) l8) x s':=λx s' z=>hxe d C s2 H2 fp D x s' O t f2 z;generalize M:(cL X N sc d C s2 H2 fp _).i7 _=Y at IB Sr;have mB:∀{P:Hp} {pl},(∀b∈fp,P b=ϋ)->(∀p∈pl,p.1∉fp)->∀b∈fp,cY Y pl P b:=λ{P pl} f L b U=>by
  subst M;let(_,f1,oX,f3,f4,f5):=f2 b U;refine#[f b U,ë (È (iT b U) t),λz=>?_,.inl U,λx c e=>(l.old x c e).elim (λq z=>ŵ (È (iT b U) (Ó t (Nat.le_of_lt q.1))) z) λe=>f4 x c ((dj x c).mp e).2,λp oY=>?_]
  .rcases Ð.mp (O.mU b z) with e|e
   .exact f1 e
   .exact oX e
  .rcases Û.mp oY with z|z
   .exact f5 p z
   .exact λe=>L p z (e ▸ U)
 have zA:=M ▸ (hY _ _ _ _ _ _).1;have zB:=M ▸ (hY _ _ _ _ _ _).2.1;have hE1:=M ▸ (hY _ _ _ _ _ _).2.2;have eP:Y.prog=X.prog:=M ▸ rfl;have eW:Y.w=X.w:=M ▸ rfl;have eA:Y.A=X.A:=M ▸ rfl;have eK:Y.K=X.K:=M ▸ rfl;have eE:Y.env=compEnvC sc d C X.env:=M ▸ rfl;have eC:Y.calm=ό:=M ▸ hc;have eS:Y.eR.heap.objs.size<=D:=M ▸ k;have eF:D∉Y.fs:=M ▸ zy;have eL:D≠Y.env.locals:=M ▸ mC;have eCl:∀x c,Y.env.cells.lookup x=ϊ c->c≠D:=M ▸ xx;have eN:∀p∈Y.pn,p.1≠D:=M ▸ ya;have fin:∀(s':ß) (j:St) (P:Hp) (Z:List V),Inv Y [] j P s'->B.Ac D Z s'.heap->P D=ϋ->ma Z->(∀D,P D=ϋ->Q (.ref D) (upd P D (mk D Z))) ->
   compPost (ã X.prog X.w) X.A X.xe use R (.ref D) C (.ok .next) s':=by
  intro s' j P Z F pl f hz q;subst M;let(m,hm,_):=id F.loc;refine si s' _ D C m (λh' sb=>?_) hm ?_ (λz=>absurd (È O.lt t) (by rw[z];exact ó _)) (O.vh t) (Ó O.sz t) (λx c e z=>?_) (λp L z=>absurd (È (Í (O.pin p L).1) (by rw[z];exact t)) (ó _)) (q D f)
  .have yw:=F.aN.but F.free sb
   have u:=(F.base.but t sb).adopt (o:=mk D Z) k f;refine O.BF (ch:=fp) F.os u (yw.adopt f (B.Ge hz (B.js pl λo e=>(sb.2 D mC).trans e))) F.bare (λb U=>?_);let(_,f1,_,f3,f4,f5):=f2 b U;exact#[f3,f1,f4,f5]
  .rw[bR (Ř mC)]
   exact F.free
  .let(v,o,gp,_):=O.cell x c e
   exact absurd (È (Í gp) (by rw[z];exact t)) (ó _)
 have loop:ů (ã X.prog X.w) X.A (.compLoop E 0 (.ref it) (.ref D) (compEnvC sc d C X.env)) (compPost (ã X.prog X.w) X.A X.xe use R (.ref D) C)
   { s2 with heap:=h3 }:=by
  refine B.turns Sr (λn s'=>∃i Z o P,Inv Y [] (o++oz cap σ) P s'/\o.length=nt/\tn i s'.heap/\(∀b∈fp,P b=ϋ)/\B.Ac D Z s'.heap/\P D=ϋ/\W i n Z P) ?_ m0
   #[0,[],_,H2,IB,by simp,T.keep _ _ _ gm λb _ o e=>old b o e,λb U=>(f2 b U).1,kW,O.aN.fresh k,w0]
  intro n s3 zz;let(i,Z,o3,H3,I3,Ss,je,qE,Su,nD3,w3):=zz;generalize hτ:o3++oz cap σ=j at I3;let(oD,a,ac0):=B.obj Su;have zt:Inv Y [(D,oD)] j H3 s3:=I3.jl λp L=>by
   have e:=by simpa using L
   subst e;exact#[a,nD3,eL,eF,ac0]
  have sZ:∀p∈[(D,oD)],p.1∉fp:=λp L=>by
   have e:=by simpa using L
   subst e;exact mz
  have v7:∀{pl} {fR:St} {P:Hp} {s':ß},Inv Y ([(D,oD)]++pl) fR P s'->B.Ac D Z s'.heap/\P D=ϋ:=λF=>by
   have q:=F.pin (D,oD) (Å _ (ě _ ∅));exact#[B.js Su λo e=>by rw[a] at e;cases e;exact q.1,q.2.1]
  rcases turn i n Z H3 w3 with ⟨stop,hz,q⟩ | ⟨go,hz,N',hN,step⟩
  .have hd:=T.done Y eP eW eK eC i [(D,oD)] s3 j H3 Y.xe zt (mB qE sZ) je stop
   rw[eA] at hd;refine aP hd λr s4 h4=>?_;let(hr,I4):=h4;subst hr;let(JC,n4):=v7 (pl:=[]) (by simpa using I4);exact fin s4 j H3 Z (Inv.j6 I4) JC n4 hz q
  .have hd:=T.item Y eP eW eK eC i [(D,oD)] s3 j H3 Y.xe zt (mB qE sZ) je go
   rw[eA] at hd;refine aP hd λr s4 h4=>?_;let(u,hr,h4):=h4;subst hr;refine aP h4 λ_ s5 h5=>?_;let(x,H5,I5,r5,y5,jY,yP):=h5;have yQ:=I5.pinned (mB yP sZ) (T.obj _ _ jY);have q5:=zA _ s5 j H5 x u _ yQ r5 (hτ ▸ fJ x o3 _ H5 _ Ss (step o3 x H5 Ss y5));rw[eP,eW,eA,eE] at q5;refine aP q5 λ_ s6 h6=>?_;obtain⟨zu,H6,I6,⟨o6,zw,Cr⟩,q6⟩:=h6;have q7:=zB _ s6 zu H6 _ I6 q6;rw[eP,eW,eA,eE] at q7;refine aP q7 λb s7 h7=>?_;let(H7,I7,q7):=h7;have yv:∀{fR:St} {P:Hp} {s':ß},Inv Y ([(D,oD)]++uB fp s5.heap) fR P s'->tn (i+1) s'.heap/\∀b∈fp,P b=ϋ:=λF=>by
    refine#[T.keep _ _ _ jY λb U o e=>(F.pin (b,o) (Å _ (Å _ (tX U e)))).1,λb U=>?_];let(o,e,_):=T.obj _ _ jY b U;exact(F.pin (b,o) (Å _ (Å _ (tX U e)))).2.1
   cases b with
   |false =>
    let(m',hm,w7):=hN _ _ q7;let(CT,n7):=v7 I7;let(t7,f7):=yv I7;exact#[m',hm,i+1,Z,o6,H7,Cr ▸ I7.jl (λp L=>by simp at L),zw,t7,f7,CT,n7,w7]
   |true =>
    have q8:=hE1 _ s7 zu H7 _ I7 q7;rw[eP,eW,eA,eE] at q8;refine aP q8 λy s8 h8=>?_;let(v,H8,I8,r8,q9):=h8;let(m',hm,w8):=hN _ _ q9;let(Jy,n8):=v7 I8;let(t8,f8):=yv I8;have CQ:ma (Z++[v]):=by
     rcases turn (i+1) m' _ H8 w8 with q|q
     .exact q.2.1
     .exact q.2.1
    refine B.add Jy r8 hz CQ λh9 tk9 v5 Jz=>?_;have JA:Inv Y [] zu H8 s8:=I8.jl (λp L=>by simp at L)
    have I9:Inv Y [] zu H8 { s8 with heap:=h9,toks:=tk9 }:=JA.turned (it:=D) (λb o U e=>(v5.2 b U).trans e) n8 eL (.inr eS) eCl (λp L=>eN p (by simpa using L))
    exact#[m',hm,i+1,Z++[v],o6,H8,Cr ▸ I9,zw,T.keep _ _ _ t8 λb U o e=>(v5.2 b (λz=>mz (z ▸ U))).trans e,f8,Jz,n8,w8]
 exact B.start loop (T.self _ _ _ _ _ (T.keep _ _ _ gm λb _ o e=>old b o e) loop)
def RC {el tg src} {tests} {sc} {ps}:G6 P w (.ListComp el [#[tg,src,tests,0]] sc ps) el tg src tests (newList []) "list.append" (λ_ acc=>.lst acc) (λacc=>acc.length<=â) where
 o0:={ cls:=.type _,dict:=ϋ,data:=.seq _ }
 live:=rfl
 Ac:=λD acc h=>∃Z,h.PlainList D Z/\Vals acc Z.toList
 clauses:=rfl
 turns:=UW
 new:=λh=>Č h
 start:=agc
 init:=λe=>#[_,#[_,e],.nil]
 obj:=λ⟨_,⟨_,e⟩,_⟩=>#[_,e,λ_ z=>by cases z]
 js:=λ⟨Z,⟨n,e⟩,r⟩ k=>#[Z,#[n,k _ e],r]
 Ge:=λX ⟨Z,⟨n,e⟩,r⟩=>#[X,_,n,r,by simpa using e]
 add:=λ{A E s D acc v y Q} ⟨Z,W,r⟩ V X _ q=>wpAny_list_append_plain (hsz:=by have e:=r.length;erw[å] at e;omega) W λU Y T=>q U _ T #[_,Y,by rw[Ŕ];exact Vals.append r (.cons V .nil)]
def X2 (hc:X.calm=ό) (S:mW X sc N nt cap) (fJ:l9 g nt) (hi:PI X tg src wi)
 (hY:∀cl C s H ex pn,PG (cL X N sc cl C s H ex pn) tg g/\PF (cL X N sc cl C s H ex pn) tests tf/\PE (cL X N sc cl C s H ex pn) el te)
 (hs:∀x,ú src X.env x=pure x:=by intro _;rfl):PE X (.ListComp el [#[tg,src,tests,0]] sc ps) (rQ wi nt cap g tf te):=by
 intro T s σ H Q I h;exact D2 RC hc S fJ hi (λ_ _ _=>False) hY hs I h (λ_ _ _ _ _ _ _ _ _ _ _ z=>z.elim) λR Z D C m Y W _ _ _ _ _ _ q=>#[m,W,λV U=>#[.ref D,Z,Y V U,rfl,q]]
def X3 {el tg src} {tests} {sc} {ps pos pos'} {N} {nt} {cap} {wi} {g} {tf} {te} {i0} {x0} (s9:X.N.Nodup) (tj:X.N[i0]?=ϊ x0) (tm:Loc X.env.scope x0) (hc:X.calm=ό) (S:mW X sc N nt cap) (fJ:l9 g nt) (hi:PI X tg src wi)
  (hY:∀cl C s H ex pn,PG (cL X N sc cl C s H ex pn) tg g/\PF (cL X N sc cl C s H ex pn) tests tf/\PE (cL X N sc cl C s H ex pn) el te)
  (hs:∀x,ú src X.env x=pure x:=by intro _;rfl)
  (tu:agL (.ListComp el [#[tg,src,tests,0]] sc ps) (ϊ (.Name x0 pos')) pos.line X.env=pure ό:=by rfl)
  (tw:X.fn x0=ό\/X.env.scope.names.lookup x0=ϊ .local:=by first|exact .inl rfl|exact .inr rfl|assumption):PS X (.Assign [.Name x0 pos'] (.ListComp el [#[tg,src,tests,0]] sc ps) pos) (se (rQ wi nt cap g tf te) (lS i0)):=by
 intro G s σ H T I h;rw[exec_Assign_Name_used _ _ _ _ tu];refine À (ō (À ?_));obtain⟨Q,R⟩:∃Q,Q=λv Z=>lS i0 v σ Z T.nx:=#[_,rfl];have h:rQ wi nt cap g tf te σ H Q:=by rw[R];exact h
 have F:∀v Z,Q v Z->T.nx _ Z:=λv Z q=>by rw[R] at q;exact q
 refine À (Ĝ ?_ (λ_ P q=>Â (Â q)) (λ_ _ z=>z));refine D2 RC hc S fJ hi (λ_ _ _=>False) hY hs I h (λ_ _ _ _ _ _ _ _ _ _ _ z=>z.elim) λP Z D C m E B O M A Y y W q=>?_;have L:=E _ (Heap.SameBut.refl ..);let(K,w,u,t,J,r):=id B;have n:Inv X ((C,K)::G) σ Z P:=L.jl λp V=>by
  rcases Ð.mp V with e|e
  .subst e
   exact#[t,O,M,A,λv z=>by rw[J] at z;cases z]
  .exact L.pin p (Å _ e)
 refine wpAny_assign_Name (n6 n s9 tj tm (show RelV (.ref D) _ from rfl) (λf U=>?_) tw);have l:=(U.pin _ (Å _ (Ë ..))).1;refine#[m,#[K,w,u,l,J,r],λd k=>#[_,Z,?_,F _ _ q]];have j:=U.jl λp V=>U.pin p (Å _ (Ì _ V));exact j.turned (λb o i e=>(k.2 b i).trans e) O M (.inr Y) y W
end
noncomputable def Gf (sc:Scope) (on:List (Str×NameKind)) (oN N:List Str) (nt:Nat) (cap:List Nat):Bool :=
 ώ (sc.kind=.function)&&sc.names.all (λx=>ώ (x.2=.local->sc.names.lookup x.1=ϊ .local))&&sc.names.all (λx=>ώ (x.2=.cell->sc.names.lookup x.1=ϊ .cell)) &&
 sc.names.all (λx=>ώ (x.2=.free->sc.names.lookup x.1=ϊ .free/\(on.lookup x.1=ϊ .cell\/on.lookup x.1=ϊ .free)))&&ώ (N.length=nt+cap.length) &&
 (Ô cap.length).all (λk=>match cap[k]? with
  |some j=>match oN[j]? with
   |some x=>ώ (N[nt+k]?=ϊ x)&&ώ ((x,ą)∈sc.names)
   |none=>ύ
  |none=>ό)
def jN (h:Gf sc X.env.scope.names X.N N nt cap=ό):mW X sc N nt cap:=by
 delta Gf at h;erw[Ç,Ĉ,Æ] at h;obtain⟨⟨⟨⟨⟨Z,Y⟩,W⟩,V⟩,U⟩,T⟩:=h;refine#[Z,Y,W,λx S e=>V x S e,U,λk j e=>?_];have R:=(Ä.mp e).1;have:=T k (é.mpr R);rw[e] at this;dsimp only at this
 cases ex:X.N[j]? with
 |none=>rw[ex] at this;cases this
 |some x =>
  rw[ex] at this;erw[Ç,Æ] at this;exact#[x,rfl,this.1,this.2]
end L2
namespace DI
open PySem L2
section
variable {X:Cx} {Ξ:Wd->bF->Prop} {e a b c tg el src:afh} {es rest tests:List afh} {pos:Pos} {f g h:ag9 D} {fa:ag9 (List D)} {ft gt:ag9 Bool}
def mR (hc:X.calm=ό) (S:mW X sc N nt cap) (T:Tg X.K g0 gd nt) (hi:PI X tg src (ee X.K Ξ it))
 (hY:∀cl C s H ex pn,PG (cL X N sc cl C s H ex pn) tg g0/\PF (cL X N sc cl C s H ex pn) tests (tT X.K bS ft)/\PE (cL X N sc cl C s H ex pn) el (tE X.K bS f))
 (hs:∀x,ú src X.env x=pure x:=by intro _;rfl):PE X (.ListComp el [#[tg,src,tests,0]] sc ps) (tE X.K Ξ (aQ nt cap it gd ft f)) :=
 dF (X2 hc S T.kH hi hY hs) fun σ H Q h=>Mj T.imp (λR Z i h=>AL R Z i h) (Nu σ H Q h)
def Fs {ps pos'} {N} {nt} {cap} {it} {gd} {g0} (i0) {x0} (s9:X.N.Nodup) (hc:X.calm=ό) (S:mW X sc N nt cap) (T:Tg X.K g0 gd nt) (hi:PI X tg src (ee X.K Ξ it))
  (hY:∀cl C s H ex pn,PG (cL X N sc cl C s H ex pn) tg g0/\PF (cL X N sc cl C s H ex pn) tests (tT X.K bS ft)/\PE (cL X N sc cl C s H ex pn) el (tE X.K bS f))
  (tj:X.N[i0]?=ϊ x0:=by rfl) (tm:Loc X.env.scope x0:=by first|exact œ rfl|exact ag7 rfl)
  (hs:∀x,ú src X.env x=pure x:=by intro _;rfl)
  (tu:agL (.ListComp el [#[tg,src,tests,0]] sc ps) (ϊ (.Name x0 pos')) pos.line X.env=pure ό:=by rfl)
  (tw:X.fn x0=ό\/X.env.scope.names.lookup x0=ϊ .local:=by first|exact .inl rfl|exact .inr rfl):PS X (.Assign [.Name x0 pos'] (.ListComp el [#[tg,src,tests,0]] sc ps) pos) (tS X.K Ξ (aM (aQ nt cap it gd ft f) (gN i0))) :=
 kO (X3 s9 tj tm hc S T.kH hi hY hs tu tw) λD σ H h=>by
  have Z:=Ee (te:=tE X.K Ξ f) D σ H (A0 D σ H h);exact Mj T.imp (λR Y i h=>AL R Y i h) (Nu σ H _ Z)
end
end DI
namespace L2
open PySem PySem.Spec PyProof.Rows
end L2
namespace DI
open PySem L2
end DI
namespace L2
open PySem PySem.Spec PyProof.Rows
section
variable {X:Cx}
theorem Mk:∀ys k,(∀i v,ys[i]?=ϊ v->∃t,v=ag8 (0+((k+i:Nat))*1) t)->Vals ((List.range' k ys.length).map λi:Nat=>V.int (0+(i))) ys
 | [],k,_=>.nil
 |y::ys,k,h=>by
  refine .cons ?_ (Mk ys _ λi v e=>?_)
  .let(t,e):=h 0 y rfl
   rw[e];exact#[t,by rw[Int.mul_one];rfl]
  .let(t,e):=h (i+1) v (by simpa using e)
   exact#[t,by rw[e,show k+(i+1)=k+1+i by omega]]
def Vz (hc:X.calm=ό):cX X (.type "list") (λxs H Q=>∃(p:ę) (n:Nat),xs=[.ref p]/\H p=ϊ (.bL 0 n)/\n<=1000000/\∀q,H q=ϋ->Q (.ref q) (upd H q (.lst ((Ô n).map λi:Nat=>V.int (0+(i)))))):=by
 intro M s σ H xs L Q I r h;let(p,n,rfl,W,U,q):=h;let(u,rfl,T):=vals1 r;cases T;let(t1,K,t3,S):=I.aN p _ W;refine call_list_range (I.ok.hd hc) S (small_one ⋯ ⋯ ⋯ ⋯) (n:=n) ?_ ⋯ λJ G R P O N hit=>?_
 .rw[rangeSize_one]
  split<;>omega
 .let(Z,hit):=hit
  have Y:=Mk R.toList 0 λi v e=>by
   let(t,e):=hit i v (by simpa using e);exact#[t,by rw[e,afq]]
  rw[å,Z,<- List.range_eq_range'] at Y;refine#[.ref _,_,I.laid (o:=.lst _) O (ahd _) #[?_,_,P,Y,by simpa using N],rfl,q _ (I.aN.fresh (ahd _))];rw[Ã,Ŗ];exact Ó U (by decide)
end
end L2
namespace DI
open PySem L2
section
variable {X:Cx} {Ξ:Wd->bF->Prop} {a:afh} {p pos:Pos} {fa:ag9 (List D)}
def ZG (n):aB K w (bL 0 n) ((Ô n).map λi:Nat=>V.int (0+(i))):=by
 have:bL 0 n=((Ô n).map λi:Nat=>(0)+(i:Int)).map D.int:=by
  rw[ï];rfl
 rw[this,show ((Ô n).map λi=>V.int _)=((Ô n).map λi:Nat=>(0)+(i:Int)).map _ by rw[ï];rfl];exact aB.ints _
end
section
variable {X:Cx} {Ξ:Wd->bF->Prop} {a:afh} {p pos:Pos} {f g:ag9 D} {fa:ag9 (List D)}
def vA (d i:D) (s:ai):Res D:=match d,i with
 | .aw k,.int n=>match s[k]? with
  |some (.lst Z)=>match dZ Z.length n with
   |some j=>match Z[j]? with
    |some x=>if ώ (Z.length<â)=ό then ok x (s.set k (.lst (Z.eraseIdx j))) else ϋ
    |none=>ϋ
   |none=>ϋ
  |_=>ϋ
 |_,_=>ϋ
def yx (f g:ag9 D):ag9 D:=λenv s=>aq (f env s) λd s=>if iE d s=ό then aq (g env s) λx s=>vA d x s else ϋ
theorem aB.erase:∀{ds} {xs} j,aB K w ds xs->aB K w (ds.eraseIdx j) (xs.eraseIdx j)
 | [],xs,j,h=>by
  have e:=h;subst e;exact h
 |d::ds,xs,0,h=>by
  let(v,r,rfl,_,dr):=h;exact dr
 |d::ds,xs,j+1,h=>by
  let(v,r,rfl,Z,dr):=h;exact#[v,_,rfl,Z,aB.erase j dr]
def abk (S:aR K w) (dv:DV K w d v) (dn:DV K w i n) (h:Out K Ξ w (vA d i w.aO) q):∃a xs m j y,v=.ref a/\n=.int m/\w.H a=ϊ (.lst xs)/\dZ xs.length m=ϊ j/\xs[j]?=ϊ y/\xs.length<â/\∃w' x,w'.H=upd w.H a (.lst (xs.eraseIdx j))/\q w' x/\DV K w' x y:=by
 delta vA at h;split at h
 .rename_i k m
  split at h
  .rename_i X Y
   split at h
   .rename_i j W
    split at h
    .rename_i x V
     split at h
     .rename_i U
      let(a,e1,rfl):=dv;have e2:=dn;subst e2;let(xs,T,Z):=S.cell k a _ e1 Y;let(y,R,Q):=Z.get' j x V;have nd:(Cell.lst X)≠.dead:=by intro z;cases z
      have le:=(Fw.put (o:=.lst (xs.eraseIdx j)) (c:=.lst (X.eraseIdx j)) S e1 Y nd).le;refine#[a,xs,m,j,y,rfl,rfl,T,by rw[<- Z.length];exact W,R,by rw[<- Z.length];exact ē U,_,x,rfl,?_,le _ _ Q];exact h _ le (S.Cn e1 Y nd #[_,eJ,le.all (Z.erase j)]) rfl
     .exact h.elim
    .exact h.elim
   .exact h.elim
  .exact h.elim
 .exact h.elim
def ac1 {apos dw} (ho:PE X o (tE X.K Ξ f)) (ha:PE X a (tE X.K Ξ g))
  (xP:agH o "pop" X.env (Ź o X.env)=Ź o X.env:=by rfl)
  (yn:((ũ dw (Õ [a] X.env)).all (λx=>!x.1)&&(backToKw dw (agN [] X.env)).all (λx=>x.1.isSome)
   && ώ (([a]).length+([]:List agM).length+(if ([]:List agM).isEmpty then 0 else 1)<30))=ό:=by rfl)
  (xQ:(apos.endLine==dw.line)=ό:=by rfl) (hs:Õ [a] X.env=(ύ,Ź a X.env)::Õ [] X.env:=by rfl) (xp:(ũ dw (Õ [] X.env)).any (·.1)=ύ:=by rfl) :
  PE X (.Call (.Attribute o "pop" apos) [a] [] dw) (tE X.K Ξ (yx f g)) :=
 dF (Qn PySem.F.plainAttrs_list PySem.F.slot_list_pop PySem.F.type_list_pop Xr ho (oh ha ot hs) xP yn xQ hs xp) fun σ H Q T=>by
  let(w,env,Z,S,W,h):=T;subst Z;refine#[w,env,rfl,S,W,(Out.aq h).mono λR d P V Y v U=>?_];split at Y
  .rename_i O
   let(k,p,n,N,rfl,rfl,e1,e2,M,l):=Oj V U O;refine#[.inl #[rfl,N,bJ.of M],R,env,rfl,V,W.le P,(Out.aq Y).mono λi y L J I u G=>?_];let(E,D,m,j,z,C,rfl,B,A,t,e,c,x,Z,s,r):=abk J (L _ _ U) G I;let(q,b,s3,s4):=Fe A;have hz:=sizeLine_eq;refine#[E,D,m,j,z,C,rfl,B,by omega,by omega,q,t,?_];rw[<- Z];exact s _ r
  .exact Y.elim
def A3 (ds:List D) (s:ai):Res D:=match ds with
 | [.int j]=>if (ώ (0<=j)&&ώ (j<=1000000))=ό then ok (.aw s.length) (s++[.lst (bL 0 j.toNat)]) else ϋ
 |_=>ϋ
def X4 {p2 jb} (ha:PA X [a] (tA X.K Ξ fa)) (hc:X.calm=ό) (hg:Gl X "list") (hm:X.mg "list"=ϋ) (zq:Gl X "range") (zr:X.mg "range"=ϋ)
  (he:Õ [a] X.env=(ύ,Ź a X.env)::Õ [] X.env:=by rfl) (cz:(ũ jb (Õ [] X.env)).any (·.1)=ύ:=by rfl)
  (lB:Õ [.Call (.Name "range" p2) [a] [] jb] X.env=(ύ,Ź (.Call (.Name "range" p2) [a] [] jb) X.env)::Õ [] X.env:=by rfl) (sm:(ũ pos (Õ [] X.env)).any (·.1)=ύ:=by rfl) :
  PE X (.Call (.Name "list" p) [.Call (.Name "range" p2) [a] [] jb] [] pos) (tE X.K Ξ (eB A3 fa)) :=
 dF (wL (Vz hc) hg hm nofun (oh (wL LU zq zr nofun ha (by decide) (by decide) he cz) ot lB) (by decide) (by decide) lB sm) fun σ H Q O=>by
  let(w,env,N,S,M,h):=O;subst N;refine#[w,env,rfl,S,M,(Out.aq h).mono λY G F W Z E L=>?_];delta A3 at Z;split at Z
  .rename_i j
   split at Z
   .rename_i U
    erw[Ç,Æ] at U;let(v,r,rfl,J,dr):=L;have e1:=J;have e2:=dr;subst e1 e2;refine#[j,rfl,λq T=>#[q,_,rfl,by rw[eJ,agU U.1],by omega,λl I=>?_]];have R:=I;have P:=W.grow (o:=.bL 0 j) T;have le:=(Fw.cell (o:=.lst ((Ô j.toNat).map λi:Nat=>V.int (0+(i)))) (c:=.lst (bL 0 j.toNat)) P R).le;refine Z _ ((Fw.grow T).le.trans le) (P.GZ R #[_,eJ,ZG _]) rfl _ #[l,?_,rfl];show (Y.ρ++[l])[Y.aO.length]?=ϊ l;rw[<- W.len];simp
   .exact Z.elim
  .exact Z.elim
end
open HT PyProof.Rows
def rX:List D->Option (List (List Int))
 | []=>ϊ []
 | .tup Z::r=>match ki Z,rX r with
  |some Y,ϊ X=>ϊ (Y::X)
  |_,_=>ϋ
 |_::_=>ϋ
noncomputable def tupI (ns:List Int):D:=.tup (ns.map D.int)
def X5:∀{bP},rX ds=ϊ bP->ds=bP.map tupI:=by
 induction ds with
 |nil=>intro bP h;cases h;rfl
 |cons d r ih =>
  intro bP h
  cases d with
  |tup X =>
   erw[rX] at h
   cases Z:ki X with
   |none=>rw[Z] at h;cases h
   |some W =>
    cases Y:rX r with
    |none=>rw[Z,Y] at h;cases h
    |some V =>
     rw[Z,Y] at h;cases h;rw[ih Y,wW Z];rfl
  |_=>cases h
def WH:rX (bP.map tupI)=ϊ bP:=by
 induction bP with
 |nil=>rfl
 |cons b bs ih=>erw[Ü,tupI,rX,t9];rw[ih]
section
variable {X:Cx} {Ξ:Wd->bF->Prop}
def Ek (h:Vals xs us):∀{q:List Nat},(∀i∈q,i<us.length)->Vals (q.map λi=>xs.getD i .aD) (q.map λi=>us.getD i Value.none):=by
 intro q
 induction q with
 |nil=>intro _;exact .nil
 |cons i q ih =>
  intro Z;refine .cons ?_ (ih λj Y=>Z j (Ì _ Y));have hi:=Z i Ë;clear ih Z
  induction h generalizing i with
  |nil=>simp at hi
  |cons a _ ih =>
   cases i with
   |zero=>exact a
   |succ i=>simpa using ih i (by simpa using hi)
def EJ {K} {w} {ds} {xs} (h:aB K w ds xs):∀{q:List Nat},(∀i∈q,i<ds.length)->aB K w (q.map λi=>ds.getD i .aD) (q.map λi=>xs.getD i .aD):=by
 intro q
 induction q with
 |nil=>intro _;exact rfl
 |cons i q ih =>
  intro Z;have hi:=Z i Ë;let(v,e,Y):=h.get' i _ (É hi);refine#[_,_,rfl,?_,ih λj X=>Z j (Ì _ X)];have e1:ds.getD i .aD=ds[i]:=by simp[hi]
  have e2:xs.getD i .aD=v:=by simp[e]
  show DV K w (ds.getD i _) (xs.getD i _);rw[e1,e2];exact Y
def EK {O} {ks} {f:α->D} {d} {q} (hp:ST.Pm ks.length q) (hu:ST.Up O (ST.ky (λi=>ks.getD i d) q) ks.length):q.toList.map (λi=>(ks.map f).getD i .aD)=(ST.gf O ks).map f:=by
 rw[<- ST.WG hp hu,ï];refine ae8 λi hi=>?_;have:=é.mp (hp.2.mem_iff.mp hi);simp[this]
def NA {K} {w} {ns} {xs} {us} (h:aB K w (ns.map D.int) xs) (r:Vals xs us):Ņ us ns:=by
 induction ns generalizing xs us with
 |nil =>
  have e:=h;subst e;cases r;exact .nil
 |cons n ns ih =>
  let(v,t,rfl,Z,h):=h;cases Z
  cases r with
  |cons a r =>
   let(t,rfl):=a;exact .cons n t (ih h r)
def X6 {σ:L2.St} {s} {w} (I:Inv X π σ w.H s) {bP}:∀{xs} {us},aB X.K w (bP.map tupI) xs->Vals xs us->ST.k9 s.heap us bP:=by
 induction bP with
 |nil =>
  intro xs us h r;have e:=h;subst e;cases r;exact .nil
 |cons T bP ih =>
  intro xs us h r;let(v,t,rfl,Y,h):=h;let(a,S,rfl,W,Z):=Y
  cases r with
  |cons e r =>
   cases e;let(aj,V,U,_):=I.tuple W;exact .cons U (by simpa using NA Z V) (ih h r)
end
end DI
namespace TK
open PySem PySem.W PyProof.Rows DI
mutual
noncomputable def kd:D->Bool
 | .int _=>ό
 | .str x=>PyData.strOk x
 | .tup Z=>dP Z
 |_=>ύ
noncomputable def dP:List D->Bool
 | []=>ό
 |k::Z=>kd k&&dP Z
end
mutual
def KA (h:afz):D->ì->Prop
 | .int i,v=>∃t,v=.int i t
 | .str x,v=>∃t,v=.str x t
 | .tup Z,v=>∃a o aj n,v=.ref a/\h.get? a=ϊ o/\o.cls=.type "tuple"/\o.data=.seq aj n/\dQ h Z aj.toList
 |_,_=>False
def dQ (h:afz):List D->List ì->Prop
 | [],Z=>Z=[]
 |k::Y,Z=>∃v r,Z=v::r/\KA h k v/\dQ h Y r
end
mutual
theorem rL:∀k,kd k=ό->lay k=ό
 | .int _,_=>rfl
 | .str _,h=>h
 | .tup Z,h=>by erw[kd] at h;exact AQ Z h
 | .aD,h=>by cases h
 | .bl _,h=>by cases h
 | .lst _,h=>by cases h
 | .cb _,h=>by cases h
 | .aw _,h=>by cases h
 | .ty _,h=>by cases h
 | .cw _,h=>by cases h
 | .exc ..,h=>by cases h
 | .cx ..,h=>by cases h
theorem AQ:∀ks,dP ks=ό->eT ks=ό
 | [],_=>rfl
 |k::ks,h=>by
  erw[dP,eT,Ç] at h |-;exact#[rL k h.1,AQ ks h.2]
end
mutual
theorem uG:∀x y,kd x=ό->kd y=ό->(beq x y=ό↔x=y)
 | .int i,.int j,_,_=>by simp[beq]
 | .str i,.str j,_,_=>by simp[beq]
 | .tup Z,.tup Y,h,g=>by
  erw[beq,EL Z Y h g];exact#[λe=>by rw[e],λe=>by injection e]
 | .int _,.str _,_,_=>by simp[beq]
 | .int _,.tup _,_,_=>by simp[beq]
 | .str _,.int _,_,_=>by simp[beq]
 | .str _,.tup _,_,_=>by simp[beq]
 | .tup _,.int _,_,_=>by simp[beq]
 | .tup _,.str _,_,_=>by simp[beq]
 | .aD,_,h,_=>by cases h
 | .bl _,_,h,_=>by cases h
 | .lst _,_,h,_=>by cases h
 | .cb _,_,h,_=>by cases h
 | .aw _,_,h,_=>by cases h
 | .ty _,_,h,_=>by cases h
 | .cw _,_,h,_=>by cases h
 | .exc ..,_,h,_=>by cases h
 | .cx ..,_,h,_=>by cases h
 |_,.aD,_,h=>by cases h
 |_,.bl _,_,h=>by cases h
 |_,.lst _,_,h=>by cases h
 |_,.cb _,_,h=>by cases h
 |_,.aw _,_,h=>by cases h
 |_,.ty _,_,h=>by cases h
 |_,.cw _,_,h=>by cases h
 |_,.exc ..,_,h=>by cases h
 |_,.cx ..,_,h=>by cases h
theorem EL:∀xs ys,dP xs=ό->dP ys=ό->(i9 xs ys=ό↔xs=ys)
 | [],[],_,_=>by simp[i9]
 | [],_::_,_,_=>by simp[i9]
 |_::_,[],_,_=>by simp[i9]
 |x::xs,y::ys,h,g=>by
  erw[dP,Ç] at h g;erw[i9,Ç,uG x y h.1 g.1,EL xs ys h.2 g.2,ae1]
end
mutual
theorem KA.reads:∀k v,KA h k v->∃as,Reads h v (py k) as
 | .int i,v,q=>by let(t,rfl):=q;exact#[_,.int i t]
 | .str x,v,q=>by let(t,rfl):=q;exact#[_,.str x t]
 | .tup Z,v,q=>by
  erw[KA] at q;let(a,o,aj,n,rfl,Y,X,W,r):=q;let(as,r):=dQ.reads Z _ r;exact#[as,.tuple Y X W r]
 | .aD,_,q=>by cases q
 | .bl _,_,q=>by cases q
 | .lst _,_,q=>by cases q
 | .cb _,_,q=>by cases q
 | .aw _,_,q=>by cases q
 | .ty _,_,q=>by cases q
 | .cw _,_,q=>by cases q
 | .exc ..,_,q=>by cases q
 | .cx ..,_,q=>by cases q
theorem dQ.reads:∀ks vs,dQ h ks vs->∃as,ReadsAll h vs (dU ks) as
 | [],vs,q=>by cases q;exact#[_,.nil]
 |k::ks,vs,q=>by
  let(v,r,rfl,Z,Y):=q;let(as,Z):=KA.reads k v Z;let(bs,Y):=dQ.reads ks r Y;exact#[_,.cons Z Y]
end
def abl (q:KA h y (.int i t)):y=.int i:=by
 cases y with
 |int j=>let(_,e):=q;cases e;rfl
 |str j=>let(_,e):=q;cases e
 |tup Z=>let(_,_,_,_,e,_):=q;cases e
 |_=>cases q
def abm (q:KA h y (.str i t)):y=.str i:=by
 cases y with
 |str j=>let(_,e):=q;cases e;rfl
 |int j=>let(_,e):=q;cases e
 |tup Z=>let(_,_,_,_,e,_):=q;cases e
 |_=>cases q
def abn (q:KA h y (.ref a)):∃ks o aj n,y=.tup ks/\h.get? a=ϊ o/\o.cls=.type "tuple"/\o.data=.seq aj n/\dQ h ks aj.toList:=by
 cases y with
 |str j=>let(_,e):=q;cases e
 |int j=>let(_,e):=q;cases e
 |tup ks =>
  let(_,o,aj,n,e,r):=q;cases e;exact#[ks,o,aj,n,rfl,r]
 |_=>cases q
mutual
theorem KA.inj:∀x y v,KA h x v->KA h y v->x=y
 | .int i,y,v,p,q=>by
  let(t,rfl):=p;exact(abl q).symm
 | .str i,y,v,p,q=>by
  let(t,rfl):=p;exact(abm q).symm
 | .tup Z,y,v,p,q=>by
  let(a,o,aj,n,rfl,Y,T,X,r):=p;let(S,R,Q,P,rfl,W,O,V,U):=abn q;cases Y.symm.trans W;cases X.symm.trans V;rw[dQ.inj Z _ _ r U]
 | .aD,_,_,q,_=>by cases q
 | .bl _,_,_,q,_=>by cases q
 | .lst _,_,_,q,_=>by cases q
 | .cb _,_,_,q,_=>by cases q
 | .aw _,_,_,q,_=>by cases q
 | .ty _,_,_,q,_=>by cases q
 | .cw _,_,_,q,_=>by cases q
 | .exc ..,_,_,q,_=>by cases q
 | .cx ..,_,_,q,_=>by cases q
theorem dQ.inj:∀xs ys vs,dQ h xs vs->dQ h ys vs->xs=ys
 | [],ys,vs,p,q=>by
  cases p
  cases ys with
  |nil=>rfl
  |cons y ys=>let(_,_,e,_):=q;cases e
 |x::xs,ys,vs,p,q=>by
  let(v,r,rfl,Z,Y):=p
  cases ys with
  |nil=>cases q
  |cons y ys =>
   let(X,W,e,g1,g2):=q;cases e;rw[KA.inj x y v Z g1,dQ.inj xs ys r Y g2]
end
mutual
theorem KA.keep (hk:∀a o,h.get? a=ϊ o->o.cls=.type "tuple"->(∃aj n,o.data=.seq aj n)->h'.get? a=ϊ o):∀x v,KA h x v->KA h' x v
 | .int i,v,p=>p
 | .str i,v,p=>p
 | .tup X,v,p=>by
  let(a,o,aj,n,e,W,Z,Y,r):=p;exact#[a,o,aj,n,e,hk a o W Z #[aj,n,Y],Z,Y,dQ.keep hk X _ r]
 | .aD,_,q=>by cases q
 | .bl _,_,q=>by cases q
 | .lst _,_,q=>by cases q
 | .cb _,_,q=>by cases q
 | .aw _,_,q=>by cases q
 | .ty _,_,q=>by cases q
 | .cw _,_,q=>by cases q
 | .exc ..,_,q=>by cases q
 | .cx ..,_,q=>by cases q
theorem dQ.keep (hk:∀a o,h.get? a=ϊ o->o.cls=.type "tuple"->(∃aj n,o.data=.seq aj n)->h'.get? a=ϊ o):∀xs vs,dQ h xs vs->dQ h' xs vs
 | [],vs,p=>p
 |x::xs,vs,p=>by
  let(v,r,e,Z,Y):=p;exact#[v,r,e,KA.keep hk x v Z,dQ.keep hk xs r Y]
end
def Ou (h:k∈ks):dep k<=dB ks:=by
 induction ks with
 |nil=>cases h
 |cons x Z ih =>
  rcases Ð.mp h with rfl|h
  .exact Nat.le_max_left ..
  .exact Ó (ih h) (Nat.le_max_right ..)
mutual
noncomputable def hs (w:ģ):D->Int
 | .int i=>hashInt i
 | .str x=>hashStr w x
 | .tup Z=>reduceHash (ag1 (kJ w Z))
 |_=>0
noncomputable def kJ (w:ģ):List D->List Int
 | []=>[]
 |k::Z=>hs w k::kJ w Z
end
mutual
noncomputable def dr:D->Nat
 | .int _=>1
 | .str _=>1
 | .tup Z=>pf Z+1
 |_=>0
noncomputable def pf:List D->Nat
 | []=>0
 |k::Z=>dr k+pf Z
end
def ZH (w) (xs ys):kJ w (xs++ys)=kJ w xs++kJ w ys:=by
 induction xs with
 |nil=>rfl
 |cons x xs ih=>erw[č,kJ,ih]
def ZI (xs ys):pf (xs++ys)=pf xs+pf ys:=by
 induction xs with
 |nil=>simp[pf]
 |cons x xs ih=>erw[č,pf,ih,afZ]
section
variable {prog:Ć} {w:ģ}
def X7 (hu:A.units<agZ) (ho:s.heap.get? a=ϊ o) (hc:o.cls=.type "tuple") (hd:o.data=.seq items m) (hi:dQ s.heap ks items.toList)
 (ih:∀k∈ks,∀A' s' v E' Q',A'.units<=A.units+1->KA s'.heap k v->Q' (hs w k) { s' with toks:=s'.toks+dr k }->ð (ã prog w) A' (pyHash v) Q' E' s')
 (h:Q (hs w (.tup ks)) { s with toks:=s.toks+dr (.tup ks) }):ð (ã prog w) A (pyHash (.ref a)) Q E s:=by
 have Z:s.TypeIs (.ref a) _:=#[o,ho,hc]
 first|refine À (wpAny_cRoomFor_or (.inr hu) ?_)|skip
 refine À (agT Z agi.lookup ?_);refine À (agT Z agi.lookup ?_);refine À (wpAny_callSpecialIfBoundUnlessNone?_slot Z agi (Ą agi Z F.entry_tuple_hash ?_ (F.args_tuple_hash_1 _)));show ð _ _ (afy _ >>= _) _ _ s;refine À (wpAny_tupleItemsOf ho hd ?_);refine À ?_;rw[<- Array.forIn_toList];refine agy _
  (λrest b s'=>∃done left,ks=done++left/\dQ _ left rest/\b.toList=kJ w done/\s'={ s with toks:=s.toks+pf done })
  _ ?_ ?_ _ _ #[[],ks,rfl,hi,rfl,rfl]
 .intro x rest b s' zz;let(done,left,e,Y,W,rfl):=zz
  cases left with
  |nil=>cases Y
  |cons k left =>
   let(T,S,ex,V,U):=Y;cases ex;refine À (ih k (by rw[e];simp) _ _ _ _ _ ?_ V ?_)
   .exact ahd _
   .first
     |exact Â #[done++[k],left,by simp[e],U,by simp[W,ZH,kJ],by simp[afZ,ZI,pf]]
     |exact À _
 .intro b s' zz;let(done,left,e,Y,W,rfl):=zz
  cases left with
  |cons k left=>let(_,_,ex,_):=Y;cases ex
  |nil =>
  rw[ĕ] at e;subst e;erw[hs,dr] at h;show ð _ _ (retInt _) ..;rw[W];generalize ag1 _=z at h |-;refine wpAny_ret_mkInt ?_
  show ð _ _ (if (ώ _&&ώ _)=ό then _ else _) Q E _
  delta reduceHash at h;by_cases X:(ώ (-(2) ^ 63<=z)&&ώ (z<2 ^ 63))=ό
  .rw[õ X]
   rw[õ X] at h;exact Â (by simpa [afZ] using h)
  .rw[ÿ X]
   rw[ÿ X] at h;exact À (ş (Â (by simpa [afZ] using h)))
def ZJ:∀n k,dep k<=n->∀A s v E Q,KA s.heap k v->A.units+n<agZ->Q (hs w k) { s with toks:=s.toks+dr k }->ð (ã prog w) A (pyHash v) Q E s:=by
 intro n
 induction n with
 |zero =>
  intro k Z A s v E Q q Y h
  cases k with
  |int i=>let(t,rfl):=q;exact wpAny_pyHash_int h
  |str i=>let(t,rfl):=q;exact wpAny_pyHash_str h
  |tup X=>simp[dep] at Z
  |_=>cases q
 |succ n ih =>
  intro k Z A s v E Q q Y h
  cases k with
  |int i=>let(t,rfl):=q;exact wpAny_pyHash_int h
  |str i=>let(t,rfl):=q;exact wpAny_pyHash_str h
  |tup X =>
   erw[dep] at Z;let(a,o,items,m,rfl,W,V,U,hi):=q;exact X7 ⋯ W V U hi (λk T S R v P O L N M=>ih k (by have:=Ou T;omega) S R v P O N ⋯ M) h
  |_=>cases q
def X8:∀n k,dep k<=n->∀{A} {s} {v} {E} {Q},KA s.heap k v->Q ό s->ð (ã prog w) A (eqIsQuiet n v) Q E s:=by
 intro n
 induction n with
 |zero =>
  intro k Z A s v E Q q h
  cases k with
  |int i=>let(t,rfl):=q;exact Â h
  |str i=>let(t,rfl):=q;exact Â h
  |tup W=>simp[dep] at Z
  |_=>cases q
 |succ n ih =>
  intro k Z A s v E Q q h
  cases k with
  |int i=>let(t,rfl):=q;exact Â h
  |str i=>let(t,rfl):=q;exact Â h
  |tup W =>
   erw[dep] at Z;let(a,o,items,m,rfl,V,P,O,hi):=q;have U:s.TypeIs (.ref a) _:=#[o,V,P];delta eqIsQuiet;refine À (agT U F.slot_tuple_eq.lookup ?_);refine À (afF U isSubtype_tuple_tuple ?_);refine À (Ď V O ?_);refine À ?_;rw[<- Array.forIn_toList];refine agy _ (λrest r Y=>r.1=ϋ/\Y=s/\∃left,dQ _ left rest/\∀k∈left,dep k<=n) _ ?_ ?_ _ _ #[rfl,rfl,W,hi,λk N=>by have:=Ou N;omega]
   .intro v rest r Y zz;let(T,rfl,left,S,R):=zz
    cases left with
    |nil=>cases S
    |cons k left =>
     let(K,J,ex,M,L):=S;cases ex;refine À (ih k (R k Ë) M ?_);exact Â #[rfl,rfl,left,L,λu X=>R u (Ì _ X)]
   .rintro ⟨I,H⟩ Y ⟨T,rfl,_⟩
    subst T;exact Â h
  |_=>cases q
def C3 (h:afz) (ks:List D) (a:ę):Prop:=dP ks=ό/\dB ks<=6/\KA h (.tup ks) (.ref a)
noncomputable instance ah9:DecidableEq (List D):=λa b=>Classical.propDecidable _
def abo (hu:A.units+10<agZ) (hx:C3 s.heap x a) (hy:C3 s.heap y b) (h:Q (ώ (x=y)) s):ð (ã prog w) A (PySem.eqBool (.ref a) (.ref b)) Q E s:=by
 let(W,N,Z):=hx;let(V,M,Y):=hy;let(as,Z):=KA.reads _ _ Z;let(bs,Y):=KA.reads _ _ Y;have U:lay (.tup x)=ό:=by exact AQ x W
 have T:lay (.tup y)=ό:=by exact AQ y V
 let(S,R):=lL _ U;let(P,O):=lL _ T;have e:=SeqAt.eqAt_reads _ _ A s _ _ as bs Z Y S P (by rw[R,O];erw[dep];omega);rw[uD _ _ U T] at e;refine e prog w E Q ?_;have:beq (.tup x) (.tup y)=ώ (x=y):=by
  have:=EL x y W V;erw[beq]
  cases X:i9 x y with
  |true=>exact(Ï (this.mp X)).symm
  |false=>exact(ø λz=>by rw[this.mpr z] at X;cases X).symm
 rw[this];exact h
def kind (prog) (w):HeapKind prog w (List D) where
 is:=C3
 hash:=λT=>hs w _
 draws:=λT=>dr _
 room:=λA=>A.units+10<agZ
 inj:=λX W=>by have:=KA.inj _ _ _ X.2.2 W.2.2;injection this
 keeps:=λx S R hs=>#[x.1,x.2.1,KA.keep (λb u V Q Y=>(hs.2 b (λe=>by
  subst e;rw[S] at V;cases V;let(_,_,Y):=Y;rw[R] at Y;cases Y)).trans V) _ _ x.2.2]
 pyHash:=λU Z h=>ZJ 7 _ (by erw[dep];have:=Z.2.1;omega) _ _ _ _ _ Z.2.2 ⋯ h
 eqBool:=λU X W h=>abo U X W h
 quiet:=λZ h=>X8 8 _ (by erw[dep];have:=Z.2.1;omega) Z.2.2 h
end
end TK
namespace TK
open PySem PySem.W PyProof.Rows DI L2
def DX.js (h1 h2) (h:DX a es h1) (k:∀o,h1.get? a=ϊ o->h2.get? a=ϊ o):DX a es h2:=by
 let(z,o,Z,Y,X,r):=h;exact#[z,o,Z,Y,k o X,r]
def QK (x:DX a es h):fO P w H h a (.ext (DX a es)):=by
 let(z,o,Y,X,Z,r):=id x;exact#[x,#[o,Z],DX.js]
def AllK (w:ģ) (ax:List (D×Int)):Prop:=∀p∈ax,∃Z,p.1=.tup Z/\dP Z=ό/\dB Z<=6/\p.2=hs w p.1
noncomputable def aj:D->List D
 | .tup Z=>Z
 |_=>[]
def XS:List (D×Int)->List ę->List (List D×ę×ì)
 |p::r,a::as=>(aj p.1,a,.bool ό)::XS r as
 |_,_=>[]
def abp:∀{as},ax.length=as.length->∀p a,XS (ax++[p]) (as++[a])=XS ax as++[(aj p.1,a,.bool ό)]:=by
 induction ax with
 |nil =>
  intro as e p a
  cases as with
  |nil=>rfl
  |cons _ _=>simp at e
 |cons q r ih =>
  intro as e p a
  cases as with
  |nil=>simp at e
  |cons b as =>
   erw[č,XS];rw[ih (by simpa using e)]
def abq:∀{as},ax.length=as.length->(XS ax as).length=ax.length:=by
 induction ax with
 |nil=>intro as e;cases as<;>rfl
 |cons q r ih =>
  intro as e
  cases as with
  |nil=>simp at e
  |cons b as=>erw[XS,Ú,ih (by simpa using e)]
def Ov:∀{as},AllK w ax->ax.length=as.length->(XS ax as).map (λx=>D.tup x.1)=ax.map (·.1):=by
 induction ax with
 |nil=>intro as _ e;cases as<;>rfl
 |cons q r ih =>
  intro as k e
  cases as with
  |nil=>simp at e
  |cons b as =>
   let(Y,e1,_):=k q Ë;erw[XS,Ü,ih (λp Z=>k p (Ì _ Z)) (by simpa using e),e1,aj]
def NB:∀{as},AllK w ax->ax.length=as.length ->
  (((ax.map (·.2)).zip as).map λp=>(#[p.1,.ref p.2,.bool ό]))=(XS ax as).map (entryOfKey (kind P w)):=by
 induction ax with
 |nil=>intro as _ e;cases as<;>rfl
 |cons q r ih =>
  intro as k e
  cases as with
  |nil=>simp at e
  |cons b as =>
   let(Y,e1,_,_,e2):=k q Ë;erw[XS,Ü,ļ,ih (λp Z=>k p (Ì _ Z)) (by simpa using e)];rw[e2,e1];rfl
section
variable {X:Cx} {π:List (ę×Obj)} {σ:L2.St} {s:ß} {w:Wd}
mutual
theorem G7 (I:Inv X π σ w.H s):∀d v u,kd d=ό->DI.DV X.K w d v->RelV v u->KA s.heap d u
 | .int i,v,u,_,h,r=>by cases h;exact r
 | .str x,v,u,_,h,r=>by cases h;exact r
 | .tup Z,v,u,k,h,r=>by
  let(a,Y,rfl,W,V):=h;cases r;obtain⟨aj,U,⟨o,T,S,n,R⟩,_⟩:=I.tuple W;exact#[a,o,_,n,rfl,T,S,R,Gg I Z Y _ k V (by simpa using U)]
 | .aD,_,_,k,_,_=>by cases k
 | .bl _,_,_,k,_,_=>by cases k
 | .lst _,_,_,k,_,_=>by cases k
 | .cb _,_,_,k,_,_=>by cases k
 | .aw _,_,_,k,_,_=>by cases k
 | .ty _,_,_,k,_,_=>by cases k
 | .cw _,_,_,k,_,_=>by cases k
 | .exc ..,_,_,k,_,_=>by cases k
 | .cx ..,_,_,k,_,_=>by cases k
theorem Gg (I:Inv X π σ w.H s):∀ds vs us,dP ds=ό->DI.aB X.K w ds vs->Vals vs us->dQ s.heap ds us
 | [],vs,us,_,h,r=>by cases h;cases r;rfl
 |d::ds,vs,us,k,h,r=>by
  let(v,Z,rfl,Y,W):=h;erw[dP,Ç] at k
  cases r with
  |cons r V=>exact#[_,_,rfl,G7 I d v _ k.1 Y r,Gg I ds Z _ k.2 W V]
end
def ac2 (I:Inv X π σ w.H s):∀{ax} {as},AllK W ax->DI.aB X.K w (ax.map (·.1)) (as.map V.ref)->∀x∈XS ax as,C3 s.heap x.1 x.2.1:=by
 intro ax
 induction ax with
 |nil =>
  intro as _ _ x hx
  cases as<;>cases hx
 |cons q r ih =>
  intro as k U x hx
  cases as with
  |nil=>cases hx
  |cons b as =>
   let(v,Q,e,Z,T):=U
   injection e with e1 e2
   subst e1 e2;let(P,e1,Y,S,_):=k q Ë
   rcases Ð.mp hx with rfl|hx
   .refine#[by simpa only [e1,aj] using Y,by simpa only [e1,aj] using S,?_]
    have Z:DI.DV _ w q.1 _:=Z;rw[e1] at Z;simpa only [e1,aj] using G7 I _ _ _ (by simpa only [kd] using Y) Z rfl
   .exact ih (λp R=>k p (Ì _ R)) T x hx
end
def gH (w:ģ) (ax:List (D×Int)) (k:D):List (D×Int):=if (ax.any λp=>beq p.1 k)=ό then ax else ax++[(k,hs w k)]
def keyOk (w:ģ) (p:D×Int):Bool:=match p.1 with
 | .tup Z=>dP Z&&ώ (dB Z<=6)&&ώ (p.2=hs w p.1)
 |_=>ύ
def WI (h:ax.all (keyOk w)=ό):AllK w ax:=λp Z=>by
 have:=Ĉ.mp h p Z;delta keyOk at this;split at this
 .rename_i Y e
  erw[Ç,Æ] at this;exact#[Y,e,this.1.1,this.1.2,this.2]
 .cases this
def mQ (k:AllK w ax) (hk:dP ks=ό):(ax.any λp=>beq p.1 (.tup ks))=ό↔D.tup ks∈ax.map (·.1):=by
 rw[ĸ,á];constructor
 .rintro ⟨p,Z,Y⟩
  let(ls,e,X,_):=k p Z;refine#[p,Z,?_];exact(uG _ _ (by rw[e];simpa only [kd] using X) (by simpa only [kd] using hk)).mp Y
 .rintro ⟨p,Z,e⟩
  exact#[p,Z,by rw[e];exact(uG _ _ (by simpa only [kd] using hk) (by simpa only [kd] using hk)).mpr rfl]
def Pw (k:AllK w ax) (e:ax.length=as.length) (ks):ks∈(XS ax as).map (·.1)↔D.tup ks∈ax.map (·.1):=by
 rw[<- Ov k e,á,á];exact#[λ⟨x,Z,e⟩=>#[x,Z,by rw[e]],λ⟨x,Z,e⟩=>#[x,Z,by injection e]]
def Uz {xs:List _} (h:∀x∈xs,x.2.2=Value.bool ό) (k:List D):xs.map (putAt k (.bool ό))=xs:=by
 induction xs with
 |nil=>rfl
 |cons x xs ih =>
  rw[Ü,ih λy Z=>h y (Ì _ Z)];delta putAt;split
  .let(a,b,c):=x
   have:=h _ Ë;simp only at this;rw[this]
  .rfl
theorem Ow:∀ax as,∀x∈XS ax as,x.2.2=Value.bool ό
 | [],as,x,h=>by cases as<;>cases h
 |p::r,[],x,h=>by cases h
 |p::r,a::as,x,h=>by
  rcases Ð.mp h with rfl|h
  .rfl
  .exact Ow r as x h
def WJ {ax} {as} (k:AllK w ax) (e:ax.length=as.length) {ks} (hk:dP ks=ό) (a) :
  storedH (XS ax as) ks a (.bool ό)=XS (gH w ax (.tup ks)) (if (ax.any λp=>beq p.1 (.tup ks))=ό then as else as++[a]):=by
 delta gH;by_cases Z:(ax.any λp=>beq p.1 (.tup ks))=ό
 .rw[õ Z,õ Z]
  have Y:=(Pw k e ks).mpr ((mQ k hk).mp Z)
  cases h:atKey _ ks with
  |none =>
   exfalso;let(x,X,W):=á.mp Y;delta atKey at h;rw[Option.map_eq_none_iff,List.find?_eq_none] at h;exact h x X (Ï W)
  |some p=>rw[storedH_old h,Uz (Ow ax as)]
 .rw[ÿ Z,ÿ Z]
  have Y:=λz=>Z ((mQ k hk).mpr ((Pw k e ks).mp z));have h:atKey (XS ax as) ks=ϋ:=by
   delta atKey;rw[Option.map_eq_none_iff,List.find?_eq_none];intro x X z;exact Y (á.mpr #[x,X,ē z])
  rw[storedH_new h,abp e];rfl
def X9 (k:AllK w ax) (hk:dP ks=ό) (hd:dB ks<=6):AllK w (gH w ax (.tup ks)):=by
 delta gH;split
 .exact k
 .intro p hp
  rcases Û.mp hp with hp|hp
  .exact k p hp
  .rw[Ø.mp hp]
   exact#[ks,rfl,hk,hd,rfl]
def VA (k:AllK w ax) (hk:dP ks=ό) (h:(ax.map (·.1)).Nodup):((gH w ax (.tup ks)).map (·.1)).Nodup:=by
 delta gH;split
 .exact h
 .rename_i Y
  rw[ā,afv];refine#[h,by simp,λa Z b X=>?_];have:=by simpa using X
  rw[this];intro z;rw[z] at Z;exact Y ((mQ k hk).mpr Z)
def l6 (w:ģ) (d k x:D) (s:ai):Option ai:=match d,k,x with
 | .aw j,.tup Z,.bl ό=>match s[j]? with
  |some (.dT Y)=>if (dP Z&&ώ (dB Z<=6)&&Y.all (keyOk w)&&ώ (Y.length<â))=ό then ϊ (s.set j (.dT (gH w Y (.tup Z)))) else ϋ
  |_=>ϋ
 |_,_,_=>ϋ
def jO (w:ģ) (f o i:DI.ag9 D):DI.ag9 Fl:=λenv s=>aq (f env s) λx s=>aq (o env s) λd s=>aq (i env s) λn s=>match l6 w d n x s with
 |some Z=>ok (.nx env) Z
 |none=>ϋ
def ye:DI.ag9 D:=λ_ s=>ok (.aw s.length) (s++[.dT []])
section
variable {X:Cx} {Ξ:Wd->bF->Prop} {e o i:afh} {pos ju:Pos} {f fo fi:DI.ag9 D}
def ZK:PE X (.Dict [] [] pos) (λ_ H Q=>∀p,H p=ϋ->Q (.ref p) (upd H p (.ext (DX p [])))):=λY s σ H Q I h=>by
 refine wpAny_Dict_empty #[.ref _,_,I.laid (λ_ _ q=>Á _ q) (ahd _) (QK ?_),rfl,h _ (I.aN.fresh (ahd _))];have Z:=I.big;exact#[by erw[beq_eq_false_iff_ne,ne_eq];intro z;rw[z] at Z;exact ó _ Z,_,_,0,Ê _ rfl,#[rfl,rfl,rfl],rfl,rfl]
def Px:PE X (.Dict [] [] pos) (tE X.K Ξ ye):=dF ZK fun σ H Q Y=>by
 let(w,env,W,S,V,h):=Y;subst W;intro p Z;have le:=(Fw.cell (o:=.ext (DX p [])) (c:=.dT []) S Z).le;refine h _ le (S.GZ Z #[[],eJ,rfl,afe]) rfl _ #[p,?_,rfl];show (w.ρ++[p])[w.aO.length]?=ϊ p;rw[<- S.len];simp
def ac3 (K:ae3) (W:ģ):HM:=λo i v H Q=>∃(w:Wd) (d b:ę) (Z:List _) (as:List ę) (Y:List D),w.H=H/\o=.ref d/\i=.ref b/\v=.bl ό/\H d=ϊ (.ext (DX d ((Z.map (·.2)).zip as))) /\
 AllK W Z/\Z.length<â/\DI.aB K w (Z.map (·.1)) (as.map V.ref)/\(Z.map (·.1)).Nodup/\dP Y=ό/\dB Y<=6/\DI.DV K w (.tup Y) (.ref b) /\
 Q (upd H d (.ext (DX d (((gH W Z (.tup Y)).map (·.2)).zip (if (Z.any λp=>beq p.1 (.tup Y))=ό then as else as++[b])))))
def Ya {ax} {as} {ks} {b:ę} (e:ax.length=as.length):(gH w ax (.tup ks)).length=(if (ax.any λp=>beq p.1 (.tup ks))=ό then as else as++[b]).length:=by
 delta gH
 split<;>simp[e]
def ac4 (hr:cD k X.A):HN X (ac3 X.K X.w):=by
 intro j s σ H o i v g f u Q I L J G zz;let(w,d,b,T,as,c,rfl,rfl,rfl,rfl,S,Z,F,R,nd,Y,P,E,q):=zz;cases L;cases J;cases G;have len:=by have:=R.length;simpa using this
 obtain⟨⟨C,B,z,y,t,hex,r,p⟩,_,_⟩:=I.aN _ _ S;have n:s.heap.DictOfH (kind X.prog _) d _:=#[B,z,y,t,hex,r,by rw[p,NB Z len],ac2 I Z R,by
  have:=Ov Z len;rw[<- this] at nd;have e:(XS T as).map (λx=>D.tup x.1)=((XS T as).map (·.1)).map D.tup:=by rw[ï];rfl
  rw[e] at nd;exact List.Pairwise.of_map _ (λa b h e=>h (by rw[e])) nd]
 have hu:=by have:=hr.un;omega
 refine wpAny_setItem_heap (hsz:=by rw[abq len];exact Nat.le_of_lt F) (knd:=kind _ _) (show X.A.in1.units+10<agZ from ?_) #[Y,P,G7 I _ _ _ (by simpa only [kd] using Y) E rfl] n λh' O hs=>#[_,?_,q]
 .have:X.A.in1.units<=X.A.units+1:=by first|exact ahd _|exact Ť _
  omega
 .rw[WJ Z len Y] at O
  let(N,m,l,M,W,V,U,_):=O;refine Zo I (by rw[S];exact True.intro) hs #[N,M] (QK #[C,N,m,l,M,W,V,?_]);rw[U];exact(NB (X9 Z Y P) (Ya len)).symm
def Bt (hW:X.w=W) (hr:cD k X.A) (he:PE X e (tE X.K Ξ f)) (ho:PE X o (tE X.K Ξ fo)) (hi:PE X i (tE X.K Ξ fi))
 (ha:∀v,af5 (.Subscript o i ju) X.env v=(do
   let ov <- agw [v] (Ź o X.env)
   let iv <- agw [v,ov] (Ź i X.env)
   agx ju
   agw [v,ov,iv] (setItem ov iv v)
   release [v,ov,iv] []):=by intro _;rfl)
 (hs:ae4 [.Subscript o i ju] e pos.line X.env=pure ύ:=by rfl) (hw:ae5 [.Subscript o i ju] e X.env=pure ϋ:=by rfl)
 (h1:(η [.Subscript o i ju] X.env).map (·.2)=[af5 (.Subscript o i ju) X.env]:=by rfl):PS X (.Assign [.Subscript o i ju] e pos) (tS X.K Ξ (jO W f fo fi)) :=
 kO (FY he (O3 ho hi (ac4 hr) ha) hs hw h1) λD0 σ H D=>by
  subst hW;let(w,env,C,S,Y,h):=D;subst C;refine#[w,env,rfl,S,Y,(Out.aq h).mono λB x R y h1 u t=>?_];refine#[B,env,rfl,y,Y.le R,(Out.aq h1).mono λs d Q r q v l=>?_];refine#[s,env,rfl,r,Y.le (R.trans Q),(Out.aq q).mono λg n P O V m N=>?_]
  cases Z:l6 _ d n x _ with
  |none=>rw[Z] at V;exact V.elim
  |some s' =>
   rw[Z] at V;delta l6 at Z;split at Z
   .rename_i j U
    split at Z
    .rename_i T M
     split at Z
     .rename_i I
      erw[Ç,Æ] at I;obtain⟨⟨⟨G,k2⟩,k3⟩,k4⟩:=I;cases Z;let(a,e1,rfl):=(P _ _ l);let(as,q1,L,F):=O.cell j a _ e1 M;have E:=WI k3;have eu:=((Q.trans P) _ _ t);have J:=N;let(b,_,rfl,_):=J
      have le:=(Fw.put (o:=.ext (DX a (((gH X.w T (.tup U)).map (·.2)).zip (if (T.any λp=>beq p.1 (.tup U))=ό then as else as++[b])))) (c:=.dT (gH X.w T (.tup U))) O e1 M (by intro z;cases z)).le
      refine#[g,a,b,T,as,U,rfl,rfl,rfl,eu,q1,E,k4,L,F,G,k2,N,?_];refine V _ le (O.Cn e1 M (by intro z;cases z) #[_,eJ,?_,VA E G F]) rfl σ (Y.le (R.trans (Q.trans (P.trans le))));refine le.all ?_;delta gH;split
      .exact L
      .rw[ā,ā]
       exact L.append (aB.one N)
     .cases Z
    .cases Z
   .cases Z
end
end TK
namespace TK
open PySem PySem.W PyProof.Rows DI L2
def lg (h:afz) (d:ę) (es:Array DictEntry) (ep:Nat):Prop:=∃o,h.get? d=ϊ o/\o.ExactDict/\o.data=.dict es ep
section
variable {prog:Ć} {w:ģ} {A:Ĭ} {E:ì->ß->Prop} {s:ß} {d it:ę} {es:Array DictEntry} {ep i:Nat}
def lg.ty (r:lg s.heap d es ep):s.TypeIs (.ref d) "dict":=by let(o,Z,x,_):=r;exact#[o,Z,x.1]
def lg.lt (r:lg h d es ep):d<h.objs.size:=by let(o,Z,_):=r;exact Í Z
def Yb (hd:(d==agK)=ύ) (r:lg s.heap d es ep)
 (hQ:Q (.ref s.heap.objs.size) { s with heap:=s.heap.push { cls:=.type "dict_keyiterator",data:=.fields #v[.ref d,.int 0 0,.int es.size 0,.int ep 0] } }):ð (ã prog w) A (ag6 (.ref d)) Q E s:=by
 have ty:=r.ty;let(o,Z,x,Y):=r;refine wpAny_pyIter_slot ty F.slot_dict_iter (Ą F.slot_dict_iter ty F.entry_dict_iter ?_ (F.args_dict_iter_1 _));refine À (À (wpAny_notOrdered_dict ty ?_));refine(Â ?_);show ð _ _ (Builtin.Dict.showsAll d >>= _) _ _ s;delta Builtin.Dict.showsAll;rw[ÿ (by rw[hd];decide)];refine À (Â (À (wpAny_dictEntries Z Y (À (wpAny_dictEpoch Z Y ?_)))));refine À (Č (Â #[_,rfl,_,_,#[_,Ê _ rfl,rfl],ŗ.lookup,?_]));simpa [ŷ] using hQ
def Yc (hit:s.heap.IsKeyIter it d i es.size ep) (r:lg s.heap d es ep) (he:es[i]?=ϊ e)
 (hQ:∀h',h'.IsKeyIter it d (i+1) es.size ep->Ļ it s.heap h'->Q (ϊ e.key) { s with heap:=h' }):ð (ã prog w) A (agn (.ref it)) Q E s:=by
 let(S,Y,ci,Z):=id hit;let(R,X,_,W):=r;have own:agI "dict_keyiterator"=ύ:=by decide
 refine À (υ (ċ hit.typeIs ŗ (Ą ŗ hit.typeIs F.entry_dict_keyiterator_next ?_ (F.args_dict_keyiterator_next_1 _))));refine À (Â (À (À (À (Ű hit.typeIs (Â (À (afC Y Z ?_))))))));refine(?_);refine À (Â (À (wpAny_dictEntries X W ?_)));rw[ÿ ∅];refine À (Â (À (wpAny_dictEpoch X W ?_)));rw[ÿ ∅];refine Â ?_;erw[by omega,Ğ,ă,he];refine À (À (Ű hit.typeIs (Â (À (wpAny_isOneOf_keyiter hit.typeIs ?_)))));show ð _ _ (setField _ 1 (ŷ ((i)+1)) >>= _) _ _ s;refine À (Ŷ Y Z ∅ ?_);generalize V:s.heap.update it _=h';have T:Ļ it s.heap h':=by rw[<- V];exact ġ ..
 have U:h'.IsKeyIter it d (i+1) es.size ep:=by
  rw[<- V];exact#[_,þ _ Y (Œ (Đ Z _)),(aft ..).trans ci,by rw[Đ Z];simp[ŷ]]
 refine À (ĝ (À (wpAny_isOneOf_keyiter U.typeIs ?_)));exact Â (Â #[_,rfl,Â (hQ _ U T)])
def ZL (hh:A.handled=ϋ) (hit:s.heap.IsKeyIter it d i es.size ep) (r:lg s.heap d es ep) (dN:es.size<=i)
 (hQ:∀h',agf it s.heap h'->Q ϋ { s with heap:=h' }):ð (ã prog w) A (agn (.ref it)) Q E s:=by
 let(V,Z,ci,Y):=id hit;let(U,X,_,W):=r;have own:agI "dict_keyiterator"=ύ:=by decide
 refine À (υ (ċ hit.typeIs ŗ (Ą ŗ hit.typeIs F.entry_dict_keyiterator_next ?_ (F.args_dict_keyiterator_next_1 _))));refine À (Â (À (À (À (Ű hit.typeIs (Â (À (afC Z Y ?_))))))));refine(?_);refine À (Â (À (wpAny_dictEntries X W ?_)));rw[ÿ ∅];refine À (Â (À (wpAny_dictEpoch X W ?_)));rw[ÿ ∅];refine Â ?_;erw[by omega,Ğ,ă,Array.getElem?_eq_none dN];refine À (À (Ű hit.typeIs (Â ?_)));refine(À (Ŷ Z Y ∅ ?_):ð _ _ (setField _ 0 _ >>= _) _ _ s);refine À (À (Č ?_ (by size_fits)))
 refine À (ſ (by first|rfl | (rfl)) (Č ?_ (by size_fits)))
 refine À (wpAny_handled ?_);rw[hh];refine À (Â (wpAny_throw ?_));refine À (afF #[_,Ê _ rfl,rfl] isSubtype_stop ?_);exact Â (hQ _ (((ġ ..).extBut.push _).push _))
def lg.at (r:lg h d es ep) (k:∀o,h.get? d=ϊ o->h'.get? d=ϊ o):lg h' d es ep:=by let(o,Z,x):=r;exact#[o,k o Z,x]
def WK (hh:A.handled=ϋ) (I) (gM:d≠I) :
  Walks prog w A I [I,d] [I] es.size (λi v=>∃e,es[i]?=ϊ e/\v=e.key) (λi h=>h.IsKeyIter I d i es.size ep/\lg h d es ep) where
 sub:=λb Y=>by simp at Y;simp[Y]
 frame:=λ_ _ _ Z U=>#[Z.1.at λo e=>U I ∅ o e,Z.2.at λo e=>U d ∅ o e]
 item:=λi s Q E hi Z X=>by
  have T:es[i]?=ϊ es[i]:=by simp[hi]
  exact Yc Z.1 Z.2 T λW R S=>X _ W _ #[_,T,rfl] #[R,Z.2.at λo e=>S.extBut d o gM e] λb o Y e=>S.extBut b o (λh=>Y (by simp[h])) e
 done:=λs Q E Z X=>ZL hh Z.1 Z.2 (ahd _) λW V=>X W _ λb o Y e=>V b o (λh=>Y (by simp[h])) e
 self:=λ_ _ _ _ Z X=>wpAny_pyIter_keyiter Z.1 X
def ZM (lo:(d==agK)=ύ):KdlSrc prog w "dict" d d es.size (λi v=>∃e,es[i]?=ϊ e/\v=e.key) (λh=>lg h d es ep) where
 type:=λ_ Z=>Z.ty
 there:=λ_ Z=>#[Z.lt,Z.lt]
 keep:=λ_ _ Z X=>Z.at λo e=>X d (.inl rfl) o e
 notList:=by decide
 notTuple:=by decide
 hint:=λ_ _ _ _ Z Y=>kdl_hint_dict Z.ty Y
 iter:=λ_ _ W Z=>#[_,_,(λ_ _ Y=>Yb lo Z Y),WK W _ (ë Z.lt),#[#[_,Ê _ rfl,rfl,rfl],Z.at λo e=>Á _ e]]
end
def mY (ds:List D) (s:ai):Res D:=match ds with
 | [.aw j]=>match s[j]? with
  |some (.dT Z)=>if Z.length<=â then ok (.lst (Z.map (·.1))) s else ϋ
  |_=>ϋ
 |_=>ϋ
theorem NC:∀as:List ę,Vals (as.map V.ref) (as.map Value.ref)
 | []=>.nil
 |_::as=>.cons rfl (NC as)
section
variable {X:Cx} {Ξ:Wd->bF->Prop}
def Ox (hc:X.calm=ό):cX X (.type "list") (rC X.K Ξ mY):=by
 intro n s σ H m l Q I r zz;let(w,k,rfl,S,L,h):=zz;delta mY at h;split at h
 .rename_i j
  split at h
  .rename_i J G
   split at h
   .rename_i R
    let(v,g,rfl,F,E):=L;cases E;let(a,e1,rfl):=F
    cases r with
    |cons r D =>
    cases D;cases r;let(as,C,P,f):=S.cell j a _ e1 G;have len:=by have:=P.length;simpa using this
    obtain⟨⟨B,A,z,d,y,hex,x,O⟩,_,_⟩:=I.aN _ _ C;have W:z.size=as.length:=by rw[<- å,O];simp[len]
    refine kdl_call (ZM B) (I.ok.hd hc) (#[A,y,hex,x]) (by rw[W,<- len];exact R) λc b N u t q U=>?_;have Y:=I.aN.fresh (ahd _);have ev:N.toList=as.map Value.ref:=by
     apply į;intro i;rw[ä];by_cases hi:i<as.length
     .have p:i<N.size:=by rw[U.1,W];exact hi
      have M:=Array.getElem?_eq_getElem p;let(e,T,ev):=U.2 i _ M;rw[M,ev];rw[<- ä,O] at T;have o:i<J.length:=by omega
      erw[Þ,List.zip,List.getElem?_zipWith,É o,É hi,ž] at T |-;rw[<- ahe T]
     .rw[Array.getElem?_eq_none (by rw[U.1,W];omega),Ġ (by rw[Ã];omega)]
    refine#[.ref _,upd _ _ (.lst (as.map V.ref)),I.laid t (ahd _) ?_,rfl,?_]
    .refine#[by rw[Ã,<- len];exact R,_,u,?_,by simpa using q]
     rw[ev];exact NC as
    .exact h _ (Fw.grow Y).le (S.grow Y) rfl _ #[_,_,rfl,#[(show ¬ w.Z _ from rH S Y),eJ],(Fw.grow Y).le.all P]
   .exact h.elim
  .exact h.elim
 .exact h.elim
end
open HT
section
variable {s:ß}
def ac6 (kx:kd x=ό) (ky:kd y=ό) (hu:A.units+dep x<agZ) (hx:KA s.heap x vx) (hy:KA s.heap y vy):SeqAt.EqAt A s vx vy (beq x y):=by
 let(as,Z):=KA.reads _ _ hx;let(bs,Y):=KA.reads _ _ hy;let(X,V):=lL _ (rL _ kx);let(W,U):=lL _ (rL _ ky);have:=SeqAt.eqAt_reads _ _ A s vx vy as bs Z Y X W ⋯;rw[uD _ _ (rL _ kx) (rL _ ky)] at this;exact this
mutual
theorem ac7:∀A x y b vx vy,jh x y=ϊ b->kd x=ό->kd y=ό->A.units+5*dep x+5<agZ->KA s.heap x vx->KA s.heap y vy->Ir A s vx vy b
 |A,.int i,y,b,vx,vy,h,_,_,_,Z,Y=>by
  cases y with
  |int j =>
   cases h;let(t,rfl):=Z;let(X,rfl):=Y;exact λprog w E Q q=>EA A s i t j X prog w E Q q
  |_=>cases h
 |A,.str i,y,b,vx,vy,h,_,_,_,Z,Y=>by
  cases y with
  |str j =>
   cases h;let(t,rfl):=Z;let(X,rfl):=Y;exact λprog w E Q q=>(PyProof.Rows.lt_str q)
  |_=>cases h
 |A,.tup W,y,b,vx,vy,h,V,ky,U,Z,Y=>by
  cases y with
  |tup T =>
   let(a,o,aj,n,rfl,S,R,P,r):=Z;let(H,O,G,N,rfl,M,L,K,J):=Y;erw[dep] at U;exact λprog w E Q q=>Oo #[o,S,R,n,P] #[O,M,L,N,K] (λI F=>Gh I W T b _ _ h V ky ⋯ r J) ⋯ q
  |_=>cases h
 |_,.aD,_,_,_,_,_,k,_,_,_,_=>by cases k
 |_,.bl _,_,_,_,_,_,k,_,_,_,_=>by cases k
 |_,.lst _,_,_,_,_,_,k,_,_,_,_=>by cases k
 |_,.cb _,_,_,_,_,_,k,_,_,_,_=>by cases k
 |_,.aw _,_,_,_,_,_,k,_,_,_,_=>by cases k
 |_,.ty _,_,_,_,_,_,k,_,_,_,_=>by cases k
 |_,.cw _,_,_,_,_,_,k,_,_,_,_=>by cases k
 |_,.exc ..,_,_,_,_,_,k,_,_,_,_=>by cases k
 |_,.cx ..,_,_,_,_,_,k,_,_,_,_=>by cases k
theorem Gh:∀A xs ys b ps qs,gk xs ys=ϊ b->dP xs=ό->dP ys=ό->A.units+5*dB xs+5<agZ->dQ s.heap xs ps->dQ s.heap ys qs->j9 A s ps qs b
 |A,[],ys,b,ps,qs,h,_,_,_,V,Z=>by
  cases V
  cases ys with
  |nil=>cases h;cases Z;exact .nn
  |cons y ys=>cases h;let(v,r,rfl,_):=Z;exact .nc ..
 |A,x::xs,ys,b,ps,qs,h,Y,ky,T,V,Z=>by
  let(v,r,rfl,U,S):=V
  cases ys with
  |nil=>cases h;cases Z;exact .cn ..
  |cons y ys =>
   let(u,R,rfl,g1,g2):=Z;erw[dP,Ç] at Y ky;erw[dB] at T;have Q:=Nat.le_max_left (dep x) (dB xs);have X:=ac6 (A:=A) Y.1 ky.1 ⋯ U g1;erw[gk] at h;split at h
   .rename_i W
    rw[W] at X;exact .eq X (Gh A xs ys b _ _ h Y.2 ky.2 ⋯ S g2)
   .rename_i W
    rw[afG] at W;rw[W] at X;exact .lt X (ac7 A x y b _ _ h Y.1 ky.1 ⋯ U g1)
end
end
section
variable {prog:Ć} {w:ģ} {A:Ĭ} {E:ì->ß->Prop} {s:ß}
def WL (h:j9 A s xs ys b):∀i,fin=ώ (xs.length<ys.length)->Q b s->KatLex prog w A t fin Q (xs.zip ys) (i+1) s:=by
 induction h with
 |nn=>intro i Z q;rw[Z];exact q
 |nc y ys=>intro i Z q;rw[Z];exact q
 |cn x xs=>intro i Z q;rw[Z];exact q
 |eq Y _ ih =>
  intro i Z q;exact kat_cons (Y prog w _ _ (kat_yes (ih _ (by rw[Z];simp) q)))
 |lt Y X =>
  intro i Z q;refine kat_cons (Y prog w _ _ (kat_no ?_));rw[show (t&&(i+1==0))=ύ by simp];exact kat_one _ _ (X prog w _ _ q)
def WM (hs:x=y->j9 A s xs ys b) (hf:fin=ώ (xs.length<ys.length)) (q:Q (if x=y then b else ώ (x.cps.toList<y.cps.toList)) s) :
  KatLex prog w A ό fin Q ((.str x t::xs).zip (.str y u::ys)) 0 s:=by
 refine kat_cons (wpAny_eqBool_str ?_);by_cases e:x=y
 .rw[õ e] at q
  rw[Ï e];exact kat_yes (WL (hs e) 0 hf q)
 .rw[ÿ e] at q
  rw[ø e];exact kat_no (oneLt_str q)
end
inductive Pg where
 |made (m d:Int) (h l:List Int)
 |bx (m d k:Int)
noncomputable def ti (l:List Int):D:=.tup (l.map D.int)
def Pg.d:Pg->D
 | .made m d h l=>.tup [.str "made",.int m,.int d,.tup [ti h,ti l]]
 | .bx m d k=>.tup [.str "mended",.int m,.int d,.int k]
theorem Py (h:ti a=ti b):a=b:=by
 injection h with h
 exact List.map_inj_right (λx y e=>by injection e) |>.mp h
def Pg.G8 {p q:Pg} (h:p.d=q.d):p=q:=by
 cases p<;>cases q<;>erw[Pg.d,D.tup.injEq,ae1,D.int.injEq,and_true,reduceCtorEq,and_false,false_and] at h
 .let(_,Z,Y,X,W):=h
  rw[Z,Y,Py X,Py W]
 .let(_,Z,Y,X):=h
  rw[Z,Y,X]
noncomputable def encL:List Int->List Int
 | []=>[0]
 |x::Z=>1::x::encL Z
def Pg.enc:Pg->List Int
 | .made m d h l=>0::m::d::(encL h++encL l)
 | .bx m d k=>[1,m,d,k]
theorem EM:∀{a b u v},encL a++u=encL b++v->a=b/\u=v
 | [],[],u,v,h=>by simpa  using h
 | [],y::b,u,v,h=>by simp[encL] at h
 |x::a,[],u,v,h=>by simp[encL] at h
 |x::a,y::b,u,v,h=>by
  erw[encL,č,ae1,afw] at h;let(Z,Y):=EM h.2;exact#[by rw[h.1,Z],Y]
def Pg.ZN {p q:Pg} (h:p.enc=q.enc):p=q:=by
 cases p<;>cases q<;>erw[Pg.enc,ae1,and_true,afw,reduceCtorEq,false_and,Int.reduceEq] at h
 .let(Y,X,W):=h
  have Z:=EM (u:=encL _++[]) (v:=encL _++[]) (by simpa using W);have V:=EM Z.2;rw[Y,X,Z.1,V.1]
 .rw[h.1,h.2.1,h.2.2]
def fc:ST.Ord Pg where
 lt p q:=lexLt p.enc _
 qP p:=ST.xi _
 tr _ _ _ h g:=ST.Pt _ _ _ h g
 nO _ _ h g:=Pg.ZN (ST.Ot _ _ h g)
theorem MQ:∀a b:List Int,i9 (a.map D.int) (b.map D.int)=ώ (a=b)
 | [],[]=>rfl
 | [],_::_=>rfl
 |_::_,[]=>rfl
 |x::a,y::b=>by
  erw[Ü,i9,beq,MQ a b]
  by_cases e:x=y<;>simp[e]
theorem MR:∀a b:List Int,gk (a.map D.int) (b.map D.int)=ϊ (lexLt a b)
 | [],[]=>rfl
 | [],_::_=>rfl
 |_::_,[]=>rfl
 |x::a,y::b=>by
  erw[Ü,gk,beq,jh,jk,MR a b]
  by_cases e:x=y<;>simp[e]
theorem Fu:∀a b u v,lexLt (encL a++u) (encL b++v)=if a=b then lexLt u v else lexLt a b
 | [],[],u,v=>by simp[encL,jk]
 | [],y::b,u,v=>by rfl
 |x::a,[],u,v=>by rfl
 |x::a,y::b,u,v=>by
  erw[encL,č,jk,ĭ,Fu a b u v,ae1]
  by_cases e:x=y<;>simp[e]
def QM (p q):jh p.d q.d=ϊ (fc.lt p q):=by
 have T:¬ ((Ĳ "made")=Ĳ "mended"):=nofun
 have S:¬ ((Ĳ "mended")=Ĳ "made"):=nofun
 have R:ώ ((Ĳ "made").cps.toList<(Ĳ "mended").cps.toList)=ό:=nofun
 have Q:ώ ((Ĳ "mended").cps.toList<(Ĳ "made").cps.toList)=ύ:=nofun
 show _=ϊ (lexLt _ q.enc)
 cases p with
 |made m d h l =>
  cases q with
  |made Z Y V X =>
   erw[Pg.d,Pg.enc,jh,gk,beq,i9,ti,jk,MQ,MR,Fu,ι,ĭ,Bool.and_true];have:=Fu l X [] [];erw[ĕ] at this;rw[this]
   by_cases e1:m=Z<;>by_cases e2:d=Y<;>by_cases W:h=V<;>by_cases P:l=X<;>simp[e1,e2,W,P,ST.xi]
  |bx Z Y U=>erw[Pg.d,Pg.enc,jh,gk,beq,jk,beq_iff_eq,T,R,Ğ];simp
 |bx m d k =>
  cases q with
  |made Z Y V X=>erw[Pg.d,Pg.enc,jh,gk,beq,jk,beq_iff_eq,S,Q,Ğ];simp
  |bx Z Y U =>
   erw[Pg.d,Pg.enc,jh,gk,beq,jk,ι,ĭ]
   by_cases e1:m=Z<;>by_cases e2:d=Y<;>by_cases W:k=U<;>simp[e1,e2,W,ST.xi]
def ZO (l:List Int):dP (l.map D.int)=ό:=by
 induction l with
 |nil=>rfl
 |cons x l ih=>simpa only [Ü,dP,kd,agJ] using ih
def Yd (l:List Int):dB (l.map D.int)=0:=by
 induction l with
 |nil=>rfl
 |cons x l ih=>erw[Ü,dB,dep,ih];rfl
def lT (p:Pg):kd p.d=ό:=by
 have Z:PyData.strOk "made"=ό:=nofun
 have Y:PyData.strOk "mended"=ό:=nofun
 cases p<;>erw[Pg.d,kd,dP,ti,ZO,Z,Y,ķ]
def Gi (p:Pg):dep p.d<=3:=by
 cases p<;>erw[Pg.d,dep,dB,ti,Yd]<;>decide
def ND (p:Pg):∃(x:Str) (r:List D),p.d=.tup (.str x::r):=by
 cases p<;>exact#[_,_,rfl]
def G9 {p:Pg} {v} (q:KA h p.d v):∃(x:Str) (r:List D) (a:ę) (o:Obj) (aj:Array ì) (n:Nat) (t:Tok) (us:List ì),p.d=.tup (.str x::r)/\v=.ref a/\h.get? a=ϊ o/\o.cls=.type "tuple"/\o.data=.seq aj n/\aj.toList=.str x t::us/\dQ h r us/\dP r=ό:=by
 let(x,r,e):=ND p;have k:=lT p;rw[e] at q k;obtain⟨a,o,aj,n,e1,Z,Y,X,u,us,e2,⟨t,W⟩,V⟩:=q;erw[kd,dP,Ç] at k;exact#[x,r,a,o,aj,n,t,us,e,e1,Z,Y,X,by rw[e2,W],V,k.2]
section
variable {prog:Ć} {w:ģ} {A:Ĭ} {E:ì->ß->Prop} {s:ß}
def WN:∀{ps:List Pg} {us},dQ s.heap (ps.map Pg.d) us->∃fs,KatTups s.heap us fs/\(∀v∈fs,∃x t,v=Value.str x t)/\fs.length=us.length:=by
 intro ps
 induction ps with
 |nil=>intro us h;cases h;exact#[_,KatTups.nil,λv hv=>(ü hv).elim,rfl]
 |cons p ps ih =>
  intro us h;let(v,r,rfl,Z,Y):=h;let(fs,X,W,V):=ih Y;let(x,_,a,o,aj,n,t,R,_,rfl,U,T,S,hi,_):=G9 Z;refine#[_,.cons U T S (by rw[<- ä,hi];rfl) X,λv hv=>?_,by simp[V]]
  rcases Ð.mp hv with rfl|hv
  .exact#[x,t,rfl]
  .exact W v hv
def kas_get:∀{ds} {us},dQ h ds us->∀i,i<us.length->KA h (ds.getD i .aD) (us.getD i Value.none):=by
 intro ds
 induction ds with
 |nil=>intro us h i hi;cases h;cases hi
 |cons d ds ih =>
  intro us h i hi;let(v,r,rfl,Z,Y):=h
  cases i with
  |zero=>exact Z
  |succ i=>exact ih Y i (by simpa using hi)
def ZP:∀{ds} {us},dQ h ds us->ds.length=us.length:=by
 intro ds
 induction ds with
 |nil=>intro us h;cases h;rfl
 |cons d ds ih=>intro us h;let(v,r,rfl,Y,Z):=h;simp[ih Z]
def abr (hu:A.units+100<agZ) (h1:KA s.heap p.d v) (h2:KA s.heap q.d u) (hC:C (fc.lt p q) s):ð (ã prog w) A (keyLt' (tuples' ό) v u) C E s:=by
 let(x,r,a,o,aj,n,t,N,e,rfl,W,M,V,hi,U,k):=G9 h1;let(Z,T,L,K,J,I,H,S,R,rfl,Q,G,P,X,Y,O):=G9 h2;have dl:=Gi p;rw[e] at dl;erw[dep,dB] at dl;have lt:=QM p q;rw[e,R] at lt;erw[jh,gk] at lt;have be:beq (.str x) (.str Z)=ό↔x=Z:=by simp[beq]
 refine kat_lt W V Q P ?_;rw[hi,X];refine WM (b:=fc.lt p q) (λex=>?_) ?_ ?_
 .rw[õ (be.mpr ex)] at lt
  exact Gh A r T _ _ _ lt k O (by have:=Nat.le_max_right (0) (dB r);omega) U Y
 .simp[<- å,hi,X]
 .by_cases ex:x=Z
  .rw[õ ex];exact hC
  .rw[ÿ λz=>ex (be.mp z)] at lt
   rw[ÿ ex,ahe lt];exact hC
def Ye {ps:List Pg} (t:dQ s.heap (ps.map Pg.d) us) (h2:2<=us.length) (hu:A.units+100<agZ) (d):ST.sv prog w A fc (λi=>ps.getD i d) us s:=by
 let(fs,Z,Y,S):=WN t;have X:=ZP t;rw[Ã] at X;have at_:=λi hi=>by
  have:=kas_get t i hi;rwa [show (ps.map _).getD i _=(ps.getD i d).d by simp[agp,Þ,É (show i<ps.length by omega)]] at this
 refine kat_kind (T:=.type "str") Z ⋯ (λv W=>?_) (by decide) #[rfl,λi j C hi V U=>?_]
 .let(x,R,rfl):=Y v W
  exact .of_pure rfl
 .exact abr hu (at_ i hi) (at_ j V) U
end
end TK
namespace MS
open PySem PySem.W PyProof.Rows
noncomputable def Fv:Bool->Ę->Array Ę->Nat->Nat->Nat->StateT ď Sem (Option Nat):=sortPriv% PySem.Builtin.gallop
section
variable {prog:Ć} {w:ģ} {A:Ĭ} {E:ì->ß->Prop} {s:ß} {α:Type} {O:ST.Ord α} {f:Ę->α} {S:Ę->Prop} {κ:ag0}
def jP (prog:Ć) (w:ģ) (A:Ĭ) (E:ì->ß->Prop) (s:ß) (O:ST.Ord α) (f:Ę->α) (S:Ę->Prop) (κ:ag0):Prop :=
 ∀(Z:ď) x y Q,kindOf Z=κ->S x->S y->Q (ϊ (O.lt (f x) (f y))) Z->wpS (ã prog w) A E s (lt' x y) Q Z
def BS {st} (h:arr[i]?=ϊ x) (q:Q x st):wpS (ã prog w) A E s (elem' arr i) Q st:=by
 rw[elem'_eq,h];exact à q
def gJ {k} {arr} {i} {x} {Q:β->ď->Prop} {st} (h:arr[i]?=ϊ x) (q:wpS (ã prog w) A E s (k x) Q st):wpS (ã prog w) A E s (elem' arr i >>= k) Q st:=æ (BS h q)
def QN {k} {x y} {Q:β->ď->Prop} {st:ď} (C:jP prog w A E s O f S κ) (hk:kindOf st=κ) (hx:S x) (hy:S y) (q:wpS (ã prog w) A E s (k (ϊ (O.lt (f x) (f y)))) Q st):wpS (ã prog w) A E s (lt' x y >>= k) Q st:=æ (C _ _ _ _ hk hx hy q)
def dY {c} [Decidable c] {m1 m2:StateT ď Sem β} {Q} {st} (h:c) (q:wpS (ã prog w) A E s m1 Q st):wpS (ã prog w) A E s (if c then m1 else m2) Q st:=by rw[õ h];exact q
def dC {c} [Decidable c] {m1 m2:StateT ď Sem β} {Q} {st} (h:¬ c) (q:wpS (ã prog w) A E s m2 Q st):wpS (ã prog w) A E s (if c then m1 else m2) Q st:=by rw[ÿ h];exact q
noncomputable def j4 (O:ST.Ord α) (f:Ę->α) (left:Bool) (key x:Ę):Bool:=if left=ό then O.lt (f x) (f key) else !O.lt (f key) (f x)
def abt (C:jP prog w A E s O f S κ) {st:ď} (hk:kindOf st=κ) (hx:arr[i]?=ϊ x) (Sx:S x) (Sk:S key) (q:Q (ϊ (j4 O f left key x)) st) :
  wpS (ã prog w) A E s (elem' arr i >>= λx=>if left=ό then lt' x key else lt' key x >>= λr=>pure (r.map (!·))) Q st:=by
 refine æ (BS hx ?_)
 cases left with
 |true =>
  exact C st x key Q hk Sx Sk q
 |false =>
  exact æ (C st key x _ hk Sk Sx (à q))
def tl {lo hi m} {T:ForInStep (Option β×Nat×Nat)->ď->Prop} {st} (h:T (.yield (ϋ,if p=ό then (m+1,hi) else (lo,m))) st) :
  wpS (ã prog w) A E s (if p=ό then pure (ŀ (ϋ,m+1,hi)) else pure (ŀ (ϋ,lo,m))) T st:=by
 cases p<;>exact à h
def WO (C:jP prog w A E s O f S κ) {st:ď} (hk:kindOf st=κ) (Sk:S key) (hh:hint<n) (P:Nat->Bool)
 (hG:∀i,i<n->∃x,arr[base+i]?=ϊ x/\S x/\P i=j4 O f left key x) (Cu:∀i j,i<j->j<n->P j=ό->P i=ό)
 (q:∀k,k<=n->(∀i,i<k->P i=ό)->(∀i,k<=i->i<n->P i=ύ)->Q (ϊ k) st):wpS (ã prog w) A E s (Fv left key arr base n hint) Q st:=by
 have ask:∀i R,i<n->R (ϊ (P i)) st->wpS _ A E s _ R st:=λi R hi h=>by
  let(x,H,K,L):=hG i hi;rw[L] at h;exact abt C hk H K Sk h
 have fin:∀(lo hi) (R:Option (Option Nat)×Nat×Nat->ď->Prop) (b),
   lo<=hi->hi<=n->(∀i,i<lo->P i=ό)->(∀i,hi<=i->i<n->P i=ύ) ->
   (∀k,k<=n->(∀i,i<k->P i=ό)->(∀i,k<=i->i<n->P i=ύ)->R (ϋ,k,k) st) ->
   (∀x lo hi T,lo ≥ hi->T (.done (ϋ,lo,hi)) st->wpS (ã prog w) A E s (b x (ϋ,lo,hi)) T st) ->
   (∀x lo hi T,lo<hi->hi<=n->T (.yield (ϋ,if P (lo+(hi-lo) / 2)=ό then (lo+(hi-lo) / 2+1,hi) else (lo,lo+(hi-lo) / 2))) st->wpS (ã prog w) A E s (b x (ϋ,lo,hi)) T st) ->
   wpS (ã prog w) A E s (forIn [:n] (ϋ,lo,hi) b) R st:=by
  intro lo hi R b H K L G t o m;refine ĳ (I:=λi c U=>U=st/\∃lo hi,c=(ϋ,lo,hi)/\lo<=hi/\hi<=n/\hi-lo<=n-i/\(∀i,i<lo->P i=ό)/\(∀i,hi<=i->i<n->P i=ύ)) ?_ ?_ #[rfl,lo,hi,rfl,H,K,by omega,L,G]
  .intro i c U _ hi zz;let(rfl,lo,J,rfl,a1,a2,N,V,B):=zz
   by_cases X:lo ≥ J
   .refine o _ _ _ _ X ?_
    obtain rfl:lo=J:=by omega
    exact t lo a2 V B
   .refine m _ _ _ _ ⋯ a2 #[rfl,?_]
    cases W:P _ with
    |true =>
     refine#[_,_,rfl,by omega,a2,by omega,λj z=>?_,B];by_cases e:j=lo+(J - lo) / 2
     .rw[e];exact W
     .exact Cu j _ ⋯ ⋯ W
    |false =>
     refine#[_,_,rfl,by omega,by omega,by omega,V,λj z M=>?_]
     cases y:P j with
     |false=>rfl
     |true =>
      by_cases e:j=lo+(J - lo) / 2
      .rw[e,W] at y;cases y
      .rw[Cu _ j ⋯ M y] at W;cases W
  .intro c U zz;let(rfl,lo,J,rfl,a1,a2,N,V,B):=zz
   obtain rfl:lo=J:=by omega
   exact t lo a2 V B
 have up:∀j,j<n->P j=ό->∀i,i<j+1->P i=ό:=λj z W i hi=>by
  by_cases e:i=j
  .rw[e];exact W
  .exact Cu i j ⋯ z W
 have p:∀j,P j=ύ->∀i,j<=i->i<n->P i=ύ:=λj W i hi M=>by
  by_cases e:j=i
  .rw[<- e];exact W
  .cases q:P i with
   |false=>rfl
   |true=>rw[Cu j i ⋯ M q] at W;cases W
 have v:∀Z of,Z<of->hint+Z<n->P _=ό->(of ≥ n-hint\/(of<n-hint/\P _=ύ))->hint+Z+1<=hint+min of (n-hint)/\hint+min of (n-hint)<=n/\(∀i,i<hint+Z+1->P i=ό)/\∀i,hint+min of (n-hint)<=i->i<n->P i=ύ:=λZ of H K L G=>by
  refine#[by omega,by omega,up _ K L,?_]
  rcases G with h | ⟨h,u⟩
  .omega
  .rw[Nat.min_eq_left ⋯];exact p _ u
 have R2:∀Z of,Z<of->Z<=hint->P _=ύ->(of ≥ hint+1\/(of<hint+1/\P _=ό))->hint+1-min of (hint+1)<=hint-Z/\hint-Z<=n/\(∀i,i<hint+1-min of (hint+1)->P i=ό)/\∀i,hint-Z<=i->i<n->P i=ύ:=λZ of H K L G=>by
  refine#[by omega,by omega,?_,p _ L]
  rcases G with h | ⟨h,u⟩
  .omega
  .rw[Nat.min_eq_left ⋯,show hint+1-of=hint-of+1 by omega];exact up _ ⋯ u
 refine æ (ask hint _ hh ?_)
 cases W:P hint with
 |true =>
  refine æ (ĳ (I:=λi c U=>U=st/\∃Z of,c=(ϋ,Z,of)/\Z<of/\i<of/\hint+Z<n/\P (hint+Z)=ό) ?_ ?_ #[rfl,0,1,rfl,by omega,by omega,hh,W])
  .intro i c U _ hi zz;let(rfl,Z,of,rfl,a1,a2,N,V):=zz
   by_cases X:of ≥ n-hint
   .refine dY X (à ?_)
    have r:=v Z of a1 N V (.inl X);exact æ (fin _ _ _ _ r.1 r.2.1 r.2.2.1 r.2.2.2 (λk a b c=>à (q k a b c)) (λx lo hi T X Y=>dY X (à Y)) (λx lo hi T F M Y=>dC (by show ¬ lo ≥ hi;omega) (æ (ask (lo+(hi-lo) / 2) _ ⋯ (tl Y)))))
   .refine dC X (æ (ask (hint+of) _ ⋯ ?_))
    cases D:P _ with
    |true =>
     refine dC (by decide) (à #[rfl,of,2*of+1,rfl,by omega,by omega,by omega,D])
    |false =>
     refine dY (by decide) (à ?_);have r:=v Z of a1 N V (.inr #[by omega,D]);exact æ (fin _ _ _ _ r.1 r.2.1 r.2.2.1 r.2.2.2 (λk a b c=>à (q k a b c)) (λx lo hi T X Y=>dY X (à Y)) (λx lo hi T F M Y=>dC (by show ¬ lo ≥ hi;omega) (æ (ask (lo+(hi-lo) / 2) _ ⋯ (tl Y)))))
  .intro c U zz;let(rfl,Z,of,rfl,a1,a2,N,V):=zz
   have r:=v Z of a1 N V (.inl ⋯);exact æ (fin _ _ _ _ r.1 r.2.1 r.2.2.1 r.2.2.2 (λk a b c=>à (q k a b c)) (λx lo hi T X Y=>dY X (à Y)) (λx lo hi T F M Y=>dC (by show ¬ lo ≥ hi;omega) (æ (ask (lo+(hi-lo) / 2) _ ⋯ (tl Y)))))
 |false =>
  refine æ (ĳ (I:=λi c U=>U=st/\∃Z of,c=(ϋ,Z,of)/\Z<of/\i<of/\Z<=hint/\P (hint-Z)=ύ) ?_ ?_ #[rfl,0,1,rfl,by omega,by omega,by omega,W])
  .intro i c U _ hi zz;let(rfl,Z,of,rfl,a1,a2,N,V):=zz
   by_cases X:of ≥ hint+1
   .refine dY X (à ?_)
    have r:=R2 Z of a1 N V (.inl X);exact æ (fin _ _ _ _ r.1 r.2.1 r.2.2.1 r.2.2.2 (λk a b c=>à (q k a b c)) (λx lo hi T X Y=>dY X (à Y)) (λx lo hi T F M Y=>dC (by show ¬ lo ≥ hi;omega) (æ (ask (lo+(hi-lo) / 2) _ ⋯ (tl Y)))))
   .refine dC X (æ (ask _ _ ⋯ ?_))
    cases D:P _ with
    |false =>
     refine dC (by decide) (à #[rfl,of,2*of+1,rfl,by omega,by omega,by omega,D])
    |true =>
     refine dY (by decide) (à ?_);have r:=R2 Z of a1 N V (.inr #[by omega,D]);exact æ (fin _ _ _ _ r.1 r.2.1 r.2.2.1 r.2.2.2 (λk a b c=>à (q k a b c)) (λx lo hi T X Y=>dY X (à Y)) (λx lo hi T F M Y=>dC (by show ¬ lo ≥ hi;omega) (æ (ask (lo+(hi-lo) / 2) _ ⋯ (tl Y)))))
  .intro c U zz;let(rfl,Z,of,rfl,a1,a2,N,V):=zz
   have r:=R2 Z of a1 N V (.inl ⋯);exact æ (fin _ _ _ _ r.1 r.2.1 r.2.2.1 r.2.2.2 (λk a b c=>à (q k a b c)) (λx lo hi T X Y=>dY X (à Y)) (λx lo hi T F M Y=>dC (by show ¬ lo ≥ hi;omega) (æ (ask (lo+(hi-lo) / 2) _ ⋯ (tl Y)))))
end
section
variable {α β:Type}
abbrev Up (O:ST.Ord α) (f:β->α) (l:List β):Prop:=l.Pairwise λx y=>O.le (f x) (f y)
structure cc (O) (f:β->α) (la lb out:List β) (ia ib):Prop where
 up:Up O f out
 pm:out.Perm (la.take ia++lb.take ib)
 xa:∀x∈out,∀y∈la.drop ia,O.le (f x) (f y)
 xb:∀x∈out,∀y∈lb.drop ib,O.le (f x) (f y)
variable {O:ST.Ord α} {f:β->α} {la lb out:List β} {ia ib:Nat}
def cc.swap (M:cc O f la lb out ia ib):cc O f lb la out ib ia:=#[M.up,M.pm.trans Ŭ,M.xb,M.xa]
def cc.QP (M:cc O f la lb out ia ib) (ha:Up O f la) (k) (hk:∀x∈(la.drop ia).take k,∀y∈lb.drop ib,O.le (f x) (f y)):cc O f la lb (out++(la.drop ia).take k) (ia+k) ib:=by
 have X:Up O f (la.drop ia):=ha.sublist (Ń ..);have sub:∀x∈(la.drop ia).take k,x∈la.drop ia:=λx Y=>List.mem_of_mem_take Y;have W:la.drop (ia+k)=(la.drop ia).drop k:=by rw[Ũ]
 refine#[ô.mpr #[M.up,X.sublist (Ż ..),λx Y y Z=>M.xa x Y y (sub y Z)],?_,λx Y y Z=>?_,λx Y y Z=>?_]
 .rw[List.take_add]
  refine(M.pm.append_right _).trans ?_;rw[Ö,Ö];exact ū _ Ŭ
 .rw[W] at Z
  rcases Û.mp Y with h|h
  .exact M.xa x h y (agF Z)
  .have:Up O f ((la.drop ia).take k++(la.drop ia).drop k):=by rw[Ė];exact X
   exact(ô.mp this).2.2 x h y Z
 .rcases Û.mp Y with h|h
  .exact M.xb x h y Z
  .exact hk x h y Z
def cc.Iu (M:cc O f la lb out ia ib) (ha:Up O f la) (hb:lb.length<=ib):(out++la.drop ia++lb.drop ib).Perm (la++lb)/\Up O f (out++la.drop ia++lb.drop ib):=by
 rw[List.drop_eq_nil_of_le hb,ĕ];refine#[?_,ô.mpr #[M.up,ha.sublist (Ń ..),M.xa]];have p:=M.pm;rw[Ě hb] at p;refine(p.append_right _).trans ?_;rw[Ö];refine(ū _ Ŭ).trans ?_;rw[<- Ö,Ė]
def cc.Cv (M:cc O f la lb out ia ib) (hb:Up O f lb) (ha:la.length<=ia):(out++la.drop ia++lb.drop ib).Perm (la++lb)/\Up O f (out++la.drop ia++lb.drop ib):=by
 have:=M.swap.Iu hb ha;rw[List.drop_eq_nil_of_le ha,ĕ] at this |-;exact#[this.1.trans Ŭ,this.2]
def cc.rY (M:cc O f la lb out ia ib) (hb:Up O f lb) (ha:la.length=ia+1) (hl:∀x∈la.drop ia,∀y∈lb,O.le (f y) (f x)):(out++lb.drop ib++la.drop ia).Perm (la++lb)/\Up O f (out++lb.drop ib++la.drop ia):=by
 refine#[?_,?_]
 .refine((M.pm.append_right _).append_right _).trans ?_
  rw[Ö (la.take ia),Ė,Ö];refine(ū _ Ŭ).trans ?_;rw[<- Ö,Ė]
 .refine ô.mpr #[ô.mpr #[M.up,hb.sublist (Ń ..),M.xb],?_,λx Y y Z=>?_]
  .have:(la.drop ia).length=1:=by rw[θ];omega
   match h:la.drop ia,this with
   | [x],_=>exact Ş ..
  .rcases Û.mp Y with h|h
   .exact M.xa x h y Z
   .exact hl y Z x (agF h)
def wG {l:List β} {i} {x} (h:l[i]?=ϊ x):(l.drop i).take 1=[x]:=by
 let(hi,rfl):=Ä.mp h;rw[ĺ hi];rfl
def QQ (h:Up O f l) (hx:l[i]?=ϊ x):∀y∈l.drop i,O.le (f x) (f y):=λy hy=>by
 let(hi,rfl):=Ä.mp hx;rw[ĺ hi] at hy;have Z:=h.sublist (Ń i _);rw[ĺ hi] at Z
 rcases Ð.mp hy with rfl|hy
 .exact ST.Ord.le_refl _
 .exact(û.mp Z).1 y hy
def cc.yy (M:cc O f la lb out ia ib) (ha:Up O f la) (hb:Up O f lb) {x y} (hx:la[ia]?=ϊ x) (hy:lb[ib]?=ϊ y) (h:O.le (f x) (f y)):cc O f la lb (out++[x]) (ia+1) ib:=by
 have:=M.QP ha 1 (by
  rw[wG hx];intro z Z u Y;rw[Ø.mp Z];exact ST.Ord.jM h (QQ hb hy u Y))
 rwa [wG hx] at this
def cc.BU (M:cc O f la lb out ia ib) (ha:Up O f la) (hb:Up O f lb) (k) (hy:lb[ib]?=ϊ y) (h:∀i x,i<k->la[ia+i]?=ϊ x->O.le (f x) (f y)):cc O f la lb (out++(la.drop ia).take k) (ia+k) ib:=M.QP ha k λx Y u X=>by
 let(i,hi,e):=ť Y;have Z:i<k/\i<(la.drop ia).length:=by rw[Ŏ] at hi;omega
 have:la[ia+i]?=ϊ x:=by
  rw[<- Ů,É Z.2,<- e,List.getElem_take]
 exact ST.Ord.jM (h i x Z.1 this) (QQ hb hy u X)
end
noncomputable def DC:Nat->StateT ď Sem Unit:=sortPriv% PySem.Builtin.setMinGallop
noncomputable def Yf:Array Ę->Array Ę->StateT ď Sem (Array Ę):=sortPriv% PySem.Builtin.mergeLo
section
variable {prog:Ć} {w:ģ} {A:Ĭ} {E:ì->ß->Prop} {s:ß} {α:Type} {O:ST.Ord α} {f:Ę->α} {S:Ę->Prop} {κ:ag0}
def Fx {st:ď} (q:Q () st):wpS (ã prog w) A E s (liftM (rule r)) Q st:=wpS_lift (ş #[rfl,q])
def Bu {k} {r} {Q:β->ď->Prop} {st} (q:wpS (ã prog w) A E s (k ()) Q st):wpS (ã prog w) A E s ((liftM (rule r)) >>= k) Q st:=æ (Fx q)
def dH (st ao:ď):Prop:=kindOf ao=kindOf st/\ī ao=ī st/\ė ao=ė st/\afH ao=afH st
def dH.refl (st):dH st st:=#[rfl,rfl,rfl,rfl]
def Fy {st} (q:Q () (SortSt.mk' (kindOf st) (ī st) (ė st) n (afH st))):wpS (ã prog w) A E s (DC n) Q st:=afx q
def dH.tr (a:dH x y) (b:dH y z):dH x z:=#[b.1.trans a.1,b.2.1.trans a.2.1,b.2.2.1.trans a.2.2.1,b.2.2.2.trans a.2.2.2]
def Yg {Q} {st} (q:∀ao,dH st ao->Q () ao):wpS (ã prog w) A E s (DC n) Q st:=Fy (q _ #[rfl,rfl,rfl,rfl])
def gY {a:Array Ę} {i:Nat} (h):a.toList[i]?=ϊ a[i]/\a[i]?=ϊ a[i]:=#[by simp[h],by simp[h]]
def dJ {c} [Decidable c] {m1 m2:StateT ď Sem β} {Q} {st} (h1:c->wpS (ã prog w) A E s m1 Q st) (h2:¬ c->wpS (ã prog w) A E s m2 Q st):wpS (ã prog w) A E s (if c then m1 else m2) Q st:=by
 by_cases h:c
 .exact dY h (h1 h)
 .exact dC h (h2 h)
def Oy {β γ:Type} {c:γ->Prop} {_:∀y,Decidable (c y)} {P:γ->Prop} (g:γ->γ) {m1 m2:γ->StateT ď Sem β} {Q} {st} (h2:∀y,P y->wpS (ã prog w) A E s (m2 y) Q st) (h1:∀y,P (g y)->wpS (ã prog w) A E s (m1 y) Q st) (J:∀z,P z):∀y,wpS (ã prog w) A E s (if c y then m1 y else m2 y) Q st:=λy=>dJ (λ_=>h1 y (J _)) λ_=>h2 y (J y)
def A4 {β γ δ:Type} {c} {_:Decidable c} {R0 P:γ->δ->Prop} (R:γ->δ->Prop) {m1 m2:γ->δ->StateT ď Sem β} {Q} {st} (h2:∀x y,P x y->wpS (ã prog w) A E s (m2 x y) Q st) (J:∀x y,R x y->P x y) (r:∀x y,¬ c->R0 x y->R x y) (h1:(∀x y,R x y->P x y)->∀x y,c->R0 x y->wpS (ã prog w) A E s (m1 x y) Q st):∀x y,R0 x y->wpS (ã prog w) A E s (if c then m1 x y else m2 x y) Q st:=λx y Z=>dJ (λh=>h1 J x y h Z) λh=>h2 x y (J _ _ (r x y h Z))
def Sy {x1 x2 x3 x4 γ:Type} {mk:x1->x2->x3->x4->γ} {G:ď->Prop} {R:Nat->x1->x2->x3->x4->Prop} {lo hi} {P:Nat->γ->ď->Prop} (h:∀j st,j<hi->G st->∀a b c d,R j a b c d->P j (mk a b c d) st):∀j c st,lo<=j->j<hi->(G st/\∃a b c' d,c=mk a b c' d/\R j a b c' d)->P j c st:=by
 rintro j c st-Z ⟨g,a,b,c',d,rfl,r⟩;exact h _ _ Z g _ _ _ _ r
def Sz {x1 x2 x3 x4 x5 γ:Type} {mk:x1->x2->x3->x4->x5->γ} {G:ď->Prop} {R:Nat->x1->x2->x3->x4->x5->Prop} {lo hi} {P:Nat->γ->ď->Prop} (h:∀j st,j<hi->G st->∀a b c d e,R j a b c d e->P j (mk a b c d e) st):∀j c st,lo<=j->j<hi->(G st/\∃a b c' d e,c=mk a b c' d e/\R j a b c' d e)->P j c st:=by
 rintro j c st-Z ⟨g,a,b,c',d,e,rfl,r⟩;exact h _ _ Z g _ _ _ _ _ r
def SA {x1 x2 x3 x4 x5 x6 γ:Type} {mk:x1->x2->x3->x4->x5->x6->γ} {G:ď->Prop} {R:Nat->x1->x2->x3->x4->x5->x6->Prop} {lo hi} {P:Nat->γ->ď->Prop} (h:∀j st,j<hi->G st->∀a b c d e f,R j a b c d e f->P j (mk a b c d e f) st):∀j c st,lo<=j->j<hi->(G st/\∃a b c' d e f,c=mk a b c' d e f/\R j a b c' d e f)->P j c st:=by
 rintro j c st-Z ⟨g,a,b,c',d,e,f,rfl,r⟩;exact h _ _ Z g _ _ _ _ _ _ r
def SD {ρ x1 x2 x3 x4 x5 γ:Type} {m1:ρ->x1->x2->x3->x4->x5->γ} {m2:x1->x2->x3->x4->x5->γ} {Z:ρ->ď->Prop} {G:ď->Prop} {R:x1->x2->x3->x4->x5->Prop} {P:γ->ď->Prop} (h1:∀st r a b c d e,Z r st->P (m1 r a b c d e) st) (h2:∀st,G st->∀a b c d e,R a b c d e->P (m2 a b c d e) st):∀c st,((∃r a b c' d e,c=m1 r a b c' d e/\Z r st)\/G st/\∃a b c' d e,c=m2 a b c' d e/\R a b c' d e)->P c st:=by
 rintro c st (⟨r,a,b,c',d,e,rfl,z⟩ | ⟨g,a,b,c',d,e,rfl,z⟩)
 .exact h1 _ _ _ _ _ _ _ z
 .exact h2 _ g _ _ _ _ _ z
def SE {ρ x1 x2 x3 x4 x5 x6 γ:Type} {m1:ρ->x1->x2->x3->x4->x5->x6->γ} {m2:x1->x2->x3->x4->x5->x6->γ} {Z:ρ->ď->Prop} {G:ď->Prop} {R:x1->x2->x3->x4->x5->x6->Prop} {P:γ->ď->Prop} (h1:∀st r a b c d e f,Z r st->P (m1 r a b c d e f) st) (h2:∀st,G st->∀a b c d e f,R a b c d e f->P (m2 a b c d e f) st):∀c st,((∃r a b c' d e f,c=m1 r a b c' d e f/\Z r st)\/G st/\∃a b c' d e f,c=m2 a b c' d e f/\R a b c' d e f)->P c st:=by
 rintro c st (⟨r,a,b,c',d,e,f,rfl,z⟩ | ⟨g,a,b,c',d,e,f,rfl,z⟩)
 .exact h1 _ _ _ _ _ _ _ _ z
 .exact h2 _ g _ _ _ _ _ _ z
def abu (C:jP prog w A E s O f S κ) {left} {key} {arr} {base n hint} {Q} {st:ď} (hk:kindOf st=κ) (Sk:S key) (hn:base+n<=arr.size) (hh:hint<n) (sa:∀x∈arr.toList,S x) (ha:Up O f ((arr.toList.drop base).take n))
  (q:∀k,k<=n->(∀i x,i<k->arr.toList[base+i]?=ϊ x->j4 O f left key x=ό)->(∀i x,k<=i->i<n->arr.toList[base+i]?=ϊ x->j4 O f left key x=ύ)->Q (ϊ k) st):wpS (ã prog w) A E s (Fv left key arr base n hint) Q st:=by
 have at_:∀i,(h:i<n)->arr.toList[base+i]?=ϊ (arr[base+i]'⋯):=λi h=>(gY _).1
 refine WO C hk Sk hh (λi=>if h:i<n then j4 O f left key _ else ύ) (λi hi=>#[_,(gY ⋯).2,sa _ (ö (at_ i hi)),by rw[dif_pos hi]]) (λi j X W h=>?_) λk V U T=>q k V (λi x hi Z=>?_) λi x hi Y Z=>?_
 .rw[dif_pos W] at h
  rw[dif_pos ⋯];have le:=by
   refine ŋ.mp ha i j (by simp;omega) (by simp;omega) X |> λz=>?_;simpa using z
  delta j4 at *
  cases left with
  |true =>
   cases e:O.lt _ _ with
   |true=>rfl
   |false=>rw[ST.Ord.jM e le] at h;cases h
  |false =>
   erw[Ò,Ğ,Ĕ] at *;exact ST.Ord.jM le h
 .have:=U i hi
  rw[dif_pos ⋯] at this;rw[at_ i ⋯] at Z;cases Z;exact this
 .have:=T i hi Y
  rw[dif_pos Y] at this;rw[at_ i Y] at Z;cases Z;exact this
def u4 (C:jP prog w A E s O f S κ) {β} {g} {left} {key} {arr} {base n hint} {Q:β->ď->Prop} {st:ď} (hk:kindOf st=κ) (Sk:S key) (hn:base+n<=arr.size) (hh:hint<n) (sa:∀x∈arr.toList,S x) (ha:Up O f ((arr.toList.drop base).take n))
  (q:∀k,k<=n->(∀i x,i<k->arr.toList[base+i]?=ϊ x->j4 O f left key x=ό)->(∀i x,k<=i->i<n->arr.toList[base+i]?=ϊ x->j4 O f left key x=ύ)->wpS (ã prog w) A E s (g (ϊ k)) Q st):wpS (ã prog w) A E s (Fv left key arr base n hint >>= g) Q st:=æ (abu C hk Sk hn hh sa ha q)
def Pz {k} {n} {Q:β->ď->Prop} {st} (q:∀ao,dH st ao->wpS (ã prog w) A E s (k ()) Q ao):wpS (ã prog w) A E s (DC n >>= k) Q st:=æ (Yg q)
abbrev C7 (O:ST.Ord α) (f:Ę->α) (a b:Array Ę) (j:Nat) (out:Array Ę) (ia ib:Nat):Prop:=cc O f a.toList b.toList out.toList ia ib/\ia+1<a.size/\ib<b.size/\j<ia+ib
abbrev aeC (O:ST.Ord α) (f:Ę->α) (a b:Array Ę) (st:ď) (j:Nat) (c:Option (Array Ę)×Array Ę×Nat×Nat×Nat) (ao:ď):Prop:=dH st ao/\∃out ia ib mg,c=(ϋ,out,ia,ib,mg)/\C7 O f a b j out ia ib
abbrev aeD (O:ST.Ord α) (f:Ę->α) (a b:Array Ę) (st:ď) (n i:Nat) (c:Option (Array Ę)×Array Ę×Nat×Nat×Nat×Nat) (bB:ď):Prop:=dH st bB/\∃nA mF ph ac bc,c=(ϋ,nA,mF,ph,ac,bc)/\cc O f a.toList b.toList nA.toList mF ph/\mF + 1<a.size/\ph < b.size/\n+i<=mF + ph
abbrev aeE (O:ST.Ord α) (f:Ę->α) (a b:Array Ę) (st:ď) (j:Nat) (Q:Array Ę->ď->Prop) (c:Option (Array Ę)×Array Ę×Nat×Nat×Nat×Nat) (bB:ď):Prop:=(∃r out ia ib ac bc,c=(ϊ r,out,ia,ib,ac,bc)/\Q r bB)\/dH st bB/\∃out ia ib ac bc,c=(ϋ,out,ia,ib,ac,bc)/\C7 O f a b (j+1) out ia ib
abbrev aeF (O:ST.Ord α) (f:Ę->α) (a b:Array Ę) (st:ď) (j _i:Nat) (c:Option (Array Ę)×Array Ę×Nat×Nat×Nat×Nat×Nat) (bB:ď):Prop:=dH st bB/\∃out ia ib mg ac bc,c=(ϋ,out,ia,ib,mg,ac,bc)/\C7 O f a b (j+1) out ia ib
abbrev aeG (O:ST.Ord α) (f:Ę->α) (a b:Array Ę) (st:ď) (j:Nat) (Q:Array Ę->ď->Prop) (c:Option (Array Ę)×Array Ę×Nat×Nat×Nat×Nat×Nat) (bB:ď):Prop:=(∃r out ia ib mg ac bc,c=(ϊ r,out,ia,ib,mg,ac,bc)/\Q r bB)\/dH st bB/\∃out ia ib mg ac bc,c=(ϋ,out,ia,ib,mg,ac,bc)/\C7 O f a b (j+1) out ia ib
def VB (C:jP prog w A E s O f S κ) {a b:Array Ę} {Q:Array Ę->ď->Prop} {st:ď} (hk:kindOf st=κ) (ha:Up O f a.toList) (hb:Up O f b.toList) (sa:∀x∈a.toList,S x) (sb:∀x∈b.toList,S x) (na:0<a.size) (nb:0<b.size)
  (h0:∀x y,a.toList[0]?=ϊ x->b.toList[0]?=ϊ y->O.le (f y) (f x)) (hl:∀x,a.toList[a.size-1]?=ϊ x->∀y∈b.toList,O.le (f y) (f x))
  (q:∀m ao,dH st ao->m.toList.Perm (a.toList++b.toList)->Up O f m.toList->Q m ao):wpS (ã prog w) A E s (Yf a b) Q st:=by
 have ga:∀{i},(h:i<a.size)->a.toList[i]?=ϊ a[i]/\a[i]?=ϊ a[i]/\S a[i]:=λh=>#[(gY h).1,(gY h).2,sa _ (ö (gY h).1)];have T:∀{i},(h:i<b.size)->b.toList[i]?=ϊ b[i]/\b[i]?=ϊ b[i]/\S b[i]:=λh=>#[(gY h).1,(gY h).2,sb _ (ö (gY h).1)];have eB:∀out Z Y ao,dH st ao->cc O f a.toList b.toList out.toList Z Y->b.size<=Y->Q (out++a.extract Z a.size++b.extract Y b.size) ao:=λout Z Y ao g M h=>by
  have e:=M.Iu ha (by simpa using h)
  refine q _ _ g ?_ ?_<;>erw[Ŧ,Ň,ĩ]<;>rw[show (a.toList.drop Z).take (a.size-Z)=a.toList.drop Z from Ě ∅,show (b.toList.drop Y).take (b.size-Y)=b.toList.drop Y from Ě ∅]
  .exact e.1
  .exact e.2
 have eA:∀out Z Y ao,dH st ao->cc O f a.toList b.toList out.toList Z Y->a.size<=Z->Q (out++a.extract Z a.size++b.extract Y b.size) ao:=λout Z Y ao g M h=>by
  have e:=M.Cv hb (by simpa using h)
  refine q _ _ g ?_ ?_<;>erw[Ŧ,Ň,ĩ]<;>rw[show (a.toList.drop Z).take (a.size-Z)=a.toList.drop Z from Ě ∅,show (b.toList.drop Y).take (b.size-Y)=b.toList.drop Y from Ě ∅]
  .exact e.1
  .exact e.2
 have t:∀out Z Y ao,dH st ao->cc O f a.toList b.toList out.toList Z Y->Z+1=a.size->Q (out++b.extract Y b.size++a.extract Z a.size) ao:=λout Z Y ao g M h=>by
  have e:=M.rY hb (by simpa using h.symm) (λx V y hy=>by
   have sI:a.toList.drop Z=[a[Z]'⋯]:=by
    have:=wG (ga (i:=Z) ⋯).1;rwa [Ě (by simp;omega)] at this
   rw[sI,Ø] at V;rw[V];refine hl _ ?_ y hy;rw[show a.size-1=Z by omega];exact(ga _).1)
  refine q _ _ g ?_ ?_<;>erw[Ŧ,Ň,ĩ]<;>rw[show (a.toList.drop Z).take (a.size-Z)=a.toList.drop Z from Ě ∅,show (b.toList.drop Y).take (b.size-Y)=b.toList.drop Y from Ě ∅]
  .exact e.1
  .exact e.2
 have d:cc O f a.toList b.toList #v[b[0]].toList 0 1:=by
  have z:cc O f a.toList b.toList [] 0 0:=#[.nil,by simp,λx V=>(ü V).elim,λx V=>(ü V).elim];have:=z.swap.yy hb ha (T nb).1 (ga na).1 (h0 _ _ (ga na).1 (T nb).1);exact this.swap
 refine(Bu ?_);refine(gJ (T nb).2.1 ?_);by_cases c1:b.size=1
 .exact dY (by simp[c1]) (à (eB _ _ _ _ (.refl _) d ⋯))
 refine dC (by simpa using Ř c1) ?_;by_cases c2:a.size=1
 .exact dY (by simp[c2]) (à (t _ _ _ _ (.refl _) d ⋯))
 refine dC (by simpa using Ř c2) ?_;have pA:∀{out:Array Ę} {Z Y:Nat},cc O f a.toList b.toList out.toList Z Y->(U:Z<a.size)->(W:Y<b.size)->O.lt (f b[Y]) (f a[Z])=ύ->cc O f a.toList b.toList (out.push a[Z]).toList (Z+1) Y:=λM U W h=>by
  rw[Ŕ];exact M.yy ha hb (ga U).1 (T W).1 h
 have pB:∀{out:Array Ę} {Z Y:Nat},cc O f a.toList b.toList out.toList Z Y->(U:Z<a.size)->(W:Y<b.size)->O.le (f b[Y]) (f a[Z])->cc O f a.toList b.toList (out.push b[Y]).toList Z (Y+1):=λM U W h=>by
  rw[Ŕ];exact(M.swap.yy hb ha (T W).1 (ga U).1 h).swap
 have JP:∀i,Up O f ((a.toList.drop i).take (a.size-i)):=λi=>ha.sublist ((Ż _ _).trans (Ń _ _));have JQ:∀i,Up O f ((b.toList.drop i).take (b.size-i)):=λi=>hb.sublist ((Ż _ _).trans (Ń _ _));have ext:∀(c:Array Ę) (i k:Nat),(c.extract i (i+k)).toList=(c.toList.drop i).take k:=λc i k=>by rw[Ň,ĩ,Nat.add_sub_cancel_left]
 have cA:∀{out:Array Ę} {Z Y:Nat},cc O f a.toList b.toList out.toList Z Y->∀k,(W:Y<b.size)->(∀i x,i<k->a.toList[Z+i]?=ϊ x->O.le (f x) (f b[Y]))->cc O f a.toList b.toList (out++a.extract Z (Z+k)).toList (Z+k) Y:=λM k W h=>by
  rw[Ŧ,ext];exact M.BU ha hb k (T W).1 h
 have cB:∀{out:Array Ę} {Z Y:Nat},cc O f a.toList b.toList out.toList Z Y->∀k,(U:Z<a.size)->(∀i x,i<k->b.toList[Y+i]?=ϊ x->O.le (f x) (f a[Z]))->cc O f a.toList b.toList (out++b.extract Y (Y+k)).toList Z (Y+k):=λM k U h=>by
  rw[Ŧ,ext];exact(M.swap.BU hb ha k (ga U).1 h).swap
 refine æ (agC ?_);refine æ (ĳ (a:=0) (b:=a.size+b.size) (I:=aeC O f a b st) ?_ ?_ #[.refl _,_,_,_,_,rfl,d,by omega,by omega,by omega])
 .refine Sy λj ao hj g out Z Y R h=>?_
  have M:=h.1;have U:=h.2.1;have W:=h.2.2.1;have L:=h.2.2.2;clear h;refine æ (afI (ĳ (a:=0) (b:=a.size+b.size) (I:=aeD O f a b st (Z+Y))
   (Q:=aeE O f a b st j Q) ?_ ?_ #[g,_,_,_,_,_,rfl,M,U,W,by dsimp only;omega]) ?_)
  .refine Sz λi G hi X nA D p ac K h=>?_
   have B:=h.1;have v:=h.2.1;have P:=h.2.2.1;have m3:=h.2.2.2;clear h;refine(gJ (T P).2.1 ((gJ (ga (i:=D) ⋯).2.1 ((QN C (X.1.trans hk) (T P).2.2 (ga _).2.2 ?_)))))
   cases F : O.lt (f b[p]) (f (a[D]'⋯)) with
   |true =>
    have M2:=pB B ⋯ P (ST.Ord.le_of_lt F);refine dY rfl ((gJ (T P).2.1 ?_));by_cases e:p + 1=b.size
    .exact dY (by simpa using e) (à (.inl #[_,_,_,_,_,_,rfl,eB _ _ _ _ X M2 (by dsimp only;omega)]))
    .refine dC (by simpa using e) ?_
     by_cases e2:K+1 ≥ R
     .exact dY e2 (à (.inr #[X,_,_,_,_,_,rfl,M2,v,by dsimp only;omega,by dsimp only;omega]))
     .exact dC e2 (à #[X,_,_,_,_,_,rfl,M2,v,by dsimp only;omega,by dsimp only;omega])
   |false =>
    have M2:=pA B ⋯ P F;refine dC (by decide) ((gJ (ga (i:=D) ⋯).2.1 ?_));by_cases e:D + 1+1=a.size
    .exact dY (by simpa using e) (à (.inl #[_,_,_,_,_,_,rfl,t _ _ _ _ X M2 (by dsimp only;omega)]))
    .refine dC (by simpa using e) ?_
     by_cases e2:ac+1 ≥ R
     .exact dY e2 (à (.inr #[X,_,_,_,_,_,rfl,M2,by dsimp only;omega,P,by dsimp only;omega]))
     .exact dC e2 (à #[X,_,_,_,_,_,rfl,M2,by dsimp only;omega,P,by dsimp only;omega])
  .intro c G zz;let(X,nA,D,p,ac,K,rfl,B,v,P,m3):=zz
   exact .inr #[X,_,_,_,_,_,rfl,B,v,P,by omega]
  .refine SD (λG r out Z Y ac K hr=>à (à hr)) λG X out Z Y ac K h=>?_
   have M:=h.1;have U:=h.2.1;have W:=h.2.2.1;have L:=h.2.2.2;clear h;refine(Bu ?_);refine æ (afI (ĳ (a:=0) (b:=a.size+b.size) (I:=aeF O f a b st j)
    (Q:=aeG O f a b st j Q) ?_ ?_ #[X,_,_,_,_,_,_,rfl,M,U,W,L]) ?_)
   .refine SA λi G hi X out Z Y R ac K h=>?_
    have M:=h.1;have U:=h.2.1;have W:=h.2.2.1;have L:=h.2.2.2;clear h
    revert R
    refine Oy (λR=>R-1) (λ_ h=>h) (λ_ h=>h) λR=>?_;refine(Pz λje g3=>?_)
    replace X:=X.tr g3
    clear g3
    refine((gJ (T W).2.1 ((u4 C (X.1.trans hk) (T W).2.2 (by (try dsimp only);omega) (by (try dsimp only);omega) sa (JP _) λk k1 k2 k3=>?_))))
    replace k1:k<=a.size-Z:=k1
    have o:∀x,a.toList[Z+k]?=ϊ x->O.le (f b[Y]) (f x):=λx V=>by
     have aX:=(Ä.mp V).1
     have:=k3 k x (ahd _) (by simp at aX;(try dsimp only);omega) V
     erw[j4,Ò,Ğ,af0] at this;exact ST.Ord.le_of_lt this
    have M1:=cA M k W λi x hi V=>by
     have:=k2 i x hi V;simpa [j4,ST.Ord.le] using this
    have H:=Ý M (Ý U (Ý L (Ý o (Ý M1 (show Z+k<=a.size by (try dsimp only);omega)))))
    clear k1 k2 k3 M U L o M1
    revert H
    revert out Z
    refine A4 (γ:=Array Ę) (δ:=Nat) (λout Z=>cc O f a.toList b.toList out.toList Z Y/\Z+1<a.size/\j+1<Z+Y/\∀x,a.toList[Z]?=ϊ x->O.le (f b[Y]) (f x)) (λ_ _ h=>h) ?J ?r ?h
    case r=>exact λout Z tJ H=>#[H.1,H.2.1,H.2.2.1,λx V=>H.2.2.2.1 x (by rw[show k=0 by omega];exact V)]
    case J =>
     intro out Z zz;let(N,U,L,hle):=zz;refine(gJ (T W).2.1 ?_)
     have n:=pB N (by (try dsimp only);omega) W (hle _ (ga (i:=Z) (by (try dsimp only);omega)).1)
     refine dJ (λe=>à (.inl #[_,_,_,_,_,_,_,rfl,eB _ _ _ _ X n (by simp at e;(try dsimp only);omega)])) λe=>?_
     have SF:Y+1<b.size:=by simp at e;(try dsimp only);omega
     refine(gJ (ga (i:=Z) (by (try dsimp only);omega)).2.1 ((u4 C (X.1.trans hk) (ga _).2.2 (by (try dsimp only);omega) (by (try dsimp only);omega) sb (JQ _) λu q1 q2 q3=>?_)))
     replace q1:u<=b.size-(Y+1):=q1
     have F:∀x,b.toList[Y+1+u]?=ϊ x->O.lt (f x) (f (a[Z]'(by (try dsimp only);omega)))=ύ:=λx V=>by
      have aX:=(Ä.mp V).1
      exact q3 u x (ahd _) (by simp at aX;(try dsimp only);omega) V
     have N2:=cB n u (by (try dsimp only);omega) λi x hi V=>ST.Ord.le_of_lt (q2 i x hi V)
     have SG:j+1<Z+(Y+1):=by (try dsimp only);omega
     have H:=Ý n (Ý SF (Ý SG (Ý F (Ý N2 (show Y+1+u<=b.size by (try dsimp only);omega)))))
     clear q1 q2 q3 N L SG hle n SF F N2 e
     revert H
     generalize out.push b[Y]=out;generalize Y+1=ib1
     revert out ib1
     refine A4 (γ:=Array Ę) (δ:=Nat) (λout Y=>cc O f a.toList b.toList out.toList Z Y/\Y<b.size/\j+1<Z+Y/\∀x,b.toList[Y]?=ϊ x->O.lt (f x) (f (a[Z]'(by (try dsimp only);omega)))=ύ) (λ_ _ h=>h) ?J2 ?r2 ?h2
     case r2=>exact λout Y tJ H=>#[H.1,H.2.1,H.2.2.1,λx V=>H.2.2.2.1 x (by rw[show u=0 by omega];exact V)]
     case J2 =>
      intro out Y zz;let(N,W,L,F):=zz
      have N3:=pA N (by (try dsimp only);omega) W (F _ (T W).1)
      refine(gJ (ga (i:=Z) (by (try dsimp only);omega)).2.1 ?_)
      exact dJ (λl=>à (.inl #[_,_,_,_,_,_,_,rfl,t _ _ _ _ X N3 (by simpa using l)])) λl=>dJ (λ_=>à (.inr #[X,_,_,_,_,_,_,rfl,N3,by simp at l;(try dsimp only);omega,W,by (try dsimp only);omega])) λ_=>à #[X,_,_,_,_,_,_,rfl,N3,by simp at l;(try dsimp only);omega,W,by (try dsimp only);omega]
     intro J out Y tJ H
     refine dJ (λe3=>à (.inl #[_,_,_,_,_,_,_,rfl,eB _ _ _ _ X H.2.2.2.2.1 (by simp at e3;(try dsimp only);omega)])) λe3=>?_
     exact J _ _ #[H.2.2.2.2.1,by have:=H.2.2.2.2.2;simp at e3;(try dsimp only);omega,by have:=H.2.2.1;(try dsimp only);omega,H.2.2.2.1]
    intro J out Z tJ H;obtain⟨-,U,L,o,M1,kb⟩:=H;refine dJ (λe=>?_) (λe=>dJ (λe2=>?_) λe2=>?_)
    .exact à (.inl #[_,_,_,_,_,_,_,rfl,t _ _ _ _ X M1 (by simpa using e)])
    .exact à (.inl #[_,_,_,_,_,_,_,rfl,eA _ _ _ _ X M1 (by simp at e2;(try dsimp only);omega)])
    .exact J _ _ #[M1,by simp at e e2;(try dsimp only);omega,by (try dsimp only);omega,o]
   .intro c G zz;let(X,nA,D,p,R,ac,K,rfl,B,v,P,m3):=zz
    exact .inr #[X,_,_,_,_,_,_,rfl,B,v,P,m3]
   .exact SE (λG r out Z Y R ac K hr=>à (à hr)) λG X out Z Y R ac K h=>æ (Fy (à #[X,_,_,_,_,rfl,h]))
 .intro c ao zz;let(g,out,Z,Y,R,rfl,M,U,W,L):=zz
  omega
end
noncomputable def Yh:Array Ę->Array Ę->StateT ď Sem (Array Ę):=sortPriv% PySem.Builtin.mergeHi
noncomputable def rev (O:ST.Ord α):ST.Ord α:=#[λa b=>O.lt b a,O.qP,λa b c h g=>O.tr _ _ _ g h,λa b h g=>O.nO _ _ g h]
def lO {O:ST.Ord α} {f} {l:List β} (h:Up O f l):Up (rev O) f l.reverse:=List.pairwise_reverse.mpr h
def PB {O:ST.Ord α} {f} {l:List β} (h:Up (rev O) f l):Up O f l.reverse:=List.pairwise_reverse.mpr h
def uH {β:Type} {l:List β} {n} {x} (h1:0<n) (h2:n<=l.length) (hx:l[n-1]?=ϊ x):l.reverse[l.length-n]?=ϊ x:=by
 rw[ags ⋯,show l.length-1-(l.length-n)=n-1 by omega];exact hx
def pU {β:Type} {l:List β} {n} (h:n<=l.length):l.reverse.drop (l.length-n)=(l.take n).reverse:=by
 rw[List.drop_reverse,show l.length-(l.length-n)=n by omega]
section
variable {prog:Ć} {w:ģ} {A:Ĭ} {E:ì->ß->Prop} {s:ß} {α:Type} {O:ST.Ord α} {f:Ę->α} {S:Ę->Prop} {κ:ag0}
abbrev C8 (H:Array Ę->Nat->Nat->Prop) (a b:Array Ę) (j:Nat) (out:Array Ę) (na nb:Nat):Prop:=H out na nb/\0<na/\na<=a.size/\1<nb/\nb<=b.size/\j+na+nb<a.size+b.size
abbrev aeH (H:Array Ę->Nat->Nat->Prop) (a b:Array Ę) (st:ď) (j:Nat) (c:Option (Array Ę)×Nat×Nat×Array Ę×Nat) (ao:ď):Prop:=dH st ao/\∃out na nb mg,c=(ϋ,na,nb,out,mg)/\C8 H a b j out na nb
abbrev aeI (H:Array Ę->Nat->Nat->Prop) (a b:Array Ę) (st:ď) (n i:Nat) (c:Option (Array Ę)×Nat×Nat×Array Ę×Nat×Nat) (bB:ď):Prop:=dH st bB/\∃nA nQ nR ac bc,c=(ϋ,nQ,nR,nA,ac,bc)/\H nA nQ nR/\0<nQ/\nQ<=a.size/\1<nR/\nR<=b.size/\i+nQ + nR<=n
abbrev aeJ (H:Array Ę->Nat->Nat->Prop) (a b:Array Ę) (st:ď) (j:Nat) (Q:Array Ę->ď->Prop) (c:Option (Array Ę)×Nat×Nat×Array Ę×Nat×Nat) (bB:ď):Prop:=(∃r out na nb ac bc,c=(ϊ r,na,nb,out,ac,bc)/\Q r bB)\/dH st bB/\∃out na nb ac bc,c=(ϋ,na,nb,out,ac,bc)/\C8 H a b (j+1) out na nb
abbrev aeK (H:Array Ę->Nat->Nat->Prop) (a b:Array Ę) (st:ď) (j _i:Nat) (c:Option (Array Ę)×Nat×Nat×Array Ę×Nat×Nat×Nat) (bB:ď):Prop:=dH st bB/\∃out na nb mg ac bc,c=(ϋ,na,nb,out,mg,ac,bc)/\C8 H a b (j+1) out na nb
abbrev aeL (H:Array Ę->Nat->Nat->Prop) (a b:Array Ę) (st:ď) (j:Nat) (Q:Array Ę->ď->Prop) (c:Option (Array Ę)×Nat×Nat×Array Ę×Nat×Nat×Nat) (bB:ď):Prop:=(∃r out na nb mg ac bc,c=(ϊ r,na,nb,out,mg,ac,bc)/\Q r bB)\/dH st bB/\∃out na nb mg ac bc,c=(ϋ,na,nb,out,mg,ac,bc)/\C8 H a b (j+1) out na nb
def VD (C:jP prog w A E s O f S κ) {st:ď} (hk:kindOf st=κ) (ha:Up O f a.toList) (hb:Up O f b.toList) (sa:∀x∈a.toList,S x) (sb:∀x∈b.toList,S x) (JR:0<a.size) (C9:0<b.size)
 (h0:∀y,b.toList[0]?=ϊ y->∀x∈a.toList,O.le (f y) (f x)) (hl:∀x y,a.toList[a.size-1]?=ϊ x->b.toList[b.size-1]?=ϊ y->O.le (f y) (f x))
 (q:∀m ao,dH st ao->m.toList.Perm (a.toList++b.toList)->Up O f m.toList->Q m ao):wpS (ã prog w) A E s (Yh a b) Q st:=by
 have ga:∀{i},(h:i<a.size)->a.toList[i]?=ϊ a[i]/\a[i]?=ϊ a[i]/\S a[i]:=λh=>#[(gY h).1,(gY h).2,sa _ (ö (gY h).1)];have V:∀{i},(h:i<b.size)->b.toList[i]?=ϊ b[i]/\b[i]?=ϊ b[i]/\S b[i]:=λh=>#[(gY h).1,(gY h).2,sb _ (ö (gY h).1)]
 let H:Array Ę->Nat->Nat->Prop:=λout na nb=>cc (rev O) f a.toList.reverse b.toList.reverse out.toList (a.toList.length-na) (b.toList.length-nb)
 have za:a.toList.length=a.size:=by simp
 have zb:b.toList.length=b.size:=by simp
 have fin:∀(m:Array Ę) (l:List Ę) ao,dH st ao->m.toList=l.reverse->l.Perm (a.toList.reverse++b.toList.reverse)->Up (rev O) f l->Q m ao:=λm l ao g e p u=>q m ao g (by
  rw[e];exact(agj l).trans (p.trans ((agj _).append (agj _)))) (by rw[e];exact PB u)
 have Iv:∀(c:Array Ę) (n:Nat),(c.extract 0 n).toList=c.toList.take n:=λc n=>by rw[Ň,ĩ];simp
 have eA:∀out na nb ao,dH st ao->H out na nb->nb<=b.size->na=0->Q (a.extract 0 na++b.extract 0 nb++out.reverse) ao:=λout na nb ao g M h U=>by
  subst U;have e:=M.Cv (lO hb) ∅;refine fin _ _ _ g ?_ e.1 e.2;rw[pU (Ă _),pU ⋯];simp[Iv]
 have eB:∀out na nb ao,dH st ao->H out na nb->na<=a.size->nb=0->Q (a.extract 0 na++b.extract 0 nb++out.reverse) ao:=λout na nb ao g M h U=>by
  subst U;have e:=M.Iu (lO ha) ∅;refine fin _ _ _ g ?_ e.1 e.2;rw[pU (Ă _),pU ⋯];simp[Iv]
 have eL:∀out na nb ao,dH st ao->H out na nb->na<=a.size->nb=1->Q (b.extract 0 nb++a.extract 0 na++out.reverse) ao:=λout na nb ao g M h U=>by
  subst U;have e:=M.swap.rY (lO ha) (by simp;omega) (λx Z y hy=>by
   rw[pU ⋯,List.mem_reverse] at Z;have sI:b.toList.take 1=[b[0]]:=by
    have:=wG (V C9).1;rwa [afD] at this
   rw[sI,Ø] at Z;rw[Z];exact h0 _ (V C9).1 y (List.mem_reverse.mp hy))
  refine fin _ _ _ g ?_ (e.1.trans Ŭ) e.2;rw[pU ⋯,pU ⋯];simp[Iv]
 have pA:∀{out:Array Ę} {na nb:Nat},H out na nb->(o:na-1<a.size)->(T:nb-1<b.size)->0<na->0<nb->na<=a.size->nb<=b.size->O.le (f b[nb-1]) (f a[na-1])->H (out.push a[na-1]) (na-1) nb:=λ{out na nb} M o T p1 G W X h=>by
  have:=M.yy (lO ha) (lO hb) (uH p1 ⋯ (ga o).1) (uH G ⋯ (V T).1) h;show cc _ _ _ _ _ _ _;rw[Ŕ,show a.toList.length-(na-1)=a.toList.length-na+1 by omega];exact this
 have pB:∀{out:Array Ę} {na nb:Nat},H out na nb->(o:na-1<a.size)->(T:nb-1<b.size)->0<na->0<nb->na<=a.size->nb<=b.size->O.le (f a[na-1]) (f b[nb-1])->H (out.push b[nb-1]) na (nb-1):=λ{out na nb} M o T p1 G W X h=>by
  have:=(M.swap.yy (lO hb) (lO ha) (uH G ⋯ (V T).1) (uH p1 ⋯ (ga o).1) h).swap;show cc _ _ _ _ _ _ _;rw[Ŕ,show b.toList.length-(nb-1)=b.toList.length-nb+1 by omega];exact this
 have ext:∀(c:Array Ę) (t n:Nat),t<=n->n<=c.size->((c.extract t n).reverse).toList=(c.toList.reverse.drop (c.toList.length-n)).take (n-t):=λc t n U h2=>by
  rw[pU (by simpa using h2),List.take_reverse,Array.toList_reverse,Ň,ĩ];congr 1;rw[Ŏ,å,Nat.min_eq_left h2,show n-(n-t)=t by omega,List.drop_take]
 have many:∀(c:Array Ę) (t n i:Nat) (x:Ę),t<=n->n<=c.size->i<n-t->c.toList.reverse[c.toList.length-n+i]?=ϊ x->c.toList[n-1-i]?=ϊ x:=λc t n i x U h2 h3 Z=>by
  rw[ags (by simp;omega)] at Z;rw[<- Z];congr 1;simp;omega
 have cA:∀{out:Array Ę} {na nb t:Nat},H out na nb->t<=na->na<=a.size->0<nb->nb<=b.size->(T:nb-1<b.size)->(∀i x,t<=i->i<na->a.toList[i]?=ϊ x->O.le (f b[nb-1]) (f x))->H (out++(a.extract t na).reverse) t nb:=λ{out na nb t} M U W G X T h=>by
  have:=M.BU (lO ha) (lO hb) (na-t) (uH G ⋯ (V T).1) λi x hi Z=>h (na-1-i) x ⋯ ⋯ (many a t na i x U W hi Z);show cc _ _ _ _ _ _ _;rw[Ŧ,ext a t na U W,show a.toList.length-t=a.toList.length-na+(na-t) by omega];exact this
 have cB:∀{out:Array Ę} {na nb t:Nat},H out na nb->t<=nb->nb<=b.size->0<na->na<=a.size->(o:na-1<a.size)->(∀i x,t<=i->i<nb->b.toList[i]?=ϊ x->O.le (f a[na-1]) (f x))->H (out++(b.extract t nb).reverse) na t:=λ{out na nb t} M U W G X T h=>by
  have:=(M.swap.BU (lO hb) (lO ha) (nb-t) (uH G ⋯ (ga T).1) λi x hi Z=>h (nb-1-i) x ⋯ ⋯ (many b t nb i x U W hi Z)).swap;show cc _ _ _ _ _ _ _;rw[Ŧ,ext b t nb U W,show b.toList.length-t=b.toList.length-nb+(nb-t) by omega];exact this
 have M0:H #v[a[a.size-1]] (a.size-1) b.size:=by
  have z:H #v[] a.size b.size:=by
   show cc _ _ _ _ _ _ _;rw[za,zb,agt,agt];exact#[.nil,by simp,λx Z=>(ü Z).elim,λx Z=>(ü Z).elim]
  exact pA z ⋯ ⋯ JR C9 (ahd _) (ahd _) (hl _ _ (ga ⋯).1 (V ⋯).1)
 refine(Bu ?_);refine(gJ (ga (i:=a.size-1) ⋯).2.1 ?_);by_cases c1:a.size-1=0
 .exact dY (by simpa using c1) (à (eA _ _ _ _ (.refl _) M0 (ahd _) c1))
 refine dC (by simpa using c1) ?_;by_cases c2:b.size=1
 .exact dY (by simpa using c2) (à (eL _ _ _ _ (.refl _) M0 (Nat.sub_le _ _) c2))
 refine dC (by simpa using c2) ?_;refine æ (agC ?_);have JP:∀n,Up O f ((a.toList.drop 0).take n):=λi=>ha.sublist ((Ż _ _).trans (Ń _ _));have JQ:∀n,Up O f ((b.toList.drop 0).take n):=λi=>hb.sublist ((Ż _ _).trans (Ń _ _))
 refine æ (ĳ (a:=0) (b:=a.size+b.size) (I:=aeH H a b st) ?_ ?_ #[.refl _,_,_,_,_,rfl,M0,by (try dsimp only);omega,by (try dsimp only);omega,by (try dsimp only);omega,ahd _,by (try dsimp only);omega])
 .refine Sy λj ao hj g out na nb P h=>?_
  have M:=h.1;have W:=h.2.1;have X:=h.2.2.1;have v1:=h.2.2.2.1;have v2:=h.2.2.2.2.1;have L:=h.2.2.2.2.2;clear h;refine æ (afI (ĳ (a:=0) (b:=a.size+b.size) (I:=aeI H a b st (na+nb))
   (Q:=aeJ H a b st j Q) ?_ ?_ #[g,_,_,_,_,_,rfl,M,W,X,v1,v2,by (try dsimp only);omega]) ?_)
  .refine Sz λi F hi Y nA nQ nR ac D h=>?_
   have d:=h.1;have K:=h.2.1;have R:=h.2.2.1;have B:=h.2.2.2.1;have m4:=h.2.2.2.2.1;have m5:=h.2.2.2.2.2;clear h;refine(gJ (V (i:=nR - 1) ⋯).2.1 ((gJ (ga (i:=nQ - 1) ⋯).2.1 ((QN C (Y.1.trans hk) (V _).2.2 (ga _).2.2 ?_)))))
   cases hc:O.lt (f (b[nR - 1]'⋯)) (f (a[nQ - 1]'⋯)) with
   |true =>
    have M2:=pA d ⋯ ⋯ K ⋯ R m4 (ST.Ord.le_of_lt hc);refine dY rfl ((gJ (ga (i:=nQ - 1) ⋯).2.1 ?_))
    exact dJ (λe=>à (.inl #[_,_,_,_,_,_,rfl,eA _ _ _ _ Y M2 m4 (by simpa using e)])) λe=>dJ (λ_=>à (.inr #[Y,_,_,_,_,_,rfl,M2,by simp at e;(try dsimp only);omega,by (try dsimp only);omega,B,m4,by (try dsimp only);omega])) λ_=>à #[Y,_,_,_,_,_,rfl,M2,by simp at e;(try dsimp only);omega,by (try dsimp only);omega,B,m4,by (try dsimp only);omega]
   |false =>
    have M2:=pB d ⋯ ⋯ K ⋯ R m4 hc;refine dC (by decide) ((gJ (V (i:=nR - 1) ⋯).2.1 ?_))
    exact dJ (λe=>à (.inl #[_,_,_,_,_,_,rfl,eL _ _ _ _ Y M2 R (by simpa using e)])) λe=>dJ (λ_=>à (.inr #[Y,_,_,_,_,_,rfl,M2,K,R,by simp at e;(try dsimp only);omega,by (try dsimp only);omega,by (try dsimp only);omega])) λ_=>à #[Y,_,_,_,_,_,rfl,M2,K,R,by simp at e;(try dsimp only);omega,by (try dsimp only);omega,by (try dsimp only);omega]
  .intro c F zz;let(Y,nA,nQ,nR,ac,D,rfl,d,K,R,B,m4,m5):=zz
   exact .inr #[Y,_,_,_,_,_,rfl,d,K,R,B,m4,by omega]
  .refine SD (λF r out na nb ac D hr=>à (à hr)) λF Y out na nb ac D h=>?_
   have M:=h.1;have W:=h.2.1;have X:=h.2.2.1;have v1:=h.2.2.2.1;have v2:=h.2.2.2.2.1;have L:=h.2.2.2.2.2;clear h;refine(Bu ?_);refine æ (afI (ĳ (a:=0) (b:=a.size+b.size) (I:=aeK H a b st j)
    (Q:=aeL H a b st j Q) ?_ ?_ #[Y,_,_,_,_,_,_,rfl,M,W,X,v1,v2,L]) ?_)
   .refine SA λi F hi Y out na nb P ac D h=>?_
    have M:=h.1;have W:=h.2.1;have X:=h.2.2.1;have v1:=h.2.2.2.1;have v2:=h.2.2.2.2.1;have L:=h.2.2.2.2.2;clear h;dsimp only;have bb:nb-1<b.size:=by omega
    revert P
    refine Oy (λP=>P-1) (λ_ h=>h) (λ_ h=>h) λP=>?_;refine(Pz λje g3=>?_)
    replace Y:=Y.tr g3
    clear g3
    refine(gJ (V (i:=nb-1) ⋯).2.1 ((u4 (base:=0) (n:=na) C (Y.1.trans hk) (V _).2.2 (by (try dsimp only);omega) (by (try dsimp only);omega) sa (JP _) λt k1 k2 k3=>?_)))
    replace k1:t<=na:=k1
    have qh:∀x,0<t->a.toList[t-1]?=ϊ x->O.le (f x) (f (b[nb-1]'bb)):=λx ht Z=>by
     have:=k2 (t-1) x ⋯ (by rw[afq];exact Z);simpa [j4,ST.Ord.le] using this
    have M1:=cA (t:=t) M k1 X ⋯ v2 ⋯ λi x hi gP Z=>by
     have:=k3 i x hi gP (by rw[afq];exact Z);erw[j4,Ò,Ğ,af0] at this;exact ST.Ord.le_of_lt this
    dsimp only;generalize zL:na-t=k;have hH:=Ý M (Ý W (Ý X (Ý L (Ý M1 (Ý k1 zL)))));clear k1 k2 k3 M W X L M1 zL
    revert hH
    revert out na
    refine A4 (γ:=Array Ę) (δ:=Nat) (λout na=>H out na nb/\0<na/\na<=a.size/\j+1+na+nb<a.size+b.size/\∀x,a.toList[na-1]?=ϊ x->O.le (f x) (f (b[nb-1]'bb))) (λ_ _ h=>h) ?J ?r ?h
    case r =>
     intro out na tJ h;have e:t=na:=by have:=h.2.2.2.2.2.1;have:=h.2.2.2.2.2.2;omega
     exact#[h.1,h.2.1,h.2.2.1,h.2.2.2.1,λx Z=>qh x (by rw[e];exact h.2.1) (by rw[e];exact Z)]
    case J =>
     intro out na h;have N:=h.1;have W:=h.2.1;have X:=h.2.2.1;have L:=h.2.2.2.1;have hle:=h.2.2.2.2;clear h qh;refine(gJ (V (i:=nb-1) ⋯).2.1 ?_);have N1:=pB N ⋯ ⋯ ⋯ ⋯ X v2 (hle _ (ga (i:=na-1) ⋯).1);refine dJ (λe=>à (.inl #[_,_,_,_,_,_,_,rfl,eL _ _ _ _ Y N1 X (by simpa using e)])) λe=>?_;have w1:1<nb-1:=by simp at e;omega
     have aa:na-1<a.size:=by omega
     refine(gJ (ga (i:=na-1) ⋯).2.1 ((u4 (base:=0) (n:=nb-1) C (Y.1.trans hk) (ga _).2.2 (by (try dsimp only);omega) (by (try dsimp only);omega) sb (JQ _) λv q1 q2 q3=>?_)))
     replace q1:v<=nb-1:=q1
     have hc:∀x,0<v->b.toList[v - 1]?=ϊ x->O.le (f x) (f (a[na-1]'aa)):=λx ht Z=>ST.Ord.le_of_lt (q2 (v - 1) x ⋯ (by rw[afq];exact Z));have N2:=cB (t:=v) N1 q1 ⋯ ⋯ X ⋯ λi x hi Z hb=>q3 i x hi Z (by rw[afq];exact hb);have l4:j+1+na+(nb-1)<a.size+b.size:=by omega
     have v3:nb-1<=b.size:=by omega
     dsimp only;generalize zL:nb-1-v=k';have hH:=Ý N1 (Ý w1 (Ý v3 (Ý l4 (Ý N2 (Ý q1 zL)))));clear q1 q2 q3 N N1 N2 L l4 hle e w1 v3 zL
     revert hH
     generalize out.push (b[nb-1]'bb)=out;generalize nb-1=nb1
     revert out nb1
     refine A4 (γ:=Array Ę) (δ:=Nat) (λout nb=>H out na nb/\1<nb/\nb<=b.size/\j+1+na+nb<a.size+b.size/\∀x,b.toList[nb-1]?=ϊ x->O.le (f x) (f (a[na-1]'aa))) (λ_ _ h=>h) ?J2 ?r2 ?h2
     case r2 =>
      intro out nb tJ h;have e:v=nb:=by have:=h.2.2.2.2.2.1;have:=h.2.2.2.2.2.2;omega
      exact#[h.1,h.2.1,h.2.2.1,h.2.2.2.1,λx Z=>hc x (by have:=h.2.1;omega) (by rw[e];exact Z)]
     case J2 =>
      intro out nb h;have N:=h.1;have w1:=h.2.1;have w2:=h.2.2.1;have L:=h.2.2.2.1;have hle:=h.2.2.2.2;clear h;have N3:=pA N ⋯ ⋯ ⋯ ⋯ X w2 (hle _ (V (i:=nb-1) ⋯).1);refine(gJ (ga (i:=na-1) ⋯).2.1 ?_)
      exact dJ (λe4=>à (.inl #[_,_,_,_,_,_,_,rfl,eA _ _ _ _ Y N3 w2 (by simpa using e4)])) λe4=>dJ (λ_=>à (.inr #[Y,_,_,_,_,_,_,rfl,N3,by simp at e4;(try dsimp only);omega,by (try dsimp only);omega,w1,w2,by (try dsimp only);omega])) λ_=>à #[Y,_,_,_,_,_,_,rfl,N3,by simp at e4;(try dsimp only);omega,by (try dsimp only);omega,w1,w2,by (try dsimp only);omega]
     intro J out nb tJ h;have N2:=h.2.2.2.2.1;have q1:=h.2.2.2.2.2.1;have v3:=h.2.2.1;have l4:=h.2.2.2.1;exact dJ (λe3=>à (.inl #[_,_,_,_,_,_,_,rfl,eL _ _ _ _ Y N2 X (by simpa using e3)])) λe3=>dJ (λe5=>à (.inl #[_,_,_,_,_,_,_,rfl,eB _ _ _ _ Y N2 X (by simpa using e5)])) λe5=>J _ _ #[N2,by simp at e3 e5;omega,by omega,by omega,λx Z=>hc x (by simp at e3 e5;omega) Z]
    intro J out na tJ h;have M1:=h.2.2.2.2.1;have k1:=h.2.2.2.2.2.1;have X:=h.2.2.1;have L:=h.2.2.2.1;exact dJ (λe=>à (.inl #[_,_,_,_,_,_,_,rfl,eA _ _ _ _ Y M1 v2 (by simpa using e)])) λe=>J _ _ #[M1,by simp at e;omega,by omega,by omega,λx Z=>qh x (by simp at e;omega) Z]
   .intro c F zz;let(Y,out,na,nb,P,ac,D,rfl,d,K,R,B,m4,m5):=zz
    exact .inr #[Y,_,_,_,_,_,_,rfl,d,K,R,B,m4,m5]
   .exact SE (λF r out na nb P ac D hr=>à (à hr)) λF Y out na nb P ac D h=>æ (Fy (à #[Y,_,_,_,_,rfl,h]))
 .intro c ao zz;let(g,out,na,nb,P,rfl,M,K,R,B,m4,m5):=zz
  omega
end
section
variable {α β:Type} {O:ST.Ord α} {f:β->α}
noncomputable abbrev seg (l:List β) (i n:Nat):List β:=(l.drop i).take n
def pX (l:List β) (i m n):seg l i (m+n)=seg l i m++seg l (i+m) n:=by
 delta seg;rw[List.take_add,Ũ]
def pY {i n j} (h:j<n):(seg l i n)[j]?=l[i+j]?:=by
 rw[ω h,Ů]
def kN (h:x∈seg l i n):∃j,j<n/\l[i+j]?=ϊ x:=by
 let(j,Z,e):=ť h;have Y:j<n:=by rw[Ŏ] at Z;omega
 exact#[j,Y,by rw[<- pY Y,É Z,e]]
def rA {i n} (h:i+n<=l.length):(seg l i n).length=n:=by
 rw[Ŏ,θ];omega
def u5 (h:Up O f (seg l i n)) (Dc:j<=k) (hk:k<n) (hx:l[i+j]?=ϊ x) (hy:l[i+k]?=ϊ y):O.le (f x) (f y):=by
 by_cases e:j=k
 .subst e;rw[hx] at hy;cases hy;exact ST.Ord.le_refl _
 .rw[<- pY (n:=n) ⋯] at hx
  rw[<- pY hk] at hy;let(Z,rfl):=Ä.mp hx;let(Y,rfl):=Ä.mp hy;exact ŋ.mp h j k Z Y ⋯
def back (m):∀n i (arr:Array β),i+n+m.length<=arr.size->((m.zipIdx n).foldl (λa p=>a.setIfInBounds (i+p.2) p.1) arr).toList=arr.toList.take (i+n)++m++arr.toList.drop (i+n+m.length):=by
 induction m with
 |nil=>simp
 |cons x m ih =>
  intro n i arr h;rw[Ú] at h;rw[List.zipIdx_cons,List.foldl_cons,ih _ i _ (by simp;omega),Array.toList_setIfInBounds];have e1:(arr.toList.set (i+n) x).take (i+(n+1))=arr.toList.take (i+n)++[x]:=by
   rw[show i+(n+1)=i+n+1 by omega,List.take_add_one,List.take_set_of_le (ahd _),ñ (by simp;omega)];rfl
  have e2:(arr.toList.set (i+n) x).drop (i+(n+1)+m.length)=arr.toList.drop (i+n+(m.length+1)):=by
   rw[List.drop_set_of_lt ⋯];congr 1;omega
  rw[e1,e2];simp
end
section
variable {prog:Ć} {w:ģ} {A:Ĭ} {E:ì->ß->Prop} {s:ß} {α:Type} {O:ST.Ord α} {f:Ę->α} {S:Ę->Prop} {κ:ag0}
def abv {st:ď} (h:Q #[] x):wpS (ã prog w) A E s (set x) Q st:=by
 exact Â #[rfl,h]
def VE (C:jP prog w A E s O f S κ) {st:ď} (hk:kindOf st=κ) (hf:afH st=ϋ) (sS:∀x∈(ī st).toList,S x)
 (p1:(ė st)[i]?=ϊ (sa,na,pa)) (p2:(ė st)[i+1]?=ϊ (sb,nb,pb)) (JS:sb=sa+na) (JR:0<na) (C9:0<nb) (hz:sb+nb<=(ī st).size) (ua:Up O f (seg (ī st).toList sa na)) (ub:Up O f (seg (ī st).toList sb nb))
 (q:∀(ao:ď) (m:List Ę),kindOf ao=κ->afH ao=ϋ->ė ao=((ė st).setIfInBounds i (sa,na+nb,pa)).eraseIdxIfInBounds (i+1)->(ī ao).toList=(ī st).toList.take sa++m++(ī st).toList.drop (sa+(na+nb))->m.Perm (seg (ī st).toList sa (na+nb))->Up O f m->Q ό ao):wpS (ã prog w) A E s (mergeAt' i) Q st:=by
 let(kd,arr,pd,M,P):=st;have hk:kd=κ:=hk;have hf:P=ϋ:=hf;have hz:sb+nb<=arr.size:=hz;generalize W:arr.toList=l at *;have zl:l.length=arr.size:=by rw[<- W];simp
 have gt:∀{j},(h:j<arr.size)->l[j]?=ϊ arr[j]/\arr[j]?=ϊ arr[j]/\S arr[j]:=λ{j} h=>by
  have e:l[j]?=ϊ arr[j]:=by rw[<- W];exact(gY h).1
  exact#[e,(gY h).2,sS _ (ö e)]
 have I:∀x∈arr.toList,S x:=by rw[W];exact sS
 have L:seg l sa (na+nb)=seg l sa na++seg l sb nb:=by rw[pX,JS]
 refine æ (agC ?_);rw[p1,p2];dsimp only;refine æ (abv ?_);have keep:∀(m:List Ę),m.Perm _->Up O f m->m=seg l sa (na+nb)->Q ό (SortSt.mk' kd arr _ M P):=λm h1 h2 h3=>q _ m hk hf rfl (by
  rw[W,h3];rw[<- Ũ (l:=l),Ö,Ė,Ė]) h1 h2
 refine(gJ (gt (j:=sb) ⋯).2.1 ((u4 C hk (gt _).2.2 ⋯ JR I (by rw[W];exact ua) λk k1 H G=>?_)));rw[W] at H G;dsimp only;have F:∀x∈seg l sa k,O.le (f x) _:=λx Z=>by
  let(j,T,e):=kN Z;have:=H j x T e;simpa [j4,ST.Ord.le] using this
 have leB:∀y∈seg l sb nb,O.le (f (arr[sb]'⋯)) (f y):=λy X=>by
  let(j,T,e):=kN X;exact u5 ub (Ă j) T (by exact(gt _).1) e
 refine dJ (λe=>à (keep _ (.refl _) ?_ rfl)) λe=>?_
 .have:k=na:=by simp at e;omega
  subst this;rw[L];exact ô.mpr #[ua,ub,λx Z y X=>ST.Ord.jM (F x Z) (leB y X)]
 have kn:k<na:=by simp at e;omega
 have el:sa+k+(na-k)-1=sb-1:=by omega
 rw[el];refine(gJ (gt ⋯).2.1 ((u4 C hk (gt _).2.2 ⋯ ⋯ I (by rw[W];exact ub) λY q1 D B=>?_)));rw[W] at D B;dsimp only;have rY:∀x∈seg l sa na,O.le (f x) (f (arr[sb-1]'⋯)):=λx Z=>by
  let(j,T,e):=kN Z;exact u5 ua (show j<=na-1 by omega) ⋯ e (by rw[show sa+(na-1)=sb-1 by omega];exact(gt _).1)
 have z:∀y∈seg l (sb+Y) (nb-Y),O.le _ (f y):=λy X=>by
  let(j,T,e):=kN X;exact B (Y + j) y ⋯ ⋯ (by rw[<- e];congr 1;omega)
 refine dJ (λe=>à (keep _ (.refl _) ?_ rfl)) λe=>?_
 .have:Y=0:=by simpa using e
  subst this;rw[L];exact ô.mpr #[ua,ub,λx Z y X=>ST.Ord.jM (rY x Z) (z y (by simpa using X))]
 have k0:0<Y:=by simp at e;omega
 have v:seg l sa na=seg l sa k++seg l (sa+k) (na-k):=by rw[<- pX,show k+(na-k)=na by omega]
 have sB:seg l sb nb=seg l sb Y++seg l (sb+Y) (nb-Y):=by rw[<- pX,show Y + (nb-Y)=nb by omega]
 have V:(arr.extract (sa+k) sb).toList=seg l (sa+k) (na-k):=by rw[Ň,ĩ,W,show sb-(sa+k)=na-k by omega]
 have U:(arr.extract sb (sb+Y)).toList=seg l sb Y:=by rw[Ň,ĩ,W,Nat.add_sub_cancel_left]
 have u:(seg l (sa+k) (na-k)).length=na-k:=rA ⋯;have t:(seg l sb Y).length=Y:=rA ⋯;have N:(arr.extract (sa+k) sb).size=na-k:=by rw[<- å,V,u]
 have r:(arr.extract sb (sb+Y)).size=Y:=by rw[<- å,U,t]
 rw[v] at ua rY;rw[sB] at ub leB;have p:=(ô.mp ua).2.1;have o:=(ô.mp ub).1;have K:∀y∈seg l sb Y,O.le (f y) _:=λy X=>by
  let(j,T,e):=kN X;exact ST.Ord.le_of_lt (D j y T e)
 have n:∀x∈seg l (sa+k) (na-k),O.le _ (f x):=λx Z=>by
  let(j,T,e):=kN Z;have:=G (k+j) x ⋯ ⋯ (by rw[<- e];congr 1;omega);erw[j4,Ò,Ğ,af0] at this;exact ST.Ord.le_of_lt this
 have d:∀x∈seg l (sa+k) (na-k),S x:=λx Z=>by
  let(j,T,e):=kN Z;exact sS x (ö e)
 have c:∀x∈seg l sb Y,S x:=λx Z=>by
  let(j,T,e):=kN Z;exact sS x (ö e)
 have b:∀x,(seg l (sa+k) (na-k))[na-k-1]?=ϊ x->x=arr[sb-1]'⋯:=λx Z=>by
  rw[pY ⋯,show sa+k+(na-k-1)=sb-1 by omega,(gt ⋯).1] at Z;exact(ahe Z).symm
 have SK:∀y,(seg l sb Y)[0]?=ϊ y->y=arr[sb]'⋯:=λy X=>by
  rw[pY k0,Nat.add_zero,(gt (j:=sb) ⋯).1] at X;exact(ahe X).symm
 have fin:∀(m:Array Ę) (ao:ď),dH (SortSt.mk' kd arr _ M P) ao->m.toList.Perm (seg l (sa+k) (na-k)++seg l sb Y)->Up O f m.toList ->
   Q ό (setArr ao (m.toList.zipIdx.foldl (λa x=>a.setIfInBounds (sa+k+x.2) x.1) (ī ao))):=λm ao g pm R=>by
  let(g1,g2,g3,g4):=g;have lm:m.toList.length=na-k+Y:=by rw[pm.length_eq,Î,u,t]
  have mm:∀x∈m.toList,x∈seg l (sa+k) (na-k)\/x∈seg l sb Y:=λx Z=>Û.mp (pm.mem_iff.mp Z);refine q _ (seg l sa k++m.toList++seg l (sb+Y) (nb-Y)) (g1.trans hk) (g4.trans hf) g3 ?_ ?_ ?_
  .rw[g2]
   have:=back m.toList 0 (sa+k) arr (by rw[lm];omega);rw[this,W,Nat.add_zero,lm,List.take_add,show sa+k+(na-k+Y)=sb+Y by omega];have:l.drop (sb+Y)=seg l (sb+Y) (nb-Y)++l.drop (sa+(na+nb)):=by
    have:=Ė (nb-Y) (l.drop (sb+Y));rw[Ũ] at this;rw[show sa+(na+nb)=sb+Y + (nb-Y) by omega];exact this.symm
   rw[this];erw[Ö]
  .rw[L,v,sB]
   refine((pm.append_left _).append_right _).trans ?_;erw[Ö];exact .refl _
  .refine ô.mpr #[ô.mpr #[(ô.mp ua).1,R,λx Z y X=>?_],(ô.mp ub).2.1,λx Z y X=>?_]
   .rcases mm y X with h|h
    .exact(ô.mp ua).2.2 x Z y h
    .exact ST.Ord.jM (F x Z) (leB y (ě _ h))
   .have J:=z y X
    rcases Û.mp Z with h|h
    .exact ST.Ord.jM (rY x (ě _ h)) J
    .rcases mm x h with h|h
     .exact ST.Ord.jM (rY x (Å _ h)) J
     .exact ST.Ord.jM (K x h) J
 have SM:∀(m:Array Ę) (ao:ď),dH (SortSt.mk' kd arr ((pd.setIfInBounds i (sa,na+nb,pa)).eraseIdxIfInBounds (i+1)) M P) ao->(afH ao).isNone=ό:=λm ao g=>by
  rw[g.2.2.2,hf];rfl
 refine dJ (λ_=>æ (VB C hk (by rw[V];exact p) (by rw[U];exact o) (by rw[V];exact d) (by rw[U];exact c) (by rw[N];omega) (by rw[r];omega) (λx y Z X=>?_) (λx Z y X=>?_) λm ao g pm R=>?_)) (λ_=>æ (VD C hk (by rw[V];exact p) (by rw[U];exact o) (by rw[V];exact d) (by rw[U];exact c) (by rw[N];omega) (by rw[r];omega) (λy X x Z=>?_) (λx y Z X=>?_) λm ao g pm R=>?_))
 .rw[V] at Z
  rw[U] at X;rw[SK y X];exact n x (ö Z)
 .rw[V,N] at Z
  rw[U] at X;rw[b x Z];exact K y X
 .rw[V,U] at pm
  refine æ (afx (æ (agC (à ?_))));have:=fin m ao g pm R;rw[<- SM m ao g] at this;exact this
 .rw[U] at X
  rw[V] at Z;rw[SK y X];exact n x Z
 .rw[V,N] at Z
  rw[U] at X;rw[b x Z];exact K y (ö X)
 .rw[V,U] at pm
  refine æ (afx (æ (agC (à ?_))));have:=fin m ao g pm R;rw[<- SM m ao g] at this;exact this
end
section
variable {α β:Type} {O:ST.Ord α} {f:β->α}
def Oz (h:l[i+n]?=ϊ x):seg l i (n+1)=seg l i n++[x]:=by
 rw[pX];congr 1;exact wG h
def A5 (h:Up O f (seg l i n)) (hn:0<n) (hx:l[i+n-1]?=ϊ x) (hy:l[i+n]?=ϊ y) (Jx:O.le (f x) (f y)):Up O f (seg l i (n+1)):=by
 rw[Oz hy];refine ô.mpr #[h,Ş ..,λz Z u Y=>?_];rw[Ø.mp Y];let(j,X,e):=kN Z;exact ST.Ord.jM (u5 h (show j<=n-1 by omega) ⋯ e (by rw[show i+(n-1)=i+n-1 by omega];exact hx)) Jx
def PC:Up O f (seg l i 1):=by
 delta seg
 match h:(l.drop i).take 1,(by rw[Ŏ];omega:((l.drop i).take 1).length<=1) with
 | [],_=>exact .nil
 | [x],_=>exact Ş ..
def turned {lo n} (h:lo+n<=arr.size):(mirror arr lo (lo+n) ((lo+n-lo) / 2)).toList=arr.toList.take lo++(seg arr.toList lo n).reverse++arr.toList.drop (lo+n):=by
 have ls:(seg arr.toList lo n).length=n:=rA (by simpa using h);have lt:(arr.toList.take lo).length=lo:=by simp;omega
 apply į;intro k;rw[ä,getElem?_mirror_all h];by_cases Z:k<lo
 .rw[ÿ ⋯,Ö,Ù ⋯,ω Z,ä]
 .by_cases Y:k<lo+n
  .rw[õ ⋯,Ù (by rw[Î,afL];omega),ç ⋯,ags ⋯,pY ⋯,ä]
   congr 1;omega
  .rw[ÿ ⋯,ç (by rw[Î,afL];omega),Î,afL,Ů,ä]
   congr 1;omega
def moved {lo k p} {x} (hp:p<=k) (h:lo+k<arr.size) (hx:arr.toList[lo+k]?=ϊ x):(bubble arr (lo+k) (lo+k-(lo+p))).toList=arr.toList.take lo++(seg arr.toList lo p++x::seg arr.toList (lo+p) (k-p))++arr.toList.drop (lo+(k+1)):=by
 have Z:(seg arr.toList lo p).length=p:=rA (by simp;omega);have X:(seg arr.toList (lo+p) _).length=k-p:=rA (by simp;omega);have lt:(arr.toList.take lo).length=lo:=by simp;omega
 apply į;intro i;rw[ä,getElem?_bubble h _ ⋯];rw[ä] at hx;by_cases Y:i<lo
 .rw[ÿ ⋯,ÿ ⋯,Ö,Ù ⋯,ω Y,ä]
 .by_cases W:i<lo+(k+1)
  .rw[Ù (by erw[Î,Ú];omega),ç ⋯,lt]
   by_cases V:i<lo+p
   .rw[ÿ ⋯,ÿ ⋯,Ù ⋯,pY ⋯,ä]
    congr 1;omega
   .rw[ç ⋯,Z]
    by_cases U:i=lo+p
    .rw[õ ⋯,hx,show i-lo-p=0 by omega]
     rfl
    .rw[ÿ ⋯,õ ⋯,show i-lo-p=(i-lo-p-1)+1 by omega,List.getElem?_cons_succ,pY ⋯,ä]
     congr 1;omega
  .rw[ÿ ⋯,ÿ ⋯,ç (by erw[Î,Ú];omega),Ů,ä]
   congr 1;erw[Î,Ú];omega
end
section
variable {prog:Ć} {w:ģ} {A:Ĭ} {E:ì->ß->Prop} {s:ß} {α:Type} {O:ST.Ord α} {f:Ę->α} {S:Ę->Prop} {κ:ag0}
structure pq (O:ST.Ord α) (f) (st ao:ď) (lo n):Prop where
 k:kindOf ao=kindOf st
 fl:afH ao=afH st
 pd:ė ao=ė st
 ar:∃m,(ī ao).toList=(ī st).toList.take lo++m++(ī st).toList.drop (lo+n)/\m.Perm (seg (ī st).toList lo n)/\Up O f m
def aeM {lo n m z:Nat} (hz:lo+m<=z) (h:n<m):lo+n<z:=by omega
def aeN {lo n m z} (hz:lo+m<=z) (h:n<m):lo+n-1<z:=by omega
def JT {γ:Type} {mk:Nat->γ} {jg} {R:Nat->Prop} {lo hi} {P:Nat->γ->ď->Prop} (h:∀j,j<hi->R j->P j (mk j) jg):∀j c st,lo<=j->j<hi->(st=jg/\c=mk j/\R j)->P j c st:=by
 rintro j c st-Z ⟨rfl,rfl,r⟩;exact h _ Z r
def JU {γ δ:Type} {mk:δ->γ} {jg} {R:δ->Prop} {P:γ->ď->Prop} (h:∀a,R a->P (mk a) jg):∀c st,(st=jg/\∃a,c=mk a/\R a)->P c st:=by
 intro c st zz;let(rfl,a,rfl,r):=zz;exact h a r
def uJ (C:jP prog w A E s O f S κ) {st:ď} (hk:kindOf st=κ) (sS:∀x∈(ī st).toList,S x) (hx:(ī st).toList[i]?=ϊ x) (hy:(ī st).toList[j]?=ϊ y) (q:Q (ϊ (O.lt (f x) (f y))) st):wpS (ã prog w) A E s (ltAt' i j) Q st:=by
 refine æ (agC (æ (BS (by rw[<- ä];exact hx) (æ (BS (by rw[<- ä];exact hy) (C st x y Q hk (sS x (ö hx)) (sS y (ö hy)) q))))))
def WQ (C:jP prog w A E s O f S κ) {lo nB} {Q} {st:ď} (hk:kindOf st=κ) (sS:∀x∈(ī st).toList,S x) (nd:((ī st).toList.map f).Nodup) (h1:1<=nB) (hz:lo+nB<=(ī st).size)
  (q:∀n ao,1<=n->n<=nB->pq O f st ao lo n->Q (ϊ n) ao):wpS (ã prog w) A E s (countRun' lo nB) Q st:=by
 obtain⟨arr,V⟩:∃arr,ī st=arr:=#[_,rfl];have U:=hk;have T:=sS;rw[V] at nd hz sS;have gt:∀{j},(h:j<arr.size)->(ī st).toList[j]?=ϊ _:=λh=>by rw[V];exact(gY h).1
 have nO:∀{i j} hi (P:j<arr.size),i≠j->O.lt _ _=ύ->O.lt _ _=ό:=λ{i j} hi P G h=>by
  cases e:O.lt (f _) (f arr[i]) with
  |true=>rfl
  |false =>
   have z:=O.nO _ _ h e;have n:=ŋ.mp nd
   rcases Nat.lt_or_gt_of_ne G with c|c
   .exact absurd (by rw[agD,agD];simpa using z) (n i j (by simpa using hi) (by simpa using P) c)
   .exact absurd (by rw[agD,agD];simpa using z.symm) (n j i (by simpa using P) (by simpa using hi) c)
 have L:∀n,Up O f _->pq O f st st lo n:=λn u=>#[rfl,rfl,rfl,_,by
  rw[<- Ũ,Ö,Ė,Ė],.refl _,u]
 refine æ (afI (ĳ (I:=λi c ao=>ao=st/\c=(ϋ,i)/\1<=i/\Up O f (seg (ī st).toList lo i))
  (Q:=λc ao=>ao=st/\∃n,c=(ϋ,n)/\1<=n/\n<=nB/\Up O f (seg (ī st).toList lo n)/\((h:n<nB)->O.lt (f (arr[lo+n]'(aeM hz h))) (f (arr[lo+n-1]'(aeN hz h)))=ό)) ?_ ?_ #[rfl,rfl,ahd _,PC]) ?_)
 .refine JT λn hi h=>?_
  have Y:=h.1;have u:=h.2;clear h;refine æ (uJ C U T (gt ⋯) (gt ⋯) ?_)
  cases W:O.lt _ _ with
  |true=>exact dY rfl (à #[rfl,n,rfl,Y,by omega,u,λ_=>W])
  |false=>exact dC (by decide) (à #[rfl,rfl,by omega,A5 u ⋯ (gt ⋯) (gt ⋯) W])
 .intro c ao zz;let(rfl,rfl,Y,u):=zz
  exact#[rfl,_,rfl,Y,by omega,u,λh=>by omega]
 refine JU λn h=>?_;have Y:=h.1;have K:=h.2.1;have u:=h.2.2.1;have hs:=h.2.2.2;clear h;refine dJ (λ_=>à (q n _ Y K (L n u))) λe=>?_;have F:n<nB:=by simp at e;omega
 refine dJ (λD=>?_) λD=>?_
 .refine æ (uJ C U T (gt ⋯) (gt (j:=lo+n-1) ⋯) ?_)
  have le:=u5 u (j:=0) (k:=n-1) ⋯ ⋯ (by exact gt ⋯) (by rw[show lo+(n-1)=lo+n-1 by omega];exact gt ⋯);rw[nO (j:=lo) ⋯ ⋯ ⋯ le];exact dY rfl (à (q n _ Y K (L n u)))
 obtain rfl:n=1:=by omega
 refine æ (Fx ?_);have B:=A5 (O:=rev O) PC ⋯ (gt ⋯) (gt ⋯) (ST.Ord.le_of_lt (hs F));refine æ (afI (ĳ (a:=2) (I:=λi c R=>R=st/\c=(ϋ,i,0)/\2<=i/\Up _ f (seg _ lo i))
  (Q:=λc R=>R=st/\∃n,c=(ϋ,n,0)/\2<=n/\n<=nB/\Up (rev O) f (seg (ī st).toList lo n)) ?_ ?_ #[rfl,rfl,ahd _,B]) ?_)
 .refine JT λn hi h=>?_
  have Y:=h.1;have u:=h.2;clear h;refine æ (uJ C U T (gt (j:=lo+n) ⋯) (gt (j:=lo+n-1) ⋯) ?_)
  cases W:O.lt _ _ with
  |true=>exact dY rfl (dC (ó 0) (à #[rfl,rfl,by omega,A5 u ⋯ (gt ⋯) (gt ⋯) (ST.Ord.le_of_lt W)]))
  |false =>
   refine dC (by decide) (æ (uJ C U T (gt (j:=lo+n-1) ⋯) (gt (j:=lo+n) ⋯) ?_));rw[nO ⋯ ⋯ ⋯ W];exact dY rfl (à #[rfl,n,rfl,Y,by omega,u])
 .intro c R zz;let(rfl,rfl,Y,u):=zz
  exact#[rfl,_,rfl,Y,by omega,u]
 refine JU λn h=>?_;have p:=h.1;have o:=h.2.1;have J:=h.2.2;clear h;rw[V] at J;have ev:=turned (arr:=arr) (lo:=lo) (n:=n) ⋯;refine æ (wpS_reverse ?_);rw[V];generalize mirror arr lo _ _=X at ev;have y:=U;have H:(seg arr.toList lo n).reverse.length=n:=by rw[afL];exact rA (by simp;omega)
 have lt:(arr.toList.take lo).length=lo:=by simp;omega
 have m:X.size=arr.size:=by
  rw[<- å,ev,Î,Î,lt,H,θ,å];omega
 have N:∀Z,n<=Z->seg X.toList lo Z=(seg arr.toList lo n).reverse++seg _ (lo+n) _:=λZ h=>by
  delta seg;rw[ev,Ö,List.drop_append,List.drop_of_length_le ⋯,lt,agt,afD,ĥ,List.take_append,Ě ⋯,H]
 have v:∀x∈X.toList,S x:=λx M=>sS x (by
  rw[ev] at M;erw[Û,List.mem_reverse] at M
  rcases M with (h|h)|h
  .exact List.mem_of_mem_take h
  .let(j,_,e):=kN h;exact ö e
  .exact agF h)
 have g2:∀{j},(h:j<X.size)->X.toList[j]?=ϊ _:=λh=>(gY h).1;have fin:∀Z,n<=Z->Z<=nB->Up O f _->Q _ (setArr st X):=λZ a1 a2 t=>q Z _ ⋯ a2 #[rfl,rfl,rfl,seg _ lo Z,by
  rw[V,N Z a1,ev];have:=by
   have:=Ė (Z - n) (arr.toList.drop (lo+n));rw[Ũ,show lo+n+(Z - n)=lo+Z by omega] at this;exact this.symm
  rw[this];erw[Ö],by
  rw[V,N Z a1,show Z=n+(Z - n) by omega,pX,show n+(Z - n)-n=Z - n by omega];exact(agj _).append_right _,t]
 have r:Up O f (seg X.toList lo n):=by
  rw[N n (ahd _),agt,show seg _ _ 0=[] from List.take_zero,ĕ];exact PB J
 refine æ (afI (ĳ (a:=n) (I:=λi c ao=>ao=setArr st X/\c=(ϋ,i)/\n<=i/\Up O f (seg _ lo i))
  (Q:=λc ao=>ao=setArr st X/\∃Z,c=(ϋ,Z)/\n<=Z/\Z<=nB/\Up O f (seg X.toList lo Z)) ?_ ?_ #[rfl,rfl,ahd _,r]) ?_)
 .refine JT λZ hi h=>?_
  have a1:=h.1;have u:=h.2;refine æ (uJ C y v (g2 (j:=lo+Z) ⋯) (g2 (j:=lo+Z - 1) ⋯) ?_)
  cases W:O.lt _ _ with
  |true=>exact dY rfl (à #[rfl,Z,rfl,a1,by omega,u])
  |false=>exact dC (by decide) (à #[rfl,rfl,by omega,A5 u ⋯ (g2 ⋯) (g2 ⋯) W])
 .intro c ao zz;let(rfl,rfl,a1,u):=zz
  exact#[rfl,_,rfl,a1,by omega,u]
 .exact JU λZ h=>à (fin Z h.1 h.2.1 h.2.2)
def pq.parts {st ao} {lo n} (R:pq O f st ao lo n) (h:lo+n<=(ī st).size):∃m,(ī ao).toList=(ī st).toList.take lo++m++(ī st).toList.drop (lo+n)/\m.Perm (seg (ī st).toList lo n)/\Up O f m/\m.length=n/\(ī ao).size=(ī st).size/\(ī ao).toList.take lo=(ī st).toList.take lo/\seg (ī ao).toList lo n=m/\(∀i,lo+n<=i->(ī ao).toList[i]?=(ī st).toList[i]?)/\(ī ao).toList.Perm (ī st).toList:=by
 let(m,e,p,u):=R.ar;have lm:m.length=n:=by rw[p.length_eq];exact rA (by simpa using h)
 have lt:((ī st).toList.take lo).length=lo:=by simp;omega
 have sz:(ī ao).size=(ī st).size:=by
  rw[<- å,e,Î,Î,lt,lm,θ,å];omega
 refine#[m,e,p,u,lm,sz,?_,?_,λi hi=>?_,?_]
 .rw[e,Ö,List.take_append_of_le_length ⋯,Ě ⋯]
 .delta seg
  rw[e,Ö,List.drop_append,List.drop_of_length_le ⋯,lt,agt,afD,ĥ,List.take_append,Ě ⋯,lm,agt,List.take_zero,ĕ]
 .rw[e,ç (by rw[Î];omega),Î,Ů]
  congr 1;omega
 .rw[e]
  refine((p.append_left _).append_right _).trans ?_;rw[<- Ũ,Ö,Ė,Ė]
def ZQ {st} (h:Q () (setArr st (bubble (ī st) a (a-b)))):wpS (ã prog w) A E s (moveDown' a b) Q st:=by
 exact afx h
def ZR (C:jP prog w A E s O f S κ) {lo n ok} {Q} {jg st:ď} (hk:kindOf jg=κ) (sS:∀x∈(ī jg).toList,S x) (h1:1<=ok) (hn:ok<=n) (hz:lo+n<=(ī jg).size) (R0:pq O f jg st lo ok)
  (q:∀ao,pq O f jg ao lo n->Q ό ao):wpS (ã prog w) A E s (binarySort' lo n ok) Q st:=by
 rw[binarySort'_eq];have em:max ok 1=ok:=by omega
 rw[em];refine æ (afI (ĳ (I:=λk c ao=>c=(ϋ,())/\ok<=k/\k<=n/\pq O f jg ao lo k) (Q:=λc ao=>c=(ϋ,())/\pq O f jg ao lo n) ?_ ?_ #[rfl,ahd _,hn,R0]) ?_)
 .intro k c ao _ K zz;let(rfl,J,H,R):=zz
  let(m,e,pm,G,lm,sz,F,P,N,al):=R.parts ⋯;have D:=R.k.trans hk;have B:=λx Y=>sS x (al.mem_iff.mp Y);have gt:∀{j},(h:j<(ī ao).size)->(ī ao).toList[j]?=ϊ _:=λh=>(gY h).1;have V:Up O f (seg (ī ao).toList lo k):=by rw[P];exact G
  have bk:lo+k<(ī ao).size:=by omega
  refine æ (afI (ĳ (I:=λi c Z=>Z=ao/\∃l r,c=(ϋ,l,r)/\l<=r/\r<=k/\r-l<=k-i/\(∀j x,j<l->(ī ao).toList[lo+j]?=ϊ x->O.lt (f (ī ao)[lo+k]) (f x)=ύ)/\∀j x,r<=j->j<k->(ī ao).toList[lo+j]?=ϊ x->O.lt (f (ī ao)[lo+k]) (f x)=ό)
   (Q:=λc Z=>Z=ao/\∃l,∃r,c=(ϋ,l,r)/\l<=k/\(∀j x,j<l->(ī ao).toList[lo+j]?=ϊ x->O.lt (f (ī ao)[lo+k]) (f x)=ύ)/\∀j x,l<=j->j<k->(ī ao).toList[lo+j]?=ϊ x->O.lt (f (ī ao)[lo+k]) (f x)=ό) ?_ ?_ #[rfl,0,k,rfl,by omega,by omega,by omega,λj x U=>by omega,λj x h1 M=>by omega]) ?_)
  .intro i c Z _ hi zz;let(rfl,l,r,rfl,a1,a2,v,X,W):=zz
   refine dJ (λu=>à #[rfl,l,r,rfl,by omega,X,?_]) λL=>?_
   .obtain rfl:l=r:=by simp only at u;omega
    exact W
   .have L:=by simp only at L;omega
    refine æ (uJ C D B (gt bk) (gt (j:=lo+(l+r) / 2) ⋯) ?_)
    cases T:O.lt _ _ with
    |true =>
     refine dY rfl (à #[rfl,l,(l+r) / 2,rfl,by omega,by omega,by omega,X,λj x h1 M Y=>?_]);have le:=u5 V h1 M (gt ⋯) Y
     cases z:O.lt _ _ with
     |true=>rfl
     |false=>rw[ST.Ord.jM le z] at T;cases T
    |false =>
     refine dC (by decide) (à #[rfl,(l+r) / 2+1,r,rfl,by omega,a2,by omega,λj x h1 Y=>?_,W]);exact ST.Ord.jM (u5 V ⋯ ⋯ Y (gt ⋯)) T
  .intro c Z zz;let(rfl,l,r,rfl,a1,a2,v,X,W):=zz
   obtain rfl:l=r:=by omega
   exact#[rfl,l,l,rfl,a2,X,W]
  intro c Z zz;let(rfl,p,r,rfl,t,o,g):=zz;refine æ (ZQ (à #[rfl,by omega,by omega,R.k,R.fl,R.pd,seg (ī Z).toList lo p++(ī Z)[lo+k]::seg (ī Z).toList (lo+p) (k-p),?_,?_,?_]))
  .rw[moved t bk (gt bk),F]
   congr 1;apply į;intro i;rw[Ů,Ů,N _ ⋯]
  .have d:(ī jg).toList[lo+k]?=ϊ (ī Z)[lo+k]:=by rw[<- N _ (ahd _)];exact gt bk
   rw[Oz d];refine List.perm_middle.trans (List.Perm.trans ?_ (List.perm_append_singleton ..).symm);refine List.Perm.cons _ ?_;rw[<- pX,show p+(k-p)=k by omega,P];exact pm
  .have b:Up O f (seg (ī Z).toList lo p++seg (ī Z).toList (lo+p) (k-p)):=by rw[<- pX,show p+(k-p)=k by omega];exact V
   let(a,u2,u3):=ô.mp b;have gx:∀y∈seg _ (lo+p) (k-p),O.le _ _:=λy hy=>by
    let(j,U,e):=kN hy;exact ST.Ord.le_of_lt (g (p+j) y ⋯ ⋯ (by rw[<- e];congr 1;omega))
   refine ô.mpr #[a,û.mpr #[gx,u2],λx Y y hy=>?_]
   rcases Ð.mp hy with rfl|hy
   .let(j,U,e):=kN Y
    exact o j x U e
   .exact u3 x Y y hy
 .intro c ao zz;let(rfl,J,H,R):=zz
  rw[show max ok n=n by omega] at R;exact#[rfl,R]
 .rintro c ao ⟨rfl,R⟩
  exact à (q ao R)
noncomputable def nT (o:Nat):List (List Ę)->List (Nat×Nat)
 | []=>[]
 |r::Z=>(o,r.length)::nT (o+r.length) Z
theorem xj:∀rs o,(nT o rs).length=rs.length
 | [],_=>rfl
 |r::rs,o=>by erw[nT,Ú,xj rs]
theorem A6:∀a b o,nT o (a++b)=nT o a++nT (o+a.flatten.length) b
 | [],b,o=>rfl
 |r::a,b,o=>by
  erw[č,nT,A6 a b,abI,Î,afZ]
structure Rn (O:ST.Ord α) (f) (a0) (κ) (lo) (rest) (st:ď):Prop where
 k:kindOf st=κ
 fl:afH st=ϋ
 pm:(ī st).toList.Perm a0
 ex:∃rs,(ī st).toList=rs.flatten++rest/\rs.flatten.length=lo/\(∀r∈rs,r≠[]/\Up O f r)/\(ė st).toList.map (λp=>(p.1,p.2.1))=nT 0 rs
theorem Gj {β:Type}:∀{l:List β} {i},i+1<l.length->∃a x y b,l=a++x::y::b/\a.length=i
 | [],i,h=>by simp at h
 | [x],i,h=>by simp at h
 |x::y::l,0,h=>#[[],x,y,l,rfl,rfl]
 |x::y::l,i+1,h=>by
  let(a,u,v,b,e,Z):=Gj (l:=y::l) (by simpa using h);exact#[x::a,u,v,b,by rw[e];rfl,by simp[Z]]
theorem OA {β:Type}:∀a (x y v:β) b,((a++x::y::b).set a.length v).eraseIdx (a.length+1)=a++v::b
 | [],_,_,_,_=>rfl
 |z::a,x,y,v,b=>by
  erw[č,Ú,ı,List.eraseIdx_cons_succ,OA a x y v b]
def D3 (C:jP prog w A E s O f S κ) {lo i} {Q} {st} (sS:∀x∈a0,S x) (R:Rn O f a0 κ lo rest st) (hi:i+1<(ė st).size)
 (q:∀ao,Rn O f a0 κ lo rest ao->(ė ao).size+1=(ė st).size->Q ό ao):wpS (ã prog w) A E s (mergeAt' i) Q st:=by
 let(v,e1,e2,W,V):=R.ex;have hp:(ė st).toList.length=(ė st).size:=by simp
 have K:=by
  have:=ň List.length V;rw[Ã,xj] at this;omega
 let(u,p,t,o,Y,U):=Gj ⋯;let(Z,x,y,X,n,j):=Gj (l:=v) (i:=i) ⋯;subst n;rw[Y,A6,ā,Ü,Ü] at V;erw[nT,afq] at V;let(g,J):=List.append_inj V (by rw[Ã,xj,U,j]);erw[ae1,Prod.mk.injEq] at J;obtain⟨⟨e,d⟩,⟨T,P⟩,c⟩:=J;let(sa,na,pa):=p;let(sb,nb,pb):=t;subst e d T P;have fl:(Z++x::y::X).flatten=Z.flatten++(x++(y++X.flatten)):=by simp
 rw[fl] at e1 e2;have I:=W x ∅;have H:=W y ∅;have x0:=afK.mpr I.1;have b:=afK.mpr H.1;have a:(ī st).size=(Z.flatten++(x++(y++X.flatten))++rest).length:=by rw[<- e1];simp
 have G:seg (ī st).toList Z.flatten.length x.length=x:=by
  delta seg;rw[e1];simp
 have F:seg (ī st).toList (Z.flatten.length+x.length) y.length=y:=by
  delta seg;rw[e1,<- Ũ];simp
 have N:seg (ī st).toList Z.flatten.length (x.length+y.length)=x++y:=by rw[pX,G,F]
 have tk:(ī st).toList.take Z.flatten.length=Z.flatten:=by rw[e1];simp
 have dr:(ī st).toList.drop (Z.flatten.length+(x.length+y.length))=X.flatten++rest:=by
  rw[e1,<- Ũ];simp
 refine VE C (sa:=Z.flatten.length) (pa:=pa) (pb:=pb) R.k R.fl (λx hx=>sS x (R.pm.mem_iff.mp hx)) (by rw[<- ä,Y,<- U];simp) (by rw[<- ä,Y,<- U];simp) rfl x0 b (by rw[a];simp;omega) (by rw[G];exact I.2) (by rw[F];exact H.2) λao m h1 h2 h3 M L h6=>?_;rw[tk,dr] at M;rw[N] at L;have lm:m.length=x.length+y.length:=by rw[L.length_eq,Î]
 have D:(ė ao).toList=u++(Z.flatten.length,x.length+y.length,pa)::o:=by
  rw[h3,Array.toList_eraseIdxIfInBounds,Array.toList_setIfInBounds,Y,<- U];exact OA ..
 refine q ao #[h1,h2,?_,Z++m::X,?_,?_,?_,?_] ?_
 .refine List.Perm.trans ?_ R.pm
  rw[M,e1];erw[Ö];refine ū _ ?_;rw[<- Ö x];exact L.append_right _
 .rw[M]
  simp
 .erw[Î] at e2
  erw[List.flatten_append,abI,Î,lm];omega
 .intro r B
  erw[Û,Ð] at B
  rcases B with h|rfl|h
  .exact W r (by simp[h])
  .exact#[λz=>by rw[z] at lm;simp at lm;omega,h6]
  .exact W r (by simp[h])
 .rw[D,A6,ā,Ü]
  erw[nT,afq,lm];rw[g,c,afZ]
 .rw[<- å,D,<- å,Y]
  simp;omega
def Rn.more {lo p} {st} (R:Rn O f a0 κ lo (m++rest) st) (hm:m≠[]) (um:Up O f m):Rn O f a0 κ (lo+m.length) rest (setPending st ((ė st).push (lo,m.length,p))):=by
 let(Z,e1,e2,Y,X):=R.ex;refine#[R.k,R.fl,R.pm,Z++[m],?_,?_,?_,?_]
 .rw[e1]
  simp
 .rw[List.flatten_append,Î,e2]
  simp
 .intro r W
  rcases Û.mp W with h|h
  .exact Y r h
  .rw[Ø.mp h];exact#[hm,um]
 .rw[Ŕ,ā,X,A6,e2,afq]
  rfl
def Rn.SU {lo n} {st ao} (R:Rn O f a0 κ lo rest st) (T:pq O f st ao lo n) (h1:1<=n) (h:lo+n<=(ī st).size):∃m,Rn O f a0 κ lo (m++rest.drop n) ao/\m≠[]/\Up O f m/\m.length=n:=by
 let(Y,e1,e2,X,W):=R.ex;let(m,a1,a2,V,Z,S,_,_,_,U):=T.parts h;refine#[m,#[T.k.trans R.k,T.fl.trans R.fl,U.trans R.pm,Y,?_,e2,X,by rw[T.pd];exact W],λz=>by rw[z] at Z;simp at Z;omega,V,Z];rw[a1,e1,<- e2,List.take_left,<- Ũ,List.drop_left,Ö]
def Rn.pow {lo} {st} (R:Rn O f a0 κ lo rest st) (pw i):Rn O f a0 κ lo rest (setPending st ((ė st).modify i λx=>(x.1,x.2.1,pw))):=by
 let(Z,e1,e2,Y,X):=R.ex;refine#[R.k,R.fl,R.pm,Z,e1,e2,Y,?_];rw[<- X];apply į;intro j;rw[Þ,Þ,ä,ä,Array.getElem?_modify];split
 .rename_i h
  subst h
  cases (ė st)[i]?<;>rfl
 .rfl
theorem Rn.size {lo} {st} (R:Rn O f a0 κ lo rest st):(ī st).size=lo+rest.length/\(ė st).size<=lo:=by
 let(Z,e1,e2,Y,X):=R.ex;have W:=by
  have:=ň List.length X;rw[xj] at this;simpa using this.symm
 refine#[by rw[<- å,e1,Î,e2],?_];rw[<- W,<- e2];clear e1 e2 X W
 induction Z with
 |nil=>exact Ă _
 |cons r Z ih =>
  have:=ih λr V=>Y r (Ì _ V);have U:=afK.mpr (Y r Ë).1;erw[abI,Î,Ú];omega
def Rn.done {lo} {st} (R:Rn O f a0 κ lo [] st) (h:(ė st).size<=1):Up O f (ī st).toList:=by
 let(Y,e1,e2,X,W):=R.ex;have Z:=by
  have:=ň List.length W;rw[xj] at this;simpa using this.symm
 rw[e1]
 match Y,Z with
 | [],_=>exact .nil
 | [r],_=>simpa using (X r Ë).2
 |_::_::_,Z=>simp at Z;omega
def Fz (C:jP prog w A E s O f S κ) {st:ď} (hk:kindOf st=κ) (hf:afH st=ϋ) (hp:ė st=#v[]) (ha:(ī st).toList=a0) (sS:∀x∈a0,S x) (nd:(a0.map f).Nodup)
 (q:∀ao,afH ao=ϋ->(ī ao).toList.Perm a0->Up O f (ī ao).toList->Q () ao):wpS (ã prog w) A E s sortRuns' Q st:=by
 rw[sortRuns'_eq];refine æ (agC ?_);have F:(ī st).size=a0.length:=by rw[<- ha];simp
 have D:Rn O f a0 κ 0 a0 st:=#[hk,hf,by rw[ha],_,by rw[ha];rfl,rfl,λr B=>(ü B).elim,by rw[hp];rfl];rw[F];refine æ (afI (ĳ (I:=λj c ao=>∃lo rest,c=(ϋ,lo)/\Rn O f a0 κ lo rest ao/\j<=lo)
  (Q:=λc ao=>∃lo,c=(ϋ,lo)/\Rn O f a0 κ lo [] ao) ?_ ?_ #[0,a0,rfl,D,ahd _]) ?_)
 .intro j c ao _ z zz;let(lo,rest,rfl,R,y):=zz
  have L:=R.size;have K:(ī ao).size=a0.length:=by exact R.pm.length_eq
  refine dJ (λo=>à #[lo,rfl,?_]) λl=>?_
  .have:rest=[]:=ŝ.mp ⋯
   rw[<- this];exact R
  refine æ (WQ C R.k (λx N=>sS x (R.pm.mem_iff.mp N)) ((R.pm.map f).nodup_iff.mpr nd) ⋯ ⋯ λn v J H T=>?_);have H:n<=a0.length-lo:=H;refine dJ (λM=>?_) λM=>?_
  .refine æ (Fx (æ (ZR C R.k (λx N=>sS x (R.pm.mem_iff.mp N)) J ⋯ (by (try dsimp only);omega) T λX u=>dC (by decide) ?_)))
   let(m,R2,W,V,lm):=R.SU u ⋯ (by (try dsimp only);omega)
   rw[<- lm] at R2 |-;refine æ (agC ?_)
   cases t:(ė X).back? with
   |none=>exact æ (afx (à #[_,_,rfl,R2.more W V,by (try dsimp only);omega]))
   |some p =>
    refine æ (afI (ĳ (I:=λ_ c Z=>c=(ϋ,())/\Rn O f a0 κ lo _ Z) (Q:=λc Z=>c=(ϋ,())/\Rn O f a0 κ lo (m++rest.drop m.length) Z) ?_ ?_ #[rfl,R2]) ?_)
    .rintro i c Z-hi ⟨rfl,Y⟩
     refine æ (agC ?_);dsimp only
     cases U:(if (ė Z).size > 1 then (ė Z)[(ė Z).size-2]? else ϋ) with
     |none=>exact à #[rfl,Y]
     |some x =>
      have hs:(ė Z).size > 1:=by
       by_cases h:(ė Z).size > 1
       .exact h
       .rw[ÿ h] at U;cases U
      exact dJ (λ_=>à #[rfl,Y]) λ_=>æ (D3 C sS Y ⋯ λG P _=>dC (by decide) (à #[rfl,P]))
    .rintro c Z ⟨rfl,Y⟩
     exact#[rfl,Y]
    .rintro c Z ⟨rfl,Y⟩
     exact æ (afx (æ (afx (à #[_,_,rfl,(Y.pow ..).more W V,by (try dsimp only);omega]))))
  .let(m,R2,W,V,lm):=R.SU T J ⋯
   subst lm;obtain⟨X,rfl⟩:∃X,X=v:=#[_,rfl];refine æ (agC ?_)
   cases t:(ė X).back? with
   |none=>exact æ (afx (à #[_,_,rfl,R2.more W V,by omega]))
   |some p =>
    refine æ (afI (ĳ (I:=λ_ c Z=>c=(ϋ,())/\Rn O f a0 κ lo _ Z) (Q:=λc Z=>c=(ϋ,())/\Rn O f a0 κ lo (m++rest.drop m.length) Z) ?_ ?_ #[rfl,R2]) ?_)
    .rintro i c Z-hi ⟨rfl,Y⟩
     refine æ (agC ?_);dsimp only
     cases U:(if (ė Z).size > 1 then (ė Z)[(ė Z).size-2]? else ϋ) with
     |none=>exact à #[rfl,Y]
     |some x =>
      have hs:(ė Z).size > 1:=by
       by_cases h:(ė Z).size > 1
       .exact h
       .rw[ÿ h] at U;cases U
      exact dJ (λ_=>à #[rfl,Y]) λ_=>æ (D3 C sS Y ⋯ λG P _=>dC (by decide) (à #[rfl,P]))
    .rintro c Z ⟨rfl,Y⟩
     exact#[rfl,Y]
    .rintro c Z ⟨rfl,Y⟩
     exact æ (afx (æ (afx (à #[_,_,rfl,(Y.pow ..).more W V,by omega]))))
 .intro c ao zz;let(lo,rest,rfl,R,y):=zz
  have L:=R.size;have K:(ī ao).size=a0.length:=by exact R.pm.length_eq
  refine#[lo,rfl,?_];have:rest=[]:=ŝ.mp ⋯;rw[<- this];exact R
 rintro c ao ⟨lo,rfl,R⟩;have L:=R.size;have K:(ī ao).size=a0.length:=by exact R.pm.length_eq
 refine æ (afI (ĳ (I:=λj c ao=>c=(ϋ,())/\Rn O f a0 κ lo _ ao/\(ė ao).size<=max 1 (a0.length-j)) (Q:=λc ao=>c=(ϋ,())/\Rn O f a0 κ lo [] ao/\(ė ao).size<=1) ?_ ?_ #[rfl,R,by omega]) ?_)
 .rintro j c ao - z ⟨rfl,R,hs⟩
  refine æ (agC ?_);refine dJ (λh=>à #[rfl,R,h]) λh=>?_;refine æ (D3 C sS R ?_ λG P g=>dC (by decide) (à #[rfl,P,by omega]))
  have le:∀(c) [Decidable c] (n),(if c then n-1 else n)<=n:=λc _ n=>by split<;>omega
  exact ŭ (agz (le ..)) ⋯
 .rintro c ao ⟨rfl,R,hs⟩
  exact#[rfl,R,by omega]
 .rintro c ao ⟨rfl,R,hs⟩
  exact à (q ao R.fl R.pm (R.done hs))
end
def aeO {α β:Type} {f} {l1 l2:List β} (h:l1.Perm l2):∀m2,l2=m2.map f->∃m1:List α,m1.Perm m2/\l1=m1.map f:=by
 induction h with
 |nil=>intro m e;cases m with
  |nil=>exact#[_,.nil,rfl]
  |cons _ _=>cases e
 |cons x _ ih =>
  intro m e
  cases m with
  |nil=>cases e
  |cons a m =>
   injection e with e1 e2
   let(m1,p,e):=ih m e2;exact#[_,.cons a p,by rw[e,e1];rfl]
 |swap x y l =>
  intro m e
  rcases m with _ | ⟨a,_ | ⟨b,m⟩⟩
  .cases e
  .cases e
  .erw[Ü,ae1] at e
   exact#[_,.swap a b m,by rw[e.1,e.2.1,e.2.2];rfl]
 |trans _ _ Z Y =>
  intro m e;let(m1,X,e1):=Y m e;let(m2,W,e2):=Z m1 e1;exact#[m2,W.trans X,e2]
section
variable {α:Type} {O:ST.Ord α} {x:Nat->α} {prog:Ć} {w:ģ} {A:Ĭ} {E:ì->ß->Prop} {s:ß}
open Classical in
noncomputable def ref (us:List ì) (x:Nat->α) (v:Ę):α:=x (if h:∃i,i<us.length/\us.getD i Value.none=v.1 then Classical.choose h else 0)
def xB (hx:∀i j,i<us.length->j<us.length->us.getD i Value.none=us.getD j Value.none->x i=x j) (hi:i<us.length) (v):ref us x (us.getD i Value.none,v)=x i:=by
 delta ref;have h:∃j,j<us.length/\us.getD j _=us.getD i Value.none:=#[i,hi,rfl];rw[dif_pos h];exact hx _ _ (agu h).1 hi (agu h).2
def ZS {us:List ì} {κ} (h2:2<=us.length) (hx:∀i j,i<us.length->j<us.length->us.getD i Value.none=us.getD j Value.none->x i=x j) (nd:((Ô us.length).map x).Nodup)
  (ht:∀i j C,i<us.length->j<us.length->C (O.lt (x i) (x j)) s->ð (ã prog w) A (keyLt' κ (us.getD i Value.none) (us.getD j Value.none)) C (λ_ _=>False) s)
  {Q:ď->Prop} (q:∀st p,afH st=ϋ->(ī st).map (·.2)=(p.toList.map λi=>us.getD i Value.none).toArray->ST.Pm us.length p->ST.Up O (ST.ky x p) us.length->Q st) :
  wpS (ã prog w) A E s sortRuns' (λ_ st=>Q st) (SortSt.mk' κ (us.toArray.zip us.toArray) #v[] 7 ϋ):=by
 have X:(us.toArray.zip us.toArray).toList=(Ô us.length).map λi=>(us.getD i Value.none,us.getD i Value.none):=by
  apply į;intro i;by_cases hi:i<us.length
  .simp[hi]
  .simp[hi]
 have at_:∀v∈(us.toArray.zip _).toList,∃i,i<us.length/\v=(us.getD i _,us.getD i _):=λv Z=>by
  rw[X] at Z;let(i,hi,rfl):=á.mp Z;exact#[i,é.mp hi,rfl]
 have C:jP prog w A E s O (ref us x) (λv=>v∈(us.toArray.zip _).toList) κ:=λst v u R S Z P h=>by
  let(i,hi,rfl):=at_ v Z;let(j,Y,rfl):=at_ u P;rw[xB hx hi,xB hx Y] at h;refine æ (agC (æ (wpS_lift (υ (Ĝ (S ▸ ht i j (λb W=>W=s/\b=O.lt _ _) hi Y #[rfl,rfl]) (λb W N=>?_) λ_ _ M=>M.elim)))));let(rfl,rfl):=N;exact#[rfl,à h]
 refine Fz C rfl rfl rfl rfl (λv Z=>Z) ?_ λst L pm up=>?_
 .rw[X,ï]
  have:(Ô _).map (ref us x ∘ λi=>(us.getD i _,us.getD i Value.none))=(Ô _).map x:=ae8 λi hi=>xB hx (é.mp hi) _;rw[this];exact nd
 .rw[X] at pm
  let(p,pp,V):=aeO pm _ rfl;have U:∀i∈p,i<us.length:=λi hi=>é.mp (pp.mem_iff.mp hi);have T:p.length=us.length:=by rw[pp.length_eq,Ŗ]
  refine q st p.toArray L ?_ #[by simpa using T,by simpa using pp] λi j K Y=>?_
  .apply Array.toList_inj.mp
   rw[Array.toList_map,V,ï];rfl
  .rw[V] at up
   have:=ń.mp up;have:=ŋ.mp this i j ⋯ ⋯ K;rw[xB hx (U _ (Ţ _)),xB hx (U _ (Ţ _))] at this;delta ST.ky;simpa [T,Y,(show i<us.length by omega)] using this
end
def Ha {α:Type} {l:List α} {n} {z} (e:l.length=n) (h:l.Nodup):((Ô n).map λi=>l.getD i z).Nodup:=by
 rw[show (Ô n).map (λi=>l.getD i z)=l by
  apply į;intro i
  by_cases hi:i<n<;>simp[hi,e]]
 exact h
section
variable {α:Type} {O:ST.Ord α} {x:Nat->α} {prog:Ć} {w:ģ} {A:Ĭ} {E:ì->ß->Prop} {s:ß}
def Uh (hb:s.heap.get? b=ϊ (seqObj "list" us.toArray m)) (line:us.length<=â) (hx:∀i j,i<us.length->j<us.length->us.getD i Value.none=us.getD j Value.none->x i=x j) (nd:((Ô us.length).map x).Nodup)
 (hk:2<=us.length->∀h1,(∀c o,c≠b->s.heap.get? c=ϊ o->h1.get? c=ϊ o)->ST.sv prog w A O x us { s with heap:=h1 })
 (hR:∀q h' e,ST.Pm us.length q->ST.Up O (ST.ky x q) us.length->(∀c o,c≠b->s.heap.get? c=ϊ o->h'.get? c=ϊ o)->h'.get? b=ϊ (seqObj "list" (q.toList.map λi=>us.getD i Value.none).toArray e)->R (.done (.ret .none)) { s with heap:=h' }) :
  ð (ã prog w) A (ε.«list.sort» #[[.ref b],[]]) R E s:=by
 obtain⟨e1,N⟩:∃e1,(s.heap.update b _).get? b=ϊ (seqObj _ _ e1):=#[_,get?_update_seq hb λ_=>#v[]];generalize U:((s.heap.update b _).push (seqObj _ _ 0)).push (seqObj _ _ 0)=T;have Y:T.get? b=ϊ (seqObj "list" #v[] e1):=by rw[<- U];exact Á _ (Á _ N)
 have old:∀c o,c≠b->s.heap.get? c=ϊ o->T.get? c=ϊ o:=λc o X e=>by
  rw[<- U];exact Á _ (Á _ (by rw[agV _ _ _ _ X];exact e))
 have last:=λq h1 W =>
  hR q _ _ h1 W (λc o X e=>by rw[agV _ _ _ _ X];exact old c o X e) (get?_update_seq Y λ_=>(q.toList.map λi=>us.getD i _).toArray)
 rw[list_sort_plain];refine À (listItems_at hb rfl (À (listUpdate_at hb rfl ?_ (by exact line) (Ă _))));refine À (seqEpoch_at N rfl (À (wpAny_newTuple (À (afY (ĝ ?_) (Ă _))) (by exact line))));rw[U];dsimp only;by_cases Z:us.toArray.size<2
 .rw[õ Z,õ Z]
  refine À (Â ?_);refine À (Â ?_);have M:=by
   exact ST.mj us (by exact Z)
  refine À (seqEpoch_at Y rfl (À (listUpdate_at Y rfl ?_ (Ă _) ?_)))
  .erw[ŕ,Ò,Ğ]
   rw[M];refine Â (last _ #[by simp,by simp] λi j H G=>?_);rw[ê] at Z;omega
  .show ((us.toArray.zip _).map _).size<=â+1
   simp;omega
 .rw[ÿ Z,ÿ Z]
  rw[ê] at Z;refine À (Ĝ (hk ⋯ T old) (fun F t S=>?_) λ_ _ z=>z.elim);let(rfl,S):=S;refine À (Ĝ (ZS (Q:=λV=>∃q,(ī V).map _=(q.toList.map λi=>us.getD i Value.none).toArray/\afH V=ϋ/\ST.Pm _ q/\ST.Up O _ _) ⋯ hx nd S λV p a1 a2 L K=>#[p,a2,a1,L,K]) ?_ λ_ _ z=>z);rintro ⟨⟨⟩,V⟩ t ⟨rfl,q,P,J,W,I⟩;have D:=W.1
  rw (transparency:=.default)[P]
  refine À (seqEpoch_at Y rfl (À (listUpdate_at Y rfl ?_ (Ă _) ?_)))
  .rw[J]
   erw[ŕ,Ò,Ğ];exact Â (last q W I)
  .rw[ê,Ã,å]
   omega
def D4 (hl:s.heap.IsList l us.toArray) (line:us.length<=â) (hx:∀i j,i<us.length->j<us.length->us.getD i Value.none=us.getD j Value.none->x i=x j) (nd:((Ô us.length).map x).Nodup)
 (hk:2<=us.length->∀h1,(∀c o,s.heap.get? c=ϊ o->h1.get? c=ϊ o)->ST.sv prog w A.in1.in1 O x us { s with heap:=h1 })
 (hQ:∀q h' b e,ST.Pm us.length q->ST.Up O (ST.ky x q) us.length->(∀c o,s.heap.get? c=ϊ o->h'.get? c=ϊ o)->s.heap.objs.size<=b->h'.get? b=ϊ (seqObj "list" (q.toList.map λi=>us.getD i Value.none).toArray e)->Q (.ref b) { s with heap:=h' }) :
  ð (ã prog w) A (call (.builtin "sorted") [.ref l]) Q E s:=by
 refine Calls.call_function_entry kind_sorted plain_sorted entry_sorted (args_sorted1 _) ?_;refine À (Â (À (collect_list hl (À (afY ?_ line)) line)));generalize X:((s.heap.push _).update _ _)=h1;have W:h1.objs.size=s.heap.objs.size+1:=by rw[<- X,Heap.size_update,size_push']
 have U:∀c o,s.heap.get? c=ϊ o->h1.get? c=ϊ o:=λc o e=>by
  have Z:=Í e;rw[<- X,agV _ _ _ _ (ë Z)];exact Á _ e
 have V:(h1.push _).get? _=ϊ (seqObj "list" us.toArray 0):=Ê _ rfl;have old:∀c o,s.heap.get? c=ϊ o->c≠h1.objs.size/\(h1.push (seqObj "list" us.toArray 0)).get? c=ϊ o:=λc o e=>by
  have Z:=Í e;exact#[ë (by rw[W];exact Ē Z),Á _ (U c o e)]
 refine À (ĝ (Ą slot_list_sort #[_,V,rfl] entry_list_sort (Uh V line hx nd (λz h' Y=>hk z h' λc o e=>Y c o (old c o e).1 (old c o e).2) λq h' e T S Y R=>#[_,rfl,?_]) (args_list_sort _)));exact Â #[_,rfl,hQ q h' _ e T S (λc o e=>Y c o (old c o e).1 (old c o e).2) (by rw[W];exact Ť _) R]
end
end MS
namespace TK
open PySem PySem.W PyProof.Rows DI L2
open Classical in
def BV (xs:List D):Option D:=if h:∃Z:List Pg,Z.Nodup/\xs=Z.map Pg.d then ϊ (.lst ((ST.gf fc (Classical.choose h)).map Pg.d)) else ϋ
def VF:∀{a b:List Pg},a.map Pg.d=b.map Pg.d->a=b:=λh=>List.map_inj_right (λ_ _ e=>Pg.G8 e) |>.mp h
def AR (nd:ps.Nodup):BV (ps.map Pg.d)=ϊ (.lst ((ST.gf fc ps).map Pg.d)):=by
 delta BV;have h:∃Z:List Pg,Z.Nodup/\ps.map _=Z.map Pg.d:=#[ps,nd,rfl];rw[dif_pos h];have:=VF (agu h).2;rw[<- this]
def ka (ds:List D) (s:ai):Res D:=match ds with
 | [d]=>match res d s with
  | .lst Z=>if Z.length<64 then bU (BV Z) s else ϋ
  |_=>ϋ
 |_=>ϋ
section
variable {X:Cx} {Ξ:Wd->bF->Prop}
def ZT (ps:List Pg):dP (ps.map Pg.d)=ό:=by
 induction ps with
 |nil=>rfl
 |cons p ps ih=>erw[Ü,dP,lT,ih,ķ]
def FA (hr:cD k X.A):cX X (.builtin "sorted") (rC X.K Ξ ka):=by
 intro n s σ H E m Q I r zz;let(w,l,rfl,S,Y,h):=zz;delta ka at h;split at h
 .let(v,rfl,D):=lM Y
  split at h
  .rename_i g e1
   let(a,E,rfl,C,Y):=jG S D e1;split at h
   .let(f,e2,h):=gw h
    let(u,rfl,B):=vals1 r;cases B;let(aj,W,z,L):=I.list (bJ.of C);have R:=W.length.symm.trans Y.length.symm;have P:=e2;delta BV at P;split at P
    .rename_i Z
     let(V,nd,y):=Z;subst y;rw[AR nd] at e2;cases e2;have U:V.length=aj.length:=by rw[R,Ã]
     have O:=Gg I _ _ _ (ZT V) Y W;have gt:∀i,i<aj.length->(V.map Pg.d).getD i .aD=(V.getD i (.bx 0 0 0)).d:=λi hi=>by simp[<- U] at hi;simp[hi]
     refine MS.D4 z.isList (W.length ▸ L) (λi j hi J e=>Pg.G8 (by rw[<- gt i hi,<- gt j J];have N:=kas_get O i hi;rw[e] at N;exact KA.inj _ _ _ N (kas_get O j J))) (MS.Ha U nd) (λx N M=>Ye (dQ.keep (λb o T _ _=>M b o T) _ _ O) x (by have:=hr.un;show X.A.units+1+1+100<agZ;omega) _) λq c b e Z G M T t=>?_;have F:∀i∈q.toList,i<(V.map _).length:=λi hi=>by rw[<- R];exact é.mp (Z.2.mem_iff.mp hi)
     rw[<- U] at Z G;have p:=I.aN.fresh T;refine#[.ref b,_,I.laid (o:=.lst _) M T #[?_,_,e,Ek W (by rw[R];exact F),t],rfl,?_]
     .rw[Ã,å,Z.1,U,W.length.symm];exact L
     .refine vo S ?_ h b p
      rw[<- EK Z G];exact EJ Y F
    .cases P
   .exact h.elim
  .exact h.elim
 .exact h.elim
end
def Hb (f:DI.ag9 D):DI.ag9 D:=λenv s=>aq (f env s) λx s=>aq (truth x s) λb s=>ok (.bl (!b)) s
def abw (ha:PE X a (tE X.K Ξ f)):PE X (.UnaryOp .Not a pos) (tE X.K Ξ (Hb f)):=by
 intro Y s σ H Q I zz;let(w,env,rfl,S,U,h):=zz;refine UnaryOp_ (aP (ha Y s σ _ (λv W=>∃b,sf X.K v W b/\Q (.bl (!b)) W) I #[w,env,rfl,S,U,(Out.aq h).mono λE x D V T v R=>?_]) λv P ⟨x,O,N,M,b,L,J⟩=>?_)
 .let(b,t,G):=sf.of V R (Out.aq T)
  exact#[b,t,aK V G _ rfl]
 .refine not_of (Ĝ (O6 Y P σ O x v (λc Z=>Q (.bl (!c)) Z) N M #[b,L,J]) (λc C ⟨Z,F,q⟩=>#[.bl _,Z,F,rfl,q]) λ_ _ z=>z)
end TK
namespace ST
open PySem PySem.Spec PyProof.Rows
end ST
namespace DI
open PySem L2
end DI
namespace L2
open PySem PySem.Spec PyProof.Rows
end L2
namespace DI
open PySem L2
end DI
namespace L2
open PySem PySem.Spec PyProof.Rows
end L2
namespace DI
open PySem L2
end DI
namespace L2
open PySem PySem.Spec PyProof.Rows
end L2
namespace DI
open PySem L2
end DI
namespace L2
open PySem PySem.Spec PyProof.Rows
end L2
namespace DI
open PySem L2
end DI
namespace L2
open PySem PySem.Spec PyProof.Rows
open AutoSeq1 (wpAny_loadPart')
end L2
namespace DI
open PySem L2
end DI
namespace L2
open PySem PySem.Spec PyProof.Rows
section
variable {X:Cx} {pos:Pos}
def ac8 (i j k:Nat) (ta:TA):TS:=λD σ H=>ta σ H λZ Y=>∃v w u,Z=[v,w,u]/\D.nx (((σ.set i (ϊ v)).set j (ϊ w)).set k (ϊ u)) Y
def vals3 (r:Vals [v,w,u] us):∃a b c,us=[a,b,c]/\RelV v a/\RelV w b/\RelV u c:=by
 cases r with
 |cons p q =>
  let(b,c,rfl,Z,Y):=vals2 q;exact#[_,b,c,rfl,p,Z,Y]
def ZU {kt k2 jy} (hc:X.calm=ό) (hN:X.N.Nodup) (hi:X.N[i]?=ϊ x) (hj:X.N[j]?=ϊ y) (hk:X.N[k]?=ϊ z) (iF:i≠j) (zh:i≠k) (Dc:j≠k)
 (hx:X.env.scope.names.lookup x=ϊ .local) (hy:X.env.scope.names.lookup y=ϊ .local) (hz:X.env.scope.names.lookup z=ϊ .local) (ha:PA X [a,b,c] ta)
 (hw:ae5 [.Tuple [.Name x px,.Name y py,.Name z pz] kt pt] (.Tuple [a,b,c] k2 jy) X.env=pure (ϊ [x,y,z]))
 (hs:ae4 [.Tuple [.Name x px,.Name y py,.Name z pz] kt pt] (.Tuple [a,b,c] k2 jy) pos.line X.env=pure ύ) :
  PS X (.Assign [.Tuple [.Name x px,.Name y py,.Name z pz] kt pt] (.Tuple [a,b,c] k2 jy) pos) (ac8 i j k ta):=by
 intro Y s σ H D I h;refine À (ō ?_);refine À (Â ?_);refine À (Tuple_ (aP (ha _ Y s σ H _ I h) λB Z R=>?_));let(A,W,Q,P,v,w,u,e1,O):=R;subst e1;let(V,U,T,rfl,M,L,K):=vals3 P;refine Č ?_ (by show 3<=â;decide)
 have J:Inv X Y σ W { Z with heap:=Z.heap.push { cls:=.type "tuple",data:=.seq [V,U,T].toArray } }:=Q.kept λb o e=>Á _ e
 rw[hw];refine À (Â ?_);refine À (ş (À (unpackItems_tuple (items:=#v[V,U,T]) (I.ok.hd hc) (IsTup.new _ _) λt G=>?_)));have F:=J.kept (t':=Z.toks) λb o e=>G b o (ë (Í e)) e;refine À (ν (agl (n6 F hN hk (.inl hz) K (λr E=>?_) (.inr hz))));refine ν (agl (n6 E hN hj (.inl hy) L (λq C=>?_) (.inr hy)));refine ν (agl (n6 C hN hi (.inl hx) M (λp S=>assignInOrder_nil (Â ?_)) (.inr hx)));rw[List.set_comm _ _ (Ř Dc),List.set_comm _ _ (Ř zh),List.set_comm _ _ (Ř iF)] at S;exact#[_,W,S,O]
end
end L2
namespace DI
open PySem L2
section
variable {X:Cx} {Ξ:Wd->bF->Prop} {a b c:afh} {pos:Pos} {fa:ag9 (List D)}
def yz (i j k:Nat) (fa:ag9 (List D)):ag9 Fl:=λenv s=>aq (fa env s) λZ s=>match Z with
 | [x,y,z]=>ok (.nx (((env.set i (ϊ x)).set j (ϊ y)).set k (ϊ z))) s
 |_=>ϋ
def Gk (i j k) {x y z} {px py pz pt} {kt k2 jy} (hc:X.calm=ό) (hN:X.N.Nodup) (ha:PA X [a,b,c] (tA X.K Ξ fa)) (hi:X.N[i]?=ϊ x:=by rfl) (hj:X.N[j]?=ϊ y:=by rfl) (hk:X.N[k]?=ϊ z:=by rfl) (iF:i≠j:=by decide) (zh:i≠k:=by decide) (Dc:j≠k:=by decide)
  (hx:X.env.scope.names.lookup x=ϊ .local:=by rfl) (hy:X.env.scope.names.lookup y=ϊ .local:=by rfl) (hz:X.env.scope.names.lookup z=ϊ .local:=by rfl)
  (hw:ae5 [.Tuple [.Name x px,.Name y py,.Name z pz] kt pt] (.Tuple [a,b,c] k2 jy) X.env=pure (ϊ [x,y,z]):=by rfl)
  (hs:ae4 [.Tuple [.Name x px,.Name y py,.Name z pz] kt pt] (.Tuple [a,b,c] k2 jy) pos.line X.env=pure ύ:=by rfl) :
  PS X (.Assign [.Tuple [.Name x px,.Name y py,.Name z pz] kt pt] (.Tuple [a,b,c] k2 jy) pos) (tS X.K Ξ (yz i j k fa)):=kO (ZU hc hN hi hj hk iF zh Dc hx hy hz ha hw hs) λM σ H W=>by
 let(w,env,V,S,Y,h):=W;subst V;refine#[w,env,rfl,S,Y,(Out.aq h).mono λL J U T Z I R=>?_];split at Z
 .let(v,r,rfl,Q,dr):=R
  let(u,t,rfl,P,O):=uE dr;exact#[v,u,t,rfl,aK T Z _ ((((Y.le U).set Q i).set P j).set O k)]
 .exact Z.elim
end
def uj:List D->ai->Res D:=aS 2 6 (ay (yz 2 3 4 (af (e2 cu (ak bC (af (ae 0) (af (eC (.int 3)) ah))) (eC (.int 0))) (af (eNew ah) (af (e2 dG (eC (.int 2)) (ak bC (af (ae 0) (af (eC (.int 9)) ah)))) ah)))) (ay (fv (bT (af (eC (.int 31)) ah)) (gN 5) (ay (aM (dR (mr (ae 2) (e2 cu (ak bC (af (ae 0) (af (ae 4) ah))) (eC (.int 0)))) (e2 fY (ae 5) (ae 1))) (gN 2)) (bO (dA (ae 2)) (cJ (gj (ae 3) (ae 5))) bY))) (aL (qq (ae 3)))))
def xk (W:ģ):List D->ai->Res D:=aS 1 12 (ay (aM (bp (af TK.ye (af (e2 dG (eC (.int 1)) (ak bC (af (ae 0) (af (eC (.int 3)) ah)))) (af (e2 dG (eC (.int 1)) (ak bC (af (ae 0) (af (eC (.int 3)) ah)))) ah)))) (gT [(gN 1),(gN 2),(gN 3)])) (ay (fv (bT (af (ae 2) ah)) (gN 4) (ay (aM (bp (af (aQ 1 [] (bT (af (eC (.int 8)) ah)) (gN 0) bu (eNew ah)) (af (eNew ah) ah))) (gT [(gN 5),(gN 6)])) (ay (fv (bT (af (ak bC (af (ae 0) (af (eC (.int 4)) ah))) ah)) (gN 7) (ay (aM (bp (af (ak bC (af (ae 0) (af (eC (.int 8)) ah))) (af (ak bC (af (ae 0) (af (eC (.int 31)) ah))) ah))) (gT [(gN 8),(gN 9)])) (ay (cJ (gj (e2 aC (ae 5) (ae 8)) (ae 9))) (TK.jO W (eC (.bl ό)) (ae 1) (bp (af (eC (.str "mended")) (af (ae 4) (af (ae 9) (af (ae 8) ah))))))))) (ay (fv (bT (af (eC (.int 8)) ah)) (gN 8) (cJ (gj (ae 6) (ak uj (af (ae 0) (af (e2 aC (ae 5) (ae 8)) ah)))))) (fv (bT (af (ak bC (af (ae 0) (af (eC (.int 5)) ah))) ah)) (gN 7) (ay (aM (ak bC (af (ae 0) (af (eC (.int 31)) ah))) (gN 9)) (ay (aM (aQ 1 [0,3] (bT (af (eC (.int 8)) ah)) (gN 0) (aU (e2 cu (ak bC (af (ae 1) (af (ae 2) ah))) (eC (.int 0)))) (ae 0)) (gN 10)) (ay (aM (eB cG (af (aQ 1 [9,6] (bq (ae 10)) (gN 0) (aU (e2 ic (ae 1) (e2 aC (ae 2) (ae 0)))) (ae 0)) ah)) (gN 11)) (TK.jO W (eC (.bl ό)) (ae 1) (bp (af (eC (.str "made")) (af (ae 4) (af (ae 9) (af (bp (af (ae 11) (af (eB cG (af (aQ 1 [9,6] (bq (ae 10)) (gN 0) (aU (e2 fY (ae 1) (e2 aC (ae 2) (ae 0)))) (ae 0)) ah)) ah))) ah)))))))))))))) (aL (eB cG (af (eB TK.ka (af (eB TK.mY (af (ae 1) ah)) ah)) ah)))))
def xl (W:ģ):List D->ai->Res D:=aS 1 10 (ay (aM TK.ye (gN 1)) (ay (yz 2 3 4 (af (e2 dG (eC (.int 1)) (ak bC (af (ae 0) (af (eC (.int 2)) ah)))) (af (e2 aC (qp (af (eC (.int 3)) (af (eC (.int 8)) (af (eC (.int 31)) ah)))) (ak bC (af (ae 0) (af (eC (.int 3)) ah)))) (af (e2 dG (eC (.int 1)) (ak bC (af (ae 0) (af (eC (.int 4)) ah)))) ah)))) (ay (fv (bT (af (ak bC (af (ae 0) (af (eC (.int 25)) ah))) ah)) (gN 5) (ay (vv 6 7 (af (ak bC (af (ae 0) (af (ae 2) ah))) (af (ak bC (af (ae 0) (af (ae 3) ah))) ah))) (bO (aU (e2 cu (ak bC (af (ae 0) (af (eC (.int 4)) ah))) (eC (.int 0)))) (TK.jO W (eC (.bl ό)) (ae 1) (bp (af (eC (.str "mended")) (af (ae 6) (af (ae 7) (af (ak bC (af (ae 0) (af (ae 4) ah))) ah)))))) (ay (aM (ak j7 (af (ae 0) (af (ae 4) ah))) (gN 8)) (ay (aM (eB cG (af (aQ 1 [8] (bq (ak j7 (af (ae 0) (af (ae 4) ah)))) (gN 0) (aU (e2 fY (ae 0) (ae 1))) (ae 0)) ah)) (gN 9)) (TK.jO W (eC (.bl ό)) (ae 1) (bp (af (eC (.str "made")) (af (ae 6) (af (ae 7) (af (bp (af (ae 8) (af (ae 9) ah))) ah))))))))))) (aL (eB cG (af (eB TK.ka (af (eB TK.mY (af (ae 1) ah)) ah)) ah))))))
def tW:List D->ai->Res D:=aS 2 2 (aL (yr (eB vq (af (aQ 1 [1] (bq (ae 0)) (gN 0) bu (e2 ic (ae 0) (ae 1))) ah))))
def qZ:List D->ai->Res D:=aS 1 3 (ay (bO (jd (hX (dA (eB nr (af (ae 0) (af (eC (.ty "tuple")) ah))))) (aU (e2 eU (eB cR (af (ae 0) ah)) (eC (.int 2))))) (aL (eC (.bl ύ))) bY) (ay (aM (ae 0) (gT [(gN 1),(gN 2)])) (aL (dR (ak pM (af (ae 1) ah)) (dR (ak pM (af (ae 2) ah)) (ak tW (af (ae 1) (af (ae 2) ah))))))))
def wH:List D->ai->Res D:=aS 1 1 (aL (ak tY (af (ae 0) (af (eC (.int (4))) ah))))
def wY:List D->ai->Res D:=aS 1 1 (aL (ak tY (af (ae 0) (af (eC (.int (31))) ah))))
def AD:List D->ai->Res D:=aS 1 5 (ay (bO (jd (hX (dA (eB nr (af (ae 0) (af (eC (.ty "tuple")) ah))))) (aU (e2 eU (eB cR (af (ae 0) ah)) (eC (.int 4))))) (aL (eC (.bl ύ))) bY) (ay (aM (ae 0) (gT [(gN 1),(gN 2),(gN 3),(gN 4)])) (ay (bO (jd (hX (dA (ak wH (af (ae 2) ah)))) (hX (dA (ak wY (af (ae 3) ah))))) (aL (eC (.bl ύ))) bY) (ay (bO (aU (e2 cu (ae 1) (eC (.str "made")))) (aL (ak qZ (af (ae 4) ah))) bY) (aL (dR (e2 cu (ae 1) (eC (.str "mended"))) (ak ue (af (ae 4) ah))))))))
def wI:List D->ai->Res D:=aS 1 1 (aL (dR (eB nr (af (ae 0) (af (eC (.ty "tuple")) ah))) (dR (e2 oQ (eB cR (af (ae 0) ah)) (eC (.int (24)))) (dR (eB kX (af (aQ 1 [] (bq (ae 0)) (gN 0) bu (ak AD (af (ae 0) ah))) ah)) (ak qW (af (ae 0) ah))))))
def pN:List D->ai->Res D:=aS 4 4 (aL (aQ 1 [1,2,3] (bq (ae 0)) (gN 0) (iP (aU (e2 cu (e2 aC (ae 0) (eC (.int 0))) (eC (.str "made")))) (iP (aU (e2 cu (e2 aC (ae 0) (eC (.int 1))) (ae 1))) (aU (e2 ic (ae 2) (e2 aC (e2 aC (ae 0) (eC (.int 3))) (ae 3)))))) (e2 aC (ae 0) (eC (.int 2)))))
def tV:List D->ai->Res D:=aS 3 3 (aL (aQ 1 [1,2] (bq (ae 0)) (gN 0) (iP (aU (e2 cu (e2 aC (ae 0) (eC (.int 0))) (eC (.str "mended")))) (iP (aU (e2 cu (e2 aC (ae 0) (eC (.int 1))) (ae 1))) (aU (e2 cu (e2 aC (ae 0) (eC (.int 3))) (ae 2))))) (e2 aC (ae 0) (eC (.int 2)))))
def wk:List D->ai->Res D:=aS 3 3 (aL (eB vq (af (aQ 1 [1,2] (bq (ae 0)) (gN 0) bu (sW gG oQ (ae 1) (ae 0) (ae 2))) ah)))
def wN:List D->ai->Res D:=aS 3 5 (ay (aM (ak pN (af (ae 0) (af (ae 1) (af (ae 2) (af (eC (.int (1))) ah))))) (gN 3)) (ay (aM (ak tV (af (ae 0) (af (ae 1) (af (ae 2) ah)))) (gN 4)) (aL (uF 2 [3,4] (bq (e1 kM (ak pN (af (ae 0) (af (ae 1) (af (ae 2) (af (eC (.int (0))) ah))))))) (gN 0) bu (oW (af (ae 0) (af (eC (.int (31))) ah))) (gN 1) (iP (jd (aU (e2 ic (ae 1) (ae 2))) (iP (aU (e2 cu (ae 1) (ae 0))) (aU (e2 ic (ae 0) (ae 3))))) (hX (dA (ak wk (af (ae 3) (af (ae 0) (af (ae 1) ah))))))) (bp (af (ae 0) (af (ae 1) ah)))))))
def wB:List D->ai->Res D:=aS 1 1 (aL (Pq 4 [0] (bT (af (eC (.int (4))) ah)) (gN 0) bu (bT (af (eC (.int (8))) ah)) (gN 1) bu (bq (ak wN (af (ae 4) (af (ae 0) (af (ae 1) ah))))) (gT [gN 2,gN 3]) bu (bp (af (ae 0) (af (ae 1) (af (ae 2) (af (ae 3) ah)))))))
def AE:List D->ai->Res D:=aS 1 1 (aL (dR (ak wI (af (ae 0) ah)) (TK.Hb (ak wB (af (ae 0) ah)))))
def mL:List D->ai->Res D:=aS 1 1 (bO (hX (dA (ak AE (af (ae 0) ah)))) qM bY)
def n5:List D->ai->Res D:=aS 1 1 (bO (hX (dA (ak wH (af (ae 0) ah)))) qM bY)
def Ay:List D->ai->Res D:=aS 1 1 (bO (hX (dA (ak wY (af (ae 0) ah)))) qM bY)
def DA:List D->ai->Res D:=aS 3 8 (ay (aM (ak pN (af (ae 0) (af (ae 1) (af (ae 2) (af (eC (.int (0))) ah))))) (gN 3)) (ay (aM (ak tV (af (ae 0) (af (ae 1) (af (ae 2) ah)))) (gN 4)) (ay (aM (eNew ah) (gN 5)) (ay (aM (eC (.bl ύ)) (gN 6)) (ay (fv (bT (af (eC (.int (31))) ah)) (gN 7) (ay (aM (mr (e2 ic (ae 7) (ae 3)) (dR (ae 6) (e2 fY (ae 7) (ae 4)))) (gN 6)) (bO (dA (ae 6)) (cJ (gj (ae 5) (ae 7))) bY))) (aL (qq (ae 5))))))))
def DD:List D->ai->Res D:=aS 3 8 (ay (aM (ak pN (af (ae 0) (af (ae 1) (af (ae 2) (af (eC (.int (1))) ah))))) (gN 3)) (ay (aM (ak tV (af (ae 0) (af (ae 1) (af (ae 2) ah)))) (gN 4)) (ay (aM (eNew ah) (gN 5)) (ay (aM (eC (.bl ύ)) (gN 6)) (ay (fv (wa (af (eC (.int (31))) ah)) (gN 7) (ay (bO (jd (dA (ae 6)) (jd (aU (e2 ic (ae 7) (ae 3))) (aU (e2 ic (ae 7) (ae 4))))) (cJ (gj (ae 5) (ae 7))) bY) (aM (dR (mr (ae 6) (e2 ic (ae 7) (ae 3))) (e2 fY (ae 7) (ae 4))) (gN 6)))) (aL (qq (ae 5))))))))
def wJ:List D->ai->Res D:=aS 2 2 (aL (eB cG (af (aQ 1 [1,0] (bT (af (eC (.int (8))) ah)) (gN 0) (aU (e2 ic (ae 1) (e2 aC (ae 2) (ae 0)))) (ae 0)) ah)))
def mI:List D->ai->Res D:=aS 2 4 (ay (aM (aQ 1 [0,1] (bT (af (eC (.int (8))) ah)) (gN 0) bu (ak DA (af (ae 1) (af (ae 2) (af (ae 0) ah))))) (gN 2)) (ay (aM (aQ 1 [0,1] (bT (af (eC (.int (8))) ah)) (gN 0) bu (ak DD (af (ae 1) (af (ae 2) (af (ae 0) ah))))) (gN 3)) (aL (aQ 1 [2,3] (bT (af (eC (.int (31))) ah)) (gN 0) bu (bp (af (ak wJ (af (ae 1) (af (ae 0) ah))) (af (ak wJ (af (ae 2) (af (ae 0) ah))) ah)))))))
def pV:List D->ai->Res D:=aS 3 3 (ay (cJ (ak mL (af (ae 0) ah))) (ay (cJ (ak n5 (af (ae 1) ah))) (ay (cJ (ak Ay (af (ae 2) ah))) (aL (e2 aC (ak mI (af (ae 0) (af (ae 1) ah))) (ae 2))))))
end DI
namespace L2
open PySem PySem.Spec PyProof.Rows
def qw (K:ae3) (l:ę) (all:List V) (rk:V->Hp->VK->Prop) (rc:R2):List V->V->V->Hp->VK->Prop
 | [],Z,_,H,Q=>bE K H l all/\Q Z H
 |x::Y,Z,X,H,Q=>bE K H l all/\rk x H λk U=>rc k X U λz W=>∃b,z=.bl b/\if b=ό then qw K l all rk rc Y x k W Q else qw K l all rk rc Y Z X W Q
def QR (K:ae3) (l:ę) (all:List V) (rk:V->Hp->VK->Prop) (rc:R2) (dv:V) (H:Hp) (Q:VK):Prop:=bE K H l all/\match all with
 | []=>Q dv H
 |x::Z=>rk x H λk Y=>qw K l all rk rc Z x k Y Q
noncomputable def qQ:Bool->String
 |true=>"max"
 |false=>"min"
noncomputable def Dd:Bool->String
 |true=>"max.loop"
 |false=>"min.loop"
noncomputable def zM:Bool->CmpOp
 |true=>.Gt
 |false=>.Lt
noncomputable def mmF:{ f:String->CmpOp->ε // f "min" .Lt=ε.«min.loop» }:=#[_,rfl]
noncomputable def mmC:{ f:String->ε // f "min"=Builtin.min }:=#[_,rfl]
abbrev mxB (m:Bool):ε:=mmF.1 (qQ m) (zM m)
abbrev mxC (m:Bool):ε:=mmC.1 (qQ m)
def Hc:∀m,entryFor table (Dd m)=ϊ (mxB m)
 |true=>PySem.F.entry_max_loop
 |false=>aff
def rZ:∀m,plainId (Dd m)=ό
 |true=>PySem.F.plain_max_loop
 |false=>ţ
def aeP:∀m,builtinKind (qQ m)=ϋ
 |true=>PySem.F.kind_max
 |false=>PySem.F.kind_min
def aeQ:∀m,plainId (qQ m)=ό
 |true=>PySem.F.plain_max
 |false=>PySem.F.plain_min
def aeR:∀m,entryFor table (qQ m)=ϊ (mxC m)
 |true=>PySem.F.entry_max
 |false=>PySem.F.entry_min
def aeS:∀m a,argsOk (qQ m) #[[a],[]]
 |true=>Vw
 |false=>Vx
def aeT (n):Builtin.Builtins.bindParams n ["key","default"] 0 #[[],[]]=pure [ϋ,ϋ]:=rfl
def ac9:∀m,ð M A (ğ (zM m) u v) Q E s->ð M A (richCompare (zM m) u v) Q E s
 |true,h=>h
 |false,h=>h
def Cw:∀m,(toString (qQ m)++toString ".loop")=Dd m
 |true=>by decide
 |false=>by decide
def Yi (m) {X} {l I S}  {kw} {all} {π} {σ:St} {rc} {Q} (hc:X.calm=ό) (mE:l≠I) (jD:S≠I) (zJ:S≠l) (hC:bA X.iV (ğ (zM m)) rc) :
  ∀rest j s H vb kb ub uk c,all.drop j=rest->j<=all.length->Inv X.iV π σ H s->cY X π H S->cY X π H I->s.heap.get? S=ϊ { cls:=.type "list",dict:=ϋ,data:=.seq #v[ub,uk] c,slots:=#v[] }->s.heap.IsTupleIter I l j->RelV vb ub->RelV kb uk ->
   qw X.K l all tD rc rest vb kb H Q->ů (ã X.prog X.w) X.A (.builtin (Dd m) #[[.ref I,.none,.ref S],kw]) (F9 X π σ Q) s:=by
 intro rest
 induction rest with
 |nil =>
  intro j s H vb kb ub uk c hd qN U Y Z O hit y rk' h;let(u,h):=h;have hj:=Nat.le_antisymm qN (by simpa using hd);subst hj;let(aj,G,t,hz):=U.tuple u;have r:=U.ok.hd hc;have W:=Walks.tuple (prog:=X.prog) (w:=X.w) r I l mE aj.toArray;have T:aj.toArray.size=all.length:=by exact G.length.symm
  refine Ģ (Hc m) ?_;rw[ņ (rZ m) _];refine À (Ď O rfl ?_);refine À (Ĩ (W.done _ _ _ #[by rw[T];exact hit,(t)] λh' N M=>?_));have q:=M S _ (by simpa using jD) O
  have F:Inv _ π σ H { s with heap:=h',toks:=N }:=U.turned (λb o R e=>M b o (by simpa using R) e) Z.1 Z.2.1 Z.2.2.2.1 Z.2.2.2.2.1 Z.2.2.2.2.2
  refine À ?_;refine Ō q rfl (À (Ŝ (Â ?_)));have n:=F.turned (h':=h'.update S (Š λ_=>(#v[]))) (t':=N) (λb o R e=>(ò _ _ (Ř R)).trans e) Y.1 Y.2.1 Y.2.2.2.1 Y.2.2.2.2.1 Y.2.2.2.2.2;exact#[vb,H,n.Io,y,h]
 |cons x rest ih =>
  intro j s H vb kb ub uk c hd qN U Y Z O hit y zK h;let(u,h):=h;have E:=by
   have:=ň (λl=>l[0]?) hd;simpa using this
  have ek:=by
   have:=ň (List.drop 1) hd;simpa  using this
  let(aj,G,t,hz):=U.tuple u;have r:=U.ok.hd hc;have W:=Walks.tuple (prog:=X.prog) (w:=X.w) r I l mE aj.toArray;have T:aj.toArray.size=all.length:=by exact G.length.symm
  refine Ģ (Hc m) ?_;rw[ņ (rZ m) _];refine À (Ď O rfl ?_);refine À (Ĩ (W.item j _ _ _ (by rw[T];exact(Ä.mp E).1) #[hit,(t)] λv h' N hP su M=>?_));let(V,nG,rx):=G.get E;have ev:=by
   have:=hP;rw[afp,nG] at this;exact ahe this
  subst ev;have q:=M S _ (by simpa using jD) O
  have F:Inv _ π σ H { s with heap:=h',toks:=N }:=U.turned (λb o R e=>M b o (by simpa using R) e) Z.1 Z.2.1 Z.2.2.2.1 Z.2.2.2.2.1 Z.2.2.2.2.2
  let(L,tF,lj,i):=id su.1;have nS:∀v,({ cls:=.type "list",dict:=ϋ,data:=.seq #v[ub,uk] c,slots:=#v[] }:Obj).data≠.cell v:=λv z=>by cases z
  have nI:∀v,L.data≠.cell v:=λv z=>by rw[i] at z;cases z
  have n:=F.jl (pins':=π++[(S,{ cls:=.type _,dict:=ϋ,data:=.seq _ c,slots:=#v[] }),(I,L)]) λp hp=>by
   rcases Û.mp hp with z|z
   .exact F.pin p (Å _ z)
   .rcases Ð.mp z with rfl|z
    .exact#[q,Y.1,Y.2.1,Y.2.2.1,nS]
    .rw[Ø.mp z]
     exact#[tF,Z.1,Z.2.1,Z.2.2.1,nI]
  refine À (Â ?_)
  have gO:EP _ _ σ (λk H1=>rc k kb H1 (λz D=>∃b,z=.bl b/\if b=ό then qw _ l all tD rc rest x k D Q else qw _ l all tD rc rest vb kb D Q)) V _:=#[x,H,n,rx,h]
  obtain⟨g,eD⟩:∃g,g={ s with heap:=h',toks:=N }:=#[_,rfl]
  rw[<- eD] at gO;rw[<- eD];let(k,D,I3,o7,h):=gO;refine À (Ĩ (ĝ (À (Ĝ (ac9 m (hC _ g σ D k kb V uk _ I3 o7 zK h)) (λz C JM=>?_) λ_ _ z=>z.elim))));let(zv,J,f,rz,b,eb,h):=JM;subst eb;cases rz;refine À (ĝ (Ĺ ?_));refine À (Ŝ (Â ?_));have B:=f.pin (S,{ cls:=.type "list",dict:=ϋ,data:=.seq #v[ub,uk] c,slots:=#v[] }) (Å _ (Å _ ∅));have d:=f.pin (I,L) (Å _ (Å _ ∅));have I5:=f.j6;have P:cY X π J S:=#[B.2.1,Y.2];have o9:cY X π J I:=#[d.2.1,Z.2]
  cases b with
  |true =>
   refine À ?_;refine Ō B.1 rfl (À (Ŝ ?_));rw[Cw m];obtain⟨a,jz⟩:∃a,(C.heap.update S (Š λ_=>#v[V,V])).get? S=ϊ { cls:=.type _,dict:=ϋ,data:=.seq _ a,slots:=#v[] }:=#[_,þ _ B.1 rfl]
   have I6:Inv _ π σ J { C with heap:=C.heap.update S (Š λ_=>#v[V,V]),toks:=C.toks }:=I5.turned (λb o R e=>(ò _ _ (Ř R)).trans e) P.1 P.2.1 P.2.2.2.1 P.2.2.2.2.1 P.2.2.2.2.2
   exact Â #[Ķ (rZ m) _,ih _ _ J x k V V a ek (Ä.mp E).1 I6 P o9 jz #[L,(ò _ _ jD).trans d.1,lj,i] rx o7 h]
  |false =>
   refine À (Ŝ ?_);rw[Cw m];exact Â #[Ķ (rZ m) _,ih _ _ J vb kb ub uk c ek (Ä.mp E).1 I5 P o9 B.1 #[L,d.1,lj,i] y zK h]
def NF (m) {X} {l}  {all} {π} {σ:St} {H} {s} {rc} {Q} (hc:X.calm=ό) (hC:bA X.iV (ğ (zM m)) rc)
  (I0:Inv X π σ H s) (gM:all≠[]) (h:QR X.K l all tD rc .aD H Q):ð (ã X.prog X.w) X.A (call (.builtin (qQ m)) [.ref l] []) (EP X π σ Q) X.xe s:=by
 let(hq,h):=h;let(aj,C,M,hz):=I0.tuple hq;have B:l<s.heap.objs.size:=by let(o,ho,_):=M;exact Í ho
 have hh:=I0.iV.ok.hd hc;refine kmk_tree (aeP m) (aeQ m) (aeR m) (aeS m _) ?_;refine À (ſ (aeT _) ?_);refine À (Â ?_);refine À (wpAny_pyIter_tuple (M) ?_);refine À (afY ?_ (Ă _));rw[Cw m];generalize V:s.heap.objs.size=I at *;have R:(s.heap.push { cls:=.type "tuple_iterator",data:=.fields #v[.ref l,.int 0 0] }).objs.size=I+1:=by rw[<- V];exact ĉ ..
 generalize JN:(s.heap.push _).objs.size=S at *;have y:=ë B;have L:S≠I:=by rw[R];exact Nat.succ_ne_self _
 have zJ:S≠l:=by rw[R];exact ŵ (Ē B)
 have u:∀b o,s.heap.get? b=ϊ o->((s.heap.push { cls:=.type "tuple_iterator",data:=.fields #v[.ref l,.int 0 0] }).push { cls:=.type "list",dict:=ϋ,data:=.seq #v[] 0,slots:=#v[] }).get? b=ϊ o:=λb o e=>Á _ (Á _ e);have gI:((s.heap.push _).push { cls:=.type "list",dict:=ϋ,data:=.seq #v[] 0,slots:=#v[] }).get? I=ϊ { cls:=.type "tuple_iterator",data:=.fields #v[.ref l,.int 0 0] }:=Á _ (V ▸ Ê _ rfl);have t:((s.heap.push _).push _).get? S=ϊ { cls:=.type "list",dict:=ϋ,data:=.seq #v[] 0,slots:=#v[] }:=JN ▸ Ê _ rfl;have nI:=I0.aN.fresh (Ū V);have nS:H S=ϋ:=I0.aN.fresh (by rw[R];exact Ó (Ū V) (Ť _));have Z:=I0.oM (Ū V) nI;have P:=I0.oM (by rw[R];exact Ó (Ū V) (Ť _)) nS;have I1:=I0.iV.kept (t':=s.toks) u;refine Â #[Ķ (rZ m) _,?_];show ů _ _ _ _ _;have W:=Walks.tuple (prog:=X.prog) (w:=X.w) hh I l y aj.toArray;have J:aj.toArray.size=all.length:=by exact C.length.symm
 have hit:Heap.IsTupleIter _ I l 0:=#[_,gI,rfl,rfl];have C1:Heap.IsTuple ((s.heap.push { cls:=.type "tuple_iterator",data:=.fields #v[.ref l,.int 0 0] }).push { cls:=.type "list",dict:=ϋ,data:=.seq #v[] 0,slots:=#v[] }) l aj.toArray:=by let(o,e,r):=M;exact#[o,u l o e,r]
 refine Ģ (Hc m) ?_;rw[ņ (rZ m) _];refine À (Ď t rfl ?_)
 cases all with
 |nil =>
  exact absurd rfl gM
 |cons x rest =>
  refine À (Ĩ (W.item 0 _ _ _ (by rw[J];simp) #[hit,C1] λv h' q hP su n=>?_));let(Y,nG,j):=C.get (i:=0) rfl;have ev:=by
   have:=hP;rw[afp,nG] at this;exact ahe this
  subst ev;have gR:=n S _ (by simpa using L) t;have g:=I1.turned (t':=q) (λb o G e=>n b o (by simpa using G) e) Z.1 Z.2.1 Z.2.2.2.1 Z.2.2.2.2.1 Z.2.2.2.2.2;let(O,tF,lj,f):=id su.1;have cS:∀v,({ cls:=.type "list",dict:=ϋ,data:=.seq #v[] 0,slots:=#v[] }:Obj).data≠.cell v:=λv z=>by cases z
  have cI:∀v,O.data≠.cell v:=λv z=>by rw[f] at z;cases z
  have I3:=g.jl (pins':=π++[(S,{ cls:=.type _,dict:=ϋ,data:=.seq _ 0,slots:=#v[] }),(I,O)]) λp hp=>by
   rcases Û.mp hp with z|z
   .exact g.pin p (Å _ z)
   .rcases Ð.mp z with rfl|z
    .exact#[gR,P.1,P.2.1,P.2.2.1,cS]
    .rw[Ø.mp z]
     exact#[tF,Z.1,Z.2.1,Z.2.2.1,cI]
  refine À (Â ?_);have d:EP _ _ σ (λk H1=>qw _ l _ tD rc rest x k H1 Q) Y _:=#[x,H,I3,j,h]
  obtain⟨U,c⟩:∃U,U={ s with heap:=h',toks:=q }:=#[_,rfl]
  rw[<- c] at d;rw[<- c];let(k,N,F,o7,h):=d;have E:=F.pin (S,{ cls:=.type "list",dict:=ϋ,data:=.seq #v[] 0,slots:=#v[] }) (Å _ (Å _ ∅));have a:=F.pin (I,O) (Å _ (Å _ ∅));have I5:=F.j6;have T:cY X π N S:=#[E.2.1,P.2];have o9:cY X π N I:=#[a.2.1,Z.2];refine À ?_;refine Ō E.1 rfl ?_;rw[Cw m];obtain⟨D,jz⟩:∃D,(U.heap.update S (Š λ_=>#v[Y,Y])).get? S=ϊ { cls:=.type _,dict:=ϋ,data:=.seq _ D,slots:=#v[] }:=#[_,þ _ E.1 rfl]
  have I6:Inv _ π σ N { U with heap:=U.heap.update S (Š λ_=>#v[Y,Y]),toks:=U.toks }:=I5.turned (λb o G e=>(ò _ _ (Ř G)).trans e) T.1 T.2.1 T.2.2.2.1 T.2.2.2.2.1 T.2.2.2.2.2
  exact Â #[Ķ (rZ m) _,Yi _ hc y L zJ hC rest 1 _ N x k Y Y D rfl ∅ I6 T o9 jz #[O,(ò _ _ L).trans a.1,lj,f] j o7 h]
end L2
namespace DI
open PySem L2
def qx (o:D->D->ai->Res D):D->List D->ai->Res D
 |b,[],s=>ok b s
 |b,d::Z,s=>aq (ne (o d b s)) λc s=>match c with
  | .bl ό=>qx o d Z s
  | .bl ύ=>qx o b Z s
  |_=>ϋ
def BW (o:D->D->ai->Res D) (d:D) (s:ai):Res D:=match d with
 | .tup (d::Z)=>qx o d Z s
 |_=>ϋ
theorem Gm:∀{ds} {vs} {w} {b} {vb},aR K w->bE K w.H l all->aB K w ds vs->DV K w b vb ->
  Out K Ξ w (qx o b ds w.aO) (λw' d=>∀v,DV K w' d v->Q v w'.H)->qw K l all tD (rO K bS o) vs vb vb w.H Q
 | [],vs,w,b,vb,S,Y,W,X,h=>by
  have e:=W;subst e;exact#[Y,aK S h _ X]
 |d::ds,vs,w,b,vb,S,Y,W,X,h=>by
  let(v,r,rfl,U,dr):=W;refine#[Y,w,d,b,rfl,S,U,X,(Out.aq h).ne.mono λP c Z T V O R=>?_]
  cases c with
  |bl c =>
   have e:=R;refine#[c,e,?_]
   cases c with
   |true =>
    exact Gm T (Z.tup _ _ Y) (Z.all dr) (Z _ _ U) V
   |false =>
    exact Gm T (Z.tup _ _ Y) (Z.all dr) (Z _ _ X) V
  |_=>exact V.elim
def QS (S:aR K w) (hl:DV K w d v) (h:Out K Ξ w (BW o d w.aO) (λw' d=>∀v,DV K w' d v->Q v w'.H)):∃l all,v=.ref l/\all≠[]/\QR K l all tD (rO K bS o) .aD w.H Q:=by
 delta BW at h;split at h
 .let(l,all,rfl,Z,x,r,rfl,Y,dr):=hl
  exact#[l,_,rfl,by simp,Z,Gm S Z dr Y h]
 .exact h.elim
def BX (ds:List D) (s:ai):Res D:=match ds with
 | [d]=>BW sk d s
 |_=>ϋ
def yf (ds:List D) (s:ai):Res D:=match ds with
 | [d]=>BW BN d s
 |_=>ϋ
section
variable {X:Cx} {Ξ:Wd->bF->Prop}
def abx (hc:X.calm=ό):cX X (.builtin "max") (rC X.K Ξ BX):=by
 intro T s σ H R P Q I r zz;let(w,O,rfl,S,Z,h):=zz;delta BX at h;split at h
 .let(v,rfl,Y):=lM Z
  let(l,all,rfl,W,V):=QS S Y h;let(u,rfl,U):=vals1 r;cases U;exact NF ό hc (Ii) I W V
 .exact h.elim
def PD (hc:X.calm=ό):cX X (.builtin "min") (rC X.K Ξ yf):=by
 intro T s σ H R P Q I r zz;let(w,O,rfl,S,Z,h):=zz;delta yf at h;split at h
 .let(v,rfl,Y):=lM Z
  let(l,all,rfl,W,V):=QS S Y h;let(u,rfl,U):=vals1 r;cases U;exact NF ύ hc (acO) I W V
 .exact h.elim
end
noncomputable def zN:D->Option (Bool×List D)
 | .tup Z=>ϊ (ό,Z)
 | .lst Z=>ϊ (ύ,Z)
 |_=>ϋ
def PH (h:zN d=ϊ (k,xs)):d=my k xs:=by
 cases d with
 |tup Z=>cases h;rfl
 |lst Z=>cases h;rfl
 |_=>cases h
def Cy (ds:List D) (s:ai):Res (List D):=match ds with
 | [x,y]=>match zN x,zN y with
  |some (_,Z),ϊ (_,Y)=>ok (hZ Z Y) s
  |_,_=>ϋ
 |_=>ϋ
def QT (fa:ag9 (List D)):ag9 (List D):=λenv s=>aq (fa env s) Cy
section
variable {X:Cx} {Ξ:Wd->bF->Prop} {a b:afh} {fa:ag9 (List D)} {pos:Pos}
def PJ:∀{k},DV K w (my k ds) v->∃a,v=.ref a
 |true,h=>by let(p,_,rfl,_):=h;exact#[p,rfl]
 |false,h=>by let(p,_,rfl,_):=h;exact#[p,rfl]
def aby {p} {elts} {kk} {ym} (hg:Gl X "zip") (hm:X.mg "zip"=ϋ) (ha:PA X [a,b] (tA X.K Ξ fa)) (hs:Õ [a,b] X.env=[(ύ,Ź a X.env),(ύ,Ź b X.env)]:=by rfl) (eD:Õ [b] X.env=[(ύ,Ź b X.env)]:=by rfl) :
  PI X (.Tuple elts kk ym) (.Call (.Name "zip" p) [a,b] [] pos) (ee X.K Ξ (QT fa)):=by
 intro D s σ H R I O;let(w,env,C,S,B,h):=O;subst C;obtain⟨k,l,A⟩:∃k l,Out _ Ξ w (fa env w.aO) λZ Y=>∃W V,Y=[my k W,my l V]/\∀J,mw _ Z J (hZ W V)->R J _:=by
  have T:=Out.aq h
  cases F:fa env _ with
  |none=>rw[F] at T;exact T.elim
  |some r =>
   let(r,m):=r;rw[F] at T
   cases r with
   |error x=>exact#[ό,ό,T]
   |ok Y =>
    have:∃k l W V,Y=[my k W,my l V]\/(∀s,Cy Y s=ϋ):=by
     delta Cy;split
     .rename_i x y
      cases e1:zN x with
      |none=>exact#[ό,ό,[],[],.inr λ_=>rfl]
      |some u=>cases e2:zN y with
       |none=>exact#[ό,ό,[],[],.inr λ_=>rfl]
       |some v=>exact#[_,_,_,_,.inl (by rw[PH e1,PH e2])]
     .exact#[ό,ό,[],[],.inr λ_=>rfl]
    obtain⟨k,l,W,V,e|e⟩:=this
    .subst e
     refine#[k,l,λZ P Q N=>?_];have U:Out _ Ξ Z _ λM Y=>∀J,mw _ M J Y->R J _:=T Z P Q N;refine#[W,V,rfl,λJ z=>?_]
     have e:Cy [my k W,my l V] Z.aO=ok (hZ W V) Z.aO:=by cases k<;>cases l<;>rfl
     rw[e] at U;exact aK Q U J z
    .refine#[ό,ό,λZ P Q N=>?_]
     have U:Out _ Ξ Z _ λM Y=>∀J,mw _ M J Y->R J _:=T Z P Q N;rw[e] at U;exact U.elim
 refine N9 (k:=k) (l:=l) hg hm ha hs eD D s σ _ R I #[w,env,rfl,S,B,A.mono λZ Y P Q U E t=>?_];let(W,V,rfl,U):=U;let(v,u,rfl,L,G):=uE t;let(p,rfl):=PJ L;let(q,rfl):=PJ G;let(o,O,_):=BL L;let(E,n,_):=BL G;exact#[p,q,o,E,rfl,O,n,U _ (Nv L G)]
end
end DI
namespace L2
open PySem PySem.Spec PyProof.Rows
section
variable {prog:Ć} {w:ģ} {A:Ĭ} {E:ì->ß->Prop} {R:Result->ß->Prop} {s:ß}
def Ui {elt target iter ifs rest scope pos it acc env}
  (h0:ů (ã prog w) A (.compLoop (.SetComp elt (#[target,iter,ifs,0]::rest) scope pos) 0 it acc env) R s)
  (h:ð (ã prog w) A (ag6 it) (λnM s'=>ů (ã prog w) A (.compLoop (.SetComp elt (#[target,iter,ifs,0]::rest) scope pos) 0 nM acc env) R s')
   (notedBy (ã prog w) A env λx s'=>R (.error x) s') s) :
  ů (ã prog w) A (.compStart (.SetComp elt (#[target,iter,ifs,0]::rest) scope pos) 0 it acc env) R s:=by
 refine afX ?_;refine wpAny_notedAt ?_;refine À (afc (wpAny_ite ?_));split
 .first
   |exact À (Â (Â (Ý rfl h0)))
   |exact Â _
 .first
   |exact À (ş (À (ō (À (Ĝ h (λnM s' Z=>Â (Ý rfl Z)) λ_ _ x=>x)))))
   |(show ð _ _ _ _ _ s)
def WR (hS:TS.gF prog w led s.heap a S n) (Qq:n+1<afl)
 (h:∀h',Ļ a s.heap h'->TS.gF prog w led h' a (λj=>S j||ώ (j=k)) (if S k then n else n+1)->Q .none { s with heap:=h',toks:=s.toks+1 }) :
  ð (ã prog w) A (call (.builtin "set.add") [.ref a,.int k tk]) Q E s:=by
 have Z:s.heap.SetOf (ψ prog w) a S n:=by
  let(o,Y,X,t,W,V,U,T,R,P,O,N,_):=hS;exact#[o,Y,X,t,W,V,U,T,R,P,O,N]
 refine Ą F.slot_set_add Z.typeIs F.entry_set_add ?_ (F.args_set_add_2 ..);delta ε.«set.add» Builtin.Frozenset.oneOther;erw[List.isEmpty_nil,bind_assoc];refine À (Â ?_);refine À (Â ?_);refine À ?_;refine À ((ψ prog w).pyHash (intKind_is ..) ?_);refine TS.Oa hS Qq λh' M L=>?_;exact Â #[_,rfl,h h' M L]
def Yj (elt target iter) (ifs) (scope) (pos) (it acc) (env) :
  compTurn (.SetComp elt [#[target,iter,ifs,0]] scope pos) 0 it acc env=(do
   agx iter.pos
   match <- agn it with
   |none=>pure (.done .next)
   |some v =>
    ř target it v
    af5 target env v
    let mut ok:=ό
    for c in ifs do
     if ok then ok <- ag5 c env (Ź c env)
    if ok then
     (do let v <- Ź elt env;agx elt.pos;let _ <- call (.builtin "set.add") [acc,v])
    again (.compLoop (.SetComp elt [#[target,iter,ifs,0]] scope pos) 0 it acc env)):=by rfl
def UX (hx:∀x s,XT x s->notedBy (ã P w) A ce (λx s'=>R (.error x) s') x s) (J:Nat->ß->Prop)
 (turn:∀n s,J n s->ð (ã P w) A (agn gL) (λr s1=>match r with
   |none=>R (.ok .next) s1
   |some v=>ð (ã P w) A (ř tg gL v) (λ_ s2=>ð (ã P w) A (af5 tg ce v) (λ_ s3 =>
     ð (ã P w) A (forIn tests ό λc r=>if r=ό then do let ok <- ag5 c ce (Ź c ce);pure (ŀ ok) else pure (ŀ r)) (λok s4 =>
      if ok=ό then ð (ã P w) A (Ź el ce) (λy s5=>ð (ã P w) A (call (.builtin "set.add") [av,y]) (λ_ s6=>∃m,m<n/\J m s6) XT s5) XT s4
      else ∃m,m<n/\J m s4) XT s3) XT s2) XT s1) XT s)
 (n) (h:J n s):ů (ã P w) A (.compLoop (.SetComp el [#[tg,src,tests,0]] sc ps) 0 gL av ce) R s:=by
 refine codeAny_loop rfl J (λn s X=>?_) n h;refine wpAny_noted ?_;rw[Yj];refine À (ō (À (Ĝ (turn n s X) (λr s1 Z=>?_) hx)))
 cases r with
 |none=>exact Â Z
 |some v =>
  refine À (Ĝ Z (λ_ s2 W=>?_) hx);refine À (Ĝ W (λ_ s3 V=>À (Ĝ V (λok s4 Y=>?_) hx)) hx)
  cases ok with
  |false=>exact Â #[rfl,Y]
  |true =>
   exact À (À (Ĝ Y (λy s5 U=>À (ō (À (Ĝ U (λ_ s6 T=>Â (Â #[rfl,T])) hx)))) hx))
end
def JX (acc:List V):Prop:=∃Z:List Int,acc=Z.map V.int/\∀k∈Z,0<=k/\k<60
noncomputable def JY:V->Int
 | .int n=>n
 |_=>0
def FC (ns:List Int):(ns.map V.int).map JY=ns:=by
 rw[ï];exact List.map_id' ns
abbrev JZ (P:Ć) (w:ģ) (p:ę) (acc:List V):HO:=.ext (dX P w p (acc.map JY))
def Bv (P:Ć) (w:ģ) (wi:TI) (nt:Nat) (cap:List Nat) (g:TG) (tf:TT) (te:TE):TE:=fun σ H Q=>wi σ H λJ Z=>Jg (JZ P w) JX J nt (oz cap σ) g tf te Z Q
theorem dX.at (x:dX P w p ns h) (k:∀o,h.get? p=ϊ o->h'.get? p=ϊ o):dX P w p ns h':=by
 let(S,n,T,r):=x;exact#[S,n,T.at k,r]
def dX.obj (x:dX P w p ns h):∃o,h.get? p=ϊ o/\∀v,o.data≠.cell v:=by
 obtain⟨S,n,⟨o,X,W,t,Z,V,Y,_⟩,_⟩:=x;exact#[o,Z,λv z=>by rw[Y] at z;cases z]
def Yk (hx:dX P w p ns h):fO P w (upd H p (.ext (dX P w p ns))) h p (.ext (dX P w p ns)):=#[hx,by let(o,e,_):=hx.obj;exact#[o,e],λ_ _ q k=>q.at k]
def Yl (e:h.get? p=ϊ { cls:=.type "set",dict:=ϋ,data:=.set #v[] 0 (.fresh 0 0 (TS.fu w)) }):dX P w p [] h :=
 #[λ_=>ύ,0,#[_,_,0,_,e,#[rfl,rfl,rfl],rfl,λe Z=>by simp at Z,λk=>by simp,by delta afl;simp,by rfl,rfl,TS.MI _],λk=>by simp,ahd _,rfl]
def Ym {ns:List Int} (h:∀k∈ns,0<=k/\k<60):(ns.foldl acV []).length<=60:=by
 have:=sub_len (l:=(Ô 60).map λ(i:Nat)=>(i)) (wA ns _ afe) λk Z=>by
  have:=h k ((wM ns k).mp Z);exact á.mpr #[k.toNat,é.mpr ⋯,by omega]
 simpa using this
def Yn {S:Int->Bool} {n} {k} (T:TS.gF P w (TS.fu w) h p (λj=>S j||ώ (j=k)) (if S k then n else n+1)) (mem:∀j,S j=ό↔j∈ns) (len:n=(ns.foldl acV []).length):dX P w p (ns++[k]) h:=by
 have e:(if S k then n else n+1)=((ns++[k]).foldl acV []).length:=by
  rw[List.foldl_append];show _=(acV _ k).length;rw[len];generalize X:ns.foldl acV _=m;have Y:=λk=>X ▸ wM ns k;delta acV;by_cases Z:k∈ns
  .rw[õ ((mem k).mpr Z),õ ((mQ _ k).mpr ((Y k).mpr Z))]
  .rw[ÿ (λz=>Z ((mem k).mp z)),ÿ (λz=>Z ((Y k).mp ((mQ _ k).mp z))),Î];rfl
 refine#[_,_,T,λj=>by simp[mem j],?_,e];rw[e];have:=sub_len (wA (ns++[k]) _ afe) λj W=>(wM _ j).mp W;exact this
def Yo (h:Q (.ref s.heap.objs.size) { s with heap:=s.heap.push { cls:=.type "set",dict:=ϋ,data:=.set #v[] 0 (.fresh 0 0 (TS.fu w)) } }):ð (ã P w) A (newSet (.type "set")) Q E s:=by
 refine À ?_;refine À (afc (Â ?_));exact À (wpAny_alloc (Â h))
def setB {el tg src} {tests} {sc} {ps}:G6 P w (.SetComp el [#[tg,src,tests,0]] sc ps) el tg src tests (newSet (.type "set")) "set.add" (JZ P w) JX where
 o0:={ cls:=.type _,dict:=ϋ,data:=.set _ 0 _ }
 live:=rfl
 Ac:=λD Z h=>JX Z/\dX P w D (Z.map JY) h
 clauses:=rfl
 turns:=UX
 new:=Yo
 start:=Ui
 init:=λe=>#[#[[],rfl,λk U=>by cases U],Yl e]
 obj:=λh=>h.2.obj
 js:=λh k=>#[h.1,h.2.at k]
 Ge:=λ_ h=>Yk h.2
 add:=λ{A E s D Z v y Q} h T _ X q=>by
  obtain⟨⟨K,rfl,S⟩,W⟩:=h;let(R,e,J):=id X;rw[FC] at W;have ev:∃k,v=.int k:=by
   have:=ň List.getLast? e;rw[List.getLast?_append] at this;erw[List.getLast?_singleton,Option.some_or,List.getLast?_map] at this
   cases V:R.getLast? with
   |none=>rw[V] at this;cases this
   |some k=>rw[V] at this;exact#[k,ahe this]
  let(k,rfl):=ev;let(I,rfl):=T;let(H,O,T0,Y,_,len0):=W;refine WR T0 (by have:=Ym S;show O+1<4096;omega) λN M L=>q N _ M #[X,?_];rw[ā,FC];exact Yn L Y len0
section
variable {X:Cx}
def Yp {nt} {cap} (hc:X.calm=ό) (S:mW X sc N nt cap) (fJ:l9 g nt) (hi:PI X tg src wi)
 (hY:∀cl C s H ex pn,PG (cL X N sc cl C s H ex pn) tg g/\PF (cL X N sc cl C s H ex pn) tests tf/\PE (cL X N sc cl C s H ex pn) el te)
 (hs:∀x,ú src X.env x=pure x:=by intro _;rfl):PE X (.SetComp el [#[tg,src,tests,0]] sc ps) (Bv X.prog X.w wi nt cap g tf te):=by
 intro T s σ H Q I h;exact D2 setB hc S fJ hi (λ_ _ _=>False) hY hs I h (λ_ _ _ _ _ _ _ _ _ _ _ z=>z.elim) λR Z D C m Y W _ _ _ _ _ _ q=>#[m,W,λV U=>#[.ref D,Z,Y V U,rfl,q]]
end
end L2
namespace DI
open PySem L2
def rB (d:D) (s:ai):Res D:=match d with
 | .int i=>if ώ (0<=i/\i<60)=ό then ok (.int i) s else ϋ
 |_=>ϋ
section
variable {X:Cx} {Ξ:Wd->bF->Prop} {e a b c tg el src:afh} {es rest tests:List afh} {pos:Pos} {f g h:ag9 D} {fa:ag9 (List D)} {ft gt:ag9 Bool}
def WS {K} {nt} {cap} {it} {g} {zO} (σ) (H) (Q)
  (si:∀w2 ns,aR K w2->Out K Ξ w2 (zO (.lst (ns.map D.int)) w2.aO) (λw' d=>∀v,DV K w' d v->Q v w'.H)->∀D,w2.H D=ϋ->(ns.foldl Ŵ []).length<64/\∀l (ks:List Int),(upd w2.H D (.ext (dX P wd D ns))) l=ϋ->ks.Pairwise (· < ·)->(∀k,k∈ks↔k∈ns)->Q (.ref l) (upd (upd w2.H D (.ext (dX P wd D ns))) l (.lst (ks.map V.int)))):tE K Ξ (e1 zO (aQ nt cap it g ft (e1 rB f))) σ H Q->Bv P wd (ee K Ξ it) nt cap (gD K g) (tT K bS ft) (tE K bS f) σ H λv H1=>∃(p:ę) (ns:List Int),v=.ref p/\H1 p=ϊ (.ext (dX P wd p ns))/\(ns.foldl Ŵ []).length<64/\∀l (ms:List Int),H1 l=ϋ->ms.Pairwise (· < ·)->(∀k,k∈ms↔k∈ns)->Q (.ref l) (upd H1 l (.lst (ms.map V.int))):=by
 intro zz;let(w,env,rfl,S,s,h):=zz;refine#[w,env,rfl,S,s,(Out.aq (Out.aq h)).mono λF W l1 S1 E J r=>?_];let(hz,E):=uh E;refine#[λi m n c=>∃Z:List Int,(n=Z.map V.int/\∀k∈Z,0<=k/\k<60)/\m=W.length-i/\i<=W.length/\∃w',w'.H=c/\Le K F w'/\aR K w'/\Out K Ξ w' (fj nt _ g ft _ (W.drop i) w'.aO) λw2 O=>Out K Ξ w2 (zO (.lst (Z.map D.int++O)) w2.aO) (λw' d=>∀v,DV K w' d v->Q v w'.H),
  #[_,[],#[rfl,λk U=>by cases U],rfl,Ă _,F,rfl,Le.refl _,S1,(Out.aq E).mono λw2 O T N M=>aK N M],?_]
 intro i m n c zz;obtain⟨Z,⟨rfl,L⟩,rfl,hi,w',rfl,R,I,Y⟩:=zz;by_cases C:i<W.length
 .right
  let(fJ,hy):=(r w' R I i).1 _ (É C);rw[ĺ C] at Y;erw[fj] at Y
  cases B:g _ _ with
  |none=>rw[B] at Y;exact Y.elim
  |some A =>
   rw[B] at Y;refine#[fJ,#[Z,rfl,L],λa H2=>∃G,(a=G.map V.int/\∀k∈G,0<=k/\k<60)/\∃w',w'.H=H2/\Le K F w'/\aR K w'/\Out K Ξ w' _ λw2 O=>Out K Ξ w2 _ (λw' d=>∀v,DV K w' d v->Q v _),
    λa H2 ⟨G,b2,q⟩=>#[_,by omega,G,b2,rfl,C,q],λo x H3 ho y=>?_]
   let(w2,rfl,T,N,es,dv):=hy x H3 y;refine#[w2,_,_,A,rfl,N,(s.le (l1.trans (R.trans T))).block nt cap o ho,dv,B,fun sJ lu=>?_];rw[<- es] at Y;refine#[w2,A,rfl,N,lu,(Out.aq (Y.from T)).ne.mono λw3 b u S3 h3=>?_]
   cases b with
   |true =>
    refine#[w3,A,rfl,S3,lu.le u,(Out.aq (Out.aq h3).ne).mono λw4 d l4 S4 X v zj=>?_];delta rB at X;split at X
    .rename_i k
     split at X
     .rename_i U
      have U:=ē U;have X:=aK S4 X;have ev:=zj;subst ev;refine#[Z++[k],#[by rw[ā];rfl,λj hj=>?_],w4,rfl,R.trans (T.trans (u.trans l4)),S4,(Out.aq X).mono λw5 O l5 S5 t=>?_]
      .rcases Û.mp hj with z|z
       .exact L j z
       .rw[Ø.mp z];exact U
      .have t:=aK S5 t
       rw[ā,Ö];exact t
     .exact X.elim
    .exact X.elim
   |false =>
    exact#[Z,#[rfl,L],w3,rfl,R.trans (T.trans u),S3,h3]
 .left
  have e:i=W.length:=by omega
  subst e;rw[agB] at Y;have M:=aK I Y;rw[ĕ] at M;refine#[(r w' R I _).2 (ahd _),#[Z,rfl,L],λp hp=>?_];rw[JZ,FC];exact#[p,Z,rfl,eJ,si w' Z I M p hp]
def ada {K} {Q:VK} {w2} {ns} (S2:aR K w2) (h2:Out K Ξ w2 (kM (.lst (ns.map D.int)) w2.aO) (λw' d=>∀v,DV K w' d v->Q v w'.H)) (q) (hq:w2.H q=ϋ):(ns.foldl Ŵ []).length<64/\∀l (ks:List Int),(upd w2.H q (.ext (dX P wd q ns))) l=ϋ->ks.Pairwise (· < ·)->(∀k,k∈ks↔k∈ns)->Q (.ref l) (upd (upd w2.H q (.ext (dX P wd q ns))) l (.lst (ks.map V.int))):=by
 delta kM at h2;erw[t9] at h2;split at h2
 .rename_i Y
  have Y:=ē Y;refine#[ŭ (Nx ns) Y,λl S U hs T=>?_];have e:=DB hs (qT ns) λk=>(T k).trans lH.symm;subst e;have X:=U;have W:=S2.grow (o:=.ext (dX P wd q ns)) hq;exact h2 _ ((Fw.grow hq).le.trans (Fw.grow X).le) (W.grow X) rfl _ #[l,_,rfl,#[(show ¬ (w2.grow q _).Z l from rH W X),eJ],aB.ints _]
 .exact h2.elim
def UY (i_:∀v σ H Q,g1 v σ H Q->g0 v σ H Q) (wm:∀R R',(∀J H',R J H'->R' J H')->wi σ H R->wi σ H R') (h:Bv P wd wi nt cap g1 tf te σ H Q):Bv P wd wi nt cap g0 tf te σ H Q:=by
 refine wm _ _ (λJ H' Y=>?_) h;let(W,X,step):=Y;refine#[W,X,λi m Z V hw=>?_]
 rcases step i m Z V hw with q | ⟨U,T,N,S,O⟩
 .exact .inl q
 .exact .inr #[U,T,N,S,λo x M L y=>i_ _ _ _ _ (O o x M L y)]
def Yq (si:∀{Q:VK} w2 ns,aR X.K w2->Out X.K Ξ w2 (zO (.lst (ns.map D.int)) w2.aO) (λw' d=>∀v,DV X.K w' d v->Q v w'.H)->∀D,w2.H D=ϋ->(ns.foldl Ŵ []).length<64/\∀l (ks:List Int),(upd w2.H D (.ext (dX X.prog X.w D ns))) l=ϋ->ks.Pairwise (· < ·)->(∀k,k∈ks↔k∈ns)->Q (.ref l) (upd (upd w2.H D (.ext (dX X.prog X.w D ns))) l (.lst (ks.map V.int)))) {sc} {ps p} {N} {nt} {cap} {it} {gd} {g0} (hc:X.calm=ό) (S:mW X sc N nt cap) (T:Tg X.K g0 gd nt) (hi:PI X tg src (ee X.K Ξ it))
  (hY:∀cl C s H ex pn,PG (cL X N sc cl C s H ex pn) tg g0/\PF (cL X N sc cl C s H ex pn) tests (tT X.K bS ft)/\PE (cL X N sc cl C s H ex pn) el (tE X.K bS f))
  (hg:Gl X "sorted") (hm:X.mg "sorted"=ϋ) (hv:ć "sorted"=ϊ (.builtin "sorted"))
  (hs:∀x,ú src X.env x=pure x:=by intro _;rfl)
  (lB:Õ [.SetComp el [#[tg,src,tests,0]] sc ps] X.env=(ύ,Ź (.SetComp el [#[tg,src,tests,0]] sc ps) X.env)::Õ [] X.env:=by rfl) (sm:(ũ pos (Õ [] X.env)).any (·.1)=ύ:=by rfl) :
  PE X (.Call (.Name "sorted" p) [.SetComp el [#[tg,src,tests,0]] sc ps] [] pos) (tE X.K Ξ (e1 zO (aQ nt cap it gd ft (e1 rB f)))) :=
 dF (Ez (LF hc) hg hm hv (oh (Yp hc S T.kH hi hY hs) ot lB) (by decide) (by decide) lB sm) fun σ H Q h=>by
  refine UY T.imp (λR Y i h=>AL R Y i h) ?_;have q:=WS σ H Q si h;refine AL _ _ (λJ B hc=>?_) q;let(W,U,step):=hc;refine#[W,U,λi m Z P hw=>?_]
  rcases step i m Z P hw with ⟨O,M,L⟩|q
  .refine .inl #[O,M,λD I=>?_]
   let(p,ns,e,G,F,E):=L D I;exact#[p,ns,by rw[e],G,F,E]
  .exact .inr q
def ZV {ps p} {N} {nt} {cap} {it} {gd} {g0} (hc:X.calm=ό) (S:mW X sc N nt cap) (T:Tg X.K g0 gd nt) (hi:PI X tg src (ee X.K Ξ it))
  (hY:∀cl C s H ex pn,PG (cL X N sc cl C s H ex pn) tg g0/\PF (cL X N sc cl C s H ex pn) tests (tT X.K bS ft)/\PE (cL X N sc cl C s H ex pn) el (tE X.K bS f))
  (hg:Gl X "sorted") (hm:X.mg "sorted"=ϋ) (hv:ć "sorted"=ϊ (.builtin "sorted"))
  (hs:∀x,ú src X.env x=pure x:=by intro _;rfl)
  (lB:Õ [.SetComp el [#[tg,src,tests,0]] sc ps] X.env=(ύ,Ź (.SetComp el [#[tg,src,tests,0]] sc ps) X.env)::Õ [] X.env:=by rfl) (sm:(ũ pos (Õ [] X.env)).any (·.1)=ύ:=by rfl) :
  PE X (.Call (.Name "sorted" p) [.SetComp el [#[tg,src,tests,0]] sc ps] [] pos) (tE X.K Ξ (e1 kM (aQ nt cap it gd ft (e1 rB f)))) :=
 Yq (λ_ _ S h D Z=>ada S h D Z) hc S T hi hY hg hm hv hs lB sm
end
end DI
namespace TK
open PySem PySem.Spec PyProof.Rows L2 DI
end TK
namespace DI
open PySem L2
abbrev GG (K:ae3) (mg:Str->Option ì) (x:Str) (st:Stmt) (ps:List Str):Prop:=∃f fd,Gd K mg x st ps f fd
abbrev aY (P:Ć) (w:ģ) (K:ae3) (mg:Str->Option ì) (base:afz) (x:Str) (st:Stmt) (ps:List Str) (k:Nat) (fn:List D->ai->Res D):Prop:=∀{f} {fd},Gd K mg x st ps f fd->gC P w K mg base iS k f fd ps (mv K fn)
noncomputable def Iy (N ps:List Str) (sc:Scope):Bool:=ώ (sc.kind=.function)&&!sc.isCoroutine&&!sc.isGenerator&&ώ N.Nodup&&ώ (N.take ps.length=ps)&&ps.all (λx=>ώ (sc.names.lookup x=ϊ .local\/sc.names.lookup x=ϊ .cell))&&sc.names.all (λy=>ώ (y.2≠.free))
def PL (h:Iy N ps sc=ό):xh N ps sc:=by
 delta Iy at h;erw[Ç,Ĕ,Æ,Ĉ] at h;obtain⟨⟨⟨⟨⟨⟨Z,Y⟩,X⟩,W⟩,V⟩,U⟩,T⟩:=h;exact#[Z,Y,X,W,V,U,T]
def bg (G:Gd K mg x st ps f fd) (N) (S:Iy N ps (iZ st)=ό)
 (hb:N.Nodup->∀cU A outer s H E,cD k (A.deeper (PyProof.Rows.envOfC x (iZ st) s.heap.objs.size f cU))->fx (qm iS P w K mg base N x (iZ st) f cU A outer s H E).vM (mP st) (tS K bS b)) :
  gC P w K mg base iS (k+1) f fd ps (mv K (aS ps.length N.length b)):=acM G.fn (PL S) (hb (PL S).nd)
section
variable {X:Cx} {Ξ:Wd->bF->Prop} {e a b c tg el src:afh} {es rest tests:List afh} {pos:Pos} {f g h:ag9 D} {fa:ag9 (List D)} {ft gt:ag9 Bool}
def aA {x} {st} {ps} {fn} {p} (G:GG X.K X.mg x st ps) (F:aY X.prog X.w X.K X.mg X.base x st ps k fn) (hr:cD n X.A) (ha:PA X (e::es) (tA X.K Ξ fa)) (hk:k<=n:=by decide) (hg:Gl X x:=by rfl) (kD:(x==("__debug__"))=ύ:=by decide)
  (he:Õ (e::es) X.env=(ύ,Ź e X.env)::Õ es X.env:=by rfl) (cz:(ũ pos (Õ es X.env)).any (·.1)=ύ:=by rfl):PE X (.Call (.Name x p) (e::es) [] pos) (tE X.K Ξ (ak fn fa)):=by
 let(f,fd,G):=G;exact aa3 (F G) (hr.mono hk) hg G.mg G.fn.kp G.b ha kD he cz
def az (ha:PE X a (tE X.K Ξ f)) (hs:Õ [a] X.env=(ύ,Ź a X.env)::Õ [] X.env:=by rfl):PA X [a] (tA X.K Ξ (af f ah)):=ba ha dW hs
def aI (ha:PE X a (tE X.K Ξ f)) (hb:PE X b (tE X.K Ξ g)) (h1:Õ [a,b] X.env=(ύ,Ź a X.env)::Õ [b] X.env:=by rfl) (h2:Õ [b] X.env=(ύ,Ź b X.env)::Õ [] X.env:=by rfl):PA X [a,b] (tA X.K Ξ (af f (af g ah))):=ba ha (ba hb dW h2) h1
def cN (ha:PE X a (tE X.K Ξ f)) (hb:PE X b (tE X.K Ξ g)) (hc:PE X c (tE X.K Ξ h)) (h1:Õ [a,b,c] X.env=(ύ,Ź a X.env)::Õ [b,c] X.env:=by rfl) (h2:Õ [b,c] X.env=(ύ,Ź b X.env)::Õ [c] X.env:=by rfl) (h3:Õ [c] X.env=(ύ,Ź c X.env)::Õ [] X.env:=by rfl):PA X [a,b,c] (tA X.K Ξ (af f (af g (af h ah)))):=ba ha (ba hb (ba hc dW h3) h2) h1
def cT {px} {sc} {ps} (N) {cap} {it} (hi:PI X (.Name x px) src (ee X.K Ξ it))
  (hY:∀cl C s H ex pn,PF (cL X N sc cl C s H ex pn) tests (tT X.K bS ft)/\PE (cL X N sc cl C s H ex pn) el (tE X.K bS f))
  (hc:X.calm=ό:=by rfl) (S:Gf sc X.env.scope.names X.N N 1 cap=ό:=by kernel_rfl) (nd:N.Nodup:=by decide +kernel) (h0:N[0]?=ϊ x:=by rfl) (hx:∀cl C s H ex pn,(cL X N sc cl C s H ex pn).env.scope.names.lookup x=ϊ .local:=by intros;rfl) (hs:∀x,ú src X.env x=pure x:=by intro _;rfl) :
  PE X (.ListComp el [#[.Name x px,src,tests,0]] sc ps) (tE X.K Ξ (aQ 1 cap it (gN 0) ft f)) :=
 mR hc (jN S) (i3 0) hi (λcl C s H ex pn=>#[cy nd h0 (.inl (hx cl C s H ex pn)) (.inr (hx cl C s H ex pn)),hY cl C s H ex pn]) hs
end
def qa (i:Nat) (q1:ę) (f1:List D->ai->Res D) (q2:ę) (f2:List D->ai->Res D) (fa:ag9 (List D)):ag9 D:=λenv s=>match env[i]? with
 |some (ϊ (.cx a [] []))=>if a=q1 then ak f1 fa env s else if a=q2 then ak f2 fa env s else ϋ
 |_=>ϋ
section
variable {X:Cx} {Ξ:Wd->bF->Prop} {e:afh} {es:List afh} {pos:Pos} {fa:ag9 (List D)}
def RE {st} {ps} {q} {fd} (G:Gd X.K X.mg x st ps q fd) (hg:Gl X x:=by rfl) (hd:(x==("__debug__"))=ύ:=by decide):PE X (.Name x pos) (tE X.K Ξ (eC (.cx q [] []))) :=
 rR (E9 (v:=.ref q) hg G.mg rfl hd) λ_=>#[rfl,rfl]
def QU (i) {x g1 g2} {p} {SW gm} {S6 S7} {k1 k2 n} {q1 q2} {fd1 fd2} {f1 f2} (G1:Gd X.K X.mg g1 SW S6 q1 fd1) (F1:aY X.prog X.w X.K X.mg X.base g1 SW S6 k1 f1) (G2:Gd X.K X.mg g2 gm S7 q2 fd2) (F2:aY X.prog X.w X.K X.mg X.base g2 gm S7 k2 f2)
  (hr:cD n X.A) (ha:PA X (e::es) (tA X.K Ξ fa)) (hk1:k1<=n:=by decide) (gO:k2<=n:=by decide)
  (hi:X.N[i]?=ϊ x:=by rfl) (hv:vK X.env.scope x:=by first|exact œ rfl|exact ag7 (œ rfl)|exact ag7 (ag7 rfl)) (hd:(x==("__debug__"))=ύ:=by decide) (kC:(x==("__classdict__"))=ύ:=by decide)
  (he:Õ (e::es) X.env=(ύ,Ź e X.env)::Õ es X.env:=by rfl) (cz:(ũ pos (Õ es X.env)).any (·.1)=ύ:=by rfl) :
  PE X (.Call (.Name x p) (e::es) [] pos) (tE X.K Ξ (qa i q1 f1 q2 f2 fa)):=by
 intro V s σ H Q I h;let(w,env,G,S,P,h):=h;subst G;have go:∀{Z} {fd} {U} {k} {fn},gC X.prog X.w X.K X.mg X.base iS k Z fd U (mv X.K fn)->k<=n->afd X.K (.ref Z)=ό->Binds X.K fd U []->σ[i]?=ϊ (ϊ (.ref Z))->Out X.K Ξ w (ak fn fa env w.aO) (λO d=>∀v,DV X.K O d v->Q v O.H)->ð (ã X.prog X.w) X.A (Ź (.Call (.Name x p) (e::es) [] pos) X.env) (EP X V σ Q) X.xe s:=by
  intro Z fd U k fn F E T D e1 h;refine PySem.wpAny_Call_Name_kw (aP (O2 hi hv hd kC V s σ _ (λv Y=>v=.ref Z/\Y=w.H) I #[_,e1,rfl,rfl]) λu C B=>?_);let(v,j,M,r,rfl,rfl):=B;subst r;refine PySem.W.callWith_K M.ok.mod.vJ T (aP (ha pos V C σ _ (λL Y=>Qm (mv X.K fn) [] E0 (λ_ _ Q=>Q L Y) σ Y Q) M #[w,env,rfl,S,P,(Out.aq h).mono λz y g t o m l=>?_]) λL f ⟨m,c,J,r,q⟩=>#[J.sE,?_]) he cz
  .show mv _ fn _ _ Q E0
   rw[ĕ];exact#[z,y,rfl,t,l,o.ne]
  .exact FZ F (hr.mono E) D .nil GX J r q
 delta qa at h;split at h
 .rename_i a e1
  let(v,e1,ev,_):=P.val i _ e1;subst ev;split at h
  .rename_i R
   subst R;exact go (F1 G1) hk1 G1.fn.kp G1.b e1 h
  .split at h
   .rename_i R
    subst R;exact go (F2 G2) gO G2.fn.kp G2.b e1 h
   .exact h.elim
 .exact h.elim
end
def ox (ds:List D) (s:ai):Res D:=match ds with
 | [d]=>match res d s with
  | .lst Y=>match rX Y with
   |some Z=>if (ώ Z.Nodup&&ώ (Z.length<=â))=ό then ok (.lst ((ST.gf ST.ny Z).map tupI)) s else ϋ
   |none=>ϋ
  |_=>ϋ
 |_=>ϋ
def Yr (h:PyProof.Rows.IntsAre vs ns) (g:PyProof.Rows.IntsAre vs ms):ns=ms:=by
 induction h generalizing ms with
 |nil=>cases g;rfl
 |cons n t _ ih =>
  cases g with
  |cons m u g=>rw[ih g]
section
variable {X:Cx} {Ξ:Wd->bF->Prop}
def OB (hr:cD k X.A):cX X (.builtin "sorted") (rC X.K Ξ ox):=by
 intro π s σ H E us Q I r zz;let(w,ds,rfl,S,Z,h):=zz;delta ox at h;split at h
 .let(v,rfl,D):=lM Z
  split at h
  .rename_i C e1
   let(a,E,rfl,B,Z):=jG S D e1;split at h
   .rename_i U z
    split at h
    .rename_i N
     erw[Ç,Æ] at N;let(u,rfl,y):=vals1 r;cases y;let(aj,T,x,t):=I.list (bJ.of B);have W:=T.length.symm.trans Z.length.symm;have R:=X5 z;have P:U.length=aj.length:=by rw[W,R,Ã]
     have O:=X6 I (R ▸ Z) T;have inj:∀i j,i<aj.length->j<aj.length->aj.getD i _=aj.getD j _->U.getD i _=U.getD j _:=λi j hi p e=>by
      obtain⟨c,ys,e1,⟨o,Y,hc,n,m⟩,g1⟩:=O.at i hi;obtain⟨c',l,e2,⟨o',M,l7,n',L⟩,g2⟩:=O.at j p;rw[e1,e2] at e;cases e;rw[Y] at M;cases M;rw[m] at L;cases L;exact Yr g1 g2
     refine MS.D4 x.isList ⋯ inj (MS.Ha P N.1) (λg h1 Y=>ST.WE (O.keep Y) g (by have:=hr.un;show X.A.units+1+1<agZ;omega)) λq h' b e V J Y G f=>?_;have F:∀i∈q.toList,i<C.length:=λi hi=>by rw[<- W];exact é.mp (V.2.mem_iff.mp hi)
     rw[<- P] at V J;have d:=I.aN.fresh G;refine#[.ref b,_,I.laid (o:=.lst _) Y G #[?_,_,e,Ek T (by rw[W];exact F),f],rfl,?_]
     .rw[Ã,å,V.1,P,W,Z.length];exact t
     .refine vo S ?_ h b d
      rw[<- EK V J,<- R];exact EJ Z F
    .exact h.elim
   .exact h.elim
  .exact h.elim
 .exact h.elim
end
def xC (ds:List D) (s:ai):Res D:=match ds with
 | [d]=>match res d s with
  | .lst Y=>match ki Y with
   |some Z=>if (ώ Z.Nodup&&ώ (Z.length<=â))=ό then ok (.lst ((ST.gf ST.Ct Z).map D.int)) s else ϋ
   |none=>ϋ
  |_=>ϋ
 |_=>ϋ
section
variable {X:Cx} {Ξ:Wd->bF->Prop}
def ZW (hr:cD k X.A):cX X (.builtin "sorted") (rC X.K Ξ xC):=by
 intro m s σ H J l Q I r zz;let(w,g,rfl,S,Z,h):=zz;delta xC at h;split at h
 .let(v,rfl,G):=lM Z
  split at h
  .rename_i F e1
   let(a,J,rfl,E,Z):=jG S G e1;split at h
   .rename_i D C
    split at h
    .rename_i P
     erw[Ç,Æ] at P;let(u,rfl,B):=vals1 r;cases B;let(aj,V,z,y):=I.list (bJ.of E);have Y:=V.length.symm.trans Z.length.symm;have U:=wW C;have T:D.length=aj.length:=by rw[Y,U,Ã]
     have R:=NA (U ▸ Z) V;refine MS.D4 z.isList ⋯ (λi j hi x e=>by let(t1,g1):=ST.A2 R i hi;let(f,g2):=ST.A2 R j x;rw[g1,g2] at e;injection e) (MS.Ha T P.1) (λt d O=>ST.WB R t) λq c b e W N O M p=>?_;have L:∀i∈q.toList,i<F.length:=λi hi=>by rw[<- Y];exact é.mp (W.2.mem_iff.mp hi)
     rw[<- T] at W N;have n:=I.aN.fresh M;refine#[.ref b,_,I.laid (o:=.lst _) O M #[?_,_,e,Ek V (by rw[Y];exact L),p],rfl,?_]
     .rw[Ã,å,W.1,T,Y,Z.length];exact y
     .refine vo S ?_ h b n
      rw[<- EK W N,<- U];exact EJ Z L
    .exact h.elim
   .exact h.elim
  .exact h.elim
 .exact h.elim
end
def uq:List D->ai->Res D:=aS 2 3 (ay (aM (eB A3 (af (ae 1) ah)) (gN 2)) (aL (aQ 1 [2,0] (bT (af (ae 1) ah)) (gN 0) bu (yx (ae 1) (ak bC (af (ae 2) (af (eB cR (af (ae 1) ah)) ah)))))))
def uu:List D->ai->Res D:=aS 1 1 (ay (bO (hX (dA (ak wI (af (ae 0) ah)))) qM bY) (aL (ak wB (af (ae 0) ah))))
def n9:List D->ai->Res D:=aS 2 2 (aL (eB cG (af (eB xC (af (aQ 1 [1] (bq (ae 0)) (gN 0) bu (e2 aC (ae 1) (ae 0))) ah)) ah)))
def pH:List D->ai->Res D:=aS 2 2 (aL (bp (af (ak n9 (af (e2 aC (ae 0) (eC (.int 0))) (af (ae 1) ah))) (af (ak n9 (af (e2 aC (ae 0) (eC (.int 1))) (af (ae 1) ah))) ah))))
def T4:ag9 Fl:=(cJ (gj (ae 3) (bp (af (ae 4) (af (e2 aC (ae 2) (ae 5)) (af (ae 6) (af (qK (aU (e2 cu (ae 4) (eC (.str "mended")))) (e2 aC (ae 1) (ae 7)) (ak pH (af (ae 7) (af (ae 1) ah)))) ah)))))))
def wu:List D->ai->Res D:=aS 3 8 (ay (aM (eNew ah) (gN 3)) (ay (fv (bq (ae 0)) (gT [(gN 4),(gN 5),(gN 6),(gN 7)]) T4) (aL (eB cG (af (eB TK.ka (af (ae 3) ah)) ah)))))
def uw:List D->ai->Res D:=aS 1 3 (ay (aM (bp (af (ak j7 (af (ae 0) (af (eC (.int 8)) ah))) (af (ak j7 (af (ae 0) (af (eC (.int 8)) ah))) ah))) (gT [(gN 1),(gN 2)])) (aL (bp (af (ae 1) (af (eB cG (af (aQ 1 [1] (bq (ae 2)) (gN 0) (aU (e2 fY (ae 0) (ae 1))) (ae 0)) ah)) ah)))))
def Ao:List D->ai->Res D:=aS 1 1 (bO (hX (dA (ak qZ (af (ae 0) ah)))) qM bY)
def wC:List D->ai->Res D:=aS 1 3 (ay (aM (eNew ah) (gN 1)) (ay (fv (bT (af (eB cR (af (ae 0) ah)) ah)) (gN 2) (bO (iP (dA (e2 aC (ae 0) (ae 2))) (iP (aU (e2 sk (ae 2) (eC (.int 0)))) (dA (e2 aC (ae 0) (e2 oE (ae 2) (eC (.int 1))))))) (qt (bp (af (e2 aC (e2 aC (ae 1) (e1 G3 (eC (.int 1)))) (eC (.int 0))) (af (ae 2) ah))) (ae 1) (e1 G3 (eC (.int 1)))) (bO (dA (e2 aC (ae 0) (ae 2))) (cJ (gj (ae 1) (bp (af (ae 2) (af (ae 2) ah))))) bY))) (aL (qq (ae 1)))))
def ux:List D->ai->Res D:=aS 2 2 (aL (dR (ak tW (af (e2 aC (ae 0) (eC (.int (0)))) (af (e2 aC (ae 1) (eC (.int (1)))) ah))) (ak tW (af (e2 aC (ae 0) (eC (.int (1)))) (af (e2 aC (ae 1) (eC (.int (0)))) ah)))))
def pO:List D->ai->Res D:=aS 2 2 (ay (cJ (ak mL (af (ae 0) ah))) (ay (cJ (ak Ao (af (ae 1) ah))) (aL (uF 3 [1,0] (bT (af (eC (.int (4))) ah)) (gN 0) bu (bq (ak wC (af (aQ 1 [3] (bq (ak mI (af (ae 4) (af (ae 0) ah)))) (gN 0) bu (ak ux (af (ae 1) (af (ae 0) ah)))) ah))) (gT [gN 1,gN 2]) bu (bp (af (ae 0) (af (ae 1) (af (ae 2) ah))))))))
def Ap:List D->ai->Res D:=aS 1 1 (aL (dR (eB nr (af (ae 0) (af (eC (.ty "tuple")) ah))) (dR (sW oQ oQ (eC (.int 1)) (eB cR (af (ae 0) ah)) (eC (.int (3)))) (eB kX (af (aQ 1 [] (bq (ae 0)) (gN 0) bu (ak qZ (af (ae 0) ah))) ah)))))
def wx:List D->ai->Res D:=aS 3 3 (ay (cJ (ak mL (af (ae 0) ah))) (ay (cJ (ak n5 (af (ae 1) ah))) (bO (hX (dA (ak Ap (af (ae 2) ah)))) qM bY)))
def wj:List D->ai->Res D:=aS 4 4 (aL (aQ 1 [0,1,3] (bq (e2 aC (ae 2) (eC (.int (0))))) (gN 0) (aU (e2 ic (ae 0) (e2 aC (ae 3) (eC (.int (1)))))) (ak tV (af (ae 1) (af (ae 2) (af (ae 0) ah))))))
def wK:List D->ai->Res D:=aS 3 3 (aL (mr (e2 gG (ae 2) (ae 1)) (eB kX (af (aQ 1 [1,2] (bq (ae 0)) (gN 0) bu (ak wk (af (ae 0) (af (ae 1) (af (ae 2) ah))))) ah))))
def Af:List D->ai->Res D:=aS 4 6 (ay (aM (ak wj (af (ae 0) (af (ae 1) (af (ae 2) (af (ae 3) ah))))) (gN 4)) (ay (aM (ak wj (af (ae 0) (af (ae 1) (af (ae 3) (af (ae 2) ah))))) (gN 5)) (aL (aQ 1 [4,5] (bT (af (eC (.int (31))) ah)) (gN 0) bu (aQ 1 [1,0,2] (bT (af (eC (.int (31))) ah)) (gN 0) bu (dR (ak wK (af (ae 1) (af (ae 2) (af (ae 0) ah)))) (ak wK (af (ae 3) (af (ae 0) (af (ae 2) ah))))))))))
def AF:List D->ai->Res D:=aS 3 3 (aL (eB kX (af (aQ 2 [2] (QT (af (ae 0) (af (ae 1) ah))) (gT [gN 0,gN 1]) bu (e2 aC (e2 aC (ae 0) (ae 1)) (ae 2))) ah)))
def Ml:ag9 Fl:=(ay (aM (aQ 1 [2,5,3] (bT (af (eC (.int (31))) ah)) (gN 0) (dA (ak ux (af (e2 aC (ae 1) (ae 2)) (af (e2 aC (ae 3) (ae 0)) ah)))) (ae 0)) (gN 6)) (ay (aM (aQ 1 [0,1,2,5] (bT (af (ae 5) ah)) (gN 0) bu (ak Af (af (ae 1) (af (ae 2) (af (e2 aC (ae 3) (ae 0)) (af (e2 aC (ae 3) (ae 4)) ah)))))) (gN 7)) (aM (uF 2 [7,6] (bq (ae 4)) (gN 0) bu (bq (ae 3)) (gN 1) (dA (ak AF (af (ae 2) (af (ae 0) (af (ae 1) ah))))) (e2 dG (ae 0) (bp (af (ae 1) ah)))) (gN 4))))
def AG:List D->ai->Res D:=aS 3 8 (ay (aM (ak mI (af (ae 0) (af (ae 1) ah))) (gN 3)) (ay (aM (qp (af (bp ah) ah)) (gN 4)) (ay (fv (bT (af (eB cR (af (ae 2) ah)) ah)) (gN 5) Ml) (aL (ae 4)))))
def rh:List D->ai->Res D:=aS 3 4 (ay (cJ (ak wx (af (ae 0) (af (ae 1) (af (ae 2) ah))))) (ay (aM (ak AG (af (ae 0) (af (ae 1) (af (ae 2) ah)))) (gN 3)) (aL (aQ 1 [3] (bT (af (eB cR (af (ae 2) ah)) ah)) (gN 0) bu (e1 kM (aQ 1 [0] (bq (ae 1)) (gN 0) bu (e1 rB (e2 aC (ae 0) (ae 1)))))))))
def pP:List D->ai->Res D:=aS 1 1 (aL (bp (af (e2 oE (eB BX (af (ae 0) ah)) (eB yf (af (ae 0) ah))) (af (eB yf (af (ae 0) ah)) (af (ae 0) ah)))))
def qX:List D->ai->Res D:=aS 3 3 (ay (cJ (ak wx (af (ae 0) (af (ae 1) (af (ae 2) ah))))) (aL (e1 (yd pP) (ak AG (af (ae 0) (af (ae 1) (af (ae 2) ah)))))))
def AH:List D->ai->Res D:=aS 3 5 (ay (aM (e2 aC (ae 0) (e2 dG (ae 1) (eC (.int 1)))) (gN 3)) (ay (aM (eNew ah) (gN 4)) (ay (bO (dA (ak rg (af (ae 3) (af (e2 aC (ae 0) (ae 1)) ah)))) (cJ (gj (ae 4) (bp (af (ae 2) (af (eC (.int 1)) ah))))) bY) (ay (bO (jd (aU (e2 cu (ae 2) (eC (.int (-1))))) (dA (ak rg (af (ae 3) (af (e2 aC (ae 0) (ae 2)) ah))))) (cJ (gj (ae 4) (bp (af (ae 1) (af (eC (.int 0)) ah))))) bY) (aL (qq (ae 4)))))))
def Aw:List D->ai->Res D:=aS 4 4 (aL (aQ 2 [3] (bq (ak AH (af (ae 0) (af (ae 1) (af (ae 2) ah))))) (gT [gN 0,gN 1]) (aU (e2 Bq (e2 aC (ae 2) (e2 dG (ae 0) (eC (.int 1)))) (eC .aD))) (e2 dG (e2 aC (ae 2) (e2 dG (ae 0) (eC (.int 1)))) (ae 1))))
def ra:List D->ai->Res D:=aS 1 4 (ay (cJ (ak wF (af (ae 0) ah))) (ay (aM (bp (af (e2 jq (bp (af (eC (.int 0)) ah)) (eB cR (af (ae 0) ah))) ah)) (gN 1)) (ay (fv (wa (af (e2 oE (eB cR (af (ae 0) ah)) (eC (.int 1))) ah)) (gN 2) (ay (aM (aQ 1 [0,2,1] (oW (af (eC (.int (-1))) (af (ae 2) ah))) (gN 0) bu (ak Aw (af (ae 1) (af (ae 2) (af (ae 0) (af (e2 aC (ae 3) (eC (.int 0))) ah)))))) (gN 3)) (aM (e2 dG (bp (af (eB cG (af (aQ 1 [] (bq (ae 3)) (gN 0) bu (eB BR (af (ae 0) ah))) ah)) ah)) (ae 1)) (gN 1)))) (aL (ae 1)))))
def pL:List D->ai->Res D:=aS 2 2 (ay (cJ (ak mL (af (ae 0) ah))) (ay (cJ (ak n5 (af (ae 1) ah))) (aL (eB cG (af (aQ 2 [] (bq (ak mI (af (ae 0) (af (ae 1) ah)))) (gT [gN 0,gN 1]) bu (ae 0)) ah)))))
def qY:List D->ai->Res D:=aS 2 2 (ay (cJ (ak mL (af (ae 0) ah))) (ay (cJ (ak n5 (af (ae 1) ah))) (aL (eB cG (af (aQ 2 [] (bq (ak mI (af (ae 0) (af (ae 1) ah)))) (gT [gN 0,gN 1]) bu (eB cG (af (aQ 1 [1] (bT (af (eC (.int (8))) ah)) (gN 0) (aU (e2 fY (ae 0) (ae 1))) (ae 0)) ah))) ah)))))
def Gn (mJ mM:ę):ag9 Fl:=(ay (aM (aQ 1 [3] (bq (qa 11 mJ pL mM qY (af (ae 6) (af (ae 9) ah)))) (gN 0) bu (ak n9 (af (ae 0) (af (ae 1) ah)))) (gN 12)) (bO (aU (e2 eU (qa 11 mJ pL mM qY (af (ae 8) (af (e2 aC (ae 4) (ae 9)) ah))) (eB cG (af (ae 12) ah)))) (aL (eC (.bl ύ))) bY))
def PM (W:ģ) (mJ mM:ę):ag9 Fl:=(ay (aM (ak AO (af (ae 0) (af (ae 1) ah))) (gN 2)) (ay (aM (bp (af (ak uq (af (ae 2) (af (eC (.int 8)) ah))) (af (ak uq (af (ae 2) (af (eC (.int 4)) ah))) ah))) (gT [(gN 3),(gN 4)])) (ay (vv 5 6 (af (ak (xl W) (af (ae 2) ah)) (af (ak (xk W) (af (ae 2) ah)) ah))) (ay (aM (eB ox (af (aQ 4 [4,3] (bq (ak uu (af (ae 5) ah))) (gT [gN 0,gN 1,gN 2,gN 3]) bu (bp (af (e2 aC (ae 4) (ae 0)) (af (e2 aC (ae 5) (ae 1)) (af (ae 2) (af (ae 3) ah)))))) ah)) (gN 7)) (ay (bO (aU (e2 eU (ak uu (af (ak wu (af (ae 5) (af (ae 3) (af (ae 4) ah)))) ah)) (ae 7))) (aL (eC (.bl ύ))) bY) (ay (yz 8 9 10 (af (ak wu (af (ae 6) (af (ae 3) (af (ae 4) ah)))) (af (ak bC (af (ae 2) (af (eC (.int 4)) ah))) (af (ak bC (af (ae 2) (af (eC (.int 31)) ah))) ah)))) (ay (bO (aU (e2 eU (ak pV (af (ae 8) (af (e2 aC (ae 4) (ae 9)) (af (ae 10) ah)))) (ak pH (af (ak pV (af (ae 6) (af (ae 9) (af (ae 10) ah)))) (af (ae 3) ah))))) (aL (eC (.bl ύ))) bY) (ay (fv (bq (qp (af (eC (.cx mJ [] [])) (af (eC (.cx mM [] [])) ah)))) (gN 11) (Gn mJ mM)) (ay (aM (bp (af (ak uw (af (ae 2) ah)) (af (ak pV (af (ae 6) (af (ae 9) (af (ae 10) ah)))) ah))) (gN 13)) (ay (aM (eB cG (af (aQ 1 [3] (bq (ae 13)) (gN 0) bu (ak pH (af (ae 0) (af (ae 1) ah)))) ah)) (gN 14)) (ay (aM (eB ox (af (aQ 3 [4] (bq (ak pO (af (ae 6) (af (e2 aC (ae 13) (eC (.int 0))) ah)))) (gT [gN 0,gN 1,gN 2]) bu (bp (af (e2 aC (ae 3) (ae 0)) (af (ae 1) (af (ae 2) ah))))) ah)) (gN 7)) (ay (bO (aU (e2 eU (ak pO (af (ae 8) (af (e2 aC (ae 14) (eC (.int 0))) ah))) (ae 7))) (aL (eC (.bl ύ))) bY) (ay (bO (aU (e2 eU (ak rh (af (ae 8) (af (e2 aC (ae 4) (ae 9)) (af (ae 14) ah)))) (ak rh (af (ae 6) (af (ae 9) (af (ae 13) ah)))))) (aL (eC (.bl ύ))) bY) (ay (bO (aU (e2 eU (ak qX (af (ae 8) (af (e2 aC (ae 4) (ae 9)) (af (ae 14) ah)))) (ak qX (af (ae 6) (af (ae 9) (af (ae 13) ah)))))) (aL (eC (.bl ύ))) bY) (ay (aM (eB cG (af (aQ 1 [2] (bT (af (e2 dG (eC (.int 1)) (ak bC (af (ae 2) (af (eC (.int 8)) ah)))) ah)) (gN 0) bu (ak j7 (af (ae 1) (af (eC (.int 4)) ah)))) ah)) (gN 15)) (ay (aM (eB cG (af (aQ 1 [3] (bq (ae 15)) (gN 0) bu (ak n9 (af (ae 0) (af (ae 1) ah)))) ah)) (gN 16)) (bO (jd (aU (e2 eU (ak qS (af (ae 16) ah)) (ak qS (af (ae 15) ah)))) (aU (e2 eU (ak ra (af (ae 16) ah)) (ak ra (af (ae 15) ah))))) (aL (eC (.bl ύ))) bY)))))))))))))))))
def Hd (W:ģ) (mJ mM:ę):List D->ai->Res D:=aS 1 17 (ay (fv (bT (af (eB uW (af (eC (.int 1)) (af (eB BO (af (eB cR (af (ae 0) ah)) (af (eC (.int 2)) ah))) ah))) ah)) (gN 1) (PM W mJ mM)) (aL (eC (.bl ό))))
end DI
namespace DI.jj
open PySem L2 DI
noncomputable def top (i:Nat):Stmt:=PySem.Challenge.pw_twinmoulds_k15_marks_and_moulds_named_ot.main.body.getD i (.Pass #[0,0,0,0])
noncomputable abbrev yA:List Str:=[ahh,"_law_k"]
noncomputable abbrev Cz:List Str:=[ahf,ahm]
noncomputable abbrev RF:List Str:=[ahf,"_law_most"]
noncomputable abbrev vC:List Str:=[ahf]
noncomputable abbrev RG:List Str:=[ahf,ahp]
noncomputable abbrev Iz:List Str:=["pages","mould","mark","half"]
noncomputable abbrev yB:List Str:=["pages","mould","mark"]
noncomputable abbrev IA:List Str:=["days","day","later"]
noncomputable abbrev IC:List Str:=["pages"]
noncomputable abbrev ID:List Str:=["things"]
noncomputable abbrev bW:List Str:=["thing"]
noncomputable abbrev He:List Str:=["thing","many"]
noncomputable abbrev u6:List Str:=["marks","others"]
noncomputable abbrev Hf:List Str:=["laid"]
noncomputable abbrev Hg:List Str:=["_law_some",ahg]
noncomputable abbrev Hh:List Str:=[ahr,ahg]
noncomputable abbrev QV:List Str:=[ahq,ahg,ahj]
noncomputable abbrev BY:List Str:=["book","mould","mark"]
noncomputable abbrev Hi:List Str:=["days_by_mark","day"]
noncomputable abbrev m9:List Str:=["book","mould"]
noncomputable abbrev Hj:List Str:=["book","mould","day"]
noncomputable abbrev QW:List Str:=["holds"]
noncomputable abbrev Hk:List Str:=["sheet","sure"]
noncomputable abbrev Hl:List Str:=["book","sheet"]
noncomputable abbrev ng:List Str:=["book","mould","sheets"]
noncomputable abbrev yg:List Str:=["book","mould","sheet","other"]
noncomputable abbrev Hm:List Str:=["mendings","day","later"]
noncomputable abbrev Hn:List Str:=["tables","dating","day"]
noncomputable abbrev Ho:List Str:=["dating"]
noncomputable abbrev u7:List Str:=["laying"]
noncomputable abbrev Hq:List Str:=["thing","most"]
noncomputable abbrev QX:List Str:=["run","laid","mould"]
noncomputable abbrev r6:List Str:=["run"]
noncomputable abbrev QY:List Str:=["run","place","other"]
noncomputable abbrev Hr:List Str:=["run","place","other","after"]
noncomputable abbrev adb:List Str:=[ahh]
structure bh (K:ae3) (mg:Str->Option ì):Prop where
 oy:mg "all"=ϋ
 PN:mg "any"=ϋ
 ZX:mg "bool"=ϋ
 abz:mg "int"=ϋ
 pJ:mg "isinstance"=ϋ
 iu:mg "len"=ϋ
 FD:mg "list"=ϋ
 Gp:mg "max"=ϋ
 uK:mg "min"=ϋ
 cC:mg "range"=ϋ
 LW:mg "reversed"=ϋ
 abA:mg "set"=ϋ
 pQ:mg "sorted"=ϋ
 ff:mg "tuple"=ϋ
 PQ:mg "zip"=ϋ
 pW:∃t,mg "MARKS"=ϊ (.int (8) t)
 wO:∃t,mg "MOULDS"=ϊ (.int (4) t)
 mS:∃t,mg "DAYS"=ϊ (.int (31) t)
 EN:∃t,mg "PAGES"=ϊ (.int (24) t)
 rM:∃t,mg "HAS"=ϊ (.int (0) t)
 rl:∃t,mg "LACKS"=ϊ (.int (1) t)
 El:∃t,mg "SHEETS"=ϊ (.int (3) t)
 Gq:∃t,mg "RUN"=ϊ (.int (10) t)
 EO:∃t,mg "TWINS"=ϊ (.int (2) t)
 Ax:∃t,mg "NO_OTHER"=ϊ (.int (-1) t)
 UZ:GG K mg "_law_cell_at" (top 77) yA
 WT:GG K mg "_law_state" (top 78) yA
 eM:GG K mg "_law_take" (top 79) Cz
 MT:GG K mg "_law_mixed" (top 85) Cz
 wQ:GG K mg "_law_marks" (top 80) RF
 Ys:GG K mg "_law_near" (top 82) vC
 WU:GG K mg "_law_lived" (top 83) RG
 Yt:GG K mg "_law_book" (top 84) vC
 Aq:GG K mg "days_seen" (top 36) Iz
 Ah:GG K mg "days_mended" (top 37) yB
 Lp:GG K mg "is_any_behind" (top 35) IA
 VG:GG K mg "clashes" (top 34) yB
 LH:GG K mg "faults_of" (top 33) IC
 LI:GG K mg "is_rising" (top 17) ID
 UA:GG K mg "is_number" (top 12) bW
 DO:GG K mg "is_below" (top 13) He
 Mm:GG K mg "is_mark" (top 14) bW
 DF:GG K mg "are_marks" (top 24) bW
 DG:GG K mg "are_apart" (top 26) u6
 DP:GG K mg "is_sheet" (top 25) bW
 LX:GG K mg "is_mould" (top 15) bW
 MU:GG K mg "is_day" (top 16) bW
 VH:GG K mg "is_page" (top 29) bW
 LY:GG K mg "are_laid" (top 30) bW
 MV:GG K mg "faults" (top 31) Hf
 AI:GG K mg "_law_named" (top 86) Hg
 Dy:GG K mg  ahs (top 87) Hh
 Lr:GG K mg  aht (top 88) QV
 VI:GG K mg "is_book" (top 32) bW
 wy:GG K mg "need_book" (top 39) bW
 Ak:GG K mg "need_mould" (top 18) bW
 U0:GG K mg "need_day" (top 19) bW
 TM:GG K mg "days_present" (top 47) BY
 T5:GG K mg "days_absent" (top 48) BY
 LZ:GG K mg "marks_on" (top 46) Hi
 wo:GG K mg "sure_sheets" (top 45) m9
 Em:GG K mg "surely" (top 41) Hj
 WV:GG K mg "_law_sheet" (top 81) vC
 Uj:GG K mg "need_sheet" (top 38) bW
 UB:GG K mg "stretches" (top 50) QW
 NG:GG K mg "agree" (top 49) Hk
 LJ:GG K mg "places_of" (top 44) Hl
 Uk:GG K mg "are_sheets" (top 56) bW
 Ly:GG K mg "need_asked" (top 57) ng
 Lm:GG K mg "mendings_between" (top 61) yg
 L0:GG K mg "is_clear" (top 62) Hm
 TH:GG K mg "days_together" (top 60) yg
 VJ:GG K mg "is_free" (top 59) Hn
 Mn:GG K mg "datings" (top 58) ng
 Mo:GG K mg "days_of" (top 53) ng
 U1:GG K mg "by_width" (top 55) Ho
 LK:GG K mg "narrowest" (top 54) ng
 UC:GG K mg "breaks_in" (top 72) u7
 UD:GG K mg "by_breaks" (top 73) u7
 Tz:GG K mg "are_laid_marks" (top 28) Hq
 L7:GG K mg "need_run" (top 69) bW
 D5:GG K mg "has_all" (top 27) u6
 VL:GG K mg "may_lay" (top 70) QX
 VM:GG K mg "layings" (top 71) r6
 Ls:GG K mg "best_laying" (top 67) r6
 VN:GG K mg "ways_on" (top 74) QY
 UE:GG K mg "bounds_at" (top 75) Hr
 L8:GG K mg "paper_of" (top 68) r6
 ahX:GG K mg "least_life" (top 42) m9
 ahY:GG K mg "most_life" (top 43) m9
section
variable {P:Ć} {w:ģ} {K:ae3} {mg:Str->Option ì} {base:afz}
def U2 (F:bh K mg):aY P w K mg base "_law_cell_at" (top 77) yA 1 wD:=λ{_ _} G =>
 bg G yA (by kernel_rfl) λY _ _ _ _ _ _ Z=>(aF (dS (ck (vz Z) (ag 1) (bG iy rfl F.iu iA (az (ag 0))) (cF _)) (aH (aV (aZ (ag 0) (ag 1)))) ef) (aH (aV aG)))
def WW (F:bh K mg):aY P w K mg base "_law_state" (top 78) yA 2 AO:=λ{_ _} G =>
 bg G [ahh,"_law_k","_law_cell"] (by kernel_rfl) λZ _ _ _ _ _ _ Y=>(aF (bK 2 Z (aA F.UZ (U2 F) Y (aI (ag 0) (ag 1)))) (aH (aV (oB (aI (bG (Pj rfl) rfl F.Gp G5 (aI aG (cq x8 (ag 2) (cq acN aG aG)))) (cq uV (ag 2) aG))))))
def eO (F:bh K mg):aY P w K mg base "_law_take" (top 79) Cz 1 bC:=λ{_ _} G =>
 bg G [ahf,ahm,ahn,"_law_stirred"] (by kernel_rfl) λZ _ _ _ _ _ _ Y=>(aF (dS (ck Ii (aZ (ag 0) aG) aG (cF _)) (aF (bK 2 Z (cq uV (aZ (ag 0) aG) (ag 1))) (aF (G4 (cq Qv (aZ (ag 0) aG) (ag 1)) (ag 0) aG) (aH (aV (ag 2))))) ef) (aF (G4 (cq uV (cq hU (cq uU (aZ (ag 0) aG) aG) aG) aG) (ag 0) aG) (aF (bK 3 Z (cq uV (cq hU (cq hU (cq uU (aZ (ag 0) aG) (aZ (ag 0) aG)) (cq uU aG (aZ (ag 0) aG))) aG) aG)) (aF (bK 3 Z (cq uV (cq hU (cq uU (ag 3) (ag 3)) (cq uU aG (ag 3))) aG)) (aH (aV (cq uV (cq Qv (ag 3) aG) (ag 1))))))))
def MW (F:bh K mg):aY P w K mg base "_law_mixed" (top 85) Cz 2 uq:=λ{_ _} G =>
 bg G [ahf,ahm,"_law_left"] (by kernel_rfl) λZ _ _ _ _ _ _ Y=>(aF (bK 2 Z (X4 (az (ag 1)) rfl rfl F.FD rfl F.cC)) (aH (aV (cT ["_law_turn","_law_left",ahf] (dq rfl F.cC (az (ag 1))) (λ_ _ _ _ _ _=>#[cm,(ac1 (ag 1) (aA F.eM (eO F) Y (aI (ag 2) (bG iy rfl F.iu iA (az (ag 1))))))])))))
def wR (F:bh K mg):aY P w K mg base "_law_marks" (top 80) RF 2 j7:=λ{_ _} G =>
 bg G [ahf,"_law_most","_law_way"] (by kernel_rfl) λY _ _ _ _ _ _ Z=>(aF (bK 2 Y (cq hU aG (aA F.eM (eO F) Z (aI (ag 0) aG)))) (aH (aV (gv il rfl F.ff fg (az (cT [ahi,ahf,"_law_way"] (dq rfl F.cC (az (ag 1))) (λ_ _ _ _ _ _=>#[(ix (ck (iR Z) (aA F.eM (eO F) Z (aI (ag 1) (cq hU (ag 2) aG))) aG (cF _))),(ag 0)])))))))
def Yu (F:bh K mg):aY P w K mg base "_law_near" (top 82) vC 3 (xl w):=λ{_ _} G =>
 bg G [ahf,ahn,ahj,"_law_last","_law_most","_law_turn",ahl,ahk,aho,"_law_lacks"] (by kernel_rfl) λY _ _ _ _ _ _ Z=>(aF (bK 1 Y TK.Px) (aF (Gk 2 3 4 rfl Y (cN (cq hU aG (aA F.eM (eO F) Z (aI (ag 0) aG))) (aZ (BK (cN aG aG aG)) (aA F.eM (eO F) Z (aI (ag 0) aG))) (cq hU aG (aA F.eM (eO F) Z (aI (ag 0) aG))))) (aF (jo Ħ rfl (dq rfl F.cC (az (aA F.eM (eO F) Z (aI (ag 0) aG)))) (cM 5 Y) (aF (Pn 6 7 rfl Y (aI (aA F.eM (eO F) Z (aI (ag 0) (ag 2))) (aA F.eM (eO F) Z (aI (ag 0) (ag 3))))) (aH (dS (ck (iR Z) (aA F.eM (eO F) Z (aI (ag 0) aG)) aG (cF _)) (aH (TK.Bt rfl Z iQ (ag 1) (cP (ba oA (ba (ag 6) (ba (ag 7) (ba (aA F.eM (eO F) Z (aI (ag 0) (ag 4))) dW))))))) (aF (bK 8 Y (aA F.wQ (wR F) Z (aI (ag 0) (ag 4)))) (aF (bK 9 Y (gv il rfl F.ff fg (az (cT [ahi,aho] (cO (aA F.wQ (wR F) Z (aI (ag 0) (ag 4)))) (λ_ _ _ _ _ _=>#[(ix (ck (rq Z) (ag 0) (ag 1) rfl)),(ag 0)]))))) (aH (TK.Bt rfl Z iQ (ag 1) (cP (ba oA (ba (ag 6) (ba (ag 7) (ba (cP (aI (ag 8) (ag 9))) dW))))))))))))) (aH (aV (gv il rfl F.ff fg (az (bG (TK.FA Z) rfl F.pQ pR (az (gv (TK.Ox rfl) rfl F.FD Po (az (ag 1))))))))))))
def WX (F:bh K mg):aY P w K mg base "_law_lived" (top 83) RG 2 uj:=λ{_ _} G =>
 bg G [ahf,ahp,"_law_there",ahn,"_law_way",ahk] (by kernel_rfl) λY _ _ _ _ _ _ Z=>(aF (Gk 2 3 4 rfl Y (cN (jn (iR Z) (aA F.eM (eO F) Z (aI (ag 0) aG)) aG (cF _)) (oB dW) (cq hU aG (aA F.eM (eO F) Z (aI (ag 0) aG))))) (aF (jo Ħ rfl (dq rfl F.cC (az aG)) (cM 5 Y) (aF (bK 2 Y (f9 (Co (ag 2) (iw (jn (iR Z) (aA F.eM (eO F) Z (aI (ag 0) (ag 4))) aG (cF _)))) (iw (jn (rq Z) (ag 5) (ag 1) rfl)))) (aH (dS (fF (ag 2)) (aH (fk (oH (ag 3) (ag 5)))) ef)))) (aH (aV (xU (ag 3))))))
def Yv (F:bh K mg):aY P w K mg base "_law_book" (top 84) vC 3 (xk w):=λ{_ _} G=>by
 have X:([ahi,ahf,"_law_often"]:List Str).Nodup:=nofun
 exact bg G [ahf,ahn,ahj,"_law_often",ahl,ahp,"_law_lives","_law_turn",ahi,ahk,"_law_seen",aho] (by kernel_rfl) λY _ _ _ _ _ _ Z=>(aF (rT (cP (cN TK.Px (cq hU aG (aA F.eM (eO F) Z (aI (ag 0) aG))) (cq hU aG (aA F.eM (eO F) Z (aI (ag 0) aG))))) (qf rfl (fW (cM 1 Y) (fW (cM 2 Y) (fW (cM 3 Y) p9))))) (aF (jo Ħ rfl (dq rfl F.cC (az (ag 2))) (cM 4 Y) (aF (rT (cP (aI (cT [ahi] (dq rfl F.cC (az aG)) (λ_ _ _ _ _ _=>#[cm,(oB dW)])) (oB dW))) (qf rfl (fW (cM 5 Y) (fW (cM 6 Y) p9)))) (aF (jo Ħ rfl (dq rfl F.cC (az (aA F.eM (eO F) Z (aI (ag 0) aG)))) (cM 7 Y) (aF (rT (cP (aI (aA F.eM (eO F) Z (aI (ag 0) aG)) (aA F.eM (eO F) Z (aI (ag 0) aG)))) (qf rfl (fW (cM 8 Y) (fW (cM 9 Y) p9)))) (aF (fk (oH (aZ (ag 5) (ag 8)) (ag 9))) (aH (TK.Bt rfl Z iQ (ag 1) (cP (ba oA (ba (ag 4) (ba (ag 9) (ba (ag 8) dW)))))))))) (aF (jo Ħ rfl (dq rfl F.cC (az aG)) (cM 8 Y) (aH (fk (oH (ag 6) (aA F.WU (WX F) Z (aI (ag 0) (aZ (ag 5) (ag 8)))))))) (aH (jo Ħ rfl (dq rfl F.cC (az (aA F.eM (eO F) Z (aI (ag 0) aG)))) (cM 7 Y) (aF (bK 9 Y (aA F.eM (eO F) Z (aI (ag 0) aG))) (aF (Fs 10 (N:=[ahi,ahf,"_law_often"]) (nt:=1) (cap:=[0,3]) Y rfl (jN (by kernel_rfl)) (i3 0) (dq rfl F.cC (az aG)) (λcl C s H ex W=>#[(cy (i:=0) X rfl (œ rfl)),(ix (ck (iR Z) (aA F.eM (eO F) Z (aI (ag 1) (ag 2))) aG (cF _))),(ag 0)])) (aF (bK 11 Y (gv il rfl F.ff fg (az (cT [ahi,ahk,"_law_lives"] (cO (ag 10)) (λ_ _ _ _ _ _=>#[(ix (ck (kY Z) (ag 1) (aZ (ag 2) (ag 0)) rfl)),(ag 0)]))))) (aH (TK.Bt rfl Z iQ (ag 1) (cP (ba oA (ba (ag 4) (ba (ag 9) (ba (cP (aI (ag 11) (gv il rfl F.ff fg (az (cT [ahi,ahk,"_law_lives"] (cO (ag 10)) (λ_ _ _ _ _ _=>#[(ix (ck (rq Z) (ag 1) (aZ (ag 2) (ag 0)) rfl)),(ag 0)])))))) dW)))))))))))))))) (aH (aV (gv il rfl F.ff fg (az (bG (TK.FA Z) rfl F.pQ pR (az (gv (TK.Ox rfl) rfl F.FD Po (az (ag 1)))))))))))
def Ar (F:bh K mg):aY P w K mg base "days_seen" (top 36) Iz 1 pN:=λ{_ _} G =>
 bg G Iz (by kernel_rfl) λY _ _ _ _ _ _ Z=>(aH (aV (cT ["page","mould","mark","half"] (cO (ag 0)) (λ_ _ _ _ _ _=>#[(ix (PW.pt (w_and (ck (iR Z) (aZ (ag 0) aG) oA (cF _)) (w_and (ck (iR Z) (aZ (ag 0) aG) (ag 1) (cF _)) (xu (ck (kY Z) (ag 2) (aZ (aZ (ag 0) aG) (ag 3)) rfl)))))),(aZ (ag 0) aG)]))))
def Ai (F:bh K mg):aY P w K mg base "days_mended" (top 37) yB 1 tV:=λ{_ _} G =>
 bg G yB (by kernel_rfl) λY _ _ _ _ _ _ Z=>(aH (aV (cT ["page","mould","mark"] (cO (ag 0)) (λ_ _ _ _ _ _=>#[(ix (PW.pt (w_and (ck (iR Z) (aZ (ag 0) aG) oA (cF _)) (w_and (ck (iR Z) (aZ (ag 0) aG) (ag 1) (cF _)) (xu (ck (iR Z) (aZ (ag 0) aG) (ag 2) (cF _))))))),(aZ (ag 0) aG)]))))
def Lq (F:bh K mg):aY P w K mg base "is_any_behind" (top 35) IA 1 wk:=λ{_ _} G =>
 bg G IA (by kernel_rfl) λY _ _ _ _ _ _ Z=>(aH (aV (bG (Qx rfl) rfl F.PN QC (az (cT ["other","day","later"] (cO (ag 0)) (λ_ _ _ _ _ _=>#[cm,(Fo (vz Z) vp (ag 1) (ag 0) (ag 2))]))))))
def VO (F:bh K mg):aY P w K mg base "clashes" (top 34) yB 2 wN:=λ{_ _} G=>by
 have Y:(["day","later","lacked","mended"]:List Str).Nodup:=nofun
 exact bg G ["pages","mould","mark","lacked","mended"] (by kernel_rfl) λX _ _ _ _ _ _ Z=>(aF (bK 3 X (aA F.Aq (Ar F) Z (ba (ag 0) (ba (ag 1) (ba (ag 2) (ba (cZ F.rl rfl) dW)))))) (aF (bK 4 X (aA F.Ah (Ai F) Z (cN (ag 0) (ag 1) (ag 2)))) (aH (aV (Ol (N:=["day","later","lacked","mended"]) (nt:=2) (cap:=[3,4]) rfl (xS (by kernel_rfl)) (i3 0) (om 0) (i3 1) (om 1) (cO (Vv (aA F.Aq (Ar F) Z (ba (ag 0) (ba (ag 1) (ba (ag 2) (ba (cZ F.rM rfl) dW))))) rfl rfl F.pQ pR rfl F.abA acS)) (λcl C s H ex W=>#[(cy (i:=0) Y rfl (œ rfl)),cm,(Bp rfl F.cC (aI (ag 0) (cZ F.mS rfl))),(cy (i:=1) Y rfl (œ rfl)),(ix (PW.pt (w_and (PW.pt (w_or (ck (kY Z) (ag 1) (ag 2) rfl) (rS (PW.pt (w_and (ck (iR Z) (ag 1) (ag 0) (cF _)) (xu (ck (kY Z) (ag 0) (ag 3) rfl))))))) (xu (kS (fF (aA F.Lp (Lq F) Z (cN (ag 3) (ag 0) (ag 1))))))))),(cP (aI (ag 0) (ag 1)))]))))))
def LM (F:bh K mg):aY P w K mg base "faults_of" (top 33) IC 3 wB:=λ{_ _} G=>by
 have Z:(["mould","mark","day","later","pages"]:List Str).Nodup:=nofun
 exact bg G IC (by kernel_rfl) λX _ _ _ _ _ _ Y=>(aH (aV (ZC (N:=["mould","mark","day","later","pages"]) (nt:=4) (cap:=[0]) rfl (xS (by kernel_rfl)) (i3 0) (om 0) (i3 1) (om 1) (ou (fV 2 (fV 3 oj))) (Bm [2,3]) (dq rfl F.cC (az (cZ F.wO rfl))) (λcl C s H ex W=>#[(cy (i:=0) Z rfl (œ rfl)),cm,(dq rfl F.cC (az (cZ F.pW rfl))),(cy (i:=1) Z rfl (œ rfl)),cm,(cO (aA F.VG (VO F) Y (cN (ag 4) (ag 0) (ag 1)))),(jI rfl (fM (cy (i:=2) Z rfl (œ rfl)) (fM (cy (i:=3) Z rfl (œ rfl)) mO))),cm,(cP (ba (ag 0) (ba (ag 1) (ba (ag 2) (ba (ag 3) dW)))))]))))
def LN (F:bh K mg):aY P w K mg base "is_rising" (top 17) ID 1 qW:=λ{_ _} G=>by
 have Z:(["ahead","behind"]:List Str).Nodup:=nofun
 exact bg G ID (by kernel_rfl) λX _ _ _ _ _ _ Y=>(aH (aV (bG (oG rfl) rfl F.oy oJ (az (mR (N:=["ahead","behind"]) (nt:=2) (cap:=[]) rfl (jN (by kernel_rfl)) (ou (fV 0 (fV 1 oj))) (acL rfl F.PQ (aI (ag 0) (aet (ag 0) (acP aG) aes))) (λcl C s H ex W=>#[(jI rfl (fM (cy (i:=0) Z rfl (œ rfl)) (fM (cy (i:=1) Z rfl (œ rfl)) mO))),cm,(jn (vz Y) (ag 0) (ag 1) (cF _))]))))))
def UG (F:bh K mg):aY P w K mg base "is_number" (top 12) bW 1 DN:=λ{_ _} G =>
 bg G bW (by kernel_rfl) λZ _ _ _ _ _ _ Y=>(aH (aV (f9 (bG qg rfl F.pJ pK (aI (ag 0) (qu acR rfl F.abz))) (f9 (Qt (bG qg rfl F.pJ pK (aI (ag 0) (qu abc rfl F.ZX)))) (iw (jn aeq (ag 0) aG (cF _)))))))
def DQ (F:bh K mg):aY P w K mg base "is_below" (top 13) He 2 tY:=λ{_ _} G =>
 bg G He (by kernel_rfl) λY _ _ _ _ _ _ Z=>(aH (aV (f9 (aA F.UA (UG F) Z (az (ag 0))) (iw (jn (vz Z) (ag 0) (ag 1) (cF _))))))
def Mp (F:bh K mg):aY P w K mg base "is_mark" (top 14) bW 3 ue:=λ{_ _} G =>
 bg G bW (by kernel_rfl) λY _ _ _ _ _ _ Z=>(aH (aV (aA F.DO (DQ F) Z (aI (ag 0) (cZ F.pW rfl)))))
def DH (F:bh K mg):aY P w K mg base "are_marks" (top 24) bW 4 pM:=λ{_ _} G =>
 bg G bW (by kernel_rfl) λY _ _ _ _ _ _ Z=>(aH (aV (f9 (bG qg rfl F.pJ pK (aI (ag 0) (qu fg rfl F.ff))) (f9 (bG (oG rfl) rfl F.oy oJ (az (cT ["mark"] (cO (ag 0)) (λ_ _ _ _ _ _=>#[cm,(aA F.Mm (Mp F) Z (az (ag 0)))])))) (iw (aA F.LI (LN F) Z (az (ag 0))))))))
def DJ (F:bh K mg):aY P w K mg base "are_apart" (top 26) u6 1 tW:=λ{_ _} G =>
 bg G u6 (by kernel_rfl) λY _ _ _ _ _ _ Z=>(aH (aV (Qt (bG (Qx rfl) rfl F.PN QC (az (cT ["mark","others"] (cO (ag 0)) (λ_ _ _ _ _ _=>#[cm,(jn (kY Z) (ag 0) (ag 1) rfl)])))))))
def DR (F:bh K mg):aY P w K mg base "is_sheet" (top 25) bW 5 qZ:=λ{_ _} G =>
 bg G ["thing","has","lacks"] (by kernel_rfl) λY _ _ _ _ _ _ Z=>(aF (dS (PW.pt (w_or (kS (fF (bG qg rfl F.pJ pK (aI (ag 0) (qu fg rfl F.ff))))) (rS (ck (nq Z) (bG iy rfl F.iu iA (az (ag 0))) aG (cF _))))) (aH (aV iQ)) ef) (aF (rT (ag 0) (qf rfl (fW (cM 1 Y) (fW (cM 2 Y) p9)))) (aH (aV (f9 (aA F.DF (DH F) Z (az (ag 1))) (f9 (aA F.DF (DH F) Z (az (ag 2))) (iw (aA F.DG (DJ F) Z (aI (ag 1) (ag 2))))))))))
def L9 (F:bh K mg):aY P w K mg base "is_mould" (top 15) bW 3 wH:=λ{_ _} G =>
 bg G bW (by kernel_rfl) λY _ _ _ _ _ _ Z=>(aH (aV (aA F.DO (DQ F) Z (aI (ag 0) (cZ F.wO rfl)))))
def MX (F:bh K mg):aY P w K mg base "is_day" (top 16) bW 3 wY:=λ{_ _} G =>
 bg G bW (by kernel_rfl) λY _ _ _ _ _ _ Z=>(aH (aV (aA F.DO (DQ F) Z (aI (ag 0) (cZ F.mS rfl)))))
def VP (F:bh K mg):aY P w K mg base "is_page" (top 29) bW 6 AD:=λ{_ _} G =>
 bg G ["thing","word","mould","day","what"] (by kernel_rfl) λY _ _ _ _ _ _ Z=>(aF (dS (PW.pt (w_or (kS (fF (bG qg rfl F.pJ pK (aI (ag 0) (qu fg rfl F.ff))))) (rS (ck (nq Z) (bG iy rfl F.iu iA (az (ag 0))) aG (cF _))))) (aH (aV iQ)) ef) (aF (rT (ag 0) (qf rfl (fW (cM 1 Y) (fW (cM 2 Y) (fW (cM 3 Y) (fW (cM 4 Y) p9)))))) (aF (dS (PW.pt (w_or (kS (fF (aA F.LX (L9 F) Z (az (ag 2))))) (rS (kS (fF (aA F.MU (MX F) Z (az (ag 3)))))))) (aH (aV iQ)) ef) (aF (dS (ck (iR Z) (ag 1) oA (cF _)) (aH (aV (aA F.DP (DR F) Z (az (ag 4))))) ef) (aH (aV (f9 (jn (iR Z) (ag 1) oA (cF _)) (iw (aA F.Mm (Mp F) Z (az (ag 4)))))))))))
def Ma (F:bh K mg):aY P w K mg base "are_laid" (top 30) bW 7 wI:=λ{_ _} G =>
 bg G bW (by kernel_rfl) λY _ _ _ _ _ _ Z=>(aH (aV (f9 (bG qg rfl F.pJ pK (aI (ag 0) (qu fg rfl F.ff))) (f9 (jn vp (bG iy rfl F.iu iA (az (ag 0))) (cZ F.EN rfl) (cF _)) (f9 (bG (oG rfl) rfl F.oy oJ (az (cT ["page"] (cO (ag 0)) (λ_ _ _ _ _ _=>#[cm,(aA F.VH (VP F) Z (az (ag 0)))])))) (iw (aA F.LI (LN F) Z (az (ag 0)))))))))
def MY (F:bh K mg):aY P w K mg base "faults" (top 31) Hf 8 uu:=λ{_ _} G =>
 bg G Hf (by kernel_rfl) λY _ _ _ _ _ _ Z=>(aF (dS (kS (fF (aA F.LY (Ma F) Z (az (ag 0))))) rj ef) (aH (aV (aA F.LH (LM F) Z (az (ag 0))))))
def AJ (F:bh K mg):aY P w K mg base "_law_named" (top 86) Hg 1 n9:=λ{_ _} G =>
 bg G Hg (by kernel_rfl) λY _ _ _ _ _ _ Z=>(aH (aV (gv il rfl F.ff fg (az (bG (ZW Z) rfl F.pQ pR (az (cT [ahi,ahg] (cO (ag 0)) (λ_ _ _ _ _ _=>#[cm,(aZ (ag 1) (ag 0))]))))))))
def Dz (F:bh K mg):aY P w K mg base  ahs (top 87) Hh 2 pH:=λ{_ _} G =>
 bg G Hh (by kernel_rfl) λY _ _ _ _ _ _ Z=>(aH (aV (cP (aI (aA F.AI (AJ F) Z (aI (aZ (ag 0) aG) (ag 1))) (aA F.AI (AJ F) Z (aI (aZ (ag 0) aG) (ag 1)))))))
def Lu (F:bh K mg):aY P w K mg base  aht (top 88) QV 3 wu:=λ{_ _} G =>
 bg G [ahq,ahg,ahj,ahn,"_law_word",ahl,ahk,"_law_thing"] (by kernel_rfl) λZ _ _ _ _ _ _ Y=>(aF (bK 3 Z (oB dW)) (aF (jo Ħ rfl (cO (ag 0)) (qf rfl (fW (cM 4 Z) (fW (cM 5 Z) (fW (cM 6 Z) (fW (cM 7 Z) p9))))) (aH (fk (oH (ag 3) (cP (ba (ag 4) (ba (aZ (ag 2) (ag 5)) (ba (ag 6) (ba (aeo (ck (iR Y) (ag 4) oA (cF _)) (aZ (ag 1) (ag 7)) (aA F.Dy (Dz F) Y (aI (ag 7) (ag 1)))) dW))))))))) (aH (aV (gv il rfl F.ff fg (az (bG (TK.FA Y) rfl F.pQ pR (az (ag 3)))))))))
def VQ (F:bh K mg):aY P w K mg base "is_book" (top 32) bW 8 AE:=λ{_ _} G =>
 bg G bW (by kernel_rfl) λY _ _ _ _ _ _ Z=>(aH (aV (f9 (aA F.LY (Ma F) Z (az (ag 0))) (iw (TK.abw (aA F.LH (LM F) Z (az (ag 0))))))))
def wz (F:bh K mg):aY P w K mg base "need_book" (top 39) bW 9 mL:=λ{_ _} G =>
 bg G bW (by kernel_rfl) λY _ _ _ _ _ _ Z=>(aH (dS (kS (fF (aA F.VI (VQ F) Z (az (ag 0))))) rj ef))
def Al (F:bh K mg):aY P w K mg base "need_mould" (top 18) bW 4 n5:=λ{_ _} G =>
 bg G bW (by kernel_rfl) λY _ _ _ _ _ _ Z=>(aH (dS (kS (fF (aA F.LX (L9 F) Z (az (ag 0))))) rj ef))
def U3 (F:bh K mg):aY P w K mg base "need_day" (top 19) bW 4 Ay:=λ{_ _} G =>
 bg G bW (by kernel_rfl) λY _ _ _ _ _ _ Z=>(aH (dS (kS (fF (aA F.MU (MX F) Z (az (ag 0))))) rj ef))
def TN (F:bh K mg):aY P w K mg base "days_present" (top 47) BY 2 DA:=λ{_ _} G =>
 bg G ["book","mould","mark","shown","mended","present","stays","day"] (by kernel_rfl) λZ _ _ _ _ _ _ Y=>(aF (bK 3 Z (aA F.Aq (Ar F) Y (ba (ag 0) (ba (ag 1) (ba (ag 2) (ba (cZ F.rM rfl) dW)))))) (aF (bK 4 Z (aA F.Ah (Ai F) Y (cN (ag 0) (ag 1) (ag 2)))) (aF (bK 5 Z (oB dW)) (aF (bK 6 Z iQ) (aF (jo Ħ rfl (dq rfl F.cC (az (cZ F.mS rfl))) (cM 7 Z) (aF (bK 6 Z (Co (jn (kY Y) (ag 7) (ag 3) rfl) (iw (f9 (ag 6) (iw (jn (rq Y) (ag 7) (ag 4) rfl)))))) (aH (dS (fF (ag 6)) (aH (fk (oH (ag 5) (ag 7)))) ef)))) (aH (aV (xU (ag 5)))))))))
def T6 (F:bh K mg):aY P w K mg base "days_absent" (top 48) BY 2 DD:=λ{_ _} G =>
 bg G ["book","mould","mark","lacked","mended","absent","barred","day"] (by kernel_rfl) λZ _ _ _ _ _ _ Y=>(aF (bK 3 Z (aA F.Aq (Ar F) Y (ba (ag 0) (ba (ag 1) (ba (ag 2) (ba (cZ F.rl rfl) dW)))))) (aF (bK 4 Z (aA F.Ah (Ai F) Y (cN (ag 0) (ag 1) (ag 2)))) (aF (bK 5 Z (oB dW)) (aF (bK 6 Z iQ) (aF (jo Ħ rfl (QI rfl F.LW rfl F.cC (az (cZ F.mS rfl))) (cM 7 Z) (aF (dS (PW.pt (w_or (fF (ag 6)) (w_or (ck (kY Y) (ag 7) (ag 3) rfl) (rS (ck (kY Y) (ag 7) (ag 4) rfl))))) (aH (fk (oH (ag 5) (ag 7)))) ef) (aH (bK 6 Z (f9 (Co (ag 6) (iw (jn (kY Y) (ag 7) (ag 3) rfl))) (iw (jn (rq Y) (ag 7) (ag 4) rfl))))))) (aH (aV (xU (ag 5)))))))))
def Mb (F:bh K mg):aY P w K mg base "marks_on" (top 46) Hi 1 wJ:=λ{_ _} G =>
 bg G Hi (by kernel_rfl) λY _ _ _ _ _ _ Z=>(aH (aV (gv il rfl F.ff fg (az (cT ["mark","day","days_by_mark"] (dq rfl F.cC (az (cZ F.pW rfl))) (λ_ _ _ _ _ _=>#[(ix (ck (kY Z) (ag 1) (aZ (ag 2) (ag 0)) rfl)),(ag 0)]))))))
def wq (F:bh K mg):aY P w K mg base "sure_sheets" (top 45) m9 3 mI:=λ{_ _} G =>
 bg G ["book","mould","present","absent"] (by kernel_rfl) λY _ _ _ _ _ _ Z=>(aF (bK 2 Y (cT ["mark","book","mould"] (dq rfl F.cC (az (cZ F.pW rfl))) (λ_ _ _ _ _ _=>#[cm,(aA F.TM (TN F) Z (cN (ag 1) (ag 2) (ag 0)))]))) (aF (bK 3 Y (cT ["mark","book","mould"] (dq rfl F.cC (az (cZ F.pW rfl))) (λ_ _ _ _ _ _=>#[cm,(aA F.T5 (T6 F) Z (cN (ag 1) (ag 2) (ag 0)))]))) (aH (aV (cT ["day","present","absent"] (dq rfl F.cC (az (cZ F.mS rfl))) (λ_ _ _ _ _ _=>#[cm,(cP (aI (aA F.LZ (Mb F) Z (aI (ag 1) (ag 0))) (aA F.LZ (Mb F) Z (aI (ag 2) (ag 0)))))]))))))
def En (F:bh K mg):aY P w K mg base "surely" (top 41) Hj 10 pV:=λ{_ _} G =>
 bg G Hj (by kernel_rfl) λY _ _ _ _ _ _ Z=>(aF (fk (aA F.wy (wz F) Z (az (ag 0)))) (aF (fk (aA F.Ak (Al F) Z (az (ag 1)))) (aF (fk (aA F.U0 (U3 F) Z (az (ag 2)))) (aH (aV (aZ (aA F.wo (wq F) Z (aI (ag 0) (ag 1))) (ag 2)))))))
def WY (F:bh K mg):aY P w K mg base "_law_sheet" (top 81) vC 3 uw:=λ{_ _} G =>
 bg G [ahf,aho,"_law_lacks"] (by kernel_rfl) λY _ _ _ _ _ _ Z=>(aF (rT (cP (aI (aA F.wQ (wR F) Z (aI (ag 0) aG)) (aA F.wQ (wR F) Z (aI (ag 0) aG)))) (qf rfl (fW (cM 1 Y) (fW (cM 2 Y) p9)))) (aH (aV (cP (aI (ag 1) (gv il rfl F.ff fg (az (cT [ahi,aho] (cO (ag 2)) (λ_ _ _ _ _ _=>#[(ix (ck (rq Z) (ag 0) (ag 1) rfl)),(ag 0)])))))))))
def Ul (F:bh K mg):aY P w K mg base "need_sheet" (top 38) bW 6 Ao:=λ{_ _} G =>
 bg G bW (by kernel_rfl) λY _ _ _ _ _ _ Z=>(aH (dS (kS (fF (aA F.DP (DR F) Z (az (ag 0))))) rj ef))
def UH (F:bh K mg):aY P w K mg base "stretches" (top 50) QW 1 wC:=λ{_ _} G =>
 bg G ["holds","told","at"] (by kernel_rfl) λZ _ _ _ _ _ _ Y=>(aF (bK 1 Z (oB dW)) (aF (jo Ħ rfl (dq rfl F.cC (az (bG iy rfl F.iu iA (az (ag 0))))) (cM 2 Z) (aH (dS (PW.pt (w_and (fF (aZ (ag 0) (ag 2))) (w_and (ck Ii (ag 2) aG (cF _)) (xu (fF (aZ (ag 0) (cq x8 (ag 2) aG))))))) (aH (G4 (cP (aI (aZ (aZ (ag 1) (Rw Qw aG)) aG) (ag 2))) (ag 1) (Rw Qw aG))) (aH (dS (fF (aZ (ag 0) (ag 2))) (aH (fk (oH (ag 1) (cP (aI (ag 2) (ag 2)))))) ef))))) (aH (aV (xU (ag 1))))))
def NH (F:bh K mg):aY P w K mg base "agree" (top 49) Hk 2 ux:=λ{_ _} G =>
 bg G Hk (by kernel_rfl) λY _ _ _ _ _ _ Z=>(aH (aV (f9 (aA F.DG (DJ F) Z (aI (aZ (ag 0) (cZ F.rM rfl)) (aZ (ag 1) (cZ F.rl rfl)))) (iw (aA F.DG (DJ F) Z (aI (aZ (ag 0) (cZ F.rl rfl)) (aZ (ag 1) (cZ F.rM rfl))))))))
def LO (F:bh K mg):aY P w K mg base "places_of" (top 44) Hl 10 pO:=λ{_ _} G=>by
 have Y:(["mould","first","last","sheet","book"]:List Str).Nodup:=nofun
 exact bg G Hl (by kernel_rfl) λX _ _ _ _ _ _ Z=>(aF (fk (aA F.wy (wz F) Z (az (ag 0)))) (aF (fk (aA F.Uj (Ul F) Z (az (ag 1)))) (aH (aV (Ol (N:=["mould","first","last","sheet","book"]) (nt:=3) (cap:=[1,0]) rfl (xS (by kernel_rfl)) (i3 0) (om 0) (ou (fV 1 (fV 2 oj))) (Bm [1,2]) (dq rfl F.cC (az (cZ F.wO rfl))) (λcl C s H ex W=>#[(cy (i:=0) Y rfl (œ rfl)),cm,(cO (aA F.UB (UH F) Z (az (cT ["sure","sheet"] (cO (aA F.wo (wq F) Z (aI (ag 4) (ag 0)))) (λ_ _ _ _ _ _=>#[cm,(aA F.NG (NH F) Z (aI (ag 1) (ag 0)))]))))),(jI rfl (fM (cy (i:=1) Y rfl (œ rfl)) (fM (cy (i:=2) Y rfl (œ rfl)) mO))),cm,(cP (cN (ag 0) (ag 1) (ag 2)))]))))))
def Um (F:bh K mg):aY P w K mg base "are_sheets" (top 56) bW 6 Ap:=λ{_ _} G =>
 bg G bW (by kernel_rfl) λY _ _ _ _ _ _ Z=>(aH (aV (f9 (bG qg rfl F.pJ pK (aI (ag 0) (qu fg rfl F.ff))) (f9 (Fo vp vp aG (bG iy rfl F.iu iA (az (ag 0))) (cZ F.El rfl)) (iw (bG (oG rfl) rfl F.oy oJ (az (cT ["sheet"] (cO (ag 0)) (λ_ _ _ _ _ _=>#[cm,(aA F.DP (DR F) Z (az (ag 0)))])))))))))
def Lz (F:bh K mg):aY P w K mg base "need_asked" (top 57) ng 10 wx:=λ{_ _} G =>
 bg G ng (by kernel_rfl) λY _ _ _ _ _ _ Z=>(aF (fk (aA F.wy (wz F) Z (az (ag 0)))) (aF (fk (aA F.Ak (Al F) Z (az (ag 1)))) (aH (dS (kS (fF (aA F.Uk (Um F) Z (az (ag 2))))) rj ef))))
def Ln (F:bh K mg):aY P w K mg base "mendings_between" (top 61) yg 2 wj:=λ{_ _} G =>
 bg G yg (by kernel_rfl) λY _ _ _ _ _ _ Z=>(aH (aV (cT ["mark","book","mould","other"] (cO (aZ (ag 2) (cZ F.rM rfl))) (λ_ _ _ _ _ _=>#[(ix (ck (kY Z) (ag 0) (aZ (ag 3) (cZ F.rl rfl)) rfl)),(aA F.Ah (Ai F) Z (cN (ag 1) (ag 2) (ag 0)))]))))
def Mc (F:bh K mg):aY P w K mg base "is_clear" (top 62) Hm 2 wK:=λ{_ _} G =>
 bg G Hm (by kernel_rfl) λY _ _ _ _ _ _ Z=>(aH (aV (Co (jn (vz Z) (ag 2) (ag 1) (cF _)) (iw (bG (oG rfl) rfl F.oy oJ (az (cT ["mended","day","later"] (cO (ag 0)) (λ_ _ _ _ _ _=>#[cm,(aA F.Lp (Lq F) Z (cN (ag 0) (ag 1) (ag 2)))]))))))))
def TJ (F:bh K mg):aY P w K mg base "days_together" (top 60) yg 3 Af:=λ{_ _} G=>by
 have X:(["day","onward","backward"]:List Str).Nodup:=nofun
 exact bg G ["book","mould","sheet","other","onward","backward"] (by kernel_rfl) λY _ _ _ _ _ _ Z=>(aF (bK 4 Y (aA F.Lm (Ln F) Z (ba (ag 0) (ba (ag 1) (ba (ag 2) (ba (ag 3) dW)))))) (aF (bK 5 Y (aA F.Lm (Ln F) Z (ba (ag 0) (ba (ag 1) (ba (ag 3) (ba (ag 2) dW)))))) (aH (aV (mR (N:=["day","onward","backward"]) (nt:=1) (cap:=[4,5]) rfl (jN (by kernel_rfl)) (i3 0) (dq rfl F.cC (az (cZ F.mS rfl))) (λcl C s H ex W=>#[(cy (i:=0) X rfl (ag7 rfl)),cm,(cT ["later","onward","day","backward"] (dq rfl F.cC (az (cZ F.mS rfl))) (λ_ _ _ _ _ _=>#[cm,(f9 (aA F.L0 (Mc F) Z (cN (ag 1) (ag 2) (ag 0))) (iw (aA F.L0 (Mc F) Z (cN (ag 3) (ag 0) (ag 2)))))]))]))))))
def VR (F:bh K mg):aY P w K mg base "is_free" (top 59) Hn 1 AF:=λ{_ _} G=>by
 have Z:(["table","other","day"]:List Str).Nodup:=nofun
 exact bg G Hn (by kernel_rfl) λY _ _ _ _ _ _ X=>(aH (aV (bG (oG rfl) rfl F.oy oJ (az (mR (N:=["table","other","day"]) (nt:=2) (cap:=[2]) rfl (jN (by kernel_rfl)) (ou (fV 0 (fV 1 oj))) (aby rfl F.PQ (aI (ag 0) (ag 1))) (λcl C s H ex W=>#[(jI rfl (fM (cy (i:=0) Z rfl (œ rfl)) (fM (cy (i:=1) Z rfl (œ rfl)) mO))),cm,(aZ (aZ (ag 0) (ag 1)) (ag 2))]))))))
def Mq (F:bh K mg):aY P w K mg base "datings" (top 58) ng 4 AG:=λ{_ _} G=>by
 have X:(["dating","day","tables","days"]:List Str).Nodup:=nofun
 exact bg G ["book","mould","sheets","sure","told","at","days","tables"] (by kernel_rfl) λZ _ _ _ _ _ _ Y=>(aF (bK 3 Z (aA F.wo (wq F) Y (aI (ag 0) (ag 1)))) (aF (bK 4 Z (BK (az (cP dW)))) (aF (jo Ħ rfl (dq rfl F.cC (az (bG iy rfl F.iu iA (az (ag 2))))) (cM 5 Z) (aF (bK 6 Z (cT ["day","sheets","at","sure"] (dq rfl F.cC (az (cZ F.mS rfl))) (λ_ _ _ _ _ _=>#[(ix (fF (aA F.NG (NH F) Y (aI (aZ (ag 1) (ag 2)) (aZ (ag 3) (ag 0)))))),(ag 0)]))) (aF (bK 7 Z (cT ["ahead","book","mould","sheets","at"] (dq rfl F.cC (az (ag 5))) (λ_ _ _ _ _ _=>#[cm,(aA F.TH (TJ F) Y (ba (ag 1) (ba (ag 2) (ba (aZ (ag 3) (ag 0)) (ba (aZ (ag 3) (ag 4)) dW)))))]))) (aH (Om 4 (N:=["dating","day","tables","days"]) (nt:=2) (cap:=[7,6]) Z rfl (xS (by kernel_rfl)) (i3 0) (om 0) (i3 1) (om 1) (cO (ag 4)) (λcl C s H ex W=>#[(cy (i:=0) X rfl (œ rfl)),cm,(cO (ag 3)),(cy (i:=1) X rfl (œ rfl)),(ix (fF (aA F.VJ (VR F) Y (cN (ag 2) (ag 0) (ag 1))))),(cq hU (ag 0) (cP (az (ag 1))))])))))) (aH (aV (ag 4))))))
def Mr (F:bh K mg):aY P w K mg base "days_of" (top 53) ng 11 rh:=λ{_ _} G=>by
 have Y:(["at","told"]:List Str).Nodup:=nofun
 have X:(["dating","at"]:List Str).Nodup:=nofun
 exact bg G ["book","mould","sheets","told"] (by kernel_rfl) λW _ _ _ _ _ _ Z=>(aF (fk (aA F.Ly (Lz F) Z (cN (ag 0) (ag 1) (ag 2)))) (aF (bK 3 W (aA F.Mn (Mq F) Z (cN (ag 0) (ag 1) (ag 2)))) (aH (aV (mR (N:=["at","told"]) (nt:=1) (cap:=[3]) rfl (jN (by kernel_rfl)) (i3 0) (dq rfl F.cC (az (bG iy rfl F.iu iA (az (ag 2))))) (λcl C s H ex V=>#[(cy (i:=0) Y rfl (ag7 rfl)),cm,(ZV (N:=["dating","at"]) (nt:=1) (cap:=[0]) rfl (jN (by kernel_rfl)) (i3 0) (cO (ag 1)) (λcl C s H ex V=>#[(cy (i:=0) X rfl (œ rfl)),cm,(aZ (ag 0) (ag 1))]) rfl F.pQ pR)]))))))
def U4 (F:bh K mg):aY P w K mg base "by_width" (top 55) Ho 1 pP:=λ{_ _} G =>
 bg G Ho (by kernel_rfl) λZ _ _ _ _ _ _ Y=>(aH (aV (cP (cN (cq x8 (bG (abx rfl) rfl F.Gp G5 (az (ag 0))) (bG (PD rfl) rfl F.uK BP (az (ag 0)))) (bG (PD rfl) rfl F.uK BP (az (ag 0))) (ag 0)))))
def LP (F:bh K mg):aY P w K mg base "narrowest" (top 54) ng 12 qX:=λ{_ _} G=>by
 let(_,_,Z):=F.U1;exact bg G ng (by kernel_rfl) λX _ _ _ _ _ _ Y=>(aF (fk (aA F.Ly (Lz F) Y (cN (ag 0) (ag 1) (ag 2)))) (aH (aV (Oq (U4 F Z) (Y.mono (by decide)) Z.mg Z.b (aA F.Mn (Mq F) Y (cN (ag 0) (ag 1) (ag 2))) rfl rfl F.uK rfl))))
def UI (F:bh K mg):aY P w K mg base "breaks_in" (top 72) u7 1 Av:=λ{_ _} G =>
 bg G u7 (by kernel_rfl) λY _ _ _ _ _ _ Z=>(aH (aV (cT ["at","laying"] (Bp rfl F.cC (aI aG (bG iy rfl F.iu iA (az (ag 0))))) (λ_ _ _ _ _ _=>#[(ix (ck (iR Z) (aZ (ag 1) (ag 0)) (aZ (ag 1) (cq x8 (ag 0) aG)) (cF _))),(ag 0)]))))
def UJ (F:bh K mg):aY P w K mg base "by_breaks" (top 73) u7 2 qV:=λ{_ _} G =>
 bg G u7 (by kernel_rfl) λY _ _ _ _ _ _ Z=>(aH (aV (cP (aI (bG iy rfl F.iu iA (az (aA F.UC (UI F) Z (az (ag 0))))) (ag 0)))))
def TC (F:bh K mg):aY P w K mg base "are_laid_marks" (top 28) Hq 5 Ae:=λ{_ _} G =>
 bg G Hq (by kernel_rfl) λY _ _ _ _ _ _ Z=>(aH (aV (f9 (bG qg rfl F.pJ pK (aI (ag 0) (qu fg rfl F.ff))) (f9 (Fo vp vp aG (bG iy rfl F.iu iA (az (ag 0))) (ag 1)) (iw (bG (oG rfl) rfl F.oy oJ (az (cT ["marks"] (cO (ag 0)) (λ_ _ _ _ _ _=>#[cm,(aA F.DF (DH F) Z (az (ag 0)))])))))))))
def Md (F:bh K mg):aY P w K mg base "need_run" (top 69) bW 6 wF:=λ{_ _} G =>
 bg G bW (by kernel_rfl) λY _ _ _ _ _ _ Z=>(aH (dS (kS (fF (aA F.Tz (TC F) Z (aI (ag 0) (cZ F.Gq rfl))))) rj ef))
def D7 (F:bh K mg):aY P w K mg base "has_all" (top 27) u6 1 rg:=λ{_ _} G =>
 bg G u6 (by kernel_rfl) λY _ _ _ _ _ _ Z=>(aH (aV (bG (oG rfl) rfl F.oy oJ (az (cT ["mark","marks"] (cO (ag 1)) (λ_ _ _ _ _ _=>#[cm,(jn (kY Z) (ag 0) (ag 1) rfl)]))))))
def VS (F:bh K mg):aY P w K mg base "may_lay" (top 70) QX 2 AA:=λ{_ _} G =>
 bg G ["run","laid","mould","marks"] (by kernel_rfl) λY _ _ _ _ _ _ Z=>(aF (bK 3 Y (aZ (ag 0) (bG iy rfl F.iu iA (az (ag 1))))) (aH (aV (bG (oG rfl) rfl F.oy oJ (az (cT ["at","marks","run","mould","laid"] (dq rfl F.cC (az (bG iy rfl F.iu iA (az (ag 1))))) (λ_ _ _ _ _ _=>#[(ix (ck (iR Z) (aZ (ag 4) (ag 0)) (ag 3) (cF _))),(aA F.D5 (D7 F) Z (aI (ag 1) (aZ (ag 2) (ag 0))))])))))))
def VT (F:bh K mg):aY P w K mg base "layings" (top 71) r6 3 AB:=λ{_ _} G=>by
 have Y:(["laid","mould","run"]:List Str).Nodup:=nofun
 exact bg G ["run","told","at"] (by kernel_rfl) λZ _ _ _ _ _ _ X=>(aF (bK 1 Z (BK (az (cP (az aG))))) (aF (jo Ħ rfl (Bp rfl F.cC (aI aG (bG iy rfl F.iu iA (az (ag 0))))) (cM 2 Z) (aH (Om 1 (N:=["laid","mould","run"]) (nt:=2) (cap:=[0]) Z rfl (xS (by kernel_rfl)) (i3 0) (om 0) (i3 1) (om 1) (cO (ag 1)) (λcl C s H ex W=>#[(cy (i:=0) Y rfl (œ rfl)),cm,(dq rfl F.cC (az (cZ F.EO rfl))),(cy (i:=1) Y rfl (œ rfl)),(ix (fF (aA F.VL (VS F) X (cN (ag 2) (ag 0) (ag 1))))),(cq hU (ag 0) (cP (az (ag 1))))])))) (aH (aV (ag 1)))))
def Lv (F:bh K mg):aY P w K mg base "best_laying" (top 67) r6 8 qS:=λ{_ _} G=>by
 let(_,_,Z):=F.UD;exact bg G r6 (by kernel_rfl) λX _ _ _ _ _ _ Y=>(aF (fk (aA F.L7 (Md F) Y (az (ag 0)))) (aH (aV (Oq (UJ F Z) (Y.mono (by decide)) Z.mg Z.b (aA F.VM (VT F) Y (az (ag 0))) rfl rfl F.uK rfl))))
def VU (F:bh K mg):aY P w K mg base "ways_on" (top 74) QY 2 AH:=λ{_ _} G =>
 bg G ["run","place","other","marks","ways"] (by kernel_rfl) λY _ _ _ _ _ _ Z=>(aF (bK 3 Y (aZ (ag 0) (cq hU (ag 1) aG))) (aF (bK 4 Y (oB dW)) (aF (dS (fF (aA F.D5 (D7 F) Z (aI (ag 3) (aZ (ag 0) (ag 1))))) (aH (fk (oH (ag 4) (cP (aI (ag 2) aG))))) ef) (aF (dS (PW.pt (w_or (ck (iR Z) (ag 2) (cZ F.Ax rfl) (cF _)) (rS (fF (aA F.D5 (D7 F) Z (aI (ag 3) (aZ (ag 0) (ag 2)))))))) (aH (fk (oH (ag 4) (cP (aI (ag 1) aG))))) ef) (aH (aV (xU (ag 4))))))))
def UK (F:bh K mg):aY P w K mg base "bounds_at" (top 75) Hr 3 Aw:=λ{_ _} G=>by
 have Z:(["beside","breaks","after"]:List Str).Nodup:=nofun
 exact bg G Hr (by kernel_rfl) λX _ _ _ _ _ _ Y=>(aH (aV (mR (N:=["beside","breaks","after"]) (nt:=2) (cap:=[3]) rfl (jN (by kernel_rfl)) (ou (fV 0 (fV 1 oj))) (cO (aA F.VN (VU F) Y (cN (ag 0) (ag 1) (ag 2)))) (λcl C s H ex W=>#[(jI rfl (fM (cy (i:=0) Z rfl (œ rfl)) (fM (cy (i:=1) Z rfl (œ rfl)) mO))),(ix (ck aa7 (aZ (ag 2) (cq hU (ag 0) aG)) acK (cF _))),(cq hU (aZ (ag 2) (cq hU (ag 0) aG)) (ag 1))]))))
def Me (F:bh K mg):aY P w K mg base "paper_of" (top 68) r6 7 ra:=λ{_ _} G=>by
 have X:(["other","run","place","paper"]:List Str).Nodup:=nofun
 exact bg G ["run","paper","place","bounds"] (by kernel_rfl) λZ _ _ _ _ _ _ Y=>(aF (fk (aA F.L7 (Md F) Y (az (ag 0)))) (aF (bK 1 Z (cP (az (cq uU (cP (az aG)) (bG iy rfl F.iu iA (az (ag 0))))))) (aF (jo Ħ rfl (QI rfl F.LW rfl F.cC (az (cq x8 (bG iy rfl F.iu iA (az (ag 0))) aG))) (cM 2 Z) (aF (Fs 3 (N:=["other","run","place","paper"]) (nt:=1) (cap:=[0,2,1]) Z rfl (jN (by kernel_rfl)) (i3 0) (Bp rfl F.cC (aI (cZ F.Ax rfl) (ag 2))) (λcl C s H ex W=>#[(cy (i:=0) X rfl (œ rfl)),cm,(aA F.UE (UK F) Y (ba (ag 1) (ba (ag 2) (ba (ag 0) (ba (aZ (ag 3) aG) dW)))))])) (aH (bK 1 Z (cq hU (cP (az (gv il rfl F.ff fg (az (cT ["numbers"] (cO (ag 3)) (λ_ _ _ _ _ _=>#[cm,(abi (az (ag 0)) rfl rfl F.uK)])))))) (ag 1)))))) (aH (aV (ag 1))))))
def LA (F:bh K mg):aY P w K mg base "least_life" (top 42) m9 10 pL:=λ{_ _} G=>by
 have Y:(["has","lacks"]:List Str).Nodup:=nofun
 exact bg G m9 (by kernel_rfl) λX _ _ _ _ _ _ Z=>(aF (fk (aA F.wy (wz F) Z (az (ag 0)))) (aF (fk (aA F.Ak (Al F) Z (az (ag 1)))) (aH (aV (gv il rfl F.ff fg (az (mR (N:=["has","lacks"]) (nt:=2) (cap:=[]) rfl (jN (by kernel_rfl)) (ou (fV 0 (fV 1 oj))) (cO (aA F.wo (wq F) Z (aI (ag 0) (ag 1)))) (λcl C s H ex W=>#[(jI rfl (fM (cy (i:=0) Y rfl (œ rfl)) (fM (cy (i:=1) Y rfl (œ rfl)) mO))),cm,(ag 0)]))))))))
def LQ (F:bh K mg):aY P w K mg base "most_life" (top 43) m9 10 qY:=λ{_ _} G=>by
 have Y:(["has","lacks"]:List Str).Nodup:=nofun
 exact bg G m9 (by kernel_rfl) λX _ _ _ _ _ _ Z=>(aF (fk (aA F.wy (wz F) Z (az (ag 0)))) (aF (fk (aA F.Ak (Al F) Z (az (ag 1)))) (aH (aV (gv il rfl F.ff fg (az (mR (N:=["has","lacks"]) (nt:=2) (cap:=[]) rfl (jN (by kernel_rfl)) (ou (fV 0 (fV 1 oj))) (cO (aA F.wo (wq F) Z (aI (ag 0) (ag 1)))) (λcl C s H ex W=>#[(jI rfl (fM (cy (i:=0) Y rfl (œ rfl)) (fM (cy (i:=1) Y rfl (ag7 rfl)) mO))),cm,(gv il rfl F.ff fg (az (cT ["mark","lacks"] (dq rfl F.cC (az (cZ F.pW rfl))) (λ_ _ _ _ _ _=>#[(ix (ck (rq Z) (ag 0) (ag 1) rfl)),(ag 0)]))))]))))))))
def abB (F:bh K mg) {mJ:ę} {UL:FuncData} (DK:Gd K mg "least_life" (top 42) m9 mJ UL) {mM:ę} {U5:FuncData} (DU:Gd K mg "most_life" (top 43) m9 mM U5):aY P w K mg base "law" (top 89) adb 13 (Hd w mJ mM):=λ{_ _} G=>by
 have X:([ahl,ahi,ahk,"_law_later",ahj,ahg]:List Str).Nodup:=nofun
 have U:(["_law_here",ahg]:List Str).Nodup:=nofun
 have W:(["_law_one","_law_first","_law_last",ahj]:List Str).Nodup:=nofun
 exact bg G [ahh,"_law_k",ahf,ahg,ahj,"_law_near_here",ahq,"_law_due","_law_other",ahl,ahk,"_law_call","_law_life","_law_sheets","_law_alike","_law_run","_law_more"] (by kernel_rfl) λY _ _ _ _ _ _ Z=>(aF (jo Ħ rfl (dq rfl F.cC (az (bG (Pj rfl) rfl F.Gp G5 (aI aG (bG (aa8 rfl) rfl F.uK BP (aI (bG iy rfl F.iu iA (az (ag 0))) aG)))))) (cM 1 Y) (aF (bK 2 Y (aA F.WT (WW F) Z (aI (ag 0) (ag 1)))) (aF (rT (cP (aI (aA F.MT (MW F) Z (aI (ag 2) aG)) (aA F.MT (MW F) Z (aI (ag 2) aG)))) (qf rfl (fW (cM 3 Y) (fW (cM 4 Y) p9)))) (aF (Pn 5 6 rfl Y (aI (aA F.Ys (Yu F) Z (az (ag 2))) (aA F.Yt (Yv F) Z (az (ag 2))))) (aF (bK 7 Y (bG (OB Z) rfl F.pQ pR (az (mR (N:=[ahl,ahi,ahk,"_law_later",ahj,ahg]) (nt:=4) (cap:=[4,3]) rfl (jN (by kernel_rfl)) (ou (fV 0 (fV 1 (fV 2 (fV 3 oj))))) (cO (aA F.MV (MY F) Z (az (ag 5)))) (λcl C s H ex V=>#[(jI rfl (fM (cy (i:=0) X rfl (œ rfl)) (fM (cy (i:=1) X rfl (œ rfl)) (fM (cy (i:=2) X rfl (œ rfl)) (fM (cy (i:=3) X rfl (œ rfl)) mO))))),cm,(cP (ba (aZ (ag 4) (ag 0)) (ba (aZ (ag 5) (ag 1)) (ba (ag 2) (ba (ag 3) dW)))))]))))) (aF (dS (ck (nq Z) (aA F.MV (MY F) Z (az (aA F.Lr (Lu F) Z (cN (ag 5) (ag 3) (ag 4))))) (ag 7) (cF _)) (aH (aV iQ)) ef) (aF (Gk 8 9 10 rfl Y (cN (aA F.Lr (Lu F) Z (cN (ag 6) (ag 3) (ag 4))) (aA F.eM (eO F) Z (aI (ag 2) aG)) (aA F.eM (eO F) Z (aI (ag 2) aG)))) (aF (dS (ck (nq Z) (aA F.Em (En F) Z (cN (ag 8) (aZ (ag 4) (ag 9)) (ag 10))) (aA F.Dy (Dz F) Z (aI (aA F.Em (En F) Z (cN (ag 6) (ag 9) (ag 10))) (ag 3))) (cF _)) (aH (aV iQ)) ef) (aF (jo Ħ rfl (cO (BK (aI (RE DK) (RE DU)))) (cM 11 Y) (aF (Fs 12 (N:=["_law_here",ahg]) (nt:=1) (cap:=[3]) Y rfl (jN (by kernel_rfl)) (i3 0) (cO (QU 11 DK (LA F) DU (LQ F) Z (aI (ag 6) (ag 9)))) (λcl C s H ex V=>#[(cy (i:=0) U rfl (œ rfl)),cm,(aA F.AI (AJ F) Z (aI (ag 0) (ag 1)))])) (aH (dS (ck (nq Z) (QU 11 DK (LA F) DU (LQ F) Z (aI (ag 8) (aZ (ag 4) (ag 9)))) (gv il rfl F.ff fg (az (ag 12))) (cF _)) (aH (aV iQ)) ef)))) (aF (bK 13 Y (cP (aI (aA F.WV (WY F) Z (az (ag 2))) (aA F.Em (En F) Z (cN (ag 6) (ag 9) (ag 10)))))) (aF (bK 14 Y (gv il rfl F.ff fg (az (cT [ahr,ahg] (cO (ag 13)) (λ_ _ _ _ _ _=>#[cm,(aA F.Dy (Dz F) Z (aI (ag 0) (ag 1)))]))))) (aF (bK 7 Y (bG (OB Z) rfl F.pQ pR (az (mR (N:=["_law_one","_law_first","_law_last",ahj]) (nt:=3) (cap:=[4]) rfl (jN (by kernel_rfl)) (ou (fV 0 (fV 1 (fV 2 oj)))) (cO (aA F.LJ (LO F) Z (aI (ag 6) (aZ (ag 13) aG)))) (λcl C s H ex V=>#[(jI rfl (fM (cy (i:=0) W rfl (œ rfl)) (fM (cy (i:=1) W rfl (œ rfl)) (fM (cy (i:=2) W rfl (œ rfl)) mO)))),cm,(cP (cN (aZ (ag 3) (ag 0)) (ag 1) (ag 2)))]))))) (aF (dS (ck (nq Z) (aA F.LJ (LO F) Z (aI (ag 8) (aZ (ag 14) aG))) (ag 7) (cF _)) (aH (aV iQ)) ef) (aF (dS (ck (nq Z) (aA F.Mo (Mr F) Z (cN (ag 8) (aZ (ag 4) (ag 9)) (ag 14))) (aA F.Mo (Mr F) Z (cN (ag 6) (ag 9) (ag 13))) (cF _)) (aH (aV iQ)) ef) (aF (dS (ck (nq Z) (aA F.LK (LP F) Z (cN (ag 8) (aZ (ag 4) (ag 9)) (ag 14))) (aA F.LK (LP F) Z (cN (ag 6) (ag 9) (ag 13))) (cF _)) (aH (aV iQ)) ef) (aF (bK 15 Y (gv il rfl F.ff fg (az (cT ["_law_turn",ahf] (dq rfl F.cC (az (cq hU aG (aA F.eM (eO F) Z (aI (ag 2) aG))))) (λ_ _ _ _ _ _=>#[cm,(aA F.wQ (wR F) Z (aI (ag 1) aG))]))))) (aF (bK 16 Y (gv il rfl F.ff fg (az (cT ["_law_marks_here",ahg] (cO (ag 15)) (λ_ _ _ _ _ _=>#[cm,(aA F.AI (AJ F) Z (aI (ag 0) (ag 1)))]))))) (aH (dS (PW.pt (w_or (ck (nq Z) (aA F.Ls (Lv F) Z (az (ag 16))) (aA F.Ls (Lv F) Z (az (ag 15))) (cF _)) (rS (ck (nq Z) (aA F.L8 (Me F) Z (az (ag 16))) (aA F.L8 (Me F) Z (az (ag 15))) (cF _))))) (aH (aV iQ)) ef))))))))))))))))))) (aH (aV iQ)))
end
end DI.jj
namespace DI
open PySem L2
def Wp (r:Res α) (Q:α->ai->Prop):Prop:=∃a s,r=ϊ (.ok a,s)/\Q a s
section
variable {α β:Type} {r:Res α} {k:α->ai->Res β} {Q Q':α->ai->Prop} {R:β->ai->Prop} {env:Env} {s:ai}
theorem Wp.ok (h:Q a s):Wp (DI.ok a s) Q:=#[a,s,rfl,h]
def Wp.mono (h:Wp r Q) (i:∀a s,Q a s->Q' a s):Wp r Q':=by
 let(a,s,e,q):=h;exact#[a,s,e,i a s q]
theorem Wp.aq (h:Wp r λa s=>Wp (k a s) R):Wp (DI.aq r k) R:=by
 let(a,s,e,b,Z,Y,q):=h;exact#[b,Z,by rw[e];exact Y,q]
theorem Wp.ne (h:Wp r Q):Wp (DI.ne r) Q:=by
 let(a,s,e,q):=h;exact#[a,s,by rw[e];rfl,q]
def aha (e:r=ϊ (.ok a,s)) (h:Q a s):Wp r Q:=#[a,s,e,h]
def Wp.seq {Q} (h:Wp (f env s) λfl s=>match fl with
  | .nx env=>Wp (g env s) Q
  |fl=>Q fl s):Wp (ay f g env s) Q:=by
 let(fl,Z,e,h):=h;delta ay;rw[e]
 cases fl with
 |nx env=>exact h
 |rt d=>exact#[_,_,rfl,h]
 |bk e=>exact#[_,_,rfl,h]
 |ct e=>exact#[_,_,rfl,h]
def Wp.jw {Q} (I:Nat->Env->ai->Prop) (all) (h0:I 0 env s)
 (step:∀i d env s,all[i]?=ϊ d->I i env s->∃env',g d env=ϊ env'/\Wp (b env' s) λfl s=>match fl with
   | .nx e=>I (i+1) e s
   | .ct e=>I (i+1) e s
   | .bk e=>Q (.nx e) s
   | .rt d=>Q (.rt d) s) (fin:∀env s,I all.length env s->Q (.nx env) s):Wp (m8 g b all env s) Q:=by
 have key:∀Z i env s,all.drop i=Z->i<=all.length->I i env s->Wp (m8 g b Z env s) Q:=by
  intro Z
  induction Z with
  |nil =>
   intro i env s Y hi h;have e:i=all.length:=by
    have:=ň List.length Y;simp at this;omega
   subst e;exact Wp.ok (fin _ _ h)
  |cons d Z ih =>
   intro i env s Y hi h;have X:=by
    have:=ň (λl=>l[0]?) Y;simpa using this
   have W:=by
    have:=ň (List.drop 1) Y;simpa  using this
   let(env',U,T):=step i d env s X h;have V:=(Ä.mp X).1;delta m8;rw[U];refine Wp.aq (T.mono λfl s q=>?_)
   cases fl with
   |nx e=>exact ih _ e s W V q
   |ct e=>exact ih _ e s W V q
   |bk e=>exact Wp.ok q
   |rt d=>exact Wp.ok q
 exact key all 0 env s rfl (Ă _) h0
def uy {nt} {t} {Q} (I:Nat->List D->ai->Prop) (all) (h0:I 0 [] s)
 (step:∀i d acc s,all[i]?=ϊ d->I i acc s->∃env,g d (Ñ nt ϋ++aW)=ϊ env/\Wp (t env s) λb s=>if b=ό then Wp (f env s) λx s=>I (i+1) (acc++[x]) s else I (i+1) acc s)
 (fin:∀acc s,I all.length acc s->Q acc s):Wp (fj nt aW g t f all s) Q:=by
 have key:∀Z i acc s,all.drop i=Z->i<=all.length->I i acc s->Wp (fj nt aW g t f Z s) λX s=>Q (acc++X) s:=by
  intro Z
  induction Z with
  |nil =>
   intro i acc s Y hi h;have e:i=all.length:=by
    have:=ň List.length Y;simp at this;omega
   subst e;exact Wp.ok (by rw[ĕ];exact fin _ _ h)
  |cons d Z ih =>
   intro i acc s Y hi h;have W:=by
    have:=ň (λl=>l[0]?) Y;simpa using this
   have V:=by
    have:=ň (List.drop 1) Y;simpa  using this
   let(U,S,R):=step i d acc s W h;have T:=(Ä.mp W).1;delta fj;rw[S];refine Wp.aq (Wp.ne (R.mono λb s q=>?_))
   cases b with
   |true =>
    refine Wp.aq (Wp.ne (q.mono λx s q=>?_));refine Wp.aq ((ih _ _ s V T q).mono λX s q=>Wp.ok ?_);rw[Ö] at q;exact q
   |false =>
    exact ih _ acc s V T q
 have:=key all 0 _ s rfl (Ă _) h0;simpa using this
end
section
variable {α β:Type} {Q:D->ai->Prop} {QL:List D->ai->Prop} {QB:Bool->ai->Prop} {QF:Fl->ai->Prop} {QO:Option Int->ai->Prop} {env:Env} {s:ai} {f g h:ag9 D} {fa:ag9 (List D)} {c c':ag9 Bool} {st ao:ag9 Fl} {o o':D->D->ai->Res D} {u:D->ai->Res D} {bf:List D->ai->Res D}
def aT {a:α} {Q}:Wp (ok a s) Q=Q a s:=propext #[λ⟨b,Z,e,q⟩=>by cases e;exact q,λq=>#[a,s,rfl,q]]
def Gs {Q:α->ai->Prop}:Wp (ϊ (Except.ok a,s)) Q=Q a s:=aT
def bI {r:Res α} {k} {R:β->ai->Prop}:Wp (aq r k) R=Wp r λa s=>Wp (k a s) R:=propext #[λ⟨b,Z,e,q⟩=>by
 let(a,s,e1,e2):=ui e;exact#[a,s,e1,b,Z,e2,q],λh=>Wp.aq h]
def r9 {Q}:Wp (ne r) Q=Wp r Q:=propext #[λ⟨b,Z,e,q⟩=>#[b,Z,Fq e,q],λh=>h.ne]
def dD {r:Env}:Wp (ae 0 (ϊ a::r) s) Q=Q a s:=by rw[show ae 0 _ s=ok a s from rfl,aT]
def dE {a} {r:Env}:Wp (ae (i+1) (a::r) s) Q=Wp (ae i r s) Q:=by rw[show ae (i+1) _ s=ae i r s from rfl]
def kA:Wp (eC d env s) Q=Q d s:=by rw[show eC d env s=ok d s from rfl,aT]
def u9:Wp (e1 u f env s) Q=Wp (f env s) λx s=>Wp (u x s) Q:=by delta e1;rw[bI]
def fm:Wp (e2 o f g env s) Q=Wp (f env s) λx s=>Wp (g env s) λy s=>Wp (o x y s) Q:=by delta e2;erw[bI]
def bQ:Wp (ah env s) QL=QL [] s:=by delta ah;rw[aT]
def bz:Wp (af f fa env s) QL=Wp (f env s) λx s=>Wp (fa env s) λxs s=>QL (x::xs) s:=by delta af;erw[bI,aT]
def kj:Wp (eB bf fa env s) Q=Wp (fa env s) λds s=>Wp (bf ds s) Q:=by delta eB;rw[bI]
def wp_call:Wp (ak fn fa env s) Q=Wp (fa env s) λds s=>Wp (fn ds s) Q:=by delta ak;erw[bI,r9]
def wZ {Q:α->ai->Prop}:Wp (kR ds r) Q=(ds.length<=â/\Wp r Q):=propext #[λ⟨b,Z,e,q⟩=>by
 delta kR at e;split at e
 ·exact#[by assumption,b,Z,e,q]
 ·(cases e),λ⟨Y,b,Z,e,q⟩=>#[b,Z,by delta kR;rw[õ Y];exact e,q]]
def lP:Wp (bp fa env s) Q=Wp (fa env s) λds s=>ds.length<=â/\Q (.tup ds) s:=by delta bp;erw[bI,wZ,aT]
def Gu:Wp (qp fa env s) Q=Wp (fa env s) λds s=>ds.length<=â/\Q (.lst ds) s:=by delta qp;erw[bI,wZ,aT]
def rN:Wp (eNew fa env s) Q=Wp (fa env s) λds s=>ds.length<=â/\Q (.aw s.length) (s++[.lst ds]):=by delta eNew;erw[bI,wZ,aT]
def xD:Wp (qq f env s) Q=Wp (f env s) λd s=>Wp (cE d s) Q:=by delta qq;rw[bI]
def lQ:Wp (aU f env s) QB=Wp (f env s) λd s=>Wp (gg d s) QB:=by delta aU;rw[bI]
def lJ:Wp (gg (.bl b) s) QB=QB b s:=by rw[show gg _ s=ok b s from rfl,aT]
def xE:Wp (dA f env s) QB=Wp (f env s) λd s=>Wp (truth d s) QB:=by delta dA;rw[bI]
def pZ:Wp (truth (.bl b) s) QB=QB b s:=by rw[show truth _ s=ok b s from rfl,aT]
def A7:Wp (iP c c' env s) QB=Wp (c env s) λb s=>if b=ό then Wp (c' env s) QB else QB ύ s:=by
 delta iP;rw[bI];congr 1;funext b s
 cases b<;>simp[aT]
def xF:Wp (jd c c' env s) QB=Wp (c env s) λb s=>if b=ό then QB ό s else Wp (c' env s) QB:=by
 delta jd;rw[bI];congr 1;funext b s
 cases b<;>simp[aT]
def FE:Wp (hX c env s) QB=Wp (c env s) λb s=>QB (!b) s:=by delta hX;erw[bI,aT]
def A8:Wp (dR f g env s) Q=Wp (f env s) λx s=>Wp (gg x s) λb s=>if b=ό then Wp (g env s) Q else Q (.bl ύ) s:=by
 delta dR;rw[bI];congr 1;funext x s;rw[bI];congr 1;funext b s
 cases b<;>simp[aT]
def Bw:Wp (mr f g env s) Q=Wp (f env s) λx s=>Wp (gg x s) λb s=>if b=ό then Q (.bl ό) s else Wp (g env s) Q:=by
 delta mr;rw[bI];congr 1;funext x s;rw[bI];congr 1;funext b s
 cases b<;>simp[aT]
def FF:Wp (yr f env s) Q=Wp (f env s) λx s=>Wp (gg x s) λb s=>Q (.bl (!b)) s:=by delta yr;erw[bI,aT]
def Gv:Wp (qK c f g env s) Q=Wp (c env s) λb s=>if b=ό then Wp (f env s) Q else Wp (g env s) Q:=by
 delta qK;rw[bI];congr 1;funext b s
 cases b<;>simp
def Gw:Wp (sW o o' f g h env s) Q=Wp (f env s) λx s=>Wp (g env s) λy s=>Wp (o x y s) λz s=>Wp (gg z s) λb s=>if b=ό then Wp (h env s) λu s=>Wp (o' y u s) Q else Q (.bl ύ) s:=by
 delta sW;erw[bI];congr 1;funext x s;congr 1;funext y s;congr 1;funext z s;congr 1;funext b s
 cases b<;>simp[aT,bI]
def oo:Wp (bY env s) QF=QF (.nx env) s:=by delta bY;rw[aT]
def iM:Wp (aL f env s) QF=Wp (f env s) λd s=>QF (.rt d) s:=by delta aL;erw[bI,aT]
def rm:Wp (cJ f env s) QF=Wp (f env s) λ_ s=>QF (.nx env) s:=by delta cJ;erw[bI,aT]
def ER:Wp (Qu env s) QF=QF (.ct env) s:=by delta Qu;rw[aT]
def tL (st:ag9 Fl) (Q:Fl->ai->Prop):Fl->ai->Prop:=λfl s=>match fl with
 | .nx env=>Wp (st env s) Q
 |fl=>Q fl s
def jH:Wp (ay st ao env s) QF=Wp (st env s) (tL ao QF):=propext #[λh=>by
 delta ay at h;rw[bI] at h;refine h.mono λZ s q=>?_
 cases Z with
 |nx e=>exact q
 |rt d=>rw[aT] at q;exact q
 |bk d=>rw[aT] at q;exact q
 |ct d=>rw[aT] at q;exact q,λh=>Wp.seq (h.mono λZ s q=>by cases Z<;>exact q)]
def ahc (h:∀R,R=ao->Wp (st env s) (tL R QF)):Wp (ay st ao env s) QF:=by rw[jH];exact h _ rfl
def oK {s'} (h:st env s=ok (.nx env') s') (k:Wp (ao env' s') QF):Wp (ay st ao env s) QF:=by
 rw[jH,h,aT];exact k
def fZ:tL st QF (.nx env) s=Wp (st env s) QF:=rfl
def xG:tL st QF (.rt d) s=QF (.rt d) s:=rfl
def Gx:tL st QF (.ct env) s=QF (.ct env) s:=rfl
def lR:Wp (bO c st ao env s) QF=Wp (c env s) λb s=>if b=ό then Wp (st env s) QF else Wp (ao env s) QF:=by
 delta bO;rw[bI];congr 1;funext b s
 cases b<;>simp
def ip:Wp (aM f gd env s) QF=Wp (f env s) λd s=>∃e,gd d env=ϊ e/\QF (.nx e) s:=by
 delta aM;rw[bI];congr 1;funext d s
 cases h:gd d env with
 |none=>exact propext #[λ⟨_,_,e,_⟩=>(by cases e),λ⟨_,e,_⟩=>(by cases e)]
 |some e=>rw[aT];exact propext #[λq=>#[e,rfl,q],λ⟨Z,z,q⟩=>by cases z;exact q]
def jQ {i} {P:Env->Prop}:(∃e,gN i d env=ϊ e/\P e)=P (env.set i (ϊ d)):=propext #[λ⟨e,z,q⟩=>by cases z;exact q,λq=>#[_,rfl,q]]
def Hs {P:Env->Prop}:(∃e,gT gs (.tup ds) env=ϊ e/\P e)=∃e,jt gs ds env=ϊ e/\P e:=rfl
def FG {P:Env->Prop}:(∃e,jt [] [] env=ϊ e/\P e)=P env:=propext #[λ⟨e,z,q⟩=>by cases z;exact q,λq=>#[_,rfl,q]]
def ES {i} {P:Env->Prop}:(∃e,jt (gN i::gs) (d::ds) env=ϊ e/\P e)=∃e,jt gs ds (env.set i (ϊ d))=ϊ e/\P e:=rfl
def xm:Wp (vv i j fa env s) QF=Wp (fa env s) λds s=>∃x y,ds=[x,y]/\QF (.nx ((env.set i (ϊ x)).set j (ϊ y))) s:=by
 delta vv;rw[bI];congr 1;funext ds s
 match ds with
 | [x,y] =>
  rw[aT];exact propext #[λq=>#[x,y,rfl,q],λ⟨Z,Y,e,q⟩=>by cases e;exact q]
 | []=>exact propext #[λ⟨_,_,e,_⟩=>(by cases e),λ⟨_,_,e,_⟩=>(by cases e)]
 | [_]=>exact propext #[λ⟨_,_,e,_⟩=>(by cases e),λ⟨_,_,e,_⟩=>(by cases e)]
 |_::_::_::_=>exact propext #[λ⟨_,_,e,_⟩=>(by cases e),λ⟨_,_,e,_⟩=>(by cases e)]
def Gy {P:D->D->Prop}:(∃x' y',[x,y]=[x',y']/\P x' y')=P x y:=propext #[λ⟨_,_,e,q⟩=>by cases e;exact q,λq=>#[x,y,rfl,q]]
def mT:Wp (fv it gd st env s) QF=Wp (it env s) λds s=>Wp (m8 gd st ds env s) QF:=by delta fv;rw[bI]
def A9:Wp (qt f fo fi env s) QF=Wp (f env s) λx s=>Wp (fo env s) λd s=>Wp (fi env s) λn s=>∃s',kZ d n x s=ϊ s'/\QF (.nx env) s':=by
 delta qt;erw[bI];congr 1;funext x s;congr 1;funext d s;congr 1;funext n s
 cases h:kZ d n x s with
 |none=>exact propext #[λ⟨_,_,e,_⟩=>(by cases e),λ⟨_,e,_⟩=>(by cases e)]
 |some e=>erw[aT];exact propext #[λq=>#[e,rfl,q],λ⟨Z,z,q⟩=>by cases z;exact q]
def xH:Wp (gj f g env s) Q=Wp (f env s) λd s=>iE d s=ό/\Wp (g env s) λx s=>Wp (ja d x s) Q:=by
 delta gj;rw[bI];congr 1;funext d s
 cases h:iE d s with
 |true=>rw[õ rfl,bI];simp
 |false=>rw[ÿ è];exact propext #[λ⟨_,_,e,_⟩=>(by cases e),λ⟨e,_⟩=>(by cases e)]
def yC (Q:D->ai->Prop):Fl->ai->Prop:=λZ s=>match Z with
 | .rt d=>Q d s
 | .nx _=>Q .aD s
 |_=>False
def iB:Wp (aS np ns st ds s) Q=(ds.length=np/\Wp (st (ds.map ϊ++Ñ (ns-np) ϋ) s) (yC Q)):=by
 delta aS;by_cases h:ds.length=np
 .rw[õ h,bI]
  refine propext #[λq=>#[h,q.mono λZ s q=>?_],λ⟨_,q⟩=>q.mono λZ s q=>?_]
  .cases Z with
   |rt d=>exact(q) |> λz=>by rw[aT] at z;exact z
   |nx e=>exact(q) |> λz=>by rw[aT] at z;exact z
   |bk e=>let(_,_,e,_):=q;cases e
   |ct e=>let(_,_,e,_):=q;cases e
  .cases Z with
   |rt d=>exact Wp.ok q
   |nx e=>exact Wp.ok q
   |bk e=>exact q.elim
   |ct e=>exact q.elim
 .rw[ÿ h]
  exact propext #[λ⟨_,_,e,_⟩=>(by cases e),λ⟨e,_⟩=>absurd e h]
def kc:yC Q (.rt d) s=Q d s:=rfl
def Gz:yC Q (.nx env) s=Q .aD s:=rfl
def iN:Wp (aQ nt cap it gd c f env s) Q=Wp (it env s) λds s=>ds.length<=â/\Wp (fj nt (jL cap env) gd c f ds s) λxs s=>Q (.lst xs) s:=by
 delta aQ;erw[bI,wZ,aT]
def Ht:Wp (vZ f l' h' env s) Q=Wp (f env s) λd s=>Wp (l' env s) λlo s=>Wp (h' env s) λhi s=>Wp (Br d lo hi s) Q:=by delta vZ;erw[bI]
def GA:Wp (vY env s) QO=QO ϋ s:=by delta vY;rw[aT]
def OC (hi:f env s=ok (.int i) s):Wp (vt f env s) QO=QO (ϊ i) s:=by delta vt;rw[hi,bH,aT]
end
def bo (s:ai) (k:Nat):Prop:=∃a b,s[k]?=ϊ (.lst [.int a,.int b])/\0<=a/\0<=b/\b<2147483647
structure Ex (k) (s s':ai):Prop where
 len:s.length<=s'.length
 val:∀j,j<s.length->j≠k->s'[j]?=s[j]?
def Ex.refl (k) (s):Ex k s s:=#[ahd _,λ_ _ _=>rfl]
theorem Ex.trans (h:Ex k a b) (g:Ex k b c):Ex k a c:=#[Ó h.len g.len,λj Z Y=>(g.val j (È Z h.len) Y).trans (h.val j Z Y)]
theorem Ex.set (k) (s) (c):Ex k s (s.set k c):=#[by simp,λj _ Z=>í (Ř Z)]
def Ex.app (k) (s) (c:List Cell):Ex k s (s++c):=#[by simp,λj Z _=>Ù Z]
def bo.lt (h:bo s k):k<s.length:=by
 let(a,b,e,_):=h;exact(Ä.mp e).1
def bo.app (h:bo s k) (c:List Cell):bo (s++c) k:=by
 let(a,b,e,r):=h;exact#[a,b,by rw[Ù (Ä.mp e).1];exact e,r]
theorem bo.set (h:bo s k) (hj:j≠k) (c):bo (s.set j c) k:=by
 let(a,b,e,r):=h;exact#[a,b,by rw[í hj];exact e,r]
def S9 (x y) (k) (s) (h:s[k]?=ϊ (.lst [x,y])):aC (.aw k) (.int 0) s=ok x s:=by
 simp[aC,iU,res,h,df,dZ,bU]
def Ta (x y) (k) (s) (h:s[k]?=ϊ (.lst [x,y])):aC (.aw k) (.int 1) s=ok y s:=by
 simp[aC,iU,res,h,df,dZ,bU]
def aeV (x y z) (k) (s) (h:s[k]?=ϊ (.lst [x,y])):kZ (.aw k) (.int 0) z s=ϊ (s.set k (.lst [z,y])):=by
 simp[kZ,h,dZ]
def aeW (x y z) (k) (s) (h:s[k]?=ϊ (.lst [x,y])):kZ (.aw k) (.int 1) z s=ϊ (s.set k (.lst [x,z])):=by
 simp[kZ,h,dZ]
@[simp] theorem uL {r:Env} {s}:ae 0 (ϊ a::r) s=ok a s:=rfl
@[simp] theorem uM {a} {r:Env} {s}:ae (i+1) (a::r) s=ae i r s:=rfl
def ltI (i j) (s):gG (.int i) (.int j) s=ok (.bl (ώ (i<j))) s:=rfl
def Dg (i j) (s):sk (.int i) (.int j) s=ok (.bl (ώ (j<i))) s:=rfl
def geI (i j) (s):Cq (.int i) (.int j) s=ok (.bl (ώ (j<=i))) s:=rfl
def leI (i j) (s):oQ (.int i) (.int j) s=ok (.bl (ώ (i<=j))) s:=rfl
def vD (i j) (s):dG (.int i) (.int j) s=ok (.int (i+j)) s:=rfl
def RH (i j) (s):oE (.int i) (.int j) s=ok (.int (i-j)) s:=rfl
def tM (i j) (s):cu (.int i) (.int j) s=ok (.bl (i==j)) s:=rfl
def neI (i j) (s):eU (.int i) (.int j) s=ok (.bl (!(i==j))) s:=rfl
def vE {i j} (s) (h:0<j):oF (.int i) (.int j) s=ok (.int (i % j)) s:=by
 simp[oF,Ie,h,bU]
def RI (s) (h:0<j) (h2:j<1073741824):xZ (.int i) (.int j) s=ok (.int (i / j)) s:=by
 simp[xZ,Ig,h,h2,bU]
def yD (s) (h:xW i j=ό):jq (.int i) (.int j) s=ok (.int (i*j)) s:=by
 simp[jq,Cp,h,bU]
def mulOk_of (h1:-(2 ^ 64)<i) (h2:i<2 ^ 64):xW i j=ό:=by
 delta xW;rw[Ï h1,Ï h2];rfl
def j8 (h:bo s k) (h1:0<m) (h2:m<1073741824):Wp (bC [.aw k,.int m] s) λd s'=>∃r,d=.int r/\0<=r/\r<m/\bo s' k/\Ex k s s':=by
 let(a,b,e,Y,V,U):=h;have X:=(Ä.mp e).1;by_cases W:0<a
 .have Z:(s.set k _)[k]?=ϊ (.lst [.int (a / m),.int b]):=ñ X
  refine#[_,_,?_,a % m,rfl,agW _ ⋯,af1 _ h1,#[_,b,Z,Int.ediv_nonneg Y ⋯,V,U],Ex.set ..];erw[bC,aS,ay,bO,aU,e2,uL,uM,eC,bH,Ü,Ŋ,č,ĥ,S9 _ _ k s e,Dg,gg,Ú,Ċ,Ï W,ĭ,aM,gN,vE s h1,qt,RI s h1 h2,aeV _ _ _ k s e,aL,ı,ľ,Ñ]
 .have T:=ø W
  have ex:0<=(b*48271+29) % 2147483647/\(b*48271+29) % 2147483647<2147483647:=#[agW _ (by decide),af1 _ (by decide)];generalize S:(b*48271+29) % 2147483647=x at ex;have Z:(s.set k _)[k]?=ϊ (.lst [.int a,.int x]):=ñ X;generalize R:(x*x+39373*x+7) % 2147483629=y;generalize Q:(y*y+16807*y) % 2147483587=z;refine#[.int (z / 8 % m),_,?_,_,rfl,agW _ ⋯,af1 _ h1,#[a,x,Z,Y,ex.1,ex.2],Ex.set ..];have P:jq (.int b) (.int 48271) s=ok _ s:=yD s (mulOk_of ⋯ ⋯);have O:∀s',jq (.int x) (.int x) s'=ok _ s':=λs'=>yD s' (mulOk_of ⋯ ⋯);have N:∀s',jq (.int 39373) (.int x) s'=ok _ s':=λs'=>yD s' (mulOk_of (by decide) (by decide));have m4:∀s',jq (.int y) (.int y) s'=ok _ s':=λs'=>yD s' (mulOk_of ⋯ ⋯);have M:∀s',jq (.int 16807) (.int y) s'=ok _ s':=λs'=>yD s' (mulOk_of (by decide) (by decide));simp only[bC,aS,ay,bO,aU,e2,uL,uM,eC,bH,Ü,Ŋ,č,ĥ,S9 _ _ k s e,Ta _ _ k s e,Dg,gg,Ú,Ċ,T,Ò,Ğ,ĭ,bY,qt,P,vD,vE _ (show (0)<2147483647 by decide),S,aeW _ _ _ k s e,aM,gN,Ta _ _ k _ Z,O,N,
   vE _ (show (0)<2147483629 by decide),R,ı,ľ,Ñ,m4,M,vE _ (show (0)<2147483587 by decide),Q,aL,RI _ (show (0)<8 by decide) (by decide),vE _ h1]
def le_size (h:n<=1000000):n<=â:=Ó h (by decide)
def AS (h1:-1000000<=j) (h2:j<=1000000):kh j=ό:=by
 delta kh;rw[Ï ⋯,Ï ⋯];rfl
def ET {ds} {r:Res α} (h:ds.length<=1000000):kR ds r=r:=õ (le_size h)
def Ba (f:α->β) (xs) (i):df (xs.map f) i=(df xs i).map f:=by
 delta df;rw[Ã]
 cases dZ _ i with
 |none=>rfl
 |some j=>simp
def uN {xs:List α} {i:Int} (h0:0<=i) (h1:i<xs.length):∃x,df xs i=ϊ x/\xs[i.toNat]?=ϊ x:=by
 have Z:i.toNat<xs.length:=by omega
 refine#[_,?_,É Z];delta df dZ;rw[õ h0,õ h1];exact É Z
def ZY {i} {s} (h0:0<=i):∃c,wD [.cw ns,.int i] s=ok (.int c) s:=by
 by_cases h:i<(ns.length)
 .let(x,Z,_):=uN h0 h
  refine#[x,?_];have Y:aC (.cw ns) (.int i) s=ok (.int x) s:=by simp[aC,iU,res,Z,bU]
  erw[wD,aS,ay,bO,aU,e2,eB,af,ah,cR,yu,res,bU,uL,uM,eC,bH,Ü,Ŋ,č,ĥ,Ú,Ċ,ĭ,ltI,gg,Ï h,aL,Y,Ñ]
 .refine#[0,?_]
  erw[wD,aS,ay,bO,aU,e2,eB,af,ah,cR,yu,res,bU,uL,uM,eC,bH,Ü,Ŋ,č,ĥ,Ú,Ċ,ĭ,ltI,gg,ø h,Ò,Ğ,bY,aL,Ñ]
def Yw {i} {s} (h0:0<=i):Wp (AO [.cw ns,.int i] s) λd s'=>d=.aw s.length/\bo s' s.length/\∃c,s'=s++[c]:=by
 let(c,Z):=ZY (ns:=ns) (s:=s) h0;have Y:∀s,BM (.int 10) (.int 18) s=ok (.int (10 ^ 18)) s:=λs=>by
  have e:Ih (.int 10) (.int 18)=ϊ (.int (10 ^ 18)):=by
   show (if (ώ ((0)<=18)&&ώ ((18)<=1000000)&&ώ ((10:Int).natAbs<2 ^ 64))=ό then ϊ _ else ϋ)=_
   rfl
  erw[BM,e,bU]
 refine#[_,s++[.lst [.int (if c-10 ^ 18 > 0 then c-10 ^ 18 else 0),.int (c % 2147483647)]],?_,rfl,#[_,_,by simp;exact#[rfl,rfl],?_,agW _ (by decide),af1 _ (by decide)],_,rfl]
 .erw[AO,aS,ay,aM,ak,af,ah,uL,uM,eC,bH,Ü,Ŋ,č,ĥ,Ú,Ċ,ĭ,Z,iO,gN,ı,ľ,Ñ,aL,eNew,eB,uW,e2,Y,RH,vE _ (show (0)<2147483647 by decide)]
  rfl
 .split<;>omega
structure cf (m:Nat) (ns:List Int):Prop where
 lo:∀x∈ns,0<=x/\x<m
 up:ns.Pairwise (· < ·)
noncomputable abbrev mD (ns:List Int):D:=.tup (ns.map D.int)
def cf.len (h:cf m ns):ns.length<=m:=by
 have key:∀l (b:Int),l.Pairwise (· < ·)->(∀x∈l,b<=x/\x<m)->(l.length)<=m-b\/l=[]:=by
  intro l
  induction l with
  |nil=>intro b _ _;exact .inr rfl
  |cons x l ih =>
   intro b X Z;let(W,V):=û.mp X;have U:=Z x Ë
   rcases ih (x+1) V (λy Y=>#[by have:=W y Y;omega,(Z y (Ì _ Y)).2]) with h|h
   .rw[Ú];omega
   .subst h
    simp;omega
 rcases key ns 0 h.up h.lo with h'|h'
 .omega
 .subst h';simp
def WZ {k n:Nat} {w} (h1:bo s1 k) (w0:0<=w) (w1:w<4):Wp (fj 1 (jL [0,2] [ϊ (.aw k),ϊ (.int n),ϊ (.int (1+w))]) (gN 0) (aU (e2 cu (ak bC (af (ae 1) (af (e2 dG (ae 2) (eC (.int 1))) ah))) (eC (.int 0)))) (ae 0) (bL 0 n) s1)
   λxs s'=>∃ns,xs=ns.map D.int/\cf n ns/\bo s' k/\Ex k s1 s':=by
 refine uy (λi Z s'=>∃ns,Z=ns.map D.int/\cf i ns/\bo s' k/\Ex k s1 s') _ #[_,rfl,#[by simp,.nil],h1,Ex.refl ..] (λi d Z s' X W=>?_) λZ s' W=>?_
 .let(ns,rfl,Y,S,V):=W
  rw[iL] at X;split at X
  .cases X
   refine#[_,rfl,?_];have R:=j8 S (m:=1+w+1) ⋯ ⋯;let(d,Q,P,r,rfl,M,L,U,T):=R;have O:aU (e2 cu (ak bC (af (ae 1) (af (e2 dG (ae 2) (eC (.int 1))) ah))) (eC (.int 0))) [ϊ (.int (0+(i))),ϊ (.aw k),ϊ (.int (1+w))] s'=ok (r==0) Q:=by
    erw[aU,e2,ak,af,ah,uL,uM,eC,bH,vD,P,iO,tM,gg]
   refine aha O ?_;split
   .refine Wp.ok #[ns++[0+(i:Int)],by simp,#[λx hx=>?_,?_],U,V.trans T]
    .rcases Û.mp hx with hx|hx
     .have:=Y.lo x hx;omega
     .rw[Ø.mp hx];omega
    .refine ô.mpr #[Y.up,by simp,λx hx y N=>?_]
     rw[Ø.mp N];have:=Y.lo x hx;omega
   .exact#[ns,rfl,#[λx hx=>by have:=Y.lo x hx;omega,Y.up],U,V.trans T]
  .cases X
 .rw[fC] at W
  exact W
def AU {cap} {it} {g} {t} {f} {env} {s s1 s2} {ds xs} (h1:it env s=ok ds s1) (hl:ds.length<=1000000) (h2:fj nt (jL cap env) g t f ds s1=ok xs s2):aQ nt cap it g t f env s=ok (.lst xs) s2:=by
 delta aQ;rw[h1,bH,ET hl,h2,bH]
def eQ (h:fa env s=ok [.int n] s1) (hn:n<=1000000):bT fa env s=ok (bL 0 n) s1:=by
 delta bT;rw[h,bH]
 show (if kh _=ό then ok _ s1 else ϋ)=_
 rw[õ (AS ⋯ ⋯),ă]
def xn {n:Nat} {i:Int} (h:fa env s=ok [.int i] s1) (hi:i=n) (hn:n<=1000000):bT fa env s=ok (bL 0 n) s1:=by
 subst hi;exact eQ h hn
def Bx (h:fa env s=ok [.int i,.int j] s1) (h1:-1000000<=i) (h2:i<=1000000) (h3:-1000000<=j) (h4:j<=1000000):oW fa env s=ok (bL i (j-i).toNat) s1:=by
 delta oW;rw[h]
 show (if (kh i&&kh j)=ό then ok _ s1 else ϋ)=_
 rw[õ (by rw[AS h1 h2,AS h3 h4];rfl)]
def GB:Wp (gG (.int i) (.int j) s) Q=Q (.bl (ώ (i<j))) s:=by rw[ltI,aT]
def By:Wp (sk (.int i) (.int j) s) Q=Q (.bl (ώ (j<i))) s:=by rw[Dg,aT]
def GC:Wp (Cq (.int i) (.int j) s) Q=Q (.bl (ώ (j<=i))) s:=by rw[geI,aT]
def Bz:Wp (oQ (.int i) (.int j) s) Q=Q (.bl (ώ (i<=j))) s:=by rw[leI,aT]
def Bb:Wp (dG (.int i) (.int j) s) Q=Q (.int (i+j)) s:=by rw[vD,aT]
def Bc:Wp (oE (.int i) (.int j) s) Q=Q (.int (i-j)) s:=by rw[RH,aT]
def xI:Wp (cu (.int i) (.int j) s) Q=Q (.bl (i==j)) s:=by rw[tM,aT]
def GD:Wp (eU (.int i) (.int j) s) Q=Q (.bl (!(i==j))) s:=by rw[neI,aT]
def w6 {k n:Nat} (h:bo s k) (hn:n<=8):Wp (j7 [.aw k,.int n] s) λd s'=>∃ns,d=mD ns/\cf n ns/\bo s' k/\Ex k s s':=by
 delta j7;erw[aT,Gs,r9,dD,dE,kA,u9,fm,bQ,bz,kj,wp_call,lP,Gu,rN,xD,lQ,lJ,xE,pZ,A7,xF,FE,A8,Bw,FF,Gv,Gw,oo,iM,rm,ER,jH,fZ,xG,Gx,lR,ip,jQ,Hs,FG,ES,xm,Gy,mT,A9,xH,iB,kc,Gz,iN,Ht,GA,Ü,Ŋ,č,ĥ,Ú,Ċ,ı,ľ,Ñ,afw,Nat.reduceSub,Nat.reduceAdd,GB,By,GC,Bz,Bb,Bc,xI,GD];refine(j8 h (by decide) (by decide)).mono λd Q Z=>?_;let(w,rfl,Y,X,W,V):=Z;erw[aT,Gs,r9,dD,dE,kA,u9,fm,bQ,bz,kj,wp_call,lP,Gu,rN,xD,lQ,lJ,xE,pZ,A7,xF,FE,A8,Bw,FF,Gv,Gw,oo,iM,rm,ER,jH,fZ,xG,Gx,lR,ip,jQ,Hs,FG,ES,xm,Gy,mT,A9,xH,iB,kc,Gz,iN,Ht,GA,Ü,Ŋ,č,ĥ,Ú,Ċ,ı,ľ,Ñ,afw,Nat.reduceSub,Nat.reduceAdd,GB,By,GC,Bz,Bb,Bc,xI,GD];refine aha (eQ rfl ⋯) #[by rw[fC];exact le_size ⋯,(WZ W Y X).mono λP O U=>?_];let(ns,rfl,T,S,R):=U;exact aha rfl #[ns,rfl,T,S,V.trans R]
end DI
noncomputable def DI.VCr:=Ý @DI.aT <| Ý @DI.Gs <| Ý @DI.r9 <| Ý @DI.dD <| Ý @DI.dE <| Ý @DI.kA <| Ý @DI.u9 <| Ý @DI.fm <| Ý @DI.bQ <| Ý @DI.bz <| Ý @DI.kj <| Ý @DI.wp_call <| Ý @DI.lP <| Ý @DI.Gu <| Ý @DI.rN <| Ý @DI.xD <| Ý @DI.lQ <| Ý @DI.lJ <| Ý @DI.xE <| Ý @DI.pZ <| Ý @DI.A7 <| Ý @DI.xF <| Ý @DI.FE <| Ý @DI.A8 <| Ý @DI.Bw <| Ý @DI.FF <| Ý @DI.Gv <| Ý @DI.Gw <| Ý @DI.oo <| Ý @DI.iM <| Ý @DI.rm <| Ý @DI.ER <| Ý @DI.jH <| Ý @DI.lR <| Ý @DI.ip <| Ý @DI.jQ <| Ý @DI.FG <| Ý @DI.xm <| Ý @DI.Gy <| Ý @DI.mT <| Ý @DI.A9 <| Ý @DI.xH <| Ý @DI.iB <| Ý @DI.iN <| Ý @DI.Ht <| Ý @DI.GA <| Ý @DI.GB <| Ý @DI.By <| Ý @DI.GC <| Ý @DI.Bz <| Ý @DI.Bb <| Ý @DI.Bc <| Ý @DI.xI <| @DI.GD
local macro_rules | `(tactic| simp only[VC])=>`(tactic| simp only[VC,true_and])
local macro_rules | `(tactic| simp only[VC,$xs,*])=>`(tactic| simp only[DI.VCr,DI.fZ,DI.xG,DI.Gx,DI.Hs,DI.ES,DI.kc,DI.Gz,List.map_cons,List.map_nil,List.cons_append,List.nil_append,List.length_cons,List.length_nil,List.set_cons_succ,List.set_cons_zero,List.replicate,true_and,Nat.reduceSub,Nat.reduceAdd,$xs,*])
namespace DI
open PySem L2
def ahb {r} {d:α} {s} (h:Wp r λa s'=>a=d/\s'=s):r=DI.ok d s:=by
 let(a,s',e,rfl,rfl):=h;exact e
def ik {s s1} {ds} (h:f env s=ok (.tup ds) s1):bq f env s=ok ds s1:=by
 delta bq;rw[h];rfl
def iK (h:f env s=ok (.lst ds) s1):bq f env s=ok ds s1:=by
 delta bq;rw[h];rfl
theorem wU:∀(ns:List Int),eT (ns.map D.int)=ό
 | []=>rfl
 |n::ns=>by erw[Ü,eT,lay,wU ns,ķ]
theorem Eo:∀(ns:List Int),dB (ns.map D.int)=0
 | []=>rfl
 |n::ns=>by erw[Ü,dB,dep,Eo ns,Nat.max_self]
def OD (x) (ns:List Int):((ns.map D.int).any λy=>beq y (.int x))=ώ (x∈ns):=by
 induction ns with
 |nil=>simp
 |cons n ns ih =>
  erw[Ü,List.any_cons,ih,beq];by_cases h:n=x
  .subst h;simp
  .have Z:¬ x=n:=λe=>h e.symm
   simp[h,Z]
def uz {ns} {s}:ic (.int x) (mD ns) s=ok (.bl (ώ (x∈ns))) s:=by
 have Z:uZ 100 (.int x) (ns.map D.int)=ό:=by erw[uZ,lay,wU,dep,ķ,Ă,agX]
 have e:inD (.int x) (ns.map D.int)=ϊ (ώ (x∈ns)):=by delta inD;rw[õ Z,OD]
 delta ic;rw[show rV _ s=ϊ _ from rfl];erw[e];rfl
def D8:fY (.int x) (mD ns) s=ok (.bl (!ώ (x∈ns))) s:=by
 have Z:uZ 100 (.int x) (ns.map D.int)=ό:=by erw[uZ,lay,wU,dep,ķ,Ă,agX]
 have e:inD (.int x) (ns.map D.int)=ϊ (ώ (x∈ns)):=by delta inD;rw[õ Z,OD]
 delta fY;rw[show rV _ s=ϊ _ from rfl];erw[e];rfl
noncomputable def sub (a b:List Int):Bool:=a.all λx=>ώ (x∈b)
def OE:sub a b=ό↔∀x∈a,x∈b:=by simp[sub]
def lK {α:Type} (p) (xs:List α) (s):kX [.lst (xs.map λx=>D.bl (p x))] s=ok (.bl (xs.all p)) s:=by
 have e:j3 (xs.map λx=>D.bl (p x))=ϊ (xs.map p):=by
  have:=ZA (bs:=xs.map p);rw[ï] at this;exact this
 show bU _ s=_;rw[e];show ok (D.bl _) s=_;rw[agr];rfl
def filter_tt {α:Type} (xs:List α):xs.filter (λ_=>ό)=xs:=by simp
def iJ {aW} {g} {t} {f} {s} (p) (h) (ns:List Int) (hh:∀n∈ns,∃env,g (.int n) (Ñ nt ϋ++aW)=ϊ env/\t env s=ok (p n) s/\(p n=ό->f env s=ok (h n) s)) :
  fj nt aW g t f (ns.map D.int) s=ok ((ns.filter p).map h) s:=by
 induction ns with
 |nil=>rfl
 |cons n ns ih =>
  let(env,Y,X,W):=hh n Ë;have ih:=ih λV U=>hh V (Ì _ U);rw[Ü];delta fj;rw[Y];erw[X,iO,bH]
  cases Z:p n with
  |true=>erw[ĭ,W Z,iO,bH,ih,ű,Z,Ü]
  |false=>erw[Ò,Ğ,ih,ű,Z]
def comp_map {α:Type} (d) (p) (h) (xs:List α) (hh:∀x∈xs,∃env,g (d x) (Ñ nt ϋ++aW)=ϊ env/\t env s=ok (p x) s/\(p x=ό->f env s=ok (h x) s)) :
  fj nt aW g t f (xs.map d) s=ok ((xs.filter p).map h) s:=by
 induction xs with
 |nil=>rfl
 |cons n T ih =>
  let(env,Y,X,W):=hh n Ë;have ih:=ih λV U=>hh V (Ì _ U);rw[Ü];delta fj;rw[Y];erw[X,iO,bH]
  cases Z:p n with
  |true=>erw[ĭ,W Z,iO,bH,ih,ű,Z,Ü]
  |false=>erw[Ò,Ğ,ih,ű,Z]
def Ms (hb:b.length<=1000000):rg [mD a,mD b] s=ok (.bl (sub b a)) s:=by
 refine ahb ?_;delta rg;simp only[VC];refine aha (ik rfl) #[le_size (by rw[Ã];exact hb),?_];refine aha (iJ (λ_=>ό) (λx=>.bl (ώ (x∈a))) b λn _=>#[_,rfl,rfl,λ_=>?_]) ?_
 .exact uz
 .rw[filter_tt]
  exact aha (lK ..) #[rfl,rfl]
def W0:DN [.int i] s=ok (.bl (ώ (0<=i))) s:=by
 rfl
def ug:tY [.int i,.int m] s=ok (.bl (ώ (0<=i)&&ώ (i<m))) s:=by
 refine ahb ?_;delta tY;simp only[VC,W0];by_cases h:0<=i
 .simp[h]
 .simp[h]
def FH:ue [.int i] s=ok (.bl (ώ (0<=i)&&ώ (i<8))) s:=by
 refine ahb ?_;delta ue;simp only[VC,ug,afw]
def NI (xs):cutD xs (ϊ 1) ϋ=xs.drop 1:=by
 delta cutD HT.bN
 cases xs with
 |nil=>simp
 |cons x xs =>
  simp
noncomputable def rise:List Int->Bool
 | []=>ό
 | [_]=>ό
 |a::b::r=>ώ (a<b)&&rise (b::r)
def OF (h:ns.Pairwise (· < ·)):rise ns=ό:=by
 induction ns with
 |nil=>rfl
 |cons a ns ih =>
  cases ns with
  |nil=>rfl
  |cons b r =>
   let(Z,Y):=û.mp h;erw[rise,ih Y,Bool.and_true];exact Ï (Z b Ë)
theorem NJ:∀ns,((ns.zip (ns.drop 1)).all λp=>ώ (p.1<p.2))=rise ns
 | []=>rfl
 | [_]=>rfl
 |a::b::r=>by
  have ih:=NJ (b::r);erw[agY,afD,ļ,List.all_cons,rise] at ih |-;rw[ih]
def W2 (xs ys:List Int):hZ (xs.map D.int) (ys.map D.int)=(xs.zip ys).map λp=>D.tup [.int p.1,.int p.2]:=by
 delta hZ;rw[List.zip_map,ï];rfl
def NK (h:fa env s=ok [.tup xs,.tup ys] s1):vm fa env s=ok (hZ xs ys) s1:=by
 delta vm;rw[h];rfl
def MZ (hl:ns.length<=1000000):qW [mD ns] s=ok (.bl (rise ns)) s:=by
 refine ahb ?_;delta qW;simp only[VC];have Z:vm (af (ae 0) (af (vZ (ae 0) (vt (eC (.int 1))) vY) ah)) [ϊ (mD ns)] s=ok (hZ (ns.map D.int) ((ns.drop 1).map D.int)) s:=by
  refine NK (ahb ?_);simp only[VC];rw[OC rfl];refine aha (rfl) #[?_,rfl];rw[NI,List.map_drop]
 refine aha Z #[le_size (by rw[AM];erw[Ã];omega),?_];rw[W2];refine aha (comp_map (λp=>D.tup _) (λ_=>ό) (λp=>.bl _) _ λp _=>#[_,rfl,rfl,λ_=>rfl]) ?_;rw[filter_tt];exact aha (lK ..) #[by rw[NJ],rfl]
def VV (h:cf 8 ns):pM [mD ns] s=ok (.bl ό) s:=by
 have Y:=h.len;refine ahb ?_;delta pM;simp only[VC];refine aha (rfl) ?_;simp only[VC,ĭ];refine aha (ik rfl) #[le_size (by rw[Ã];omega),?_];refine aha (iJ (λ_=>ό) (λx=>.bl (ώ (0<=x)&&ώ (x<8))) ns λn _=>#[_,rfl,rfl,λ_=>?_]) ?_
 .refine ahb ?_
  simp only[VC,FH,afw]
 .rw[filter_tt]
  refine aha (lK ..) ?_;have e:(ns.all λx=>ώ (0<=x)&&ώ (x<8))=ό:=by
   rw[Ĉ];intro x Z;have:=h.lo x Z;erw[Ç,Æ];omega
  rw[e];simp only[VC,ĭ];exact aha (MZ ⋯) #[by rw[OF h.up],rfl]
structure lh (rs:List _):Prop where
 lo:1<=rs.length
 hi:rs.length<=10
 wc:∀r∈rs,cf 8 r
abbrev rD (rs:List (List Int)):D:=.tup (rs.map mD)
def OG (h:lh rs):wF [rD rs] s=ok .aD s:=by
 have X:=h.lo;have W:=h.hi;have Z:Ae [rD rs,.int 10] s=ok (.bl ό) s:=by
  refine ahb ?_;delta Ae;simp only[VC];refine aha (rfl) ?_;simp only[VC,ĭ];refine aha (rfl) ?_;rw[Ã];simp only[VC];rw[Ï ⋯,Ï ⋯];refine aha (ik rfl) #[le_size (by rw[Ã];omega),?_];refine aha (comp_map mD (λ_=>ό) (λ_=>.bl ό) rs λr Y=>#[_,rfl,rfl,λ_=>?_]) ?_
  .refine ahb ?_
   simp only[VC,VV (h.wc r Y),afw]
  .exact aha (lK (λ_=>ό) ..) #[by simp,rfl]
 refine ahb ?_;delta wF;simp only[VC,Z,ŏ,Ò,Ğ,afw]
def BA {j:Nat} (h:xs[j]?=ϊ d):aC (.tup xs) (.int j) s=ok d s:=by
 delta aC iU;rw[show res _ s=.tup xs from rfl];erw[N4 h];rfl
def abC {j:Nat} (h:xs[j]?=ϊ d):aC (.lst xs) (.int j) s=ok d s:=by
 delta aC iU;rw[show res _ s=.lst xs from rfl];erw[N4 h];rfl
def getD_some {α:Type} {xs:List α} {i} {d} (h:i<xs.length):xs[i]?=ϊ (xs.getD i d):=by
 rw[ý,É h];rfl
def J1 {i:Nat} {s} (h:i<ns.length):aC (mD ns) (.int i) s=ok (.int (ns.getD i 0)) s:=BA (by rw[Þ,getD_some h];rfl)
def Dh {i:Nat} {s} (h:i<rs.length):aC (rD rs) (.int i) s=ok (mD (rs.getD i [])) s:=BA (by rw[Þ,getD_some h];rfl)
def IE:cR [mD ns] s=ok (.int ns.length) s:=by
 show ok _ s=_;rw[Ã]
def IF:cR [rD rs] s=ok (.int rs.length) s:=by
 show ok _ s=_;rw[Ã]
def Bd (lo) (n):bL lo n=(Ô n).map λi:Nat=>D.int (lo+i):=rfl
def rP (rs:List (List Int)) (laid:List Int) (m:Int):Bool:=((Ô laid.length).filter λi=>laid.getD i 0==m).all λi=>sub (rs.getD i []) (rs.getD laid.length [])
def abD (h:lh rs) (hl:laid.length<rs.length):AA [rD rs,mD laid,.int m] s=ok (.bl (rP rs laid m)) s:=by
 have hi:=h.hi;refine ahb ?_;delta AA;simp only[VC,IE,Dh hl];refine aha (eQ (s1:=s) (n:=laid.length) ?_ ⋯) #[le_size (by rw[fC];omega),?_]
 .refine ahb ?_
  simp only[VC,IE,Ľ]
 .refine aha (comp_map (λi=>D.int _) (λi=>laid.getD i 0==m) (λi=>.bl (sub (rs.getD i []) (rs.getD laid.length []))) _ λi Z=>#[[ϊ _,ϊ _,ϊ _,ϊ _,ϊ _],rfl,?_,λ_=>?_]) ?_
  .have Y:=é.mp Z
   refine ahb ?_;simp only[VC,Ÿ,J1 Y,Ľ]
  .have Y:=é.mp Z
   refine ahb ?_;have X:=(h.wc (rs.getD i []) (ö (getD_some ⋯))).len;simp only[VC,Ÿ,Dh (show i<rs.length by omega),Ms (show (rs.getD i []).length<=1000000 by omega),Ľ]
  .exact aha (lK ..) #[rfl,rfl]
def mZ {α:Type} (d) (p) (h) (xs:List α) (hh:∀x∈xs,∃env,g (d x) nj=ϊ env/\t env s=ok (p x) s/\(p x=ό->act env s=ok (h x) s)) :
  jv g t act nj (xs.map d) s=ok ((xs.filter p).flatMap h) s:=by
 induction xs with
 |nil=>rfl
 |cons n T ih =>
  let(env,Y,X,W):=hh n Ë;have ih:=ih λV U=>hh V (Ì _ U);rw[Ü];delta jv;rw[Y];erw[X,iO,bH]
  cases Z:p n with
  |true=>erw[ĭ,W Z,iO,bH,ih,ű,Z,List.flatMap_cons]
  |false=>erw[Ò,Ğ,ih,ű,Z]
def w9 :
  Wp (xA nt cap it gd c act env s) Q=Wp (it env s) λds s=>Wp (jv gd c act (Ñ nt ϋ++jL cap env) ds s) λxs s=>xs.length<=â/\Q (.lst xs) s:=by
 delta xA;erw[bI,r9,wZ,aT]
def step (rs:List (List Int)) (told:List (List Int)):List (List Int):=told.flatMap λlaid=>([0,1].filter λm=>rP rs laid m).map λm=>laid++[m]
def iC (rs:List (List Int)):Nat->List (List Int)
 |0=>[[0]]
 |k+1=>step rs (iC rs k)
def Yx:(step rs told).length<=2*told.length:=by
 delta step
 induction told with
 |nil=>simp
 |cons a r ih =>
  rw[List.flatMap_cons,Î,Ú,Ã];have:=Ĵ (λm=>rP rs a m) [0,1];erw[Ú,Ċ] at this;omega
theorem M3 (rs):∀k,(iC rs k).length<=2 ^ k
 |0=>by simp[iC]
 |k+1=>by
  have:=M3 rs k;have h:=Yx (rs:=rs) (told:=iC rs k);show (step rs _).length<=_;omega
theorem D9 (rs):∀k,∀l∈iC rs k,l.length=k+1
 |0,l,h=>by simp[iC] at h;subst h;rfl
 |k+1,l,h=>by
  erw[iC,step,Ő,á] at h;let(a,Z,m,_,rfl):=h;rw[Î,D9 rs k a Z];rfl
def pow10 (h:k<=10):2 ^ k<=1024:=by
 calc 2 ^ k<=2 ^ 10:=agG (by decide) h
  _=1024:=by decide
def gH (h:a.length+b.length<=1000000):dG (mD a) (mD b) s=ok (mD (a++b)) s:=by
 have e:vn (mD a) (mD b)=ϊ (mD (a++b)):=by
  show (if sj _ _=ό then ϊ _ else ϋ)=_
  have Z:sj (a.map D.int) (b.map D.int)=ό:=by
   delta sj;rw[Ã,Ã];exact Ï (le_size h)
  rw[õ Z];show ϊ _=ϊ (D.tup _);rw[ā]
 show bU (vn (mD a) (mD b)) s=_;rw[e];rfl
def VW (h:lh rs):AB [rD rs] s=ok (.lst ((iC rs (rs.length-1)).map mD)) s:=by
 have T:=h.hi;refine ahb ?_;delta AB;simp only[VC];refine#[by decide,by decide,?_];have V:oW (af (eC (.int 1)) (af (eB cR (af (ae 0) ah)) ah)) [ϊ (rD rs),ϊ (.lst [.tup [.int 0]]),ϋ] s=ok (bL 1 (rs.length-1)) s:=by
  have:=Bx (fa:=af (eC (.int 1)) (af (eB cR (af (ae 0) ah)) ah)) (env:=[ϊ (rD rs),ϊ (.lst [.tup [.int 0]]),ϋ]) (s:=s) (s1:=s) (i:=1) (j:=rs.length) (ahb (by simp only[VC,IF,Ľ])) ⋯ ⋯ ⋯ ⋯;have e:((rs.length:Int)-1).toNat=rs.length-1:=by omega
  rw[this,e]
 refine aha V ?_;refine Wp.jw (λi env Z=>Z=s/\∃x,env=[ϊ _,ϊ (.lst ((iC rs i).map mD)),x]) _ #[rfl,_,rfl] (λi d env Z Y X=>?_) (λenv Z X=>?_)
 .let(rfl,x,rfl):=X
  rw[iL] at Y;split at Y
  .erw[ip,jQ]
   rw[w9];refine aha (iK rfl) ?_;refine aha (mZ mD (λ_=>ό) (λlaid=>(([0,1].filter λm=>rP rs laid m).map λm=>mD (laid++[m]))) _ λlaid U=>#[[ϊ _,ϋ,ϊ _],rfl,rfl,λ_=>?_]) ?_
   .have W:=D9 rs i laid U
    delta more;rw[eQ rfl (by decide),bH];rw[show bL 0 2=([0,1]).map D.int from rfl];rw[mZ _ (λm=>rP rs laid m) (λm=>[mD _]) _ λm S=>#[_,rfl,?_,λ_=>?_]]
    .rw[<- afa]
    .refine ahb ?_
     simp only[VC,abD h (show laid.length<rs.length by omega),Ľ]
    .refine ahb ?_
     delta emit;rw[bI];simp only[VC];refine#[by decide,?_];refine aha (gH (b:=[m]) (by simp;omega)) ?_;simp
   .rw[filter_tt]
    have e:((iC rs i).flatMap λlaid=>([0,1].filter λm=>rP rs laid m).map λm=>mD (laid++[m]))=(iC rs (i+1)).map mD:=by
     show _=(step rs _).map mD;delta step;erw[Ų,ï,ż]
    rw[e];refine#[?_,rfl,_,rfl];rw[Ã];exact le_size (Ó (M3 rs _) (Ó (pow10 ⋯) (by decide)))
  .cases Y
 .let(rfl,x,rfl):=X
  rw[fC];simp only[VC,Ľ]
open TK
noncomputable def markB (i:Int):Bool:=ώ (0<=i)&&ώ (i<8)
noncomputable def i4 (i:Int):Bool:=ώ (0<=i)&&ώ (i<4)
noncomputable def jx (i:Int):Bool:=ώ (0<=i)&&ώ (i<31)
def kP (ns:List Int):Bool:=ns.all markB&&rise ns
noncomputable def gB (a b:List Int):Bool:=!(a.any λx=>ώ (x∈b))
def dg:Pg->Bool
 | .made m d h l=>i4 m&&jx d&&(kP h&&(kP l&&gB h l))
 | .bx m d k=>i4 m&&jx d&&markB k
def jT:Pg->Prop
 | .made _ _ h l=>h.length<=1000/\l.length<=1000
 | .bx ..=>True
def Yy:j3 (bs.map D.bl)=ϊ bs:=by
 induction bs with
 |nil=>rfl
 |cons b bs ih=>erw[Ü,j3,ih];rfl
def NL {α:Type} (p) (xs:List α) (s):vq [.lst (xs.map λx=>D.bl (p x))] s=ok (.bl (xs.any p)) s:=by
 have e:j3 (xs.map λx=>D.bl (p x))=ϊ (xs.map p):=by
  have:=Yy (bs:=xs.map p);rw[ï] at this;exact this
 erw[vq,res,e,bU,ž,List.any_map,ż,id]
def NM (hl:ns.length<=1000):pM [mD ns] s=ok (.bl (kP ns)) s:=by
 refine ahb ?_;delta pM;simp only[VC];refine aha (rfl) ?_;simp only[VC,ĭ];refine aha (ik rfl) #[le_size (by rw[Ã];omega),?_];refine aha (iJ (λ_=>ό) (λx=>.bl (markB x)) ns λn _=>#[_,rfl,rfl,λ_=>?_]) ?_
 .refine ahb ?_
  simp only[VC,FH,markB,afw]
 .rw[filter_tt]
  refine aha (lK ..) ?_;simp only[VC];delta kP
  cases e:ns.all markB with
  |true =>
   exact aha (MZ ⋯) #[rfl,rfl]
  |false=>simp
def EU (ha:a.length<=1000):tW [mD a,mD b] s=ok (.bl (gB a b)) s:=by
 refine ahb ?_;delta tW;simp only[VC];refine aha (ik rfl) #[le_size (by rw[Ã];omega),?_];refine aha (iJ (λ_=>ό) (λx=>.bl (ώ (x∈b))) a λn _=>#[[ϊ _,ϊ _],rfl,rfl,λ_=>?_]) ?_
 .refine ahb ?_
  simp only[VC,uz,afw]
 .rw[filter_tt]
  refine aha (NL ..) ?_;simp only[VC];exact#[rfl,trivial]
def EV (h1:h.length<=1000) (h2:l.length<=1000):qZ [.tup [mD h,mD l]] s=ok (.bl (kP h&&(kP l&&gB h l))) s:=by
 refine ahb ?_;delta qZ;simp only[VC];refine aha (rfl) ?_;simp only[VC,ŏ,Ò,Ğ];refine aha (rfl) ?_;simp only[VC];refine aha (NM h1) ?_;simp only[VC]
 cases kP h with
 |false=>simp
 |true =>
  refine aha (NM h2) ?_;simp only[VC]
  cases kP l with
  |false=>simp
  |true =>
   exact aha (EU h1) #[rfl,rfl]
def EW:wH [.int i] s=ok (.bl (i4 i)) s:=by
 refine ahb ?_;delta wH;simp only[VC,ug,i4,Ľ]
def PR:wY [.int i] s=ok (.bl (jx i)) s:=by
 refine ahb ?_;delta wY;simp only[VC,ug,jx,Ľ]
def mG:cu (.str x) (.str y) s=ok (.bl (ώ (x=y))) s:=by
 show ok (D.bl (x==y)) s=_
 by_cases e:x=y<;>simp[e]
def ZZ:¬ (Ĳ "made"=Ĳ "mended"):=nofun
def Be:¬ (Ĳ "mended"=Ĳ "made"):=nofun
def Di:ag9 Fl:=ay (bO (aU (e2 cu (ae 1) (eC (.str "made")))) (aL (ak qZ (af (ae 4) ah))) bY) (aL (dR (e2 cu (ae 1) (eC (.str "mended"))) (ak ue (af (ae 4) ah))))
def OH {m d} {w} {s} {b} (h:Wp (Di [ϊ (.tup [.str x,.int m,.int d,w]),ϊ (.str x),ϊ (.int m),ϊ (.int d),ϊ w] s) (yC λd s'=>d=.bl b/\s'=s)):AD [.tup [.str x,.int m,.int d,w]] s=ok (.bl (i4 m&&jx d&&b)) s:=by
 refine ahb ?_;show Wp (aS 1 5 (ay _ (ay _ (ay _ Di))) _ s) _;simp only[VC];refine aha (rfl) ?_;simp only[VC,ŏ,Ò,Ğ];refine aha (rfl) ?_;simp only[VC,ι,ŏ,Ò,Ğ];refine aha EW ?_;simp only[VC]
 cases i4 m with
 |false=>simp[xG,kc,iM,kA]
 |true =>
  refine aha PR ?_;simp only[VC]
  cases jx d with
  |false=>simp[xG,kc,iM,kA]
  |true =>
   exact h
def Z0 (hf:jT p):AD [p.d] s=ok (.bl (dg p)) s:=by
 cases p with
 |made m d h l =>
  refine OH ?_;delta Di;simp only[VC];refine aha mG ?_;simp only[VC,agX,ĭ];exact aha (EV hf.1 hf.2) #[rfl,rfl]
 |bx m d k =>
  refine OH ?_;delta Di;simp only[VC];refine aha mG ?_;simp only[VC,ø Be,Ò,Ğ];refine aha mG ?_;simp only[VC,agX,ĭ];exact aha FH #[rfl,rfl]
noncomputable def brk (l:List Int):List Int:=((Ô (l.length-1)).filter λi=>l.getD (i+1) 0==l.getD i 0).map λi:Nat=>1+(i)
def Yz {nt:Nat} (hl:l.length<=1000):fj 1 [ϊ (mD l)] (gN 0) (aU (e2 cu (e2 aC (ae 1) (ae 0)) (e2 aC (ae 1) (e2 oE (ae 0) (eC (.int 1)))))) (ae 0) (bL 1 (l.length-1)) s=ok ((brk l).map D.int) s:=by
 rw[Bd,comp_map (λi=>D.int _) (λi=>l.getD _ 0==l.getD i 0) (λi=>D.int _) _ λi hi=>#[_,rfl,?_,λ_=>rfl]]
 .delta brk
  rw[ï];rfl
 .have hi:=é.mp hi
  refine ahb ?_;simp only[VC];have e1:(1+(i))=((i+1:Nat):Int):=by omega
  have e2:(1+(i))-1=(i:Int):=by omega
  rw[e2,e1,J1 ⋯];simp only[VC,J1 (show i<l.length by omega),Ľ]
def aeX (h:fa env s=ok [.int 1,.int rs] s) (hl:rs<=1000):oW fa env s=ok (bL 1 (rs-1)) s:=by
 have:=Bx h ⋯ ⋯ ⋯ ⋯;have e:((rs:Int)-1).toNat=rs-1:=by omega
 rw[this,e]
def W3 (hl:l.length<=1000):Av [mD l] s=ok (.lst ((brk l).map D.int)) s:=by
 refine ahb ?_;delta Av;simp only[VC];refine aha (aeX (ahb (by simp only[VC,IE,Ľ])) hl) #[le_size (by rw[fC];omega),?_];exact aha (Yz (nt:=1) hl) #[rfl,rfl]
abbrev qi (l:List Int):D:=.tup [.int (brk l).length,mD l]
def QZ (hl:l.length<=1000):qV [mD l] s=ok (qi l) s:=by
 refine ahb ?_;delta qV;simp only[VC,W3 hl];refine aha (rfl) ?_;rw[Ã];simp only[VC,Ľ,and_true];decide
noncomputable def yE:List Int->List Int->Bool
 | [],[]=>ύ
 | [],_::_=>ό
 |_::_,[]=>ύ
 |x::Z,y::Y=>if (x==y)=ό then yE Z Y else ώ (x<y)
def uO (h:beq x y=ό):gk (x::xs) (y::ys)=gk xs ys:=by
 rw[gk,õ h]
def uP (h:beq x y=ύ):gk (x::xs) (y::ys)=jh x y:=by
 rw[gk,ÿ (by rw[h];exact è)]
theorem GF:∀xs ys,gk (xs.map D.int) (ys.map D.int)=ϊ (yE xs ys)
 | [],[]=>rfl
 | [],_::_=>rfl
 |_::_,[]=>rfl
 |x::xs,y::ys=>by
  rw[Ü,Ü,yE]
  cases h:(x==y) with
  |true=>rw[uO (show beq (.int x) (.int y)=ό from h)];exact GF xs ys
  |false=>rw[uP (show beq (.int x) (.int y)=ύ from h)];rfl
def zQ (a b:List Int):Bool:=if ((((brk a).length)==((brk b).length:Int)))=ό then (if beq (mD a) (mD b)=ό then ύ else yE a b) else ώ (((brk a).length)<((brk b).length:Int))
def abE:gG (qi a) (qi b) s=ok (.bl (zQ a b)) s:=by
 have Z:∀l,lay (qi l)=ό:=λl=>by erw[lay,DI.eT,wU,ķ]
 have X:dep (qi a)<=30:=by erw[dep,dB,Eo];decide
 have e:jh (qi a) (qi b)=ϊ (zQ a b):=by
  show gk _ _=_;delta zQ
  cases h:(((brk a).length)==((brk b).length:Int)) with
  |true =>
   rw[uO (show beq (.int _) (.int _)=ό from h)]
   cases Y:beq _ _ with
   |true=>rw[uO Y];rfl
   |false=>rw[uP Y];exact GF a b
  |false =>
   rw[uP (show beq (.int _) (.int _)=ύ from h)];rfl
 delta gG;rw[õ (by rw[Z a,Z b,Ï X];rfl),e];rfl
def yh:List Int->List (List Int)->List Int
 |b,[]=>b
 |b,y::Z=>if zQ y b=ό then yh y Z else yh b Z
def Q0:List (List Int)->D
 | []=>.aD
 |x::Z=>mD (yh x Z)
theorem Q2:∀ys b,(∀y∈ys,y.length<=1000)->nv (λd s=>qV [d] s) gG (mD b) (qi b) (ys.map mD) s=ok (mD (yh b ys)) s
 | [],b,_=>rfl
 |y::ys,b,h=>by
  have Z:=QZ (s:=s) (h y Ë);have ih:=λb=>Q2 (s:=s) ys b λz Y=>h z (Ì _ Y);rw[Ü];delta nv;erw[Z,iO,bH,abE,yh]
  cases zQ y b with
  |true=>exact ih y
  |false=>exact ih b
def OI (h:lh rs):qS [rD rs] s=ok (Q0 (iC rs (rs.length-1))) s:=by
 have V:=h.hi;refine ahb ?_;delta qS;simp only[VC,OG h,VW h];have Z:∀y∈iC rs (rs.length-1),y.length<=1000:=λy Y=>by rw[D9 _ _ y Y];omega
 cases W:iC rs _ with
 |nil=>exact aha rfl #[rfl,rfl]
 |cons x X =>
  rw[W] at Z;show Wp (aq (ne (qV [mD x] s)) λk s=>nv (λd s=>qV [d] s) gG (mD x) k (X.map mD) s) _;rw[QZ (Z x Ë),iO];exact aha (Q2 X x λy Y=>Z y (Ì _ Y)) #[rfl,rfl]
section
variable {env:Env} {s s':ai} {f1 f2 f3 f4:ag9 D} {fa fb:ag9 (List D)} {ft:ag9 Bool} {fn:List D->ai->Res D} {ds:List D} {a b c d x y z:D} {R st:ag9 Fl} {Q:Fl->ai->Prop} {QD:D->ai->Prop} {u v:Bool} {i:Nat}
def zR (h:aC x y s=ok z s) (h1:f1 env s=ok x s:=by rfl) (h2:f2 env s=ok y s:=by rfl):e2 aC f1 f2 env s=ok z s:=by
 delta e2;rw[h1,bH,h2,bH,h]
def eG {o:D->D->ai->Res D} (h:o x y s=ok z s) (h1:f1 env s=ok x s:=by rfl) (h2:f2 env s=ok y s:=by rfl):e2 o f1 f2 env s=ok z s:=by
 delta e2;rw[h1,bH,h2,bH,h]
def pC (h:fn ds s=ok z s') (h1:fa env s=ok ds s:=by rfl):ak fn fa env s=ok z s':=by
 delta ak;rw[h1,bH,h,iO]
def fG (q:Wp (fn ds s) QD) (h:fa env s=ok ds s:=by rfl):Wp (ak fn fa env s) QD:=by
 rw[wp_call,h,aT];exact q
def Td (h1:f1 env s=ok a s:=by rfl) (h2:f2 env s=ok b s:=by rfl):bp (af f1 (af f2 ah)) env s=ok (.tup [a,b]) s:=by
 delta bp af ah;erw[h1,bH,h2];exact ET (show 2<=1000000 by decide)
def Dj (h2:f2 env s=ok b s) (h4:f4 env s=ok d s) (h1:f1 env s=ok a s:=by rfl) (h3:f3 env s=ok c s:=by rfl):bp (af f1 (af f2 (af f3 (af f4 ah)))) env s=ok (.tup [a,b,c,d]) s:=by
 delta bp af ah;erw[h1,bH,h2,h3,h4];exact ET (show 4<=1000000 by decide)
def Te (h1:f1 env s=ok (.bl u) s) (h2:f2 env s=ok (.bl v) s):mr f1 f2 env s=ok (.bl (u||v)) s:=by
 delta mr;rw[h1,bH]
 cases u with
 |true=>rfl
 |false=>exact h2
def RJ (h1:f1 env s=ok (.bl u) s) (h2:f2 env s=ok (.bl v) s):dR f1 f2 env s=ok (.bl (u&&v)) s:=by
 delta dR;rw[h1,bH]
 cases u with
 |true=>exact h2
 |false=>rfl
def IG {ft gt:ag9 Bool} (h1:ft env s=ok u s) (h2:gt env s=ok v s):jd ft gt env s=ok (u||v) s:=by
 delta jd;rw[h1,bH]
 cases u with
 |true=>rfl
 |false=>exact h2
def gK (h1:f1 env s=ok (.bl u) s):aU f1 env s=ok u s:=by
 delta aU;rw[h1,bH];rfl
def BZ (h1:f1 env s=ok (.bl u) s):dA f1 env s=ok u s:=by
 delta dA;rw[h1,bH];rfl
def ifN (h:cu x y s=ok (.bl ύ) s) (h4:f4 env s=ok z s) (h1:f1 env s=ok x s:=by rfl) (h2:f2 env s=ok y s:=by rfl):qK (aU (e2 cu f1 f2)) f3 f4 env s=ok z s:=by
 delta qK aU e2;rw[h1,bH,h2,bH,h];exact h4
def ifY (h:cu x y s=ok (.bl ό) s) (h3:f3 env s=ok z s) (h1:f1 env s=ok x s:=by rfl) (h2:f2 env s=ok y s:=by rfl):qK (aU (e2 cu f1 f2)) f3 f4 env s=ok z s:=by
 delta qK aU e2;rw[h1,bH,h2,bH,h];exact h3
def qb (h:Wp (f1 env s) λd s=>Wp (R (env.set i (ϊ d)) s) Q):Wp (ay (aM f1 (gN i)) R env s) Q:=by
 rw[jH,ip];exact h.mono λd s q=>jQ ▸ q
def i5 (h:f1 env s=ok x s') (q:Wp (R (env.set i (ϊ x)) s') Q):Wp (ay (aM f1 (gN i)) R env s) Q:=qb (aha h q)
def abF (h:f1 env s=ok x s') (q:Q (.nx (env.set i (ϊ x))) s'):Wp (aM f1 (gN i) env s) Q:=by
 rw[ip];exact aha h #[_,rfl,q]
def uQ {it:ag9 (List D)} {g:D->Env->Option Env} (h:it env s=ok ds s') (q:Wp (m8 g st ds env s') (tL R Q)):Wp (ay (fv it g st) R env s) Q:=by
 rw[jH,mT];exact aha h q
def B0 {j:Nat} (h:f2 env s=ok x s) (hl:iE (.aw j) s=ό) (ha:ja (.aw j) x s=ok .aD s') (q:Q (.nx env) s') (h1:f1 env s=ok (.aw j) s:=by rfl):Wp (cJ (gj f1 f2) env s) Q:=by
 rw[rm,xH,h1,aT];exact#[hl,aha h (aha ha q)]
def adf {n:Int} (h:cR [x] s=ok (.int n) s) (h1:f1 env s=ok x s:=by rfl) (h2:f2 env s=ok y s:=by rfl):af f2 (af (eB cR (af f1 ah)) ah) env s=ok [y,.int n] s:=by
 delta af eB ah;erw[h2,bH,h1,h]
def kQ {k:Nat} {m:Int} (hS:bo s k) (h1:0<m) (h2:m<1073741824) (q:∀r s',0<=r/\r<m->bo s' k->Ex k s s'->QD (.int r) s') (h:fa env s=ok [.aw k,.int m] s:=by rfl):Wp (ak bC fa env s) QD:=fG ((j8 hS h1 h2).mono λd s' Z=>by
 let(r,e,a,b,c,x):=Z;subst e;exact q r s' #[a,b] c x) h
def B7 (h:Wp (f1 env s) λd s=>∃i,d=.int i/\QD (.bl (i==0)) s):Wp (e2 cu f1 (eC (.int 0)) env s) QD:=by
 rw[fm];refine h.mono λd s h=>?_;let(i,e,q):=h;subst e;rw[kA,xI];exact q
def PU {nt:Nat} {cap:List Nat} {it:ag9 (List D)} {g:D->Env->Option Env} (h:it env s=ok ds s') (hl:ds.length<=1000000) (q:Wp (fj nt (jL cap env) g ft f1 ds s') λxs s=>QD (.lst xs) s):Wp (aQ nt cap it g ft f1 env s) QD:=by
 rw[iN];exact aha h #[le_size hl,q]
def J3 {nt:Nat} {cap:List Nat} {it:ag9 (List D)} {g:D->Env->Option Env} {xs:List D} (h:it env s=ok ds s') (hl:ds.length<=1000000) (q:fj nt (jL cap env) g ft f1 ds s'=ok xs s'):eB cG (af (aQ nt cap it g ft f1) ah) env s=ok (.tup xs) s':=by
 refine ahb ?_;erw[kj,bz,bQ];exact PU h hl (aha q (aha rfl #[rfl,rfl]))
def a1E (h:f1 env s=ok x s'):af f1 ah env s=ok [x] s':=by
 delta af ah;rw[h,bH,bH]
def adg {st ao:ag9 Fl} (h:Wp (f1 env s) λb s=>∃u,b=.bl u/\if u=ό then Wp (st env s) Q else Wp (ao env s) Q):Wp (bO (aU f1) st ao env s) Q:=by
 rw[lR,lQ];refine h.mono λb s h=>?_;let(u,e,q):=h;subst e;rw[lJ];exact q
def abG (h:Wp (f4 env s) λd s=>QD (.tup [a,b,c,d]) s) (h1:f1 env s=ok a s:=by rfl) (h2:f2 env s=ok b s:=by rfl) (h3:f3 env s=ok c s:=by rfl):Wp (bp (af f1 (af f2 (af f3 (af f4 ah)))) env s) QD:=by
 erw[lP,bz,bQ,h1,h2,h3,aT];exact h.mono λd s q=>#[le_size (show 4<=1000000 by decide),q]
def qj {ft gt:ag9 Bool} (h1:ft env s=ok u s) (h2:gt env s=ok v s):iP ft gt env s=ok (u&&v) s:=by
 delta iP;rw[h1,bH]
 cases u with
 |true=>exact h2
 |false=>rfl
def Hu {ft gt:ag9 Bool} (h1:ft env s=ok ύ s):iP ft gt env s=ok ύ s:=by
 delta iP;rw[h1,bH];rfl
def adh {ft:ag9 Bool} (h1:ft env s=ok u s):hX ft env s=ok (!u) s:=by
 delta hX;rw[h1,bH]
def J4 {np ns:Nat} (h:Wp (st (ds.map ϊ++Ñ (ns-np) ϋ) s) (yC λa t=>a=z/\t=s')) (hl:ds.length=np:=by rfl):aS np ns st ds s=ok z s':=by
 let(a,t,e,rfl,rfl):=(iB (Q:=λa t=>a=z/\t=s')).symm ▸ Ý hl h;exact e
def Hv {f:ag9 D} {QF:Fl->ai->Prop} (h:f env s=ok z s') (q:QF (.rt z) s'):Wp (aL f env s) QF:=by
 rw[iM];exact aha h q
end
abbrev bD (ps:List Pg):D:=.tup (ps.map Pg.d)
def abH:gG p.d q.d s=ok (.bl (fc.lt p q)) s:=by
 delta gG;rw[õ (by rw[rL _ (lT p),rL _ (lT q)];erw[ķ,agJ,Æ];have:=Gi p;omega),QM];rfl
noncomputable def va (ps:List Pg):Bool:=(ps.zip (ps.drop 1)).all λp=>fc.lt p.1 p.2
def YA (xs ys:List Pg):hZ (xs.map Pg.d) (ys.map Pg.d)=(xs.zip ys).map λp=>D.tup [p.1.d,p.2.d]:=by
 delta hZ;rw[List.zip_map,ï];rfl
def VX (hl:ps.length<=1000):qW [bD ps] s=ok (.bl (va ps)) s:=by
 refine ahb ?_;delta qW;simp only[VC];have Z:vm (af (ae 0) (af (vZ (ae 0) (vt (eC (.int 1))) vY) ah)) [ϊ (bD ps)] s=ok (hZ (ps.map Pg.d) ((ps.drop 1).map Pg.d)) s:=by
  refine NK (ahb ?_);simp only[VC];rw[OC rfl];refine aha (rfl) #[?_,rfl];rw[NI,List.map_drop]
 refine aha Z #[le_size (by rw[AM];erw[Ã];omega),?_];rw[YA];refine aha (comp_map (λp=>D.tup _) (λ_=>ό) (λp=>.bl (fc.lt p.1 p.2)) _ λp _=>#[_,rfl,rfl,λ_=>?_]) ?_
 .refine ahb ?_
  simp only[VC,abH,Ľ]
 rw[filter_tt];exact aha (lK ..) #[rfl,rfl]
def i6 (ps:List Pg):Bool:=ώ (ps.length<=24)&&(ps.all dg&&va ps)
def OJ (hl:ps.length<=1000) (hf:∀p∈ps,jT p):wI [bD ps] s=ok (.bl (i6 ps)) s:=by
 refine ahb ?_;delta wI i6;simp only[VC];refine aha (rfl) ?_;simp only[VC,ĭ];refine aha (by show ok _ s=_;rw[Ã]) ?_;simp only[VC];by_cases h:ps.length<=24
 .have Z:(ps.length:Int)<=24:=by omega
  erw[h,Z,agX,ĭ,agJ];refine aha (ik rfl) #[le_size (by rw[Ã];omega),?_];refine aha (comp_map _ (λ_=>ό) (λp=>.bl (dg p)) ps λp Y=>#[_,rfl,rfl,λ_=>?_]) ?_
  .refine ahb ?_
   simp only[VC,Z0 (hf p Y),Ľ]
  .rw[filter_tt]
   refine aha (lK ..) ?_;simp only[VC]
   cases ps.all dg with
   |false=>simp
   |true =>
    exact aha (VX hl) #[rfl,rfl]
 .have Z:¬ (ps.length:Int)<=24:=by omega
  simp[h,Z]
noncomputable def _root_.TK.Pg.day:Pg->Int
 | .made _ d ..=>d
 | .bx _ d _=>d
noncomputable def Dk (m k:Int):Pg->Bool
 | .made Z _ h _=>ώ (Z=m)&&ώ (k∈h)
 |_=>ύ
noncomputable def Dl (m k:Int):Pg->Bool
 | .made Z _ _ l=>ώ (Z=m)&&ώ (k∈l)
 |_=>ύ
noncomputable def zS (m k:Int):Pg->Bool
 | .bx Z _ Y=>ώ (Z=m)&&ώ (Y=k)
 |_=>ύ
def shown (ps:List Pg) (m k:Int):List Int:=(ps.filter (Dk m k)).map Pg.day
def jm (ps:List Pg) (m k:Int):List Int:=(ps.filter (Dl m k)).map Pg.day
def f6 (ps:List Pg) (m k:Int):List Int:=(ps.filter (zS m k)).map Pg.day
noncomputable abbrev lI (ns:List Int):D:=.lst (ns.map D.int)
def Tf (a b) (s):aC (.tup [a,b]) (.int 0) s=ok a s/\aC (.tup [a,b]) (.int 1) s=ok b s:=#[rfl,rfl]
def ixP (p:Pg) (s):aC p.d (.int 1) s=ok (.int (match p with | .made m ..=>m | .bx m ..=>m)) s/\aC p.d (.int 2) s=ok (.int p.day) s:=by cases p<;>exact#[rfl,rfl]
def FI {p:Pg} {r:Env} {s:ai}:e2 aC (ae 0) (eC (.int 2)) (ϊ p.d::r) s=ok (.int p.day) s:=(ixP p s).2
def Bf (hl:ps.length<=1000):pN [bD ps,.int m,.int k,.int 0] s=ok (lI (shown ps m k)) s/\pN [bD ps,.int m,.int k,.int 1] s=ok (lI (jm ps m k)) s:=by
 have Y:(ps.map Pg.d).length<=1000000:=by rw[Ã];omega
 constructor
 .refine J4 (Hv (AU (ik rfl) Y (comp_map Pg.d (Dk m k) (λp=>.int p.day) ps λp X=>#[[ϊ p.d,ϊ (.int m),ϊ (.int k),ϊ (.int 0)],rfl,?_,λ_=>FI])) #[?_,rfl])
  .cases p with
   |made Z d h l=>exact(qj (gK (eG (x:=.str "made") mG)) (qj (gK (eG (tM Z m s))) (gK (eG (uz (ns:=h)))))).trans (by rw[Ï rfl];rfl)
   |bx Z d W=>exact Hu (gK (eG (x:=.str "mended") (mG.trans (by rw[ø Be]))))
  .erw[shown,lI,ï,ż]
 .refine J4 (Hv (AU (ik rfl) Y (comp_map Pg.d (Dl m k) (λp=>.int p.day) ps λp X=>#[[ϊ p.d,ϊ (.int m),ϊ (.int k),ϊ (.int 1)],rfl,?_,λ_=>FI])) #[?_,rfl])
  .cases p with
   |made Z d h l=>exact(qj (gK (eG (x:=.str "made") mG)) (qj (gK (eG (tM Z m s))) (gK (eG (uz (ns:=l)))))).trans (by rw[Ï rfl];rfl)
   |bx Z d W=>exact Hu (gK (eG (x:=.str "mended") (mG.trans (by rw[ø Be]))))
  .erw[jm,lI,ï,ż]
def Bg (hl:ps.length<=1000):tV [bD ps,.int m,.int k] s=ok (lI (f6 ps m k)) s:=by
 refine J4 (Hv (AU (ik rfl) (by rw[Ã];omega) (comp_map Pg.d (zS m k) (λp=>.int p.day) ps λp X=>#[[ϊ p.d,ϊ (.int m),ϊ (.int k)],rfl,?_,λ_=>FI])) #[?_,rfl])
 .cases p with
  |bx Z d Y=>exact(qj (gK (eG (x:=.str "mended") mG)) (qj (gK (eG (tM Z m s))) (gK (eG (tM Y k s))))).trans (by rw[Ï rfl];rfl)
  |made Z d h l=>exact Hu (gK (eG (x:=.str "made") (mG.trans (by rw[ø ZZ]))))
 .erw[f6,lI,ï,ż]
def gZ (h:n<=1000):n<=â:=le_size ⋯
def qk:ic (.int x) (lI ns) s=ok (.bl (ώ (x∈ns))) s:=by
 exact uz
def xc:fY (.int x) (lI ns) s=ok (.bl (!ώ (x∈ns))) s:=by
 exact D8
noncomputable def nD (ds:List Int) (a b:Int):Bool:=ds.any λx=>ώ (a<x)&&ώ (x<=b)
def M4 (hl:ds.length<=1000):wk [lI ds,.int a,.int b] s=ok (.bl (nD ds a b)) s:=by
 refine ahb ?_;delta wk;simp only[VC];refine aha (iK rfl) #[gZ (by rw[Ã];omega),?_];refine aha (iJ (λ_=>ό) (λx=>.bl (ώ (a<x)&&ώ (x<=b))) ds λn _=>#[[ϊ _,ϊ _,ϊ _],rfl,rfl,λ_=>?_]) ?_
 .refine ahb ?_
  simp only[VC]
  by_cases e:a<n<;>simp[e,aT,Bz,dE,dD]
 .rw[filter_tt]
  exact aha (NL ..) #[rfl,rfl]
def nU (ps:List Pg) (m k d l:Int):Bool:=(ώ (l∈jm ps m k)||(ώ (l=d)&&ώ (d∈f6 ps m k)))&&!nD (f6 ps m k) d l
noncomputable def qc (d:Int):List Int:=(Ô (31-d).toNat).map λi:Nat=>d+(i)
def ke (ps:List Pg) (m k:Int):List (Int×Int):=(iz (shown ps m k)).flatMap λd=>((qc d).filter (nU ps m k d)).map λl=>(d,l)
def xf {ps:List Pg} {f}:((ps.filter f).map Pg.day).length<=ps.length:=by rw[Ã];exact Ĵ ..
theorem og {α β:Type} {f:α->List β} {b}:∀{l:List α},(∀x∈l,(f x).length<=b)->(l.flatMap f).length<=l.length*b
 | [],_=>by simp
 |x::l,h=>by
  rw[List.flatMap_cons,Î,Ú,Nat.succ_mul];have Y:=h x Ë;have X:=og λy Z=>h y (Ì _ Z);omega
def Mt (d) (h:0<=d):(qc d).length<=31:=by delta qc;rw[Ã,Ŗ];omega
structure qy (ps:List Pg):Prop where
 len:ps.length<=24
 lo:∀p∈ps,0<=p.day/\p.day<31
def qy.of (h:qy ps) (hx:x∈(ps.filter f).map Pg.day):0<=x/\x<31:=by
 let(p,Z,rfl):=á.mp hx;exact h.lo p (î.mp Z).1
def VY {ps:List Pg} {m k:Int} {s:ai} (h:qy ps):wN [bD ps,.int m,.int k] s=ok (.lst ((ke ps m k).map λp=>D.tup [.int p.1,.int p.2])) s:=by
 have Y:=h.len;have W:(shown ps m k).length<=24:=Ó xf Y;have V:(jm ps m k).length<=24:=Ó xf Y;have U:(f6 ps m k).length<=24:=Ó xf Y;refine ahb ?_;delta wN;simp only[VC];refine aha (Bf ⋯).2 ?_;refine aha (Bg ⋯) ?_;rw[w9];have hs:bq (e1 kM (ak pN (af (ae 0) (af (ae 1) (af (ae 2) (af (eC (.int (0))) ah)))))) [ϊ (bD ps),ϊ (.int m),ϊ (.int k),ϊ (lI (jm ps m k)),ϊ (lI (f6 ps m k))] s=ok ((iz (shown ps m k)).map D.int) s:=by
  refine iK (ahb ?_);simp only[VC];refine aha (Bf ⋯).1 ?_;refine aha (show kM (lI (shown ps m k)) s=ok (lI (iz (shown ps m k))) s from ?_) #[rfl,rfl];delta kM;erw[t9];rw[õ (by have:=Ef (shown ps m k);rw[Æ];omega)]
 refine aha hs ?_;have day:∀d∈iz (shown ps m k),0<=d/\d<31:=λd Z=>h.of (lH.mp Z);refine aha (mZ D.int (λ_=>ό) (λd=>((qc d).filter (nU ps m k d)).map λl=>D.tup [.int d,.int l]) _ λd Z=>#[[ϊ (.int d),ϋ,ϊ (lI (jm ps m k)),ϊ (lI (f6 ps m k))],rfl,rfl,λ_=>?_]) ?_
 .have Z:=day d Z
  delta more;rw[Bx (i:=d) (j:=31) rfl ⋯ ⋯ ⋯ ⋯,bH];have X:bL d (31-d).toNat=(qc d).map D.int:=by delta qc;rw[Bd,ï];rfl
  rw[X];rw[mZ D.int (nU ps m k d) (λl=>[D.tup [.int d,.int l]]) (qc d) λl Y=>#[[ϊ (.int d),ϊ (.int l),ϊ (lI (jm ps m k)),ϊ (lI (f6 ps m k))],rfl,?_,λ_=>?_]]
  .rw[<- afa]
  .exact qj (IG (gK (eG qk)) (qj (gK (eG (tM l d s))) (gK (eG qk)))) (adh (BZ (pC (M4 ⋯))))
  .refine ahb ?_
   delta emit;rw[bI];simp only[VC];exact#[by decide,trivial]
 .rw[filter_tt]
  refine#[?_,?_,rfl]
  .refine gZ (Ó (og (b:=31) λd Z=>?_) ?_)
   .rw[Ã]
    exact Ó (Ĵ _ _) (Mt d (day d Z).1)
   .have:=Ef (shown ps m k)
    have:(iz (shown ps m k)).length<=24:=by omega
    omega
  .delta ke
   erw[Ų,ï,ż]
noncomputable def m4:List Int:=(Ô 4).map λi:Nat=>(i)
noncomputable def k8:List Int:=(Ô 8).map λi:Nat=>(i)
def fE (ps:List Pg):List (Int×Int×Int×Int):=m4.flatMap λm=>k8.flatMap λk=>(ke ps m k).map λp=>(m,k,p.1,p.2)
noncomputable def fD (p:Int×Int×Int×Int):D:=.tup [.int p.1,.int p.2.1,.int p.2.2.1,.int p.2.2.2]
def M5 (h:qy ps) (m k):(ke ps m k).length<=744:=by
 have Y:(shown ps m k).length<=24:=Ó xf h.len;have:=Ef (shown ps m k);refine Ó (og (b:=31) λd Z=>?_) ⋯;rw[Ã];exact Ó (Ĵ ..) (Mt d (h.of (lH.mp Z)).1)
def M6 (h:qy ps):wB [bD ps] s=ok (.lst ((fE ps).map fD)) s:=by
 refine ahb ?_;delta wB;erw[iB,iM,kc,Ü,Ŋ,č,ĥ,Ú,Ċ,Ñ,afw,Nat.reduceSub,Nat.reduceAdd];rw[w9];refine aha (eQ rfl (by decide)) ?_;have W:bL 0 4=m4.map _:=rfl;have Z:bL 0 8=k8.map _:=rfl;refine aha (mZ _ (λ_=>ό) (λm=>k8.flatMap λk=>(ke ps m k).map λp=>fD (m,k,p.1,p.2)) m4 λm Y=>#[_,rfl,rfl,λ_=>?_]) ?_
 .delta more
  rw[eQ rfl (by decide),bH,Z];rw[mZ _ (λ_=>ό) (λk=>(ke ps m k).map λp=>fD _) k8 λk X=>#[[ϊ _,ϊ _,ϋ,ϋ,ϊ _],rfl,rfl,λ_=>?_]]
  .rw[filter_tt]
  .have hi:bq (ak wN (af (ae 4) (af (ae 0) (af (ae 1) ah)))) [ϊ (.int m),ϊ (.int k),ϋ,ϋ,ϊ (bD ps)] s=ok ((ke ps m k).map λp=>D.tup [.int p.1,.int p.2]) s:=by
    refine iK (ahb ?_);simp only[VC];exact aha (VY h) #[rfl,rfl]
   rw[hi,bH];rw[mZ (λp=>D.tup _) (λ_=>ό) (λp=>[fD _]) _ λp V=>#[_,rfl,rfl,λ_=>?_]]
   .rw[filter_tt,<- afa]
   .refine ahb ?_
    delta emit;rw[bI];simp only[VC];exact#[by decide,rfl,trivial]
 .rw[filter_tt]
  refine#[?_,?_,rfl]
  .refine le_size (Ó (og (b:=8*744) λm Y=>?_) (by decide))
   refine Ó (og (b:=744) λk X=>?_) (by decide);rw[Ã];exact M5 h m k
  .delta fE
   erw[Ų,ï,ż]
def fq (ps:List Pg):Bool:=i6 ps&&(fE ps).isEmpty
def AK (h:i6 ps=ό):qy ps:=by
 delta i6 at h;erw[Ç,Æ,Ĉ] at h;refine#[h.1,λp Z=>?_];have:=h.2.1 p Z
 cases p<;>erw[dg,jx,Ç,Æ] at this<;>exact this.1.2
def OK (hl:ps.length<=1000) (hf:∀p∈ps,jT p):AE [bD ps] s=ok (.bl (fq ps)) s:=by
 refine ahb ?_;delta AE;simp only[VC];refine aha (OJ hl hf) ?_;simp only[VC];delta fq
 cases h:i6 ps with
 |false=>simp
 |true =>
  delta Hb;simp only[VC,bI];refine aha (M6 (AK h)) ?_;refine aha (rfl) ?_;erw[aT];refine#[?_,trivial]
  cases fE ps<;>rfl
def xJ:m∈m4↔0<=m/\m<4:=by
 delta m4;rw[á];constructor
 .rintro ⟨i,hi,rfl⟩
  have:=é.mp hi;omega
 .rintro ⟨Z,Y⟩
  exact#[m.toNat,é.mpr ⋯,by omega]
def m7:m∈k8↔0<=m/\m<8:=by
 delta k8;rw[á];constructor
 .rintro ⟨i,hi,rfl⟩
  have:=é.mp hi;omega
 .rintro ⟨Z,Y⟩
  exact#[m.toNat,é.mpr ⋯,by omega]
def YB (h:fq ps=ό) (hm:0<=m/\m<4) (hk:0<=k/\k<8) (hd:d∈shown ps m k) (h1:d<=l) (h2:l<31):nU ps m k d l=ύ:=by
 delta fq at h;rw[Ç,List.isEmpty_iff] at h
 cases Z:nU ps m k d l with
 |false=>rfl
 |true =>
  have Y:(d,l)∈ke ps m k:=by
   refine Ő.mpr #[d,lH.mpr hd,á.mpr #[l,î.mpr #[?_,Z],rfl]];exact á.mpr #[(l-d).toNat,é.mpr ⋯,by omega]
  have:(m,k,d,l)∈fE ps:=Ő.mpr #[m,xJ.mpr hm,Ő.mpr #[k,m7.mpr hk,á.mpr #[_,Y,rfl]]];rw[h.2] at this;cases this
section
variable (s l m:Nat->Bool)
noncomputable def pr:Nat->Bool
 |0=>s 0
 |d+1=>s (d+1)||(pr d&&!m (d+1))
noncomputable def tN:Nat->Bool
 |0=>ύ
 |n+1=>(tN n||l (30-n))&&!m (30-n)
def br (d:Nat):Bool:=tN l m (31-d)
def ab (d:Nat):Bool:=br l m (d+1)||(l d||m d)
def adi (h:d<=30):br l m d=((br l m (d+1)||l d)&&!m d):=by
 delta br;have e1:31-d=(30-d)+1:=by omega
 have e2:31-(d+1)=30-d:=by omega
 rw[e1,e2];erw[tN];rw[show 30-(30-d)=d by omega]
def ah4:br l m 31=ύ:=rfl
noncomputable def f0 (d:Nat):Bool:=!s d
noncomputable def t0 (d:Nat):Bool:=!m d&&!l d
def Bh:Prop:=∀d e,s d=ό->d<=e->e<=30->(l e=ό\/(e=d/\m d=ό))->∃x,d<x/\x<=e/\m x=ό
variable {s l m}
theorem GH:∀{d},pr s m d=ό↔∃e,e<=d/\s e=ό/\∀x,e<x->x<=d->m x=ύ
 |0=>by
  erw[pr];constructor
  .intro h;exact#[0,ahd _,h,λx Y Z=>by omega]
  .intro zz;let(e,Y,Z,_):=zz
   have:e=0:=by omega
   rw[<- this];exact Z
 |d+1=>by
  erw[pr,afV,Ç,Ĕ];rw[GH];constructor
  .rintro (h | ⟨⟨e,Y,Z,X⟩,V⟩)
   .exact#[_,ahd _,h,λx Y Z=>by omega]
   .refine#[e,by omega,Z,λx W U=>?_]
    by_cases T:x=d+1
    .rw[T];exact V
    .exact X x W ⋯
  .intro zz;let(e,Y,Z,X):=zz
   by_cases S:e=d+1
   .left;rw[<- S];exact Z
   .right
    exact#[#[e,by omega,Z,λx W U=>X x W ⋯],X _ ⋯ (ahd _)]
def adj:∀{n},n<=31->br l m (31-n)=ό->∃e,31-n<=e/\e<=30/\l e=ό/\∀x,31-n<=x->x<=e->m x=ύ:=by
 intro n
 induction n with
 |zero=>intro _ h;cases h
 |succ n ih =>
  intro T h;have e1:31-(n+1)+1=31-n:=by omega
  rw[adi l m ⋯,e1,Ç,afV,Ĕ] at h
  rcases h.1 with h1|h1
  .let(e,S,Y,X,W):=ih ⋯ h1
   refine#[e,by omega,Y,X,λx V Z=>?_];by_cases U:x=31-(n+1)
   .rw[U];exact h.2
   .exact W x ⋯ Z
  .refine#[_,ahd _,by omega,h1,λx V Z=>?_]
   rw[show x=31-(n+1) by omega];exact h.2
section
variable (N:Bh s l m)
include N
def adk (hd:d<=30) (h:pr s m d=ό):t0 l m d=ό:=by
 let(e,T,Y,X):=GH.mp h;delta t0;rw[Ç,Ĕ];constructor
 .cases Z:m d with
  |false=>rfl
  |true =>
   by_cases S:e=d
   .subst S
    let(x,W,V,_):=N e e Y (ahd _) hd (.inr #[rfl,Z]);omega
   .have:=X d ⋯ (ahd _)
    rw[this] at Z;cases Z
 .cases R:l d with
  |false=>rfl
  |true =>
   let(x,W,V,U):=N e d Y T hd (.inl R);rw[X x W V] at U;cases U
def adl (hd:d<=30) (h:pr s m d=ό):ab l m d=ύ:=by
 have Z:=adk N hd h;delta t0 at Z;rw[Ç,Ĕ,Ĕ] at Z;delta ab;rw[Z.1,Z.2]
 cases X:br l m _ with
 |false=>rfl
 |true =>
  have W:br l m (31-(30-d))=ό:=by rw[show 31-(30-d)=d+1 by omega];exact X
  let(e,M,V,U,T):=adj ⋯ W;let(c,L,S,R):=GH.mp h;let(x,Q,P,Y):=N c e S ⋯ V (.inl U);by_cases O:x<=d
  .rw[R x Q O] at Y;cases Y
  .rw[T x ⋯ P] at Y;cases Y
end
end
theorem OL:∀{ns},rise ns=ό->ns.Pairwise (· < ·)
 | [],_=>.nil
 | [a],_=>by simp
 |a::b::r,h=>by
  erw[rise,Ç,Æ] at h;have ih:=OL h.2;refine û.mpr #[λx hx=>?_,ih]
  rcases Ð.mp hx with rfl|hx
  .exact h.1
  .have:=(û.mp ih).1 x hx
   omega
def tZ (h:kP ns=ό):cf 8 ns:=by
 delta kP at h;rw[Ç,Ĉ] at h;refine#[λx Z=>?_,OL h.2];have:=h.1 x Z;delta markB at this;erw[Ç,Æ] at this;exact this
def t6 (h:cf n ns) (hn:n<=8):kP ns=ό:=by
 delta kP;rw[Ç,Ĉ];refine#[λx Z=>?_,OF h.up];have:=h.lo x Z;delta markB;erw[Ç,Æ];omega
theorem cf.filter (h:cf n ns) (p):cf n (ns.filter p):=#[λx Z=>h.lo x (î.mp Z).1,h.up.filter p]
def Ep (hm:0<=m/\m<4) (hd:0<=d/\d<31) (hk:0<=k/\k<8):dg (.bx m d k)=ό:=by
 erw[dg,i4,jx,markB,Ç,Æ];omega
def Er (hm:0<=m/\m<4) (hd:0<=d/\d<31) (h1:cf n h) (h2:cf n l) (hn:n<=8) (ha:∀x∈h,x∉l):dg (.made m d h l)=ό:=by
 erw[dg,i4,jx,Ç,Æ,gB,Ĕ,Ž];exact#[#[hm,hd],t6 h1 hn,t6 h2 hn,ha]
def Es (h:dg p=ό):jT p:=by
 cases p with
 |made m d Z l =>
  erw[dg,Ç] at h;exact#[by have:=(tZ h.2.1).len;omega,by have:=(tZ h.2.2.1).len;omega]
 |bx m d k=>trivial
def jE (W:ģ) (R:Pg->Prop) (s:ai) (j n:Nat):Prop:=∃Z:List Pg,s[j]?=ϊ (.dT (Z.map λp=>(p.d,hs W p.d)))/\(Z.Nodup/\∀p∈Z,R p)/\Z.length<=n
def jE.lt (h:jE W R s j n):j<s.length:=by
 let(Z,e,_):=h;exact(Ä.mp e).1
def jE.ex (h:jE W R s j n) (x:Ex k s s') (hj:j≠k):jE W R s' j n:=by
 have Z:=h.lt;let(Y,e,r):=h;exact#[Y,(x.val j Z hj).trans e,r]
def jE.more (h:jE W R s j n) (hm:n<=m):jE W R s j m:=by
 let(Z,e,r,l):=h;exact#[Z,e,r,by omega]
def Ex.qR (h:Ex k s s') (hj:s.length<=j) (c):Ex k s (s'.set j c) :=
 #[by rw[Ĥ];exact h.len,λi hi Z=>by rw[í ⋯];exact h.val i hi Z]
def jI (p:Pg):∃ks,p.d=.tup ks/\dP ks=ό/\dB ks<=6:=by
 have Z:=lT p;have Y:=Gi p;let(x,r,e):=ND p;rw[e] at Z Y;erw[kd,dep] at Z Y;exact#[_,e,Z,by omega]
def PV (W) (ps:List Pg):(ps.map λp=>(p.d,hs W p.d)).all (keyOk W)=ό:=by
 rw[agr,Ĉ];intro p _;let(X,e,Z,Y):=jI p;erw[Function.comp,keyOk];rw[e];erw[Z,Ï Y,agX,ķ]
def PX (h:jE W R s j n) (hf:R p) (hn:n<1000):∃c,l6 W (.aw j) p.d (.bl ό) s=ϊ (s.set j c)/\jE W R (s.set j c) j (n+1):=by
 have T:=h.lt;let(Z,e,X,len):=h;let(Q,V,P,O):=jI p;have S:=PV W Z;generalize Y:(Z.map λp=>(p.d,hs W _))=U at e S;have K:U.length=Z.length:=by rw[<- Y,Ã]
 refine#[.dT (TK.gH W U (.tup Q)),?_,?_]
 .rw[V]
  delta l6;erw[e];rw[P,Ï O,S,Ï (È (show U.length<1000 by omega) (le_size (by decide)))];rfl
 .delta TK.gH
  split
  .exact#[Z,by rw[Y];exact ñ T,X,by omega]
  .rename_i N
   refine#[Z++[p],?_,#[afv.mpr #[X.1,by simp,λa M b L=>?_],λq hq=>?_],by simp;omega]
   .rw[ñ T,ā,Y]
    erw[Ü,Ŋ,V]
   .rw[Ø.mp L]
    rintro rfl;refine N (ĸ.mpr #[(a.d,hs W a.d),?_,?_])
    .rw[<- Y];exact á.mpr #[a,M,rfl]
    .rw[<- V];exact(uG _ _ (lT a) (lT a)).mpr rfl
   .rcases Û.mp hq with hq|hq
    .exact X.2 q hq
    .rw[Ø.mp hq];exact hf
def FJ:Wp (jO W f fo fi env s) QF=Wp (f env s) λx s=>Wp (fo env s) λd s=>Wp (fi env s) λn s=>∃s',l6 W d n x s=ϊ s'/\QF (.nx env) s':=by
 delta jO;erw[bI];congr 1;funext x s;congr 1;funext d s;congr 1;funext n s
 cases l6 W d n x s with
 |none=>exact propext #[λ⟨_,_,e,_⟩=>(by cases e),λ⟨_,e,_⟩=>(by cases e)]
 |some s'=>exact propext #[λh=>#[s',rfl,by simpa only [aT] using h],λ⟨t,e,h⟩=>by cases e;simpa only [aT] using h]
def Z1:Wp (ye env s) Q=Q (.aw s.length) (s++[.dT []]):=by delta ye;rw[aT]
theorem OM:∀{ps},ps.Pairwise (λa b=>fc.lt a b=ό)->va ps=ό
 | [],_=>rfl
 | [a],_=>rfl
 |a::b::r,h=>by
  let(Z,Y):=û.mp h;have ih:=OM Y;delta va at ih |-;erw[agY,afD,ļ,List.all_cons,Ç] at ih |-;exact#[Z b Ë,ih]
def EX (h:ps.Nodup):(ST.gf fc ps).Pairwise λa b=>fc.lt a b=ό:=by
 have Y:=ST.wX (O:=fc) ps;have X:(ST.gf fc ps).Nodup:=(ST.jF ps).nodup_iff.mpr h;refine(Y.and X).imp λ{a b} Z=>?_
 cases W:fc.lt a b with
 |true=>rfl
 |false=>exact(Z.2 (fc.nO a b W Z.1)).elim
def Z2 (h:jE W R s j n) (hn:n<64) (hj:env[1]?=ϊ (ϊ (.aw j)))
 (q:∀ps,(∀p∈ps,R p)->ps.length<=n->(ps.Pairwise λa b=>fc.lt a b=ό)->Q (bD ps) s):Wp (eB cG (af (eB ka (af (eB mY (af (ae 1) ah)) ah)) ah) env s) Q:=by
 let(ps,e,Z,len):=h;have e1:ae 1 env s=ok (.aw j) s:=by delta ae;rw[hj]
 have e2:mY [.aw j] s=ok (.lst (ps.map Pg.d)) s:=by
  delta mY;erw[e];rw[õ (by rw[Ã];exact gZ ⋯),ï];rfl
 have Y:ka [.lst (ps.map Pg.d)] s=ok (.lst ((ST.gf fc ps).map Pg.d)) s:=by
  delta ka;erw[res];rw[õ (by rw[Ã];omega),AR Z.1];rfl
 erw[kj,bz,bQ];refine aha e1 (aha e2 (aha Y ?_));refine aha (rfl) (q _ (λp X=>Z.2 p ((ST.jF ps).mem_iff.mp X)) (by rw[(ST.jF ps).length_eq];exact len) (EX Z.1))
def Wp.Hw (h:Wp (fa env s) λds s=>∃x y z,ds=[x,y,z]/\QF (.nx (((env.set i (ϊ x)).set j (ϊ y)).set k (ϊ z))) s):Wp (yz i j k fa env s) QF:=by
 refine Wp.aq (h.mono λds s ⟨x,y,z,e,q⟩=>?_);subst e;exact Wp.ok q
def adm (h0:0<=i) (h1:i<xs.length):∃x∈xs,aC (lI xs) (.int i) s=ok (.int x) s:=by
 let(x,e1,e2):=uN h0 h1;refine#[x,ö e2,?_];erw[aC,iU,res,lI,Ba,e1,ž,bU]
abbrev Dm (p:Pg):Prop:=dg p=ό
structure Laid (ps:List Pg):Prop where
 pg:∀p∈ps,dg p=ό
 up:ps.Pairwise λa b=>fc.lt a b=ό
theorem Laid.i6 (h:Laid ps) (hl:ps.length<=24):i6 ps=ό:=by
 delta DI.i6;rw[Ï hl,Ĉ.mpr h.pg,OM h.up];rfl
def ON {W:ģ} {f fo fi:ag9 D} {env:Env} {s s':ai} {x d n:D} {QF:Fl->ai->Prop} (h1:f env s=ok x s) (h2:fo env s=ok d s) (h3:fi env s=ok n s) (h:l6 W d n x s=ϊ s') (q:QF (.nx env) s'):Wp (jO W f fo fi env s) QF:=by
 rw[FJ];exact aha h1 (aha h2 (aha h3 #[s',h,q]))
def W4 (h:bo s k) (hd:jE W Dm s j n) (iX:j≠k) (hn:n<1000) (m1:0<mo) (m2:mo<=4) (l1:0<la) (l2:la<=31) (s1:0<ms) (s2:ms<=4)
 (q:∀(b5 b6 b7 b8 b9:Option D) (s':ai),bo s' k->jE W Dm s' j (n+1)->(∀s0,s0.length<=j->Ex k s0 s->Ex k s0 s')->Q (.nx [ϊ (.aw k),ϊ (.aw j),ϊ (.int mo),ϊ (.int la),ϊ (.int ms),b5,b6,b7,b8,b9]) s') :
  Wp ((ay (vv 6 7 (af (ak bC (af (ae 0) (af (ae 2) ah))) (af (ak bC (af (ae 0) (af (ae 3) ah))) ah))) (bO (aU (e2 cu (ak bC (af (ae 0) (af (eC (.int 4)) ah))) (eC (.int 0)))) (TK.jO W (eC (.bl ό)) (ae 1) (bp (af (eC (.str "mended")) (af (ae 6) (af (ae 7) (af (ak bC (af (ae 0) (af (ae 4) ah))) ah)))))) (ay (aM (ak j7 (af (ae 0) (af (ae 4) ah))) (gN 8)) (ay (aM (eB cG (af (aQ 1 [8] (bq (ak j7 (af (ae 0) (af (ae 4) ah)))) (gN 0) (aU (e2 fY (ae 0) (ae 1))) (ae 0)) ah)) (gN 9)) (TK.jO W (eC (.bl ό)) (ae 1) (bp (af (eC (.str "made")) (af (ae 6) (af (ae 7) (af (bp (af (ae 8) (af (ae 9) ah))) ah)))))))))) [ϊ (.aw k),ϊ (.aw j),ϊ (.int mo),ϊ (.int la),ϊ (.int ms),a5,a6,a7,a8,a9] s) Q:=by
 refine ahc λR H=>?_;rw[xm,bz];refine kQ h m1 ⋯ λN t1 t G e1=>?_;rw[bz];refine kQ G l1 ⋯ λM r o F e2=>bQ ▸ #[_,_,rfl,?_];rw[fZ];subst H;refine adg (B7 (kQ F (m:=4) (by decide) (by decide) λl t3 _ L U=>#[_,rfl,_,rfl,?_]));have K:=hd.ex (e1.trans (e2.trans U)) iX;split
 .rw[FJ]
  refine aha rfl (aha rfl (abG (kQ L (m:=ms) s1 ⋯ λE C B T Z=>?_)));let(c,S,P):=PX (p:=.bx N M E) (K.ex Z iX) (Ep ⋯ ⋯ ⋯) hn;exact#[_,S,q _ _ _ _ _ _ (T.set iX c) P λs0 O x0=>(x0.trans (e1.trans (e2.trans (U.trans Z)))).qR O c]
 .obtain⟨X,rfl⟩:∃X:Nat,ms=X:=#[ms.toNat,by omega]
  let(_,C,A,Y,rfl,z,T,Z):=w6 (n:=X) L ⋯;let(_,i,y,V,rfl,J,w,I):=w6 (n:=X) T ⋯;have l2:=J.len;have g:(V.filter λx=>!ώ (x∈Y)).length<=8:=Ó (Ĵ _ _) ⋯;let(c,S,P):=PX (p:=.made N M Y (V.filter λx=>!ώ (x∈Y))) (K.ex (Z.trans I) iX) (Er ⋯ ⋯ z (J.filter _) ⋯ λx v u=>by simpa [v] using (î.mp u).2) hn;refine i5 (pC A) (i5 (J3 (ik (ds:=V.map D.int) (pC y)) (by rw[Ã];omega) (iJ (λx=>!ώ (x∈Y)) (λx=>.int x) V λx _=>#[[ϊ (.int x),ϊ (mD Y)],rfl,gK (eG D8),λ_=>rfl])) ?_);exact ON rfl rfl (Dj rfl Td) S (q _ _ _ _ _ _ (w.set iX c) P λs0 O x0=>(x0.trans (e1.trans (e2.trans (U.trans (Z.trans I))))).qR O c)
def Z3 (h:bo s k):Wp (xl W [.aw k] s) λd s'=>∃ps,d=bD ps/\(∀p∈ps,jT p)/\ps.length<=24/\bo s' k/\Ex k s s'/\Laid ps:=by
 have c:=h.lt;have X:s.length≠k:=by omega
 have E:jE W Dm (s++[.dT []]) s.length 0:=#[[],by simp,#[.nil,λ_ h=>(ü h).elim],ahd _];delta xl;refine iB.symm ▸ #[rfl,i5 (s':=s++[.dT []]) rfl (ahc λR D=>Wp.Hw ?_)];rw[bz,fm];refine aha rfl (kQ (h.app _) (m:=2) (by decide) (by decide) λC t1 b B e1=>aha (vD _ _ _) ?_);rw[bz,fm];refine aha (show _=ok (lI [3,8,31]) t1 from rfl) (kQ B (m:=3) (by decide) (by decide) λa A K z e2=>?_);let(V,J,U):=adm (xs:=[3,8,31]) (s:=A) K.1 (by simpa using K.2);refine aha U ?_;rw[bz,fm];refine aha rfl (kQ z (m:=4) (by decide) (by decide) λy t3 x w I=>aha (vD _ _ _) (aha rfl #[_,_,_,rfl,?_]));rw[fZ];subst D;have H:0<V/\V<=31:=by
  erw[Ð,ü,or_false] at J
  rcases J with rfl|rfl|rfl<;>decide
 have v:=E.ex (e1.trans (e2.trans I)) X;have ext:Ex k s t3:=(Ex.app k s _).trans (e1.trans (e2.trans I));let(d4,u,t,T,rfl,r,q,o,G):=j8 (m:=25) w (by decide) (by decide);have S:=v.ex G X;have Q:=ext.trans G;refine uQ (xn (s1:=u) (n:=T.toNat) (i:=T) (a1E (pC t)) ⋯ ⋯) ?_;refine Wp.jw (λi env s'=>i<=T.toNat->∃P O N M L,env=[ϊ (.aw k),ϊ (.aw s.length),ϊ (.int (1+C)),ϊ (.int V),ϊ (.int (1+y)),P,O,N,M,L]/\bo s' k/\jE W Dm s' s.length i/\Ex k s s') _ (λ_=>#[_,_,_,_,_,rfl,o,S,Q]) (λi d env s' Z Y=>?_) (λenv s' Y=>?_)
 .rw[iL] at Z
  split at Z
  .rename_i hi
   cases Z;let(P,O,N,M,L,rfl,g1,g2,g3):=Y ⋯;refine#[_,rfl,?_];exact W4 g1 g2 X ⋯ ⋯ ⋯ H.1 H.2 ⋯ ⋯ λc5 c6 c7 c8 c9 s2 l j g=>(λ_=>#[_,_,_,_,_,rfl,l,j,g s (ahd _) g3])
  .cases Z
 .rw[fC] at Y
  let(P,O,N,M,L,rfl,g1,g2,g3):=Y (ahd _);erw[iM,fZ,kc];exact Z2 (g2.more (m:=24) ⋯) (by decide) rfl λps F f e=>#[ps,rfl,λp h=>Es (F p h),f,g1,g3,F,e]
noncomputable def memD (b:Nat):D:=.lst ((Ô 8).map λi=>D.aw (b+i))
def PY (h0:0<=i) (h1:i<8):aC (memD b) (.int i) s=ok (.aw (b+i.toNat)) s:=by
 let(x,e1,e2):=uN (xs:=(Ô 8).map λi=>D.aw (b+i)) h0 (by simpa using h1);have:=by
  rw[Þ,Ł ⋯] at e2;exact(ahe e2).symm
 subst this;erw[aC,iU,res,memD,e1,bU]
def Z4 (q:Q (memD s.length) (s++Ñ 8 (.lst []))):Wp (aQ 1 [] (bT (af (eC (.int 8)) ah)) (gN 0) bu (eNew ah) env s) Q:=by
 rw[iN];refine aha (eQ rfl (by decide)) #[by exact le_size (by decide),?_];refine uy (λi Z Y=>Z=(Ô i).map (λx=>D.aw (s.length+x))/\Y=s++Ñ i (.lst [])) _ #[rfl,by simp] (λi d Z Y X W=>?_) λZ Y W=>?_
 .let(rfl,rfl):=W
  rw[iL] at X;split at X
  .refine#[_,rfl,?_]
   refine aha (rfl) ?_;erw[rN,bQ];refine#[by decide,?_,?_]
   .rw[af2]
    simp
   .rw[List.replicate_succ',Ö]
  .cases X
 .let(rfl,rfl):=W
  exact q
section
variable (ps:List Pg) (m k:Int)
def sN (d:Nat):Bool:=ώ ((d:Int)∈shown ps m k)
def lN (d:Nat):Bool:=ώ ((d:Int)∈jm ps m k)
def mN (d:Nat):Bool:=ώ ((d:Int)∈f6 ps m k)
def fT:List Int:=((Ô 31).filter λd=>pr (sN ps m k) (mN ps m k) d).map λd:Nat=>(d)
def eI:List Int:=((Ô 31).filter λn=>ab (lN ps m k) (mN ps m k) (30-n)).map λn=>((30-n:Nat))
end
def Z5 (h:fq ps=ό) (hm:0<=m/\m<4) (hk:0<=k/\k<8):Bh (sN ps m k) (lN ps m k) (mN ps m k):=by
 intro d e hs Y T Z;erw[sN,lN,mN,Æ] at hs Z;have c:=YB h hm hk hs (l:=(e)) ⋯ ⋯;delta nU at c;have X:(ώ ((e:Int)∈jm ps m k)||(ώ ((e)=(d:Int))&&ώ ((d:Int)∈f6 ps m k)))=ό:=by
  rcases Z with Z | ⟨S,W⟩
  .rw[Ï Z];rfl
  .rw[Ï (show (e:Int)=d by omega),Ï W];simp
 rw[X,agJ,af0] at c;let(x,V,U):=ĸ.mp c;erw[Ç,Æ] at U;refine#[x.toNat,by omega,by omega,?_];erw[mN,Æ];rw[show ((x.toNat))=x by omega];exact V
def Z6 {d:Nat} (h:d<=30):ώ ((d:Int)∈fT ps m k)=pr (sN ps m k) (mN ps m k) d:=by
 have:(d:Int)∈fT ps m k↔pr (sN ps m k) (mN ps m k) d=ό:=by
  delta fT;rw[á];constructor
  .rintro ⟨e,Y,X⟩
   have:e=d:=by omega
   rw[<- this];exact(î.mp Y).2
  .intro Z
   exact#[d,î.mpr #[é.mpr ⋯,Z],rfl]
 cases Z:pr _ _ d with
 |true=>exact Ï (this.mpr Z)
 |false=>exact ø λz=>by rw[this.mp z] at Z;cases Z
def Z7 {d:Nat} (h:d<=30):ώ ((d:Int)∈eI ps m k)=ab (lN ps m k) (mN ps m k) d:=by
 have:(d:Int)∈eI ps m k↔ab (lN ps m k) (mN ps m k) d=ό:=by
  delta eI;rw[á];constructor
  .rintro ⟨e,Y,W⟩
   let(V,X):=î.mp Y;have:30-e=d:=by omega
   rw[<- this];exact X
  .intro Z
   exact#[30-d,î.mpr #[é.mpr ⋯,by rw[show 30-(30-d)=d by omega];exact Z],by omega]
 cases Z:ab _ _ d with
 |true=>exact Ï (this.mpr Z)
 |false=>exact ø λz=>by rw[this.mp z] at Z;cases Z
def Z8 {s:ai} {ns:List Int} {x} (hn:ns.length<1000):iE (.aw s.length) (s++[.lst (ns.map D.int)])=ό/\ja (.aw s.length) (.int x) (s++[.lst (ns.map D.int)])=ok .aD (s++[.lst ((ns++[x]).map D.int)]):=by
 have e:(s++[Cell.lst (ns.map D.int)])[s.length]?=ϊ (.lst (ns.map D.int)):=by simp
 refine#[by erw[iE,e],?_];delta ja;erw[e];rw[õ (by rw[Æ,Ã];exact È hn (le_size (by decide)))];simp[agv]
def OO {s:ai} {ns}:cE (.aw s.length) (s++[.lst (ns.map D.int)])=ok (lI ns) (s++[.dead]):=by
 have e:(s++[Cell.lst (ns.map D.int)])[s.length]?=ϊ (.lst (ns.map D.int)):=by simp
 erw[cE,e];simp[agv]
def Mu {f:Nat->Int} {i}:((Ô (i+1)).filter p).map f=((Ô i).filter p).map f++(if p i=ό then [f i] else []):=by
 rw[af2,List.filter_append]
 cases h:p i<;>simp[h]
def M7 {f:Nat->Int} {i}:(((Ô i).filter p).map f).length<=i:=by
 rw[Ã];exact Ó (Ĵ ..) (by rw[Ŗ];exact ahd _)
def pv (s m:Nat->Bool):Nat->Bool
 |0=>ύ
 |i+1=>pr s m i
def Q3 {env:Env} {s:ai} {ft:ag9 Bool} {f1 f2:ag9 D} {u:Bool} {x:Int} {ns:List Int} {Q:Fl->ai->Prop} (hn:ns.length<1000) (hc:ft env (s++[.lst (ns.map D.int)])=ok u (s++[.lst (ns.map D.int)])) (q:Q (.nx env) (s++[.lst ((ns++if u=ό then [x] else []).map D.int)]))
  (h1:f1 env (s++[.lst (ns.map D.int)])=ok (.aw s.length) (s++[.lst (ns.map D.int)]):=by rfl) (h2:f2 env (s++[.lst (ns.map D.int)])=ok (.int x) (s++[.lst (ns.map D.int)]):=by rfl):Wp (bO ft (cJ (gj f1 f2)) bY env (s++[.lst (ns.map D.int)])) Q:=by
 rw[lR,hc,aT]
 cases u with
 |true =>
  rw[õ rfl];let(a,b):=Z8 (s:=s) (x:=x) hn;exact B0 h2 a b q h1
 |false =>
  rw[ÿ è,oo];rw[ÿ è,ĕ] at q;exact q
def VZ (hl:ps.length<=1000):DA [bD ps,.int m,.int k] s=ok (lI (fT ps m k)) (s++[.dead]):=by
 refine ahb (iB.symm ▸ #[rfl,?_]);refine i5 (pC (Bf hl).1) (i5 (pC (Bg hl)) (i5 (s':=s++[.lst []]) rfl (i5 rfl (uQ (eQ (n:=31) rfl (by decide)) ?_))));refine Wp.jw (λi env s'=>i<=31->∃X,env=[ϊ (bD ps),ϊ (.int m),ϊ (.int k),ϊ (lI (shown ps m k)),ϊ (lI (f6 ps m k)),ϊ (.aw s.length),ϊ (.bl (pv (sN ps m k) (mN ps m k) i)),X]/\s'=s++[.lst ((((Ô i).filter λd=>pr (sN ps m k) (mN ps m k) d).map λd:Nat=>(d:Int)).map D.int)]) _ (λ_=>#[_,rfl,rfl]) (λi d env s' Z Y=>?_) (λenv s' Y=>?_)
 .rw[iL] at Z
  split at Z
  .rename_i hi
   cases Z;let(X,rfl,rfl):=Y ⋯;rw[Ÿ];have key:(ώ ((i:Int)∈shown ps m k)||(pv (sN ps m k) (mN ps m k) i&&!ώ ((i:Int)∈f6 ps m k)))=pr (sN ps m k) (mN ps m k) i:=by
    cases i with
    |zero=>simp[pv,pr,sN]
    |succ i=>rfl
   exact#[_,rfl,i5 (Te (eG qk) (RJ rfl (eG xc))) (Q3 (ŭ M7 ⋯) (BZ rfl) λ_=>#[ϊ (.int i),by rw[key];rfl,by rw[Mu,key]])]
  .cases Z
 .rw[fC] at Y
  let(X,rfl,rfl):=Y (ahd _);simp only[VC];exact aha OO #[rfl,rfl]
noncomputable def downs:List D:=(Ô 31).map λn=>D.int ((30-n:Nat))
def abJ:wa (af (eC (.int 31)) ah) env s=ok downs s:=by
 have:(bL 0 31).reverse=downs:=by rfl
 rfl
def W5:downs[i]?=if i<31 then ϊ (.int ((30-i:Nat))) else ϋ:=by
 delta downs;rw[Þ];by_cases h:i<31
 .rw[õ h,Ł h];rfl
 .rw[ÿ h,Ġ (by simpa using h)];rfl
abbrev J5 (ps:List Pg) (m k:Int) (i:Nat):List Int:=((Ô i).filter λn=>ab (lN ps m k) (mN ps m k) (30-n)).map λn=>((30-n:Nat))
def W6 (hl:ps.length<=1000):DD [bD ps,.int m,.int k] s=ok (lI (eI ps m k)) (s++[.dead]):=by
 refine ahb (iB.symm ▸ #[rfl,?_]);refine i5 (pC (Bf hl).2) (i5 (pC (Bg hl)) (i5 (s':=s++[.lst []]) rfl (i5 rfl (uQ abJ ?_))));refine Wp.jw (λi env s'=>i<=31->∃X,env=[ϊ (bD ps),ϊ (.int m),ϊ (.int k),ϊ (lI (jm ps m k)),ϊ (lI (f6 ps m k)),ϊ (.aw s.length),ϊ (.bl (tN (lN ps m k) (mN ps m k) i)),X]/\s'=s++[.lst ((J5 ps m k i).map D.int)]) _ (λ_=>#[_,rfl,rfl]) (λi d env s' Z Y=>?_) (λenv s' Y=>?_)
 .rw[W5] at Z
  split at Z
  .rename_i hi
   cases Z;let(X,rfl,rfl):=Y ⋯;have W:ab (lN ps m k) (mN ps m k) (30-i)=(tN (lN ps m k) (mN ps m k) i||(ώ (((30-i:Nat):Int)∈jm ps m k)||ώ (((30-i:Nat):Int)∈f6 ps m k))):=by
    delta ab br lN mN;rw[show 31-(30-i+1)=i by omega]
   have V:tN (lN ps m k) (mN ps m k) (i+1)=((tN (lN ps m k) (mN ps m k) i||ώ (((30-i:Nat):Int)∈jm ps m k))&&!ώ (((30-i:Nat):Int)∈f6 ps m k)):=rfl
   have U:J5 ps m k (i+1)=J5 ps m k i++(if ab (lN ps m k) (mN ps m k) (30-i)=ό then [((30-i:Nat):Int)] else []):=Mu
   refine#[_,rfl,ahc λR T=>Q3 (ŭ M7 ⋯) (IG (BZ rfl) (IG (gK (eG qk)) (gK (eG qk)))) ?_];rw[fZ];subst T;exact abF (RJ (Te rfl (eG qk)) (eG xc)) λ_=>#[_,by rw[V];rfl,by rw[U,W]]
  .cases Z
 .rw[show downs.length=31 from rfl] at Y
  let(X,rfl,rfl):=Y (ahd _);simp only[VC];exact aha OO #[rfl,rfl]
def tO (F:Int->List Int):D:=.lst (k8.map λk=>lI (F k))
def abK (h:0<=k/\k<8):aC (tO F) (.int k) s=ok (lI (F k)) s:=by
 let(x,e1,e2):=uN (xs:=k8.map λk=>lI (F k)) h.1 (by exact h.2);have:=by
  rw[Þ] at e2;have Z:k8[k.toNat]?=ϊ k:=by
   delta k8;rw[Þ,Ł ⋯];simp;omega
  rw[Z] at e2;exact(ahe e2).symm
 subst this;erw[aC,iU,res,tO,e1,bU]
def aia:bL 0 8=k8.map D.int:=rfl
def Q4:wJ [tO F,.int d] s=ok (mD (k8.filter λk=>ώ (d∈F k))) s:=by
 refine ahb ?_;delta wJ;simp only[VC];refine aha (eQ rfl (by decide)) #[by exact le_size (by decide),?_];refine aha (iJ (λk=>ώ (d∈F k)) (λk=>.int k) k8 λk Z=>#[[ϊ _,ϊ _,ϊ (tO F)],rfl,?_,λ_=>rfl]) ?_
 .refine ahb ?_
  simp only[VC];refine aha (abK (m7.mp Z)) ?_;simp only[VC,qk,Ľ]
 .exact aha (rfl) #[rfl,rfl]
noncomputable def cg:List Int:=(Ô 31).map λi:Nat=>(i)
def ah5:bL 0 31=cg.map D.int:=by delta cg;rw[Bd,ï];congr 1;funext i;simp
def kT (P A:Int->List Int) (d:Int):D:=.tup [mD (k8.filter λk=>ώ (d∈P k)),mD (k8.filter λk=>ώ (d∈A k))]
def OP (hf:∀k s,fn [b,.int mu,.int k] s=ok (lI (F k)) (s++[.dead])) (e0:env[0]?=ϊ (ϊ b)) (e1:env[1]?=ϊ (ϊ (.int mu))) (q:∀c,Q (tO F) (s++c)) :
  Wp (aQ 1 [0,1] (bT (af (eC (.int (8))) ah)) (gN 0) bu (ak fn (af (ae 1) (af (ae 2) (af (ae 0) ah)))) env s) Q:=by
 rw[iN];refine aha (eQ rfl (by decide)) #[by exact le_size (by decide),?_];have V:jL [0,1] env=[ϊ b,ϊ (.int mu)]:=by simp[jL,e0,e1]
 rw[V];refine uy (λi Z X=>i<=8->Z=((Ô i).map λi:Nat=>(i:Int)).map (λk=>lI (F k))/\∃c,X=s++c) (bL 0 8) (λ_=>#[rfl,[],by simp]) (λi d Z X Y W=>?_) λZ X W=>?_
 .rw[iL] at Y
  split at Y
  .cases Y
   let(rfl,c,rfl):=W ⋯;refine#[_,rfl,?_];refine aha (rfl) ?_;simp only[VC];refine aha (hf _ _) λ_=>#[?_,c++[.dead],by simp];rw[af2,ā];simp
  .cases Y
 .let(rfl,c,rfl):=W (ahd _)
  exact q c
def Bi (hl:ps.length<=1000):Wp (mI [bD ps,.int m] s) λd s'=>d=.lst (cg.map (kT (fT ps m) (eI ps m)))/\∃c,s'=s++c:=by
 delta mI;rw[iB];refine#[rfl,?_];rw[jH,ip];refine OP (λk s=>VZ hl) rfl rfl λc=>?_;erw[jQ,Ü,Ŋ,č,ĥ,Ñ,Nat.reduceSub,ı,ľ,fZ];rw[jH,ip];refine OP (λk s=>W6 hl) rfl rfl λZ=>?_;erw[jQ,ı,ľ,fZ,iM,iN,kc];refine aha (eQ rfl (by decide)) #[by exact le_size (by decide),?_];refine aha (iJ (λ_=>ό) (kT (fT ps m) (eI ps m)) cg λd Y=>#[[ϊ _,ϊ (tO _),ϊ (tO _)],rfl,rfl,λ_=>?_]) ?_
 .refine ahb ?_
  simp only[VC];refine aha Q4 ?_;refine aha Q4 ?_;exact#[by decide,rfl,rfl]
 .exact#[rfl,c++Z,by simp]
def W7 (hl:ps.length<=1000) (hf:∀p∈ps,jT p) (hb:fq ps=ό) (hm:0<=m/\m<4) (hd:0<=d/\d<31):Wp (pV [bD ps,.int m,.int d] s) λx s'=>x=kT (fT ps m) (eI ps m) d/\∃c,s'=s++c:=by
 delta pV;have Z:∀s,mL [bD ps] s=ok .aD s:=λs=>by
  refine ahb ?_;delta mL;simp only[VC];refine aha (OK hl hf) ?_;rw[hb];simp only[VC,ŏ,Ò,Ğ,Ľ]
 have Y:∀s,n5 [.int m] s=ok .aD s:=λs=>by
  refine ahb ?_;delta n5;simp only[VC];refine aha EW ?_;rw[show i4 m=ό by delta i4;simp[hm]];simp only[VC,ŏ,Ò,Ğ,Ľ]
 have X:∀s,Ay [.int d] s=ok .aD s:=λs=>by
  refine ahb ?_;delta Ay;simp only[VC];refine aha PR ?_;rw[show jx d=ό by delta jx;simp[hd]];simp only[VC,ŏ,Ò,Ğ,Ľ]
 simp only[VC];refine aha (Z _) (aha (Y _) (aha (X _) ?_));refine(Bi hl).mono λx s' W=>?_;let(rfl,c,rfl):=W;let(x,e1,e2):=uN (xs:=cg.map (kT (fT ps m) (eI ps m))) hd.1 (by exact hd.2);have:=by
  rw[Þ] at e2;have V:cg[d.toNat]?=ϊ d:=by
   delta cg;rw[Þ,Ł ⋯];simp;omega
  rw[V] at e2;exact(ahe e2).symm
 subst this;refine aha (by erw[aC,iU,res,e1,bU]) #[rfl,c,rfl]
noncomputable abbrev jJ (F:Nat->Bool):Cell:=.lst ((Ô 32).map λd=>D.bl (F d))
def OQ {n:Nat} {f:Nat->α} {d:Int} (h0:0<=d) (h1:d<n):df ((Ô n).map f) d=ϊ (f d.toNat):=by
 let(x,e1,e2):=uN (xs:=(Ô n).map f) h0 (by simpa using h1);rw[Þ,Ł ⋯] at e2;rw[e1];exact e2.symm
def GI {n:Nat} {d:Int} (h0:0<=d) (h1:d<n):dZ n d=ϊ d.toNat:=by
 delta dZ;rw[õ h0,õ h1]
def abM:Pg->Prop
 | .made _ _ h l=>∀x∈h,x∉l
 | .bx ..=>True
def OR {c:ai} {ds} {x} (h:ds.length<=1000000):ja (.aw c.length) x (c++[.lst ds])=ok .aD (c++[.lst (ds++[x])]):=by
 delta ja;have e:(c++[Cell.lst ds])[c.length]?=ϊ (.lst ds):=by simp
 have Z:ds.length<â:=ŭ h (by decide);erw[e,Ï Z,ĭ];simp
def M8 {c:ai} {ds}:iE (.aw c.length) (c++[.lst ds])=ό:=by
 delta iE;have e:(c++[Cell.lst ds])[c.length]?=ϊ (.lst ds):=by simp
 erw[e]
def OS {c:ai} {ds}:cE (.aw c.length) (c++[.lst ds])=ok (.lst ds) (c++[.dead]):=by
 delta cE;have e:(c++[Cell.lst ds])[c.length]?=ϊ (.lst ds):=by simp
 erw[e];simp
theorem Ex.hi (h:Ex k s s') (hj:s.length<=j) (c):Ex k s (s'.set j c):=#[by rw[Ĥ];exact h.len,λi hi Z=>by rw[í ⋯];exact h.val i hi Z]
structure Ft (n W) (d):Prop where
 pl:plain d=ό
 sh:(py d).showable=ό
 nd:(py d).hasDict=ύ
 dp:(py d).depth<=n
 wt:(py d).weight<=W
 lv:(py d).leavesShort 40=ό
def IH (d:D):Bool:=plain d&&(py d).showable&&!(py d).hasDict&&ώ ((py d).depth<=0)&&ώ ((py d).weight<=110)&&(py d).leavesShort 40
def Hx (h:IH d=ό):Ft 0 110 d:=by
 delta IH at h;erw[Ç,Æ,Ĕ] at h;obtain⟨⟨⟨⟨⟨Z,Y⟩,X⟩,W⟩,V⟩,U⟩:=h;exact#[Z,Y,X,W,V,U]
def abN:∀n:Fin 62,IH (.int ((n.val)-1))=ό:=nofun
def uR (h1:-1<=n) (h2:n<=60):Ft 0 110 (.int n):=by
 refine Hx ?_;have:=abN #[(n+1).toNat,by omega];have e2:(((n+1).toNat))-1=n:=by omega
 rw[e2] at this;exact this
theorem PZ:∀{ds},(∀x∈ds,Ft n W x)->ow ds=ό/\PyData.showableAll (dU ds)=ό/\PyData.hasDictAll (dU ds)=ύ/\afo (dU ds)<=n/\PyData.weightAll (dU ds)<=ds.length*(W+1)/\PyData.leavesShortAll 40 (dU ds)=ό
 | [],_=>#[rfl,rfl,rfl,Ă _,by simp[dU,PyData.weightAll],rfl]
 |x::Y,h=>by
  let(z,a,b,c,d,e):=PZ λy Z=>h y (Ì _ Z);have k:=h x Ë;refine#[?_,?_,?_,?_,?_,?_]
  .erw[ow,k.pl,z,ķ]
  .erw[dU,PyData.showableAll,k.sh,a,ķ]
  .erw[dU,PyData.hasDictAll,k.nd,b,Bool.or_self]
  .erw[dU,afo];have:=k.dp;omega
  .erw[dU,PyData.weightAll,Ú]
   have:=k.wt;rw[Nat.add_mul];omega
  .erw[dU,PyData.leavesShortAll,k.lv,e,ķ]
def BB (hl:ds.length<=c) (h:∀x∈ds,Ft n W x):Ft (n+1) (c*(W+1)) (.tup ds):=by
 let(z,a,b,X,Z,Y):=PZ h;have hw:=Ó Z (agE _ hl);exact#[by exact z,by exact a,by exact b,by erw[py,PyData.depth];omega,by exact hw,by exact Y]
structure Tj (p:Pg):Prop where
 day:0<=p.day/\p.day<31
 jT:jT p
 apart:abM p
 ft:Ft 3 7116 p.d
def Ft.mono (h:Ft n W d) (h1:n<=n') (h2:W<=W'):Ft n' W' d:=#[h.pl,h.sh,h.nd,Ó h.dp h1,Ó h.wt h2,h.lv]
def P0:Ft 0 110 (.str "made")/\Ft 0 110 (.str "mended"):=#[Hx nofun,Hx nofun]
def P4 (h:cf 8 ns):Ft 1 888 (mD ns):=by
 refine BB (c:=8) (W:=110) (by rw[Ã];exact h.len) λx Z=>?_;let(y,Y,rfl):=á.mp Z;have:=h.lo y Y;exact uR ⋯ ⋯
def Z9 (h:dg p=ό):Tj p:=by
 cases p with
 |made m d P l =>
  erw[dg,i4,jx,Ç,Æ] at h;obtain⟨⟨T,Y⟩,S,R,X⟩:=h;have V:=tZ S;have U:=tZ R;refine#[Y,#[by have:=V.len;omega,by have:=U.len;omega],λx Z Q=>?_,?_]
  .delta gB at X
   rw[Ĕ,Ž] at X;exact X x Z (Ï Q)
  .refine BB (c:=4) (W:=1778) ∅ λx Z=>?_
   erw[Ð,ü,or_false] at Z
   rcases Z with rfl|rfl|rfl|rfl
   .exact P0.1.mono ⋯ ⋯
   .exact(uR ⋯ ⋯).mono ⋯ ⋯
   .exact(uR ⋯ ⋯).mono ⋯ ⋯
   .refine BB (c:=2) (W:=888) ∅ λx Z=>?_
    erw[Ð,ü,or_false] at Z
    rcases Z with rfl|rfl
    .exact P4 V
    .exact P4 U
 |bx m d k =>
  erw[dg,i4,jx,markB,Ç,Æ] at h;obtain⟨⟨T,Y⟩,O⟩:=h;refine#[Y,trivial,trivial,(BB (c:=4) (n:=0) (W:=110) ∅ λx Z=>?_).mono ⋯ ⋯];erw[Ð,ü,or_false] at Z
  rcases Z with rfl|rfl|rfl|rfl
  .exact P0.2
  .exact uR ⋯ ⋯
  .exact uR ⋯ ⋯
  .exact uR ⋯ ⋯
def Et (h:fq ps=ό):ps.length<=24/\∀p∈ps,Tj p:=by
 delta fq i6 at h;erw[Ç,Æ,Ĉ] at h;exact#[h.1.1,λp Z=>Z9 (h.1.2.1 p Z)]
def AV (hl:ps.length<=1000) (hf:∀p∈ps,jT p) (hb:fq ps=ό):mL [bD ps] s=ok .aD s:=by
 refine ahb ?_;delta mL;simp only[VC];refine aha (OK hl hf) ?_;rw[hb];simp only[VC,ŏ,Ò,Ğ,Ľ]
def Eu (hm:0<=m/\m<4):n5 [.int m] s=ok .aD s:=by
 refine ahb ?_;delta n5;simp only[VC];refine aha EW ?_;rw[show i4 m=ό by delta i4;simp[hm]];simp only[VC,ŏ,Ò,Ğ,Ľ]
def NN {r:Env} (hl:ps.length<=1000):∃c,bq (ak mI (af (ae 0) (af (ae 1) ah))) (ϊ (bD ps)::ϊ (.int m)::r) s=ok (cg.map (kT (fT ps m) (eI ps m))) (s++c):=by
 let(x,Z,e,rfl,c,rfl):=Bi hl;refine#[c,iK (ahb ?_)];erw[wp_call,bz,bQ,dD,dE];exact aha e #[rfl,rfl]
def xK (ps:List Pg) (m d:Int):List Int:=k8.filter λk=>ώ (d∈fT ps m k)
def yi (ps:List Pg) (m d:Int):List Int:=k8.filter λk=>!ώ (d∈eI ps m k)
def B9 (F:Int->List Int):D:=.tup (cg.map λd=>mD (F d))
def EY (hl:ps.length<=1000) (hf:∀p∈ps,jT p) (hb:fq ps=ό) (hm:0<=m/\m<4):Wp (pL [bD ps,.int m] s) λx s'=>x=B9 (xK ps m)/\∃c,s'=s++c:=by
 delta pL;simp only[VC];refine aha (AV hl hf hb) (aha (Eu hm) ?_);let(c,e):=NN hl;refine aha e #[le_size (by rw[Ã];decide),?_];refine aha (comp_map _ (λ_=>ό) (λd=>mD _) cg λd _=>#[_,rfl,rfl,λ_=>rfl]) ?_;exact#[_,_,rfl,rfl,c,rfl]
def OT (hl:ps.length<=1000) (hf:∀p∈ps,jT p) (hb:fq ps=ό) (hm:0<=m/\m<4):Wp (qY [bD ps,.int m] s) λx s'=>x=B9 (yi ps m)/\∃c,s'=s++c:=by
 delta qY;simp only[VC];refine aha (AV hl hf hb) (aha (Eu hm) ?_);let(c,e):=NN hl;refine aha e #[le_size (by rw[Ã];decide),?_];refine aha (comp_map _ (λ_=>ό) (λd=>mD (yi ps m d)) cg λd _=>#[_,rfl,rfl,λ_=>?_]) ?_
 .refine ahb ?_
  simp only[VC];refine aha (eQ rfl (by decide)) #[by exact le_size (by decide),?_];refine aha (iJ (λk=>!ώ (d∈eI ps m k)) (λk=>.int k) k8 λk Z=>#[[ϊ _,ϊ _],rfl,?_,λ_=>rfl]) ?_
  .refine ahb ?_
   simp only[VC,D8,î,Z,afw,Æ,Ľ]
  .exact#[_,_,rfl,rfl,rfl]
 exact#[_,_,rfl,rfl,c,rfl]
structure Lf (md:List Int) (b) (n) (ns:List Int):Prop where
 len:ns.length<=n
 lo:∀d∈ns,0<=d/\d<n/\d∉md
 on:∀d∈ns,d+1<n->d+1∉md->d+1∈ns
 la:0<n->(n:Int)-1∈ns->b=ό
def Lf.put (h:Lf md b n ns) (hn:(n:Int)∉md):Lf md ό (n+1) (ns++[(n:Int)]):=by
 refine#[by rw[Î,ο];have:=h.len;omega,λd hd=>?_,λd hd Z Y=>?_,λ_ _=>rfl]
 .rcases Û.mp hd with hd|hd
  .have:=h.lo d hd
   exact#[this.1,by omega,this.2.2]
  .rw[Ø.mp hd]
   exact#[by omega,by omega,hn]
 .rcases Û.mp hd with hd|hd
  .by_cases e:d+1=n
   .exact Û.mpr (.inr (Ø.mpr e))
   .exact Û.mpr (.inl (h.on d hd ⋯ Y))
  .rw[Ø.mp hd] at Z
   omega
def Lf.pass (h:Lf md b n ns) (hn:b=ό->(n:Int)∈md):Lf md ύ (n+1) ns:=by
 refine#[by have:=h.len;omega,λd Z=>?_,λd Z X Y=>?_,λ_ Z=>?_]
 .have:=h.lo d Z
  exact#[this.1,by omega,this.2.2]
 .by_cases e:d+1=n
  .exfalso
   have W:=(h.lo d Z).1;have:=h.la ⋯ (by rw[show (n)-1=d by omega];exact Z);exact Y (by rw[e];exact hn this)
  .exact h.on d Z ⋯ Y
 .have:=h.lo _ Z
  omega
def M9 {ns:List Int} (e:s[j]?=ϊ (.lst (ns.map D.int))):fY (.int x) (.aw j) s=ok (.bl (!ώ (x∈ns))) s:=by
 have Z:fY (.int x) (.aw j) s=fY (.int x) (lI ns) s:=by erw[fY,rV,res,e]
 exact Z.trans xc
def OU (e:s[j]?=ϊ (.lst (ns.map D.int))) (hn:ns.length<1000):iE (.aw j) s=ό/\ja (.aw j) (.int x) s=ok .aD (s.set j (.lst ((ns++[x]).map D.int))):=by
 refine#[by erw[iE,e],?_];delta ja;erw[e];rw[õ (by rw[Æ,Ã];exact È hn (le_size (by decide)))];simp
def abO {env:Env} {s:ai} {ft:ag9 Bool} {f1 f2:ag9 D} {u:Bool} {j:Nat} {x:Int} {ns:List Int} {Q:Fl->ai->Prop} (e:s[j]?=ϊ (.lst (ns.map D.int))) (hn:ns.length<1000) (hc:ft env s=ok u s) (q1:u=ό->Q (.nx env) (s.set j (.lst ((ns++[x]).map D.int)))) (q2:u=ύ->Q (.nx env) s)
  (h1:f1 env s=ok (.aw j) s:=by rfl) (h2:f2 env s=ok (.int x) s:=by rfl):Wp (bO ft (cJ (gj f1 f2)) bY env s) Q:=by
 rw[lR,hc,aT]
 cases u with
 |true =>
  rw[õ rfl];let(a,b):=OU (x:=x) e hn;exact B0 h2 a b (q1 rfl) h1
 |false =>
  rw[ÿ è,oo];exact q2 rfl
def YC {s:ai} {k m i:Nat} {md:List Int} {b:Bool} {d3:Option D} {x2:Int} (h:bo s k) (hm:s[m]?=ϊ (.lst (md.map D.int))) (zT:m≠k) (J6:0<=x2) (J7:x2<9) :
  Wp (dR (mr (ae 2) (e2 cu (ak bC (af (ae 0) (af (ae 4) ah))) (eC (.int 0)))) (e2 fY (ae 5) (ae 1)) [ϊ (.aw k),ϊ (.aw m),ϊ (.bl b),d3,ϊ (.int (2+x2)),ϊ (.int i)] s) λd s'=>∃c,d=.bl c/\(c=ό->(i:Int)∉md)/\(c=ύ->b=ό->(i:Int)∈md)/\bo s' k/\Ex k s s':=by
 rw[A8]
 cases b with
 |true =>
  refine aha (show mr (ae 2) _ _ s=ok (.bl ό) s from rfl) (aha (show gg (.bl ό) s=ok ό s from rfl) ?_);rw[õ rfl];exact aha (eG (M9 (x:=(i:Int)) hm)) #[_,rfl,by simp,by simp,h,Ex.refl _ _]
 |false =>
  refine Wp.mono (Q:=λd s'=>∃c,d=.bl c/\bo s' k/\Ex k s s') ?_ λd s' Y=>?_
  .rw[Bw]
   refine aha (show ae 2 _ s=ok (.bl ύ) s from rfl) (aha (show gg (.bl ύ) s=ok ύ s from rfl) ?_);rw[ÿ è];exact B7 (kQ h (m:=2+x2) ⋯ ⋯ λr s' _ Z e=>#[_,rfl,_,rfl,Z,e])
  .let(c,e,Z,x):=Y
   subst e;refine aha (show gg (.bl c) s'=ok c s' from rfl) ?_
   cases c with
   |true=>exact aha (eG (M9 (x:=(i:Int)) ((x.val _ (Ä.mp hm).1 zT).trans hm))) #[_,rfl,by simp,λ_ z=>(by cases z),Z,x]
   |false =>
    rw[ÿ è];exact#[_,rfl,λz=>(by cases z),λ_ z=>(by cases z),Z,x]
def W8 {k m:Nat} {md:List Int} (h:bo s k) (hm:s[m]?=ϊ (.lst (md.map D.int))) (zT:m≠k):Wp (uj [.aw k,.aw m] s) λd s'=>∃(ds:List Int) (b:Bool),d=lI ds/\Lf md b 31 ds/\bo s' k/\Ex k s s':=by
 delta uj;refine iB.symm ▸ #[rfl,ahc λR G=>Wp.Hw ?_];rw[bz];refine B7 (kQ h (m:=3) (by decide) (by decide) λx t1 _ N e1=>#[_,rfl,?_]);rw[bz];refine aha (show eNew ah _ t1=ok (.aw t1.length) (t1++[.lst []]) from rfl) ?_;rw[bz,fm];refine aha rfl (kQ (N.app _) (m:=9) (by decide) (by decide) λF M L E e2=>?_);refine aha (vD _ _ _) (aha rfl #[_,_,_,rfl,?_]);rw[fZ];subst G;have W:t1.length≠k:=by have:=N.lt;omega
 have K:Ex k s M:=e1.trans ((Ex.app k t1 _).trans e2);have C:M[t1.length]?=ϊ (.lst (([]:List Int).map D.int)):=(e2.val t1.length ∅ W).trans ∅;have Z:s.length<=t1.length:=e1.len;have U:=(Ä.mp hm).1;have T:m≠t1.length:=by omega
 refine uQ (eQ (n:=31) rfl (by decide)) ?_;refine Wp.jw (λi env s'=>i<=31->∃b S Y,env=[ϊ (.aw k),ϊ (.aw m),ϊ (.bl b),ϊ (.aw t1.length),ϊ (.int (2+F)),S]/\bo s' k/\s'[t1.length]?=ϊ (.lst (Y.map D.int))/\Lf md b i Y/\s'[m]?=ϊ (.lst (md.map D.int))/\Ex k s s') _ (λ_=>#[_,_,[],rfl,E,C,#[ahd _,by simp,by simp,by simp],(K.val m U zT).trans hm,K]) (λi d env s' X V=>?_) (λenv s' V=>?_)
 .rw[iL] at X
  split at X
  .rename_i hi
   cases X;let(b,S,Y,rfl,g1,g2,gl,g3,Q):=V ⋯;rw[Ÿ];refine#[_,rfl,qb ((YC (b:=b) (i:=i) g1 g3 zT L.1 L.2).mono λd w X=>?_)];let(c,e,B,A,J,P):=X;subst e;have O:=(P.val _ (Ä.mp g2).1 W).trans g2;have I:=(P.val _ (Ä.mp g3).1 zT).trans g3;have H:=Q.trans P;exact abO O (by have:=gl.len;omega) (BZ rfl) (λz _=>#[c,ϊ (.int i),_,rfl,J.set W _,ñ (Ä.mp O).1,z ▸ gl.put (B z),(í (Ř T)).trans I,H.qR Z _]) λz _=>#[c,ϊ (.int i),_,rfl,J,O,z ▸ gl.pass (A z),I,H]
  .cases X
 .rw[fC] at V
  let(b,S,Y,rfl,g1,y,gl,g3,Q):=V (ahd _);simp only[VC];refine aha (show cE (.aw t1.length) s'=ok (lI Y) (s'.set t1.length .dead) from by erw[cE,y]) ?_;exact#[Y,b,rfl,gl,g1.set W _,Q.qR Z _]
def fP (W:ģ) (R T:Pg->Prop) (s:ai) (j n:Nat):Prop:=∃Z:List Pg,s[j]?=ϊ (.dT (Z.map λp=>(p.d,hs W p.d)))/\(Z.Nodup/\(∀p∈Z,R p)/\∀p,T p->p∈Z)/\Z.length<=n
section
variable {W:ģ} {R T:Pg->Prop} {s s':ai} {j n k:Nat}
def fP.lt (h:fP W R T s j n):j<s.length:=by
 let(Z,e,_):=h;exact(Ä.mp e).1
def fP.ex (h:fP W R T s j n) (x:Ex k s s') (hj:j≠k):fP W R T s' j n:=by
 have Z:=h.lt;let(Y,e,r):=h;exact#[Y,(x.val j Z hj).trans e,r]
def fP.more (h:fP W R T s j n) (hm:n<=m):fP W R T s j m:=by
 let(Z,e,r,l):=h;exact#[Z,e,r,by omega]
theorem fP.set (h:fP W R T s j n) (hi:i≠j) (c):fP W R T (s.set i c) j n:=by
 let(Z,e,r):=h;exact#[Z,by rw[í hi];exact e,r]
def fP.mono (h:fP W R T s j n) (hR:∀p,R p->R' p) (hT:∀p,T' p->T p):fP W R' T' s j n:=by
 let(Y,e,r,l):=h;exact#[Y,e,#[r.1,λp Z=>hR p (r.2.1 p Z),λp Z=>r.2.2 p (hT p Z)],l]
def FK (h:fP W R T s j n) (hf:R p) (hn:n<1000):∃c,l6 W (.aw j) p.d (.bl ό) s=ϊ (s.set j c)/\fP W R (λq=>T q\/q=p) (s.set j c) j (n+1):=by
 have Q:=h.lt;let(Y,e,Z,len):=h;let(N,V,M,L):=jI p;have P:=PV W Y;generalize X:(Y.map λp=>(p.d,hs W _))=U at e P;have E:U.length=Y.length:=by rw[<- X,Ã]
 refine#[.dT (TK.gH W U (.tup N)),?_,?_]
 .rw[V]
  delta l6;erw[e];rw[M,Ï L,P,Ï (È (show U.length<1000 by omega) (le_size (by decide)))];rfl
 .delta TK.gH
  split
  .rename_i K
   let(D,O,J):=ĸ.mp K;rw[<- X] at O;let(q,hq,rfl):=á.mp O;have eq:=Pg.G8 ((uG _ _ (lT q) (lT p)).mp (by rw[V];exact J));subst eq;exact#[Y,by rw[X];exact ñ Q,#[Z.1,Z.2.1,λI S=>by
    rcases S with S|rfl
    ·exact Z.2.2 I S
    ·exact hq],by omega]
  .rename_i H
   refine#[Y++[p],?_,#[afv.mpr #[Z.1,by simp,λa G b F=>?_],λq hq=>?_,λq hq=>?_],by simp;omega]
   .rw[ñ Q,ā,X]
    erw[Ü,Ŋ,V]
   .rw[Ø.mp F]
    rintro rfl;refine H (ĸ.mpr #[(a.d,hs W a.d),?_,?_])
    .rw[<- X];exact á.mpr #[a,G,rfl]
    .rw[<- V];exact(uG _ _ (lT a) (lT a)).mpr rfl
   .rcases Û.mp hq with hq|hq
    .exact Z.2.1 q hq
    .rw[Ø.mp hq];exact hf
   .rcases hq with hq|rfl
    .exact Û.mpr (.inl (Z.2.2 q hq))
    .exact Û.mpr (.inr (Ø.mpr rfl))
end
structure BJ (W) (k j b n) (s0 s) (M:Nat->List Int) (R T):Prop where
 st:bo s k
 dict:fP W R T s j n
 bx:∀i,i<8->s[b+i]?=ϊ (.lst ((M i).map D.int))
 ext:Ex k s0 s
section
variable {W:ģ} {k j b n:Nat} {s0 s:ai} {M:Nat->List Int} {R T:Pg->Prop}
def BJ.draw (h:BJ W k j b n s0 s M R T) (hj:j≠k) (hb:∀i,i<8->b+i≠k) (x:Ex k s s') (hs:bo s' k):BJ W k j b n s0 s' M R T :=
 #[hs,h.dict.ex x hj,λi hi=>(x.val _ (Ä.mp (h.bx i hi)).1 (hb i hi)).trans (h.bx i hi),h.ext.trans x]
def BJ.put (h:BJ W k j b n s0 s M R T) (hj:j≠k) (pE:∀i,i<8->b+i≠j) (hl:s0.length<=j) (hf:R p) (hn:n<1000):∃s',l6 W (.aw j) p.d (.bl ό) s=ϊ s'/\BJ W k j b (n+1) s0 s' M R (λq=>T q\/q=p)/\Ex j s s':=by
 let(c,e,d):=FK h.dict hf hn;exact#[_,e,#[h.st.set hj c,d,λi hi=>(í (Ř (pE i hi))).trans (h.bx i hi),h.ext.qR hl c],Ex.set j s c]
def V0 (h:BJ W k j b n s0 s M R T) (hj:j≠k) (hb:∀i,i<8->b+i≠k) (pE:∀i,i<8->b+i≠j) (hl:s0.length<=j) (hlb:s0.length<=b) (hn:n<1000) (hq:∀i,i<8->(M i).length<1000)
 (g:∀x d b8 b9 s',x<8->0<=d/\d<31->(∀{R'},(∀p,R p->R' p)->R' (.bx mu d x)->BJ W k j b (n+1) s0 s' (λi=>if i=x then M i++[d] else M i) R' (λq=>T q\/q=.bx mu d x))->(∀t,t<s.length->t≠k->t≠j->(∀i,i<8->b+i≠t)->s'[t]?=s[t]?)->Q (.nx [ϊ (.aw k),ϊ (.aw j),ϊ (.int mo),ϊ (.int of),ϊ (.int mu),ϊ (memD b),a6,a7,b8,b9,zU,zV]) s') :
  Wp ((ay (aM (bp (af (ak bC (af (ae 0) (af (eC (.int 8)) ah))) (af (ak bC (af (ae 0) (af (eC (.int 31)) ah))) ah))) (gT [(gN 8),(gN 9)])) (ay (cJ (gj (e2 aC (ae 5) (ae 8)) (ae 9))) (TK.jO W (eC (.bl ό)) (ae 1) (bp (af (eC (.str "mended")) (af (ae 4) (af (ae 9) (af (ae 8) ah)))))))) [ϊ (.aw k),ϊ (.aw j),ϊ (.int mo),ϊ (.int of),ϊ (.int mu),ϊ (memD b),a6,a7,a8,a9,zU,zV] s) Q:=by
 simp only[VC];refine(j8 h.st (by decide) (by decide)).mono λd t1 G=>?_;let(K,rfl,F,E,D,e1):=G;refine(j8 D (by decide) (by decide)).mono λd m hd2=>?_;let(V,rfl,C,B,A,e2):=hd2;refine#[by decide,?_];refine aha (PY F E) ?_;obtain⟨y,rfl⟩:∃y:Nat,K=y:=#[K.toNat,by omega];have Z:y<8:=by omega
 have Y:=h.draw hj hb (e1.trans e2) A;let(z,w):=OU (Y.bx y Z) (hq y Z);refine#[z,aha w ?_];have v:=hb y Z;have U:=pE y Z
 have X:BJ W k j b n s0 _ (λi=>if i=y then M i++[V] else M i) R T:=#[Y.st.set v _,Y.dict.set U _,λi hi=>by
  by_cases J:i=y
  ·subst J
   rw[õ rfl];exact ñ (Ä.mp (Y.bx i hi)).1
  ·rw[ÿ J,í ⋯]
   exact Y.bx i hi,Y.ext.qR ⋯ _]
 rw[FJ];simp only[VC];refine#[by decide,?_];let(c,I,l):=FK (p:=.bx mu V y) (X.dict.mono (λ_ _=>trivial) λ_ h=>h) trivial hn;refine#[_,I,g y V _ _ _ Z #[C,B] (λu r=>?_) λt o S P O=>?_]
 .let(H,N,L):=FK (X.dict.mono u λ_ h=>h) r hn
  have eq:=ahe (I.symm.trans N);rw[eq];exact#[X.st.set hj H,L,λi hi=>(í (Ř (pE i hi))).trans (X.bx i hi),X.ext.qR hl H]
 .rw[í (Ř P),í (O _ Z),(e1.trans e2).val t o S]
end
abbrev mH (L:Nat->List Int) (n:Nat):List D:=(Ô n).map λx=>lI (L x)
def W9 {s:ai} {k:Nat} {of:Int} (h:bo s k) (o0:0<of) (o1:of<100):Wp (fj 1 [ϊ (.aw k),ϊ (.int of)] (gN 0) (aU (e2 cu (ak bC (af (ae 1) (af (ae 2) ah))) (eC (.int 0)))) (ae 0) (bL 0 8) s) λxs s'=>∃ns,xs=ns.map D.int/\cf 8 ns/\bo s' k/\Ex k s s':=by
 refine uy (λi Z s'=>∃ns:List Int,Z=ns.map D.int/\cf i ns/\bo s' k/\Ex k s s') (bL 0 8) #[[],rfl,#[by simp,.nil],h,Ex.refl _ _] (λi d Z s' Y V=>?_) λZ s' V=>?_
 .let(ns,rfl,W,S,R):=V
  rw[iL] at Y;split at Y
  .have Y:D.int (0+(i:Int))=d:=ahe Y
   subst Y;refine#[[ϊ (.int (0+i)),ϊ (.aw k),ϊ (.int of)],rfl,?_];refine Wp.mono (Q:=λb X=>bo X k/\Ex k s X) ?_ λb X hx=>?_
   .rw[lQ]
    exact B7 (kQ S o0 ⋯ λr X _ U T=>#[_,rfl,by rw[lJ];exact#[U,R.trans T]])
   let(U,T):=hx;split
   .refine aha (show ae 0 _ X=ok (.int (0+(i:Int))) X from rfl) #[ns++[0+(i:Int)],by simp,#[λx hx=>?_,?_],U,T]
    .rcases Û.mp hx with hx|hx
     .have:=W.lo x hx;omega
     .rw[Ø.mp hx];omega
    .refine ô.mpr #[W.up,by simp,λx hx y P=>?_]
     rw[Ø.mp P];have:=W.lo x hx;omega
   .exact#[ns,rfl,#[λx hx=>by have:=W.lo x hx;omega,W.up],U,T]
  .cases Y
 .rw[fC] at V
  exact V
section
variable {W:ģ} {k j b n:Nat} {s0 s:ai} {M L:Nat->List Int} {R T:Pg->Prop}
def V1 (h:BJ W k j b n s0 s M R T) (hL:s[b+8]?=ϊ (.lst (mH L i))) (hi:i<8) (hj:j≠k) (hb:∀i,i<8->b+i≠k) (nV:b+8≠k) (tQ:b+8≠j) (hlb:s0.length<=b)
 (g:∀ds c s',Lf (M i) c 31 ds->BJ W k j b n s0 s' M R T->s'[b+8]?=ϊ (.lst (mH (λx=>if x=i then ds else L x) (i+1)))->Q (.nx [ϊ (.aw k),ϊ (.aw j),ϊ (.int mo),ϊ (.int of),ϊ (.int mu),ϊ (memD b),ϊ (.aw (b+8)),a7,ϊ (.int i),a9,zU,zV]) s') :
  Wp ((cJ (gj (ae 6) (ak uj (af (ae 0) (af (e2 aC (ae 5) (ae 8)) ah))))) [ϊ (.aw k),ϊ (.aw j),ϊ (.int mo),ϊ (.int of),ϊ (.int mu),ϊ (memD b),ϊ (.aw (b+8)),a7,ϊ (.int i),a9,zU,zV] s) Q:=by
 simp only[VC];refine#[by erw[iE,hL],?_];refine aha (PY ⋯ ⋯) ?_;refine(W8 h.st (h.bx i hi) (hb i hi)).mono λd t1 X=>?_;let(ds,c,rfl,lf,V,e1):=X;have Z:=h.draw hj hb e1 V;have Y:=(e1.val _ (Ä.mp hL).1 nV).trans hL
 have ap:ja (.aw (b+8)) (lI ds) t1=ok .aD (t1.set (b+8) (.lst (mH (λx=>if x=i then ds else L x) (i+1)))):=by
  delta ja;erw[Y];rw[õ (by rw[Æ,Ã,Ŗ];exact È ⋯ (le_size (by decide)))];congr 4;delta mH;rw[af2,ā];congr 1
  .refine ae8 λx U=>?_
   rw[é] at U
   show lI _=lI (if x=i then ds else L x)
   rw[ÿ ⋯]
  .simp
 refine aha ap (g ds c _ lf #[Z.st.set nV _,Z.dict.set tQ _,λi hi=>(í ⋯).trans (Z.bx i hi),Z.ext.qR ⋯ _] (ñ (Ä.mp Y).1))
def V2 (h:BJ W k j b n s0 s M R T) (hL:s[b+8]?=ϊ (.lst (mH L 8))) (hj:j≠k) (hb:∀i,i<8->b+i≠k) (nV:b+8≠k) (pE:∀i,i<8->b+i≠j) (tQ:b+8≠j) (hl:s0.length<=j) (hn:n<1000) (o1:0<of) (o2:of<=3) (Dp:0<=mu/\mu<4)
 (hR:∀(d:Int) (u v:List Int),dg (.made mu d u v)=ό->(∀x∈u,d∈L x.toNat)->(∀x∈v,d∉L x.toNat)->R (.made mu d u v))
 (g:∀(b9 gr gu:Option D) (s':ai),BJ W k j b (n+1) s0 s' M R T->s'[b+8]?=ϊ (.lst (mH L 8))->Q (.nx [ϊ (.aw k),ϊ (.aw j),ϊ (.int mo),ϊ (.int of),ϊ (.int mu),a5,ϊ (.aw (b+8)),a7,a8,b9,gr,gu]) s') :
  Wp ((ay (aM (ak bC (af (ae 0) (af (eC (.int 31)) ah))) (gN 9)) (ay (aM (aQ 1 [0,3] (bT (af (eC (.int 8)) ah)) (gN 0) (aU (e2 cu (ak bC (af (ae 1) (af (ae 2) ah))) (eC (.int 0)))) (ae 0)) (gN 10)) (ay (aM (eB cG (af (aQ 1 [9,6] (bq (ae 10)) (gN 0) (aU (e2 ic (ae 1) (e2 aC (ae 2) (ae 0)))) (ae 0)) ah)) (gN 11)) (TK.jO W (eC (.bl ό)) (ae 1) (bp (af (eC (.str "made")) (af (ae 4) (af (ae 9) (af (bp (af (ae 11) (af (eB cG (af (aQ 1 [9,6] (bq (ae 10)) (gN 0) (aU (e2 fY (ae 1) (e2 aC (ae 2) (ae 0)))) (ae 0)) ah)) ah))) ah))))))))) [ϊ (.aw k),ϊ (.aw j),ϊ (.int mo),ϊ (.int of),ϊ (.int mu),a5,ϊ (.aw (b+8)),a7,a8,a9,zU,zV] s) Q:=by
 refine qb (kQ h.st (m:=31) (by decide) (by decide) λY t1 Z N e1=>?_);have S:=h.draw hj hb e1 N;refine qb (PU (eQ (n:=8) rfl (by decide)) (by rw[fC];decide) ((W9 S.st o1 ⋯).mono λH U hs=>?_));let(X,rfl,mk,K,e2):=hs;have J:=S.draw hj hb e2 K;have le:U[b+8]?=ϊ (.lst (mH L 8)):=((e1.trans e2).val _ (Ä.mp hL).1 nV).trans hL;have G:=mk.len;have P:∀x∈X,aC (.aw (b+8)) (.int x) U=ok (lI (L x.toNat)) U:=λx Z=>by
  have:=mk.lo x Z;erw[aC,iU,res,le,mH,OQ (n:=8) this.1 ⋯,bU]
 have O:(X.map D.int).length<=1000000:=by rw[Ã];omega
 let(s',e,V,I):=J.put hj pE hl (p:=.made mu Y (X.filter λx=>ώ (Y∈L x.toNat)) (X.filter λx=>!ώ (Y∈L x.toNat))) (hR Y _ _ (Er Dp Z (mk.filter _) (mk.filter _) (ahd _) λx Z hl=>by simpa [(î.mp Z).2] using (î.mp hl).2) (λx Z=>by simpa using (î.mp Z).2) (λx Z=>by simpa using (î.mp Z).2)) hn;refine i5 (J3 (iK (ds:=X.map D.int) rfl) O (iJ (λx=>ώ (Y∈L x.toNat)) (λx=>.int x) X λx Z=>#[[ϊ (.int x),ϊ (.int Y),ϊ (.aw (b+8))],rfl,gK (eG qk rfl (zR (P x Z))),λ_=>rfl])) ?_;exact ON rfl rfl (Dj rfl (Td rfl (J3 (iK (ds:=X.map D.int) rfl) O (iJ (λx=>!ώ (Y∈L x.toNat)) (λx=>.int x) X λx Z=>#[[ϊ (.int x),ϊ (.int Y),ϊ (.aw (b+8))],rfl,gK (eG xc rfl (zR (P x Z))),λ_=>rfl])))) e (g _ _ _ _ #[V.st,V.dict.mono (λ_ h=>h) (λ_ h=>.inl h),V.bx,V.ext] ((I.val _ (Ä.mp le).1 tQ).trans le))
end
def Dq (mu:Int) (M:Nat->List Int) (p:Pg):Prop:=dg p=ό/\∃(d:Int) (x:Nat),x<8/\p=.bx mu d x/\d∈M x
def AgB (mu:Int) (M L:Nat->List Int):Pg->Prop
 | .bx m d k=>m=mu/\d∈M k.toNat
 | .made m d u v=>m=mu/\(∀x∈u,d∈L x.toNat)/\∀x∈v,d∉L x.toNat
def Ag (mu:Int) (M L:Nat->List Int) (p:Pg):Prop:=dg p=ό/\AgB mu M L p
section
variable (W:ģ) (k j n:Nat) (s0 s:ai) (mo of mu:Int) (R0 T0:Pg->Prop)
abbrev tq (M:Nat->List Int) (q:Pg):Prop:=T0 q\/∃(x:Nat) (d:Int),x<8/\d∈M x/\q=.bx mu d x
abbrev II (b:Nat) (b7 b8 b9 gr gu:Option D):Env:=[ϊ (.aw k),ϊ (.aw j),ϊ (.int mo),ϊ (.int of),ϊ (.int mu),ϊ (memD b),ϊ (.aw (b+8)),b7,b8,b9,gr,gu]
abbrev MI1 (b i:Nat) (env:Env) (s':ai):Prop:=∃b7 b8 b9 gr gu M,env=II k j mo of mu b b7 b8 b9 gr gu/\(∀x,x<8->(M x).length<=i)/\BJ W k j b (n+i) s0 s' M (λp=>R0 p\/Dq mu M p) (tq mu T0 M)/\s'[b+8]?=ϊ (.lst [])
abbrev MI2 (b i:Nat) (M:Nat->List Int) (env:Env) (s':ai):Prop:=∃b7 b8 b9 gr gu L,env=II k j mo of mu b b7 b8 b9 gr gu/\(∀x,x<i->∃c,Lf (M x) c 31 (L x))/\BJ W k j b n s0 s' M (λp=>R0 p\/Dq mu M p) (tq mu T0 M)/\s'[b+8]?=ϊ (.lst (mH L i))
abbrev MI3 (b i:Nat) (M L:Nat->List Int) (env:Env) (s':ai):Prop:=∃b7 b8 b9 gr gu,env=II k j mo of mu b b7 b8 b9 gr gu/\BJ W k j b (n+i) s0 s' M (λp=>R0 p\/Ag mu M L p) (tq mu T0 M)/\s'[b+8]?=ϊ (.lst (mH L 8))
end
def U6 (h:bo s k) (hd:fP W R0 T0 s j n) (x0:Ex k s0 s) (hj:j≠k) (hl:s0.length<=j) (hn:n<900) (o1:0<of) (o2:of<=3) (Dp:0<=mu/\mu<4)
 (g:∀(b5 b6 b7 b8 b9 gr gu:Option D) (s':ai) (M L:Nat->List Int),(∀x,x<8->∃c,Lf (M x) c 31 (L x))->bo s' k->fP W (λp=>R0 p\/Ag mu M L p) (λq=>T0 q\/∃(x:Nat) (d:Int),x<8/\d∈M x/\q=.bx mu d x) s' j (n+7)->Ex k s0 s'->Q (.nx [ϊ (.aw k),ϊ (.aw j),ϊ (.int mo),ϊ (.int of),ϊ (.int mu),b5,b6,b7,b8,b9,gr,gu]) s') :
  Wp ((ay (aM (bp (af (aQ 1 [] (bT (af (eC (.int 8)) ah)) (gN 0) bu (eNew ah)) (af (eNew ah) ah))) (gT [(gN 5),(gN 6)])) (ay (fv (bT (af (ak bC (af (ae 0) (af (eC (.int 4)) ah))) ah)) (gN 7) (ay (aM (bp (af (ak bC (af (ae 0) (af (eC (.int 8)) ah))) (af (ak bC (af (ae 0) (af (eC (.int 31)) ah))) ah))) (gT [(gN 8),(gN 9)])) (ay (cJ (gj (e2 aC (ae 5) (ae 8)) (ae 9))) (TK.jO W (eC (.bl ό)) (ae 1) (bp (af (eC (.str "mended")) (af (ae 4) (af (ae 9) (af (ae 8) ah))))))))) (ay (fv (bT (af (eC (.int 8)) ah)) (gN 8) (cJ (gj (ae 6) (ak uj (af (ae 0) (af (e2 aC (ae 5) (ae 8)) ah)))))) (fv (bT (af (ak bC (af (ae 0) (af (eC (.int 5)) ah))) ah)) (gN 7) (ay (aM (ak bC (af (ae 0) (af (eC (.int 31)) ah))) (gN 9)) (ay (aM (aQ 1 [0,3] (bT (af (eC (.int 8)) ah)) (gN 0) (aU (e2 cu (ak bC (af (ae 1) (af (ae 2) ah))) (eC (.int 0)))) (ae 0)) (gN 10)) (ay (aM (eB cG (af (aQ 1 [9,6] (bq (ae 10)) (gN 0) (aU (e2 ic (ae 1) (e2 aC (ae 2) (ae 0)))) (ae 0)) ah)) (gN 11)) (TK.jO W (eC (.bl ό)) (ae 1) (bp (af (eC (.str "made")) (af (ae 4) (af (ae 9) (af (bp (af (ae 11) (af (eB cG (af (aQ 1 [9,6] (bq (ae 10)) (gN 0) (aU (e2 fY (ae 1) (e2 aC (ae 2) (ae 0)))) (ae 0)) ah)) ah))) ah))))))))))))) [ϊ (.aw k),ϊ (.aw j),ϊ (.int mo),ϊ (.int of),ϊ (.int mu),a5,a6,a7,a8,a9,zU,zV] s) Q:=by
 have hk:=h.lt;have qN:=hd.lt;have zF:s0.length<=s.length:=x0.len;refine ahc λR hR=>?_;erw[ip,lP,bz,bQ];refine Z4 ?_;erw[rN,bQ];refine#[by decide,le_size (show 2<=1000000 by decide),_,rfl,?_];subst hR;generalize I:s++Ñ 8 (Cell.lst [])++[Cell.lst []]=s1;have E:(s++Ñ 8 (Cell.lst [])).length=s.length+8:=by simp
 rw[E];have e1:Ex k s s1:=by rw[<- I,Ö];exact Ex.app k s _
 have B1:BJ W k j s.length n s0 s1 (λ_=>[]) R0 T0:=by
  refine#[by rw[<- I,Ö];exact h.app _,hd.ex e1 hj,λi hi=>?_,x0.trans e1];rw[<- I,Ö,ç ⋯,Ù (by simp;omega),show s.length+i-s.length=i by omega,ĵ,õ hi];rfl
 have L1:s1[s.length+8]?=ϊ (.lst []):=by rw[<- I,ç ∅];simp
 have N:∀i,i<8->s.length+i≠k:=λi _=>by omega
 have pE:∀i,i<8->s.length+i≠j:=λi _=>by omega
 have K:s.length+8≠k:=by omega
 have C:s.length+8≠j:=by omega
 let(_,t1,et,U,rfl,Ka,Kb,Y,Tp):=j8 (m:=4) B1.st (by decide) (by decide);refine uQ (xn (s1:=t1) (n:=U.toNat) (i:=U) (ahb (by simp only[VC];exact aha et #[rfl,rfl])) ⋯ ⋯) ?_;have H:=B1.draw hj N Tp Y;have L2:t1[s.length+8]?=ϊ (.lst []):=(Tp.val _ (Ä.mp L1).1 K).trans L1;have A:BJ W k j s.length n s0 t1 (λ_=>[]) (λp=>R0 p\/Dq mu (λ_=>[]) p) (λq=>T0 q\/∃(x:Nat) (d:Int),x<8/\d∈(λ_=>([]:List Int)) x/\q=.bx mu d x) :=
  #[H.st,H.dict.mono (λ_ h=>.inl h) (λq V=>by rcases V with V | ⟨x,d,_,hd,_⟩;exact V;exact(ü hd).elim),H.bx,H.ext]
 refine Wp.jw (λi env s'=>i<=U.toNat->MI1 W k j n s0 mo of mu R0 T0 s.length i env s') _ (λ_=>#[_,_,_,_,_,_,rfl,λ_ _=>ahd _,A,L2]) (λi d env s' hd Z=>?_) (λenv s' Z=>?_)
 .rw[iL] at hd
  split at hd
  .cases hd
   let(b7,b8,b9,gr,gu,M,rfl,z,B,L):=Z ⋯;refine#[_,rfl,?_]
   refine V0 B hj N pE hl zF ⋯ (λx T=>by have:=z x T;omega) λx d c8 c9 s2 T hd J keep=>(λ_=>#[_,_,_,_,_,λi=>if i=x then M i++[d] else M i,rfl,λy hy=>?_,?_,(keep _ (Ä.mp L).1 K C λi hi=>by omega).trans L])
   .have:=z y hy
    show (if y=x then M y++[d] else M y).length<=i+1
    split
    .rw[Î,ο];omega
    .omega
   .have sub:∀y e,e∈M y->e∈(if y=x then M y++[d] else M y):=λy e he=>by
     split
     .exact Û.mpr (.inl he)
     .exact he
    have G:=J (R':=λp=>R0 p\/Dq mu (λi=>if i=x then M i++[d] else M i) p) (λp X=>by
     rcases X with X | ⟨Y,e,y,S,P,w⟩
     .exact .inl X
     .exact .inr #[Y,e,y,S,P,sub y e w]) (.inr #[Ep Dp hd ⋯,d,x,T,rfl,by show d∈(if x=x then M x++[d] else M x);rw[õ rfl];simp])
    exact#[G.st,G.dict.mono (λ_ h=>h) (λq V=>by
     rcases V with V | ⟨y,e,Y,S,P⟩
     ·exact .inl (.inl V)
     ·have O:e∈(if y=x then M y++[d] else M y):=S
      by_cases t:y=x
      ·rw[õ t] at O
       rcases Û.mp O with h6|h6
       ·exact .inl (.inr ⟨y,e,Y,h6,P⟩)
       ·rw[Ø.mp h6,t] at P
        exact .inr P
      ·rw[ÿ t] at O
       exact .inl (.inr ⟨y,e,Y,O,P⟩)),G.bx,G.ext]
  .cases hd
 rw[fC] at Z;let(b7,b8,b9,gr,gu,M,rfl,z,B3,L3):=Z (ahd _);rw[fZ];refine uQ (eQ (n:=8) rfl (by decide)) ?_;refine Wp.jw (λi env s'=>i<=8->MI2 W k j (n+U.toNat) s0 mo of mu R0 T0 s.length i M env s') _ (λ_=>#[_,_,_,_,_,λ_=>[],rfl,λx T=>(Nat.not_lt_zero x T).elim,B3,L3]) (λi d env s' hd Z=>?_) (λenv s' Z=>?_)
 .rw[iL] at hd
  split at hd
  .rename_i hi
   cases hd;let(b7,b8,b9,gr,gu,L,rfl,lf,B,r):=Z ⋯;refine#[_,rfl,?_];erw[Ÿ,ı,ľ]
   refine V1 B r hi hj N K C zF λo c s2 l2 J f=>(λ_=>#[_,_,_,_,_,λx=>if x=i then o else L x,rfl,λx T=>?_,J,f])
   by_cases Tq:x=i
   .subst Tq
    exact#[c,by show Lf (M x) c 31 (if x=x then o else L x);rw[õ rfl];exact l2]
   .let(c,l):=lf x ⋯
    exact#[c,by show Lf (M x) c 31 (if x=i then o else L x);rw[ÿ Tq];exact l]
  .cases hd
 rw[fC] at Z;let(b7,b8,b9,gr,gu,L,rfl,lf,F,L4):=Z (ahd _);have B4:BJ W k j s.length (n+U.toNat) s0 s' M (λp=>R0 p\/Ag mu M L p) (λq=>T0 q\/∃(x:Nat) (d:Int),x<8/\d∈M x/\q=.bx mu d x):=#[F.st,F.dict.mono (λp X=>by
  rcases X with X | ⟨Y,e,y,S,rfl,w⟩
  ·exact .inl X
  ·exact .inr ⟨Y,rfl,by rw[ă];exact w⟩) (λ_ h=>h),F.bx,F.ext]
 rw[fZ,mT];let(_,t5,b,a,rfl,x50,x51,O,Tr):=j8 (m:=5) B4.st (by decide) (by decide);refine aha (xn (s1:=t5) (n:=a.toNat) (i:=a) (ahb (by simp only[VC];exact aha b #[rfl,rfl])) ⋯ ⋯) ?_;have B5:=B4.draw hj N Tr O;have L5:t5[s.length+8]?=ϊ (.lst (mH L 8)):=(Tr.val _ (Ä.mp L4).1 K).trans L4;refine Wp.jw (λi env s'=>i<=a.toNat->MI3 W k j (n+U.toNat) s0 mo of mu R0 T0 s.length i M L env s') _ (λ_=>#[_,_,_,_,_,rfl,B5,L5]) (λi d env s' hd Z=>?_) (λenv s' Z=>?_)
 .rw[iL] at hd
  split at hd
  .rename_i hi
   cases hd;let(b7,b8,b9,gr,gu,rfl,B,r):=Z ⋯;refine#[_,rfl,?_];exact V2 B r hj N K pE C hl ⋯ o1 o2 Dp (λd u v X Y S=>.inr #[X,rfl,Y,S]) λc9 c10 c11 s2 J f=>(λ_=>#[_,_,_,_,_,rfl,J,f])
  .cases hd
 rw[fC] at Z;let(b7,b8,b9,gr,gu,rfl,B6,L6):=Z (ahd _);exact g _ _ _ _ _ _ _ _ M L lf B6.st (B6.dict.more ⋯) B6.ext
def U7 (hd:qy ps) (h:∀m∈m4,∀k∈k8,Bh (sN ps m k) (lN ps m k) (mN ps m k)):fE ps=[]:=by
 delta fE;rw[af3];intro m W;rw[af3];intro k V;rw[List.map_eq_nil_iff];delta ke;rw[af3];intro d U;rw[List.map_eq_nil_iff,List.filter_eq_nil_iff];intro e T Z;have hs:=lH.mp U;let(i,hi,rfl):=á.mp T;rw[é] at hi;have R:=hd.of hs;delta nU at Z;erw[Ç,afV,Æ,Ĕ] at Z;have e1:((d.toNat))=d:=by omega
 have e2:(((d+(i)).toNat))=d+(i):=by omega
 let(x,Q,P,X):=h m W k V d.toNat (d+(i)).toNat (by erw[sN,e1,Æ];exact hs) ⋯ ⋯ (by
  rcases Z.1 with z | ⟨O,S⟩
  .exact .inl (by erw[lN,e2,Æ];exact z)
  .exact .inr #[by omega,by erw[mN,e1,Æ];exact S])
 have Y:=Z.2;delta nD at Y;rw[Ž] at Y;erw[mN,Æ] at X;refine Y _ X ?_;erw[Ç,Æ];omega
abbrev RB (n:Nat) (MM LL:Nat->Nat->List Int) (p:Pg):Prop:=∃m,m<n/\Ag m (MM m) (LL m) p
abbrev TB (n:Nat) (MM:Nat->Nat->List Int) (q:Pg):Prop:=∃m,m<n/\∃(x:Nat) (d:Int),x<8/\d∈MM m x/\q=.bx m d x
def YD (h:fP W R T s j n) (hn:n<64) (hj:env[1]?=ϊ (ϊ (.aw j)))
 (q:∀ps,(∀p∈ps,R p)->(∀p,T p->p∈ps)->ps.length<=n->(ps.Pairwise λa b=>fc.lt a b=ό)->Q (bD ps) s):Wp (eB cG (af (eB ka (af (eB mY (af (ae 1) ah)) ah)) ah) env s) Q:=by
 let(ps,e,Z,len):=h;have e1:ae 1 env s=ok (.aw j) s:=by delta ae;rw[hj]
 have e2:mY [.aw j] s=ok (.lst (ps.map Pg.d)) s:=by
  delta mY;erw[e];rw[õ (by rw[Ã];exact gZ ⋯),ï];rfl
 have X:ka [.lst (ps.map Pg.d)] s=ok (.lst ((ST.gf fc ps).map Pg.d)) s:=by
  delta ka;erw[res];rw[õ (by rw[Ã];omega),AR Z.1];rfl
 erw[kj,bz,bQ];refine aha e1 (aha e2 (aha X ?_));refine aha (rfl) (q _ (λp Y=>Z.2.1 p ((ST.jF ps).mem_iff.mp Y)) (λp Y=>(ST.jF ps).mem_iff.mpr (Z.2.2 p Y)) (by rw[(ST.jF ps).length_eq];exact len) (EX Z.1))
def Uo (lf:∀m x,m<n->x<8->∃c,Lf (MM m x) c 31 (LL m x)) (hp:∀p∈ps,RB n MM LL p) (ht:∀p,TB n MM p->p∈ps) (hk:0<=k/\k<8):Bh (sN ps m k) (lN ps m k) (mN ps m k):=by
 have O:∀{d},d∈shown ps m k->∃m0,m0<n/\m=m0/\d∈LL m0 _:=λh=>by
  let(p,Z,rfl):=á.mp h;rw[î] at Z;let(m0,X,V):=hp p Z.1
  cases p with
  |made U T u v =>
   have Y:=Z.2;erw[Dk,Ç,Æ] at Y;let(_,S,N,_):=V;exact#[m0,X,by rw[<- Y.1];exact S,N k Y.2]
  |bx U T P=>cases Z.2
 have M:∀{d} {m0:Nat},m=m0->d∈jm ps m k->d∉LL m0 _:=λ{d m0} e h=>by
  let(p,Z,rfl):=á.mp h;rw[î] at Z;let(Q,X,V):=hp p Z.1
  cases p with
  |made U T u v =>
   have Y:=Z.2;erw[Dl,Ç,Æ] at Y;let(_,S,_,L):=V;have:Q=m0:=by omega
   rw[<- this];exact L k Y.2
  |bx U T P=>cases Z.2
 have K:∀{d} {m0:Nat},m=m0->d∈f6 ps m k->d∈MM m0 k.toNat:=λ{d m0} e h=>by
  let(p,Z,rfl):=á.mp h;rw[î] at Z;let(Q,X,V):=hp p Z.1
  cases p with
  |made U T u v=>cases Z.2
  |bx U T P =>
   have Y:=Z.2;erw[zS,Ç,Æ] at Y;let(_,S,R):=V;have:Q=m0:=by omega
   rw[<- this,<- Y.2];exact R
 intro d e hs J D W;erw[sN,lN,mN,Æ] at hs W;let(m0,X,em,R):=O hs;let(c,F):=lf m0 k.toNat X ⋯
 rcases W with W | ⟨rfl,W⟩
 .apply Classical.byContradiction
  intro I;have S:=λx H Y G=>by
   refine I #[x,H,Y,?_];erw[mN,Æ];have E:=ht _ #[m0,X,k.toNat,x,by omega,G,rfl];refine á.mpr #[_,î.mpr #[E,?_],rfl];erw[zS,Ç,Æ];exact#[em.symm,by omega]
  have all:∀i,d+i<=e->((d+i:Nat):Int)∈LL m0 k.toNat:=by
   intro i
   induction i with
   |zero=>intro _;exact R
   |succ i ih =>
    intro hi;have:=F.on _ (ih ⋯) ⋯ (by
     have:=S (d+i+1) ⋯ ⋯;rwa [show ((d+i+1:Nat))=((d+i))+1 by omega] at this)
    rwa [show ((d+(i+1):Nat))=((d+i))+1 by omega]
  have:=all (e-d) ⋯;rw[show d+(e-d)=e by omega] at this;exact M em W this
 .exact((F.lo _ R).2.2 (K em W)).elim
def YE (h:bo s k):Wp (xk W [.aw k] s) λd s'=>∃ps,d=bD ps/\ps.length<=21/\bo s' k/\Ex k s s'/\fq ps=ό:=by
 have b:=h.lt;have D:s.length≠k:=by omega
 delta xk;rw[iB];rw[jH];erw[ip,lP,bz,bQ,Z1];have A:fP W (RB 0 (λ_ _=>[]) (λ_ _=>[])) (TB 0 (λ_ _=>[])) (s++[.dT []]) s.length 0:=#[_,by simp,#[.nil,λ_ h=>(ü h).elim,λp ⟨m,Z,_⟩=>(Nat.not_lt_zero m Z).elim],ahd _];have z:bo (s++[.dT []]) k:=h.app _
 try simp only[VC]
 refine(j8 z (by decide) (by decide)).mono λd t1 y=>?_;let(C,rfl,a,Kb,T,e1):=y
 try simp only[VC]
 refine(j8 T (by decide) (by decide)).mono λd t2 hd2=>?_;let(x2,rfl,J6,J7,Y,e2):=hd2
 try simp only[VC]
 refine#[by decide,?_];have w:=A.ex (e1.trans e2) D;have ext:=(Ex.app k s _).trans (e1.trans e2);refine aha (xn (n:=(1+C).toNat) rfl ⋯ ⋯) ?_;refine Wp.jw (λi env s'=>i<=(1+C).toNat->∃O N K J I H G F X V,env=[ϊ _,ϊ _,ϊ _,ϊ _,O,N,K,J,I,H,G,F]/\(∀m x,m<i->x<8->∃c,Lf (X m x) c 31 (V m x))/\bo s' k/\fP W (RB i X V) (TB i X) s' _ (7*i)/\Ex k s s') _ (λ_=>#[_,_,_,_,_,_,_,_,_,_,rfl,λm x Z=>(Nat.not_lt_zero m Z).elim,Y,w,ext]) (λi d env s' S R=>?_) (λenv s' R=>?_)
 .rw[iL] at S
  split at S
  .cases S
   let(O,N,K,J,I,H,G,F,X,V,rfl,lf,g1,g2,g3):=R ⋯;refine#[_,rfl,?_]
   refine U6 g1 g2 g3 D (ahd _) ⋯ ⋯ ⋯ ⋯ λc5 c6 c7 c8 c9 v u s2 M L E t r o=>(λ_=>#[_,_,_,_,_,_,_,_,λm=>if m=i then M else X m,λm=>if m=i then L else V m,rfl,λm x Z Q=>?_,t,(r.more ⋯).mono (λp P=>?_) (λq j=>?_),o])
   .by_cases U:m=i
    .let(c,l):=E x Q
     exact#[c,by erw[U,ĭ];exact l]
    .let(c,l):=lf m x ⋯ Q
     exact#[c,by erw[U,Ğ];exact l]
   .rcases P with ⟨m,Z,ha⟩|ha
    .exact#[m,by omega,by erw[show m≠i by omega,Ğ];exact ha]
    .exact#[i,by omega,by erw[ĭ];rw[Ÿ] at ha;exact ha]
   .let(m,Z,x,d,T,Y,rfl):=j
    by_cases U:m=i
    .subst U
     erw[ĭ] at Y;exact .inr #[x,d,T,Y,by rw[Ÿ]]
    .erw[U,Ğ] at Y
     exact .inl #[m,by omega,x,d,T,Y,rfl]
  .cases S
 .rw[fC] at R
  let(O,N,K,J,I,H,G,F,X,V,rfl,lf,g1,g2,g3):=R (ahd _);erw[iM,fZ,kc];refine YD (g2.more ⋯) (by decide) rfl λps P g f e=>#[ps,rfl,f,g1,g3,?_];have laid:Laid ps:=#[λp h=>by let(m,_,ha):=P p h;exact ha.1,e];have B:=laid.i6 ⋯;delta fq;rw[B,agJ,List.isEmpty_iff];exact U7 (AK B) λm _ x Q=>Uo lf P g (m7.mp Q)
noncomputable abbrev fy:=List Int×List Int
def fe (p:fy):D:=.tup [mD p.1,mD p.2]
structure cV (p:fy):Prop where
 h:cf 8 p.1
 l:cf 8 p.2
 ap:∀x∈p.1,x∉p.2
abbrev jU (ss:List fy):D:=.tup (ss.map fe)
def YF {ns} {s}:fY (.int x) (mD ns) s=ok (.bl (!ώ (x∈ns))) s:=xc
def Xa (h:bo s k):Wp (uw [.aw k] s) λd s'=>∃p,d=fe p/\cV p/\bo s' k/\Ex k s s':=by
 delta uw;simp only[VC];refine(w6 h (by decide)).mono λd S Z=>?_;let(a,rfl,X,W,e1):=Z;refine(w6 W (n:=8) (by decide)).mono λd R Z=>?_;let(b,rfl,Y,V,e2):=Z;refine#[by decide,?_];have Q:=Y.len;refine aha (ik rfl) #[gZ (by rw[Ã];omega),?_];refine aha (iJ (λx=>!ώ (x∈a)) (λx=>.int x) b λx _=>#[[ϊ _,ϊ _],rfl,ahb (by simp only[VC,YF,Ľ]),λ_=>rfl]) ?_;refine aha (rfl) ?_;exact#[by decide,(a,_),rfl,#[X,Y.filter _,λx U T=>by simpa [U] using (î.mp T).2],V,e1.trans e2]
def Bj:d∈cg↔0<=d/\d<31:=by
 delta cg;rw[á];constructor
 .rintro ⟨i,hi,rfl⟩
  rw[é] at hi;omega
 .intro h
  exact#[d.toNat,by rw[é];omega,by omega]
def GJ {d} {s} (h:0<=d/\d<31):aC (.lst (cg.map G)) (.int d) s=ok (G d) s:=by
 have e:df (cg.map G) d=ϊ (G d):=by
  rw[Ba];delta df;rw[GI h.1 (by simp[cg];omega)];show Option.map G (cg[d.toNat]?)=_;delta cg;rw[Þ,Ł ⋯];show ϊ (G ((d.toNat)))=_;rw[show ((d.toNat))=d by omega]
 erw[aC,iU,res,e,bU]
def sd (p) (s):aC (fe p) (.int 0) s=ok (mD p.1) s/\aC (fe p) (.int 1) s=ok (mD p.2) s:=#[rfl,rfl]
def tR (p:fy) (a b:List Int):Bool:=gB p.1 b&&gB p.2 a
def NO {P A} {d} {s} (h:cV p):ux [fe p,kT P A d] s=ok (.bl (tR p (k8.filter λk=>ώ (d∈P k)) (k8.filter λk=>ώ (d∈A k)))) s:=by
 have Z:=h.h.len;have Y:=h.l.len;refine ahb ?_;delta ux tR kT;simp only[VC,(sd p s).1];refine aha (Tf ..).2 (aha (EU ⋯) ?_);simp only[VC,(sd p s).2];generalize (k8.filter λk=>ώ (d∈A k))=v
 cases gB _ v with
 |false=>simp
 |true =>
  exact aha (Tf ..).1 (aha (EU ⋯) #[rfl,rfl])
def nW (ps:List Pg) (m:Int) (p q:fy):List (List Int):=(p.1.filter λk=>ώ (k∈q.2)).map λk=>f6 ps m k
def Mv {p q} {s} (hl:ps.length<=1000) (h:cV p):wj [bD ps,.int m,fe p,fe q] s=ok (.lst ((nW ps m p q).map lI)) s:=by
 have Z:=h.h.len;refine ahb ?_;delta wj;simp only[VC];refine aha (ik (s1:=s) (ds:=p.1.map D.int) (ahb (by simp only[VC,(sd p s).1,Ľ]))) #[gZ (by rw[Ã];omega),?_];refine aha (iJ (λk=>ώ (k∈q.2)) (λk=>lI (f6 ps m k)) _ λk _=>#[[ϊ _,ϊ _,ϊ _,ϊ _],rfl,ahb (by simp only[VC,(sd q s).2,uz,Ľ]),λ_=>ahb ?_]) ?_
 .simp only[VC]
  exact aha (Bg hl) #[rfl,rfl]
 .delta nW
  rw[ï];exact#[rfl,rfl]
def P5 {p q} (h:cV p) (hl:ps.length<=1000):(nW ps m p q).length<=8/\∀ds∈nW ps m p q,ds.length<=1000:=by
 delta nW;refine#[by rw[Ã];exact Ó (Ĵ ..) h.h.len,λds Z=>?_];let(k,_,rfl):=á.mp Z;exact Ó xf hl
def qz (L:List (List Int)) (d l:Int):Bool:=ώ (l<d)||L.all λZ=>nD Z d l
def NP (h1:L.length<=8) (h2:∀ds∈L,ds.length<=1000):wK [.lst (L.map lI),.int d,.int l] s=ok (.bl (qz L d l)) s:=by
 refine ahb ?_;delta wK qz;simp only[VC]
 cases ώ (l<d) with
 |true=>simp
 |false =>
  refine aha (iK rfl) #[gZ (by rw[Ã];omega),?_];refine aha (comp_map lI (λ_=>ό) (λds=>.bl (nD ds d l)) L λds Z=>#[[ϊ _,ϊ _,ϊ _],rfl,rfl,λ_=>ahb ?_]) ?_
  .simp only[VC]
   exact aha (M4 (h2 ds Z)) #[rfl,rfl]
  rw[filter_tt];exact aha (lK ..) #[rfl,rfl]
noncomputable abbrev Tb:=Int->Int->Bool
def vF (t:Tb):D:=.lst (cg.map λd=>.lst (cg.map λl=>.bl (t d l)))
def pF (ps:List Pg) (m:Int) (p q:fy):Tb:=λd l=>qz (nW ps m p q) d l&&qz (nW ps m q p) l d
def U8 {p q} {s} (hl:ps.length<=1000) (hp:cV p) (hq:cV q):Af [bD ps,.int m,fe p,fe q] s=ok (vF (pF ps m p q)) s:=by
 let(a1,a2):=P5 hp hl;let(Z,Y):=P5 hq hl;refine ahb ?_;delta Af;simp only[VC];refine aha (Mv hl hp) ?_;refine aha (Mv hl hq) ?_;refine aha (eQ rfl (by decide)) #[by exact le_size (by decide),?_];refine aha (iJ (λ_=>ό) (λd=>.lst (cg.map λl=>.bl (pF ps m p q d l))) cg λd _=>#[_,rfl,rfl,λ_=>ahb ?_]) ?_
 .simp only[VC]
  refine aha (eQ rfl (by decide)) #[by exact le_size (by decide),?_];refine aha (iJ (λ_=>ό) (λl=>.bl (pF ps m p q d l)) cg λl _=>#[[ϊ _,ϊ _,ϊ _,ϊ _],rfl,rfl,λ_=>ahb ?_]) ?_
  .simp only[VC]
   refine aha (NP a1 a2) ?_;simp only[VC,pF]
   cases qz _ d l with
   |false=>simp
   |true =>
    exact aha (NP Z Y) #[rfl,rfl]
  .exact#[rfl,rfl]
 .exact#[rfl,rfl]
def YG (ts:List Tb) (ds):hZ (ts.map vF) (ds.map D.int)=(ts.zip ds).map λp=>D.tup [vF p.1,.int p.2]:=by
 delta hZ;rw[List.zip_map,ï];rfl
def free_eq {ts:List Tb} {ds} {d} {s} (ht:ts.length<=10) (hd:0<=d/\d<31) (sO:∀x∈ds,0<=x/\x<31):AF [.lst (ts.map vF),mD ds,.int d] s=ok (.bl ((ts.zip ds).all λp=>p.1 p.2 d)) s:=by
 refine ahb ?_;delta AF;simp only[VC];refine aha (rfl) #[?_,?_]
 .rw[AM,Ã]
  exact gZ ⋯
 rw[YG];refine aha (comp_map (λp=>D.tup _) (λ_=>ό) (λp=>.bl (p.1 p.2 d)) _ λp Z=>#[[ϊ _,ϊ _,ϊ _],rfl,rfl,λ_=>ahb ?_]) ?_
 .simp only[VC]
  have Y:=sO _ (agO Z).2;refine aha (GJ Y) ?_;exact aha (GJ hd) #[rfl,rfl]
 rw[filter_tt];exact aha (lK ..) #[rfl,rfl]
def iY:fy:=([],[])
def vG (ps:List Pg) (m:Int) (p:fy):List Int:=cg.filter λd=>tR p (k8.filter λk=>ώ (d∈fT ps m k)) (k8.filter λk=>ώ (d∈eI ps m k))
def vd (ps:List Pg) (m:Int) (ss:List fy) (i:Nat):List Tb:=(Ô i).map λa=>pF ps m (ss.getD a iY) (ss.getD i iY)
def we (ps:List Pg) (m:Int) (ss:List fy) (i:Nat) (dt:List Int):List (List Int):=((vG ps m (ss.getD i iY)).filter λd=>((vd ps m ss i).zip dt).all λp=>p.1 p.2 d).map λd=>dt++[d]
def fz (ps:List Pg) (m:Int) (ss:List fy):Nat->List (List Int)
 |0=>[[]]
 |i+1=>(fz ps m ss i).flatMap (we ps m ss i)
def Dt (n:Nat) (dt:List Int):Prop:=dt.length=n/\∀d∈dt,0<=d/\d<31
def BC {ss} {i}:∀dt∈fz ps m ss i,Dt i dt:=by
 induction i with
 |zero=>intro dt h;rw[fz,Ø] at h;subst h;exact#[rfl,λd Z=>(by cases Z)]
 |succ i ih =>
  intro dt h;let(b,Y,h):=Ő.mp h;let(d,Z,rfl):=á.mp h;let(l,r):=ih b Y;refine#[by rw[Î,l];rfl,λx hx=>?_]
  rcases Û.mp hx with hx|hx
  .exact r x hx
  .rw[Ø.mp hx]
   exact Bj.mp (î.mp (î.mp Z).1).1
def OV {ss} {i}:(fz ps m ss i).length<=31 ^ i:=by
 induction i with
 |zero=>simp[fz]
 |succ i ih =>
  refine Ó (og λx _=>?_) (agE 31 ih);delta we vG;rw[Ã];exact Ó (Ĵ ..) (Ó (Ĵ ..) (by simp[cg]))
def GK {i:Nat} {s} (h:i<ss.length):aC (jU ss) (.int i) s=ok (fe (ss.getD i iY)) s:=by
 have e:df (ss.map fe) (i)=ϊ (fe (ss.getD i iY)):=by
  rw[Ba];delta df;rw[GI ⋯ ⋯];show Option.map fe (ss[(i:Int).toNat]?)=_;rw[ă,ý,É h];rfl
 erw[aC,iU,res,e,bU]
def FL {ss:List fy} (h:∀p∈ss,cV p) {i} (hi:i<ss.length):cV (ss.getD i iY):=by
 rw[ý,É hi];exact h _ (Ţ hi)
def U9 {ss} {i} {s} {e6 e7} {Q} (hl:ps.length<=1000) (h3:ss.length<=3) (hs:∀p∈ss,cV p) (hi:i<ss.length)
  (q:∀e6 e7,Q (.nx [ϊ (bD ps),ϊ (.int m),ϊ (jU ss),ϊ (.lst (cg.map (kT (fT ps m) (eI ps m)))),ϊ (.lst ((fz ps m ss (i+1)).map mD)),ϊ (.int i),e6,e7]) s) :
  Wp (Ml [ϊ (bD ps),ϊ (.int m),ϊ (jU ss),ϊ (.lst (cg.map (kT (fT ps m) (eI ps m)))),ϊ (.lst ((fz ps m ss i).map mD)),ϊ (.int i),e6,e7] s) Q:=by
 have W:=FL hs hi;refine oK (env':=[ϊ (bD ps),ϊ (.int m),ϊ (jU ss),ϊ (.lst (cg.map (kT (fT ps m) (eI ps m)))),ϊ (.lst ((fz ps m ss i).map mD)),ϊ (.int i),ϊ (lI (vG ps m (ss.getD i iY))),e7]) (s':=s) (ahb ?_) ?_
 .erw[ip,jQ,iN]
  refine aha (eQ rfl (by decide)) #[by exact le_size (by decide),?_];refine aha (iJ (λd=>tR _ _ _) (λd=>.int d) cg λd Y=>#[[ϊ _,ϊ _,ϊ _,ϊ _],rfl,ahb ?_,λ_=>rfl]) #[rfl,rfl];simp only[VC,GK hi,GJ (Bj.mp Y)];refine aha (NO W) ?_;rw[pZ];exact#[rfl,rfl]
 refine oK (env':=[ϊ (bD ps),ϊ (.int m),ϊ (jU ss),ϊ (.lst (cg.map (kT (fT ps m) (eI ps m)))),ϊ (.lst ((fz ps m ss i).map mD)),ϊ (.int i),ϊ (lI (vG ps m (ss.getD i iY))),ϊ (.lst ((vd ps m ss i).map vF))]) (s':=s) (ahb ?_) ?_
 .erw[ip,jQ,iN]
  refine aha (eQ rfl ⋯) #[by rw[fC];exact le_size ⋯,?_];refine aha (comp_map (λa=>D.int _) (λ_=>ό) (λa=>vF (pF ps m (ss.getD a iY) (ss.getD i iY))) _ λa V=>#[[ϊ _,ϊ _,ϊ _,ϊ _,ϊ _],rfl,rfl,λ_=>ahb ?_]) ?_
  .have V:=é.mp V
   simp only[VC];rw[Ÿ];refine aha (GK ⋯) (aha (GK hi) ?_);exact aha (U8 hl (FL hs ⋯) W) #[rfl,rfl]
  .rw[filter_tt]
   delta vd;rw[ï];exact#[rfl,rfl]
 erw[ip,jQ];rw[w9];refine aha (iK rfl) ?_;refine aha (mZ mD (λ_=>ό) (λZ=>(we ps m ss i Z).map mD) _ λZ X=>#[[ϊ _,ϋ,ϊ _,ϊ _],rfl,rfl,λ_=>?_]) ?_
 .let(dl,U):=BC Z X
  delta more;rw[iK rfl,bH];rw[mZ _ (λd=>((vd ps m ss i).zip Z).all λp=>p.1 _ d) (λd=>[mD _]) _ λd Y=>#[_,rfl,ahb ?_,λ_=>ahb ?_]]
  .delta we
   rw[ï,<- afa];rfl
  .simp only[VC]
   refine aha (free_eq (by delta vd;rw[Ã,Ŗ];omega) (Bj.mp (î.mp Y).1) U) ?_;rw[pZ];exact#[rfl,rfl]
  .delta emit
   rw[bI];simp only[VC];refine#[by decide,?_];refine aha (gH (b:=[d]) (by simp;omega)) ?_;simp
 .rw[filter_tt]
  have e:((fz ps m ss i).flatMap λZ=>(we ps m ss i Z).map mD)=(fz ps m ss (i+1)).map mD:=by
   rw[fz,Ų]
  rw[e];refine#[?_,q ..];rw[Ã];refine le_size (Ó OV ?_);have:i+1<=3:=by omega
  exact Ó (agG (by decide) this) (by decide)
def Mw {ss} {s} (hl:ps.length<=1000) (h3:ss.length<=3) (hs:∀p∈ss,cV p):Wp (AG [bD ps,.int m,jU ss] s) λx s'=>x=.lst ((fz ps m ss ss.length).map mD)/\∃c,s'=s++c:=by
 refine iB.symm ▸ #[rfl,ahc λR W=>?_];simp only[VC];refine(Bi hl).mono λx s1 T=>?_;let(rfl,c,rfl):=T;subst W;refine oK rfl ?_;refine ahc λR W=>?_;rw[mT];refine aha (eQ (s1:=s++c) (n:=ss.length) (ahb ?_) ⋯) ?_
 .simp only[VC]
  exact aha (by rw[show cR _ _=ok _ _ from rfl,Ã]) #[rfl,rfl]
 refine Wp.jw (λi env t=>t=s++c/\∃V Y X,env=[ϊ _,ϊ _,ϊ _,ϊ _,ϊ (.lst ((fz ps m ss i).map mD)),V,Y,X]) _ #[rfl,_,_,_,rfl] (λi d env t Z U=>?_) λenv t U=>?_
 .let(rfl,V,Y,X,rfl):=U
  rw[iL] at Z;split at Z
  .rename_i hi
   have Z:=ahe Z;rw[Ÿ] at Z;subst Z;exact#[_,rfl,U9 hl h3 hs hi λY X=>#[rfl,_,_,_,rfl]]
  .cases Z
 .let(rfl,V,Y,X,rfl):=U
  rw[fC,fZ];subst W;erw[iM,dD,dE,kc];exact#[trivial,c,rfl]
noncomputable def zZ:Int->List Int->Int
 |b,[]=>b
 |b,d::Z=>if b<d then zZ d Z else zZ b Z
noncomputable def z9:Int->List Int->Int
 |b,[]=>b
 |b,d::Z=>if d<b then z9 d Z else z9 b Z
theorem Hy:∀ds b,qx sk (.int b) (ds.map D.int) s=ok (.int (zZ b ds)) s
 | [],b=>rfl
 |d::ds,b=>by
  rw[Ü];delta qx zZ;rw[Dg,iO];by_cases h:b<d
  .rw[Ï h,õ h];exact Hy ds d
  .rw[ø h,ÿ h];exact Hy ds b
theorem Hz:∀ds b,qx BN (.int b) (ds.map D.int) s=ok (.int (z9 b ds)) s
 | [],b=>rfl
 |d::ds,b=>by
  rw[Ü];delta qx z9;rw[show BN _ _ s=ok (.bl (ώ _)) s from rfl,iO];by_cases h:d<b
  .rw[Ï h,õ h];exact Hz ds d
  .rw[ø h,ÿ h];exact Hz ds b
def mx:List Int->Int
 | []=>0
 |d::Z=>zZ d Z
def mn:List Int->Int
 | []=>0
 |d::Z=>z9 d Z
def max_eq (h:ds≠[]):BX [mD ds] s=ok (.int (mx ds)) s/\yf [mD ds] s=ok (.int (mn ds)) s:=by
 cases ds with
 |nil=>exact absurd rfl h
 |cons d ds=>exact#[Hy ds d,Hz ds d]
abbrev qA (ds:List Int):D:=.tup [.int (mx ds-mn ds),.int (mn ds),mD ds]
def NQ (h:ds≠[]):pP [mD ds] s=ok (qA ds) s:=by
 refine ahb ?_;delta pP;simp only[VC];refine aha (max_eq h).1 (aha (max_eq h).2 ?_);simp only[VC];exact aha (max_eq h).2 #[by decide,rfl,rfl]
def Aa (a b:List Int):Bool:=if (mx a-mn a==mx b-mn b)=ό then (if (mn a==mn b)=ό then (if beq (mD a) (mD b)=ό then ύ else yE a b) else ώ (mn a<mn b)) else ώ (mx a-mn a<mx b-mn b)
def abP:gG (qA a) (qA b) s=ok (.bl (Aa a b)) s:=by
 have Z:∀l,lay (qA l)=ό:=λl=>by erw[lay,DI.eT,wU,ķ]
 have W:dep (qA a)<=30:=by erw[dep,dB,Eo];decide
 have e:jh (qA a) (qA b)=ϊ (Aa a b):=by
  show gk _ _=_;delta Aa
  cases h:(mx a-mn a==mx b-mn b) with
  |true =>
   rw[uO (show beq (.int _) (.int _)=ό from h)]
   cases Y:(mn a==mn b) with
   |true =>
    rw[uO (show beq (.int _) (.int _)=ό from Y)]
    cases X:beq _ _ with
    |true=>rw[uO X];rfl
    |false=>rw[uP X];exact GF a b
   |false =>
    rw[uP (show beq (.int _) (.int _)=ύ from Y)];rfl
  |false =>
   rw[uP (show beq (.int _) (.int _)=ύ from h)];rfl
 delta gG;rw[õ (by rw[Z a,Z b,Ï W];rfl),e];rfl
def yj:List Int->List (List Int)->List Int
 |b,[]=>b
 |b,y::Z=>if Aa y b=ό then yj y Z else yj b Z
theorem P6:∀ys b,(∀y∈ys,y≠[])->nv (λd s=>pP [d] s) gG (mD b) (qA b) (ys.map mD) s=ok (mD (yj b ys)) s
 | [],b,_=>rfl
 |y::ys,b,h=>by
  have Z:=NQ (s:=s) (h y Ë);have ih:=λb=>P6 (s:=s) ys b λz Y=>h z (Ì _ Y);rw[Ü];delta nv;erw[Z,iO,bH,abP,yj]
  cases Aa y b with
  |true=>exact ih y
  |false=>exact ih b
def Q5:List (List Int)->Option (List Int)
 | []=>ϋ
 |x::Z=>ϊ (yj x Z)
def IJ:Option (List Int)->D
 |none=>.aD
 |some x=>mD x
def YH (h:∀y∈L,y≠[]):yd pP (.lst (L.map mD)) s=ok (IJ (Q5 L)) s:=by
 cases L with
 |nil=>rfl
 |cons x Z =>
  show aq (ne (pP _ s)) (λk s=>nv (λd s=>pP _ s) gG _ k _ s)=_;rw[NQ (h x Ë),iO];exact P6 Z x λy Y=>h y (Ì _ Y)
def NR {ss} {s} (hb:fq ps=ό) (hm:0<=m/\m<4) (h1:1<=ss.length) (h3:ss.length<=3) (hs:∀p∈ss,cV p):wx [bD ps,.int m,jU ss] s=ok .aD s:=by
 let(V,X):=Et hb;have Z:Ap [jU ss] s=ok (.bl ό) s:=by
  refine ahb ?_;delta Ap;simp only[VC];refine aha (rfl) ?_;simp only[VC,ĭ];refine aha (by rw[show cR _ s=ok _ s from rfl,Ã]) ?_;simp only[VC];rw[Ï ⋯,Ï ⋯];refine aha (ik rfl) #[gZ (by rw[Ã];omega),?_];refine aha (comp_map fe (λ_=>ό) (λ_=>.bl ό) ss λp Y=>#[_,rfl,rfl,λ_=>ahb ?_]) ?_
  .simp only[VC]
   have q:=hs p Y;have a1:=q.h.len;have a2:=q.l.len;refine aha (EV ⋯ ⋯) ?_;have e:gB p.1 p.2=ό:=by
    delta gB;rw[Ĕ,Ž];intro x W;simpa using q.ap x W
   rw[t6 q.h (ahd _),t6 q.l (ahd _),e];exact#[rfl,rfl]
  refine aha (lK (λ_=>ό) ..) ?_;simp
 refine ahb ?_;delta wx;simp only[VC];refine aha (AV ⋯ (λp Y=>(X p Y).jT) hb) (aha (Eu hm) (aha Z ?_));simp only[VC,ŏ,Ò,Ğ,Ľ]
def Na {ss} {s} (hb:fq ps=ό) (hm:0<=m/\m<4) (h1:1<=ss.length) (h3:ss.length<=3) (hs:∀p∈ss,cV p):Wp (qX [bD ps,.int m,jU ss] s) λx s'=>x=IJ (Q5 (fz ps m ss ss.length))/\∃c,s'=s++c:=by
 let(X,W):=Et hb;delta qX;simp only[VC];refine aha (NR hb hm h1 h3 hs) ?_;refine(Mw ⋯ h3 hs).mono λx V Z=>?_;let(rfl,c,rfl):=Z;refine aha (YH λy Y=>?_) #[rfl,c,rfl];have:=(BC y Y).1;intro z;rw[z] at this;simp at this;omega
section
variable (b:Nat->Bool)
noncomputable def kK (n:Nat):Bool:=ώ (0<n)&&b (n-1)
def bZ:Nat->List (Nat×Nat)
 |0=>[]
 |n+1=>if (b n&&kK b n)=ό then (bZ n).dropLast++[(((bZ n).getLast?.getD (0,0)).1,n)] else if b n=ό then bZ n++[(n,n)] else bZ n
noncomputable def yG:Nat->Nat->Nat
 |0,e=>e
 |f+1,e=>if b (e+1)=ό then yG f (e+1) else e
def kL (n:Nat):Bool:=b n&&!kK b n
def IK (f n:Nat):List (Nat×Nat):=((Ô n).filter (kL b)).map λd=>(d,yG b f d)
variable {b}
theorem OW:∀{f d e},d<=e->(∀x,d<x->x<=e->b x=ό)->b (e+1)=ύ->e-d<f->yG b f d=e
 |0,_,_,_,_,_,h=>by omega
 |f+1,d,e,W,Z,Y,V=>by
  delta yG;by_cases h:d=e
  .subst h
   rw[Y];simp
  .rw[õ (Z _ ⋯ ⋯)]
   exact OW ⋯ (λx U X=>Z x ⋯ X) Y ⋯
def Told (b:Nat->Bool) (f n:Nat):Prop :=
 (kK b n=ύ/\bZ b n=IK b f n)\/(kK b n=ό/\∃S d,(Ô n).filter (kL b)=S++[d]/\d<n/\(∀x,d<=x->x<n->b x=ό)/\bZ b n=(S.map λd=>(d,yG b f d))++[(d,n-1)])
theorem Q6 (f):∀n,n<=f->Told b f n
 |0,_=>.inl #[rfl,rfl]
 |n+1,O=>by
  have Y:(Ô (n+1)).filter (kL b)=(Ô n).filter (kL b)++if kL b n=ό then [n] else []:=by
   rw[af2]
   by_cases h:kL b n=ό<;>simp[ű,h]
  have W:kK b (n+1)=b n:=by simp[kK]
  rcases Q6 f n ⋯ with ⟨X,h⟩ | ⟨X,S,d,U,N,T,R⟩
  .cases Z:b n with
   |false =>
    refine .inl #[by rw[W,Z],?_];erw[bZ,Z,Bool.false_and,Ò,Ğ,h];delta IK;rw[Y,show kL b n=ύ by simp[kL,Z]];simp
   |true =>
    refine .inr #[by rw[W,Z],(Ô n).filter (kL b),n,?_,by omega,λx V Q=>?_,?_]
    .rw[Y,show kL b n=ό by simp[kL,Z,X]]
     simp
    .rw[show x=n by omega];exact Z
    .erw[bZ,Z,X,Bool.and_false,Ò,Ğ,ĭ,h]
     rfl
  .have hs:kL b n=ύ:=by simp[kL,X]
   rw[hs] at Y;erw[Ò,Ğ,ĕ] at Y
   cases Z:b n with
   |false =>
    refine .inl #[by rw[W,Z],?_];erw[bZ,Z,Bool.false_and,Ò,Ğ,R];delta IK;rw[Y,U,ā];erw[Ü,Ŋ];rw[OW (e:=n-1) ⋯ (λx V Q=>T x ⋯ ⋯) (by rw[show n-1+1=n by omega];exact Z) ⋯]
   |true =>
    refine .inr #[by rw[W,Z],S,d,by rw[Y,U],by omega,λx V Q=>?_,?_]
    .by_cases P:x=n
     .rw[P];exact Z
     .exact T x V ⋯
    .erw[bZ,Z,X,ķ,ĭ,R]
     simp
end
noncomputable abbrev nX (p:Nat×Nat):D:=.tup [.int p.1,.int p.2]
def IL {d} {s} (h:0<=d/\d<31):aC (.lst ((Ô 31).map f)) (.int d) s=ok (f d.toNat) s:=by
 erw[aC,iU,res,OQ h.1 h.2,bU]
def RL:dZ (n+1) (-1)=ϊ n:=by
 delta dZ;rw[ÿ ⋯,õ ⋯];congr 1;omega
def Cv {x:D}:df (xs++[x]) (-1)=ϊ x:=by
 delta df;rw[Î,ο,RL];simp
def abQ {ds} {x} (h:s[k]?=ϊ (.lst (ds++[x]))):aC (.aw k) (.int (-1)) s=ok x s:=by
 delta aC iU res;erw[h,Cv];rfl
def aaa {ds} {x y} (h:s[k]?=ϊ (.lst (ds++[x]))):kZ (.aw k) (.int (-1)) y s=ϊ (s.set k (.lst (ds++[y]))):=by
 delta kZ;erw[h];have e:dZ (ds++[x]).length (-1)=ϊ ds.length:=by rw[Î,ο,RL]
 rw[e];simp
theorem EZ (b):∀n,(bZ b n).length<=n
 |0=>ahd _
 |n+1=>by
  have:=EZ b n;delta bZ;split
  .erw[Î,List.length_dropLast,Ú,Ċ]
   omega
  .split
   .simp;omega
   .omega
def Nb (h:kK b n=ό):∃L d e,bZ b n=L++[(d,e)]:=by
 rcases Q6 n n (ahd _) with ⟨Z,_⟩ | ⟨_,S,d,_,_,_,e⟩
 .rw[h] at Z;cases Z
 .exact#[_,_,_,e]
def abR:wC [.lst ((Ô 31).map λi=>.bl (b i))] s=ok (.lst ((bZ b 31).map nX)) (s++[.dead]):=by
 refine ahb ?_;delta wC;erw[iB,Ú,Ċ,Nat.reduceAdd,Nat.reduceSub,Ñ,Ü,Ŋ,č,ĥ,afw,jH,ip,jQ,rN,bQ,ı,ľ,fZ,mT];refine#[by decide,?_];refine aha (eQ (n:=31) rfl (by decide)) ?_;refine Wp.jw (λi env Z=>i<=31->∃a2,env=[ϊ _,ϊ _,a2]/\Z=s++[.lst ((bZ b i).map nX)]) _ (λ_=>#[_,rfl,rfl]) (λi d env Z Y W=>?_) (λenv Z W=>?_)
 .rw[iL] at Y
  split at Y
  .cases Y
   let(a2,rfl,rfl):=W ⋯;refine#[_,rfl,?_];erw[ı,ľ,Ÿ];have cell:(s++[Cell.lst ((bZ b i).map nX)])[s.length]?=ϊ (.lst ((bZ b i).map nX)):=by simp
   have upd:∀c,(s++[Cell.lst ((bZ b i).map nX)]).set s.length c=s++[c]:=λc=>by simp[agv]
   have ln:=EZ b i;have app:(b i&&kK b i)=ύ->Wp (bO (dA (e2 aC (ae 0) (ae 2))) (cJ (gj (ae 1) (bp (af (ae 2) (af (ae 2) ah))))) bY [ϊ (.lst ((Ô 31).map λi=>.bl (b i))),ϊ (.aw s.length),ϊ (.int i)] (s++[.lst ((bZ b i).map nX)])) λX Z=>X=.nx [ϊ (.lst ((Ô 31).map λi=>.bl (b i))),ϊ (.aw s.length),ϊ (.int i)]/\Z=s++[.lst ((bZ b (i+1)).map nX)]:=λO=>by
    simp only[VC,IL (show 0<=(i:Int)/\(i:Int)<31 by omega),ă]
    have V:bZ b (i+1)=if (b i&&kK b i)=ό then (bZ b i).dropLast++[(((bZ b i).getLast?.getD _).1,i)] else if b i=ό then bZ b i++[(i,i)] else bZ b i:=rfl
    rw[V,O]
    cases U:b i with
    |false=>simp
    |true =>
     refine#[by erw[iE,cell],by decide,aha (show ja ..=ok .aD (s++[.lst ((bZ b i++[(i,i)]).map nX)]) from ?_) (by first|exact#[rfl,rfl]|rfl)]
     delta ja;erw[cell];rw[õ (by rw[Æ,Ã];exact È (show (bZ b i).length<1000 by omega) (le_size (by decide))),upd,ā];rfl
   rw[lR];erw[A7,xE,fm,dD,dE,IL (show 0<=(i:Int)/\(i:Int)<31 by omega),ă,aT,pZ]
   cases U:b i with
   |false =>
    exact(app (by rw[U];rfl)).mono λX R h=>by let(rfl,rfl):=h;exact λ_=>#[_,rfl,rfl]
   |true =>
    erw[ĭ,lQ,fm,kA,dD,dE,By,lJ];by_cases Q:0<i
    .rw[Ï ⋯]
     simp only[ĭ,Bc,IL (show 0<=(i:Int)-1/\(i:Int)-1<31 by omega),aT,pZ];rw[show ((i:Int)-1).toNat=i-1 by omega];have T:kK b i=b (i-1):=by delta kK;rw[Ï Q];rfl
     cases S:b _ with
     |false =>
      exact(app (by rw[T,S,Bool.and_false])).mono λX R h=>by let(rfl,rfl):=h;exact λ_=>#[_,rfl,rfl]
     |true =>
      let(L,d,e,P):=Nb (by rw[T];exact S);rw[P,ā] at cell upd |-;rw[A9];erw[lP,bz,bQ,fm,u9,dD,dE,kA];refine aha (rfl) ?_;refine aha (abQ cell) ?_;refine aha (rfl) ?_;refine⟨le_size (by erw[Ú,Ċ];decide),aha (rfl) ⟨_,aaa cell,λ_=>#[_,rfl,?_]⟩⟩;rw[upd]
      have V:bZ b (i+1)=if (b i&&kK b i)=ό then (bZ b i).dropLast++[(((bZ b i).getLast?.getD _).1,i)] else if b i=ό then bZ b i++[(i,i)] else bZ b i:=rfl
      have:bZ b (i+1)=L++[(d,i)]:=by
       rw[V,U,T,S,P];simp
      rw[this,ā];rfl
    .rw[ø ⋯]
     exact(app (by delta kK;rw[ø Q];simp)).mono λX R h=>by let(rfl,rfl):=h;exact λ_=>#[_,rfl,rfl]
  .cases Y
 .let(a2,rfl,rfl):=W (ahd _)
  erw[iM,fZ,kc,xD,dD,dE];exact aha OS #[rfl,rfl]
theorem OX {α:Type} (d) {nj} {g} {t} {act} (h):∀(xs:List α) s,(∀x∈xs,∃env,g (d x) nj=ϊ env/\(∀s,t env s=ok ό s)/\∀s,Wp (act env s) λys s'=>ys=h x/\∃c,s'=s++c) ->
  Wp (jv g t act nj (xs.map d) s) λys s'=>ys=xs.flatMap h/\∃c,s'=s++c
 | [],s,_=>by
  rw[Ŋ];delta jv;rw[aT];exact#[rfl,[],by simp]
 |x::xs,s,Y=>by
  let(env,X,W,V):=Y x Ë;rw[Ü];delta jv;rw[X];erw[W,iO,bH,ĭ,bI,r9];refine(V s).mono λys T Z=>?_;let(rfl,c,rfl):=Z;refine(OX d h xs _ λy Z=>Y y (Ì _ Z)).mono λzs S U=>?_;let(rfl,R,rfl):=U;rw[aT];exact#[rfl,_,by rw[Ö]]
def Xb (hs:cV p):Ao [fe p] s=ok .aD s:=by
 refine ahb ?_;have Y:=hs.h.len;have X:=hs.l.len;delta Ao;simp only[VC];refine aha (EV ⋯ ⋯) ?_;rw[t6 hs.h (ahd _),t6 hs.l (ahd _),show gB _ _=ό by delta gB;rw[Ĕ,Ž];intro x Z;simpa using hs.ap x Z];simp only[VC,ķ,ŏ,Ò,Ğ,Ľ]
def Dv (ps:List Pg) (m:Int) (p:fy) (d:Int):Bool:=tR p (k8.filter λk=>ώ (d∈fT ps m k)) (k8.filter λk=>ώ (d∈eI ps m k))
abbrev pG (ps:List Pg) (m:Int) (p:fy):Nat->Bool:=λi=>Dv ps m p i
def wg (ps:List Pg) (p:fy):List D:=m4.flatMap λm=>(bZ (pG ps m p) 31).map λq=>D.tup [.int m,.int q.1,.int q.2]
def P7 (ps) (p):(wg ps p).length<=124:=by
 refine Ó (og (b:=31) λm _=>?_) (by decide);rw[Ã];exact EZ _ 31
def Nc (hl:ps.length<=1000) (hf:∀p∈ps,jT p) (hb:fq ps=ό) (hs:cV p):Wp (pO [bD ps,fe p] s) λx s'=>x=.lst (wg ps p)/\∃c,s'=s++c:=by
 delta pO;rw[iB];refine#[rfl,?_];rw[jH,rm];erw[wp_call,bz,bQ,dD,dE,Ü,Ŋ,č,ĥ,Ñ,Nat.reduceSub];refine aha (AV hl hf hb) ?_;rw[fZ,jH,rm];erw[wp_call,bz,bQ,dD,dE];refine aha (Xb hs) ?_;rw[fZ,iM,w9];refine aha (eQ rfl (by decide)) ?_;refine(OX _ (λm=>(bZ (pG ps m p) 31).map λq=>D.tup [.int m,.int q.1,.int q.2]) m4 s λm Y=>#[_,rfl,λ_=>rfl,λs=>?_]).mono λX s' Z=>?_
 .delta more
  rw[bI];have hi:∃c,bq (ak wC (af (aQ 1 [3] (bq (ak mI (af (ae 4) (af (ae 0) ah)))) (gN 0) bu (ak ux (af (ae 1) (af (ae 0) ah)))) ah)) [ϊ (.int m),ϋ,ϋ,ϊ (fe p),ϊ (bD ps)] s=ok ((bZ (pG ps m p) 31).map nX) (s++c):=by
   let(x,s',e,rfl,c,rfl):=Bi hl;refine#[c++[.dead],iK (ahb ?_)];erw[wp_call,bz,bQ,iN];refine aha (iK (s1:=s++c) (ds:=cg.map (kT (fT ps m) (eI ps m))) (ahb ?_)) #[by rw[Ã];exact le_size (by decide),?_]
   .erw[wp_call,bz,bQ,dD,dE]
    exact aha e #[rfl,rfl]
   refine aha (comp_map _ (λ_=>ό) (λd=>.bl (Dv ps m p d)) cg λd W=>#[[ϊ _,ϊ _],rfl,rfl,λ_=>?_]) ?_
   .refine ahb ?_
    erw[wp_call,bz,bQ,dD,dE];exact aha (NO hs) #[rfl,rfl]
   .refine aha (abR (b:=pG ps m p)) #[rfl,?_]
    rw[Ö]
  let(c,hi):=hi;refine aha hi ?_;refine aha (mZ nX (λ_=>ό) (λq=>[D.tup [.int m,.int q.1,.int q.2]]) _ λq V=>#[_,rfl,rfl,λ_=>?_]) ?_
  .refine ahb ?_
   delta emit;rw[bI];simp only[VC]
   first|exact#[by decide,rfl,trivial]|exact#[by decide,trivial]|decide
  .rw[filter_tt,<- afa]
   exact#[rfl,c,rfl]
 .let(rfl,c,rfl):=Z
  refine#[le_size (Ó (P7 ps p) (by decide)),?_];exact#[rfl,c,rfl]
noncomputable abbrev oD:Option Int->D
 |none=>.aD
 |some i=>.int i
abbrev vH (r:List (Option Int)):D:=.tup (r.map oD)
abbrev CB (t:List (List (Option Int))):D:=.tup (t.map vH)
noncomputable abbrev pairD (w:Int×Int):D:=.tup [.int w.1,.int w.2]
def Gr (s s':ai):Prop:=∃c,s'=s++c
def Gr.refl (s):Gr s s:=#[[],by simp]
def Gr.trans (h:Gr a b) (g:Gr b c):Gr a c:=by
 let(x,rfl):=h;let(y,rfl):=g;exact#[x++y,by simp]
theorem Nd {α:Type} (d) {nt} {aW} {g} {f} (h):∀(xs:List α) {s},(∀x∈xs,∀s',Gr s s'->∃env,g (d x) (Ñ nt ϋ++aW)=ϊ env/\Wp (f env s') λy l8=>y=h x/\Gr s' l8) ->
  Wp (fj nt aW g bu f (xs.map d) s) λys s'=>ys=xs.map h/\Gr s s'
 | [],s,_=>Wp.ok #[rfl,Gr.refl s]
 |x::xs,s,Z=>by
  let(env,Y,X):=Z x Ë s (Gr.refl s);rw[Ü];delta fj;rw[Y];show Wp (aq (ne (ok ό s)) _) _;rw[iO,bH,õ rfl,bI,r9];refine X.mono λy S W=>?_;let(rfl,g1):=W;rw[bI];refine(Nd d h xs λV U s' hs=>Z V (Ì _ U) s' (g1.trans hs)).mono λys R T=>?_;let(rfl,g2):=T;exact Wp.ok #[rfl,g1.trans g2]
def qB (rs:List (List Int)) (p o:Nat):List (Int×Int) :=
 (if sub (rs.getD p []) (rs.getD (p+1) [])=ό then [((o:Int)-1,1)] else [])++(if (o==0||sub (rs.getD (o-1) []) (rs.getD (p+1) []))=ό then [((p:Int),0)] else [])
def P8 {c:ag9 Bool} {f g:ag9 D} {env:Env} {s:ai} {acc:List D} {b:Bool} {x y:D} (hc:c env (s++[.lst acc])=ok b (s++[.lst acc])) (h4:ae 4 env (s++[.lst acc])=ok (.aw s.length) (s++[.lst acc])) (hf:f env (s++[.lst acc])=ok x (s++[.lst acc])) (hg:g env (s++[.lst acc])=ok y (s++[.lst acc])) (ha:acc.length<=5) :
  bO c (cJ (gj (ae 4) (bp (af f (af g ah))))) bY env (s++[.lst acc])=ok (.nx env) (s++[.lst (acc++if b=ό then [.tup [x,y]] else [])]):=by
 refine ahb ?_;rw[lR,hc,aT]
 cases b with
 |true =>
  rw[õ rfl,õ rfl,rm,xH,h4,aT];refine#[M8,?_];rw[lP,bz,hf,aT,bz,hg,aT,bQ];exact#[le_size (show 2<=1000000 by decide),aha (OR ⋯) #[rfl,rfl]]
 |false =>
  rw[ÿ è,ÿ è,oo,ĕ];exact#[rfl,rfl]
def aab {rs:List (List Int)} {p o:Nat} {s:ai} (h:lh rs) (hp:p+1<rs.length) (ho:o<=p):Wp (AH [rD rs,.int p,.int ((o:Int)-1)] s) λd s'=>d=.lst ((qB rs p o).map pairD)/\Gr s s':=by
 have Z:∀i,i<rs.length->(rs.getD i []).length<=1000000:=λi hi=>by
  have:=(h.wc (rs.getD i []) (ö (getD_some (d:=[]) hi))).len;omega
 have X:∀{env:Env} {s:ai} {f:ag9 D} {i:Nat},i<rs.length->ae 3 env s=ok (mD (rs.getD (p+1) [])) s->ae 0 env s=ok (rD rs) s->f env s=ok (.int i) s->dA (ak rg (af (ae 3) (af (e2 aC (ae 0) f) ah))) env s=ok (sub (rs.getD i []) (rs.getD (p+1) [])) s:=λ{env s f i} hi W Y V=>by
  refine ahb ?_;rw[xE,wp_call,bz,W,aT,bz,fm,Y,aT,V,aT,Dh hi,aT,bQ,Ms (Z i hi),aT,pZ]
  first|trivial|exact#[rfl,rfl]|exact#[rfl,trivial]|exact#[trivial,rfl]
 delta AH;rw[iB];refine#[rfl,oK (s':=s) (env':=[ϊ (rD rs),ϊ (.int p),ϊ (.int ((o:Int)-1)),ϊ (mD (rs.getD (p+1) [])),ϋ]) (ahb ?_) (oK (s':=s++[.lst []]) (env':=[ϊ _,ϊ (.int p),ϊ (.int ((o:Int)-1)),ϊ (mD (rs.getD _ [])),ϊ (.aw s.length)]) (ahb ?_) (oK (P8 (x:=.int ((o:Int)-1)) (y:=.int 1) (X (i:=p) ⋯ rfl rfl rfl) rfl rfl rfl ∅) (oK (P8 (x:=.int p) (y:=.int 0) (b:=o==0||sub (rs.getD (o-1) []) (rs.getD (p+1) [])) ?_ rfl rfl rfl ?_) ?_)))]
 .simp only[VC]
  rw[show ((p:Int)+1)=((p+1:Nat):Int) by omega,Dh hp,aT]
  first|trivial|exact#[rfl,rfl]|exact#[rfl,trivial]|exact#[trivial,rfl]
 .rw[ip,rN,bQ,jQ]
  exact#[by decide,rfl,rfl]
 .refine ahb ?_
  rw[xF,lQ,fm];erw[dD,dE,kA,xI,lJ];by_cases Y:o=0
  .subst Y
   rw[õ (by decide)]
   first|trivial|exact#[rfl,rfl]|exact#[rfl,trivial]|exact#[trivial,rfl]
  .rw[ÿ (by simp;omega),X (i:=o-1) ⋯ rfl rfl (show _=ok (D.int ((o-1:Nat):Int)) _ by rw[show ((o-1:Nat):Int)=(o:Int)-1 by omega];rfl),aT,show (o==0)=ύ by simpa using Y]
   first|trivial|exact#[rfl,rfl]|exact#[rfl,trivial]|exact#[trivial,rfl]
 .split<;>simp
 .rw[iM,xD]
  refine aha rfl (aha OS #[?_,[.dead],rfl]);delta qB;rw[ā]
  cases sub (rs.getD p []) (rs.getD (p+1) [])<;>cases (o==0||sub (rs.getD (o-1) []) (rs.getD (p+1) []))<;>rfl
noncomputable def yH:List Int->Option Int
 | []=>ϋ
 |n::Z=>ϊ (Z.foldl min n)
def YI (ns):QJ ns=oD (yH ns):=by cases ns<;>rfl
def minD_eq {s}:BR [.lst (ns.map D.int)] s=ok (oD (yH ns)) s:=by
 show (match ki _ with|some ns=>ok _ s|none=>ϋ)=_
 rw[t9,<- YI]
def sx (rs:List (List Int)) (p o:Nat) (after:List (Option Int)):List Int:=(qB rs p o).filterMap λw=>(after.getD (w.1+1).toNat ϋ).map λv=>v+w.2
theorem E1 (f:Int×Int->Option Int):∀(ws:List _),(ws.filter λw=>(f w).isSome).map (λw=>D.int ((f w).getD 0+w.2))=(ws.filterMap λw=>(f w).map λv=>v+w.2).map D.int
 | []=>rfl
 |w::ws=>by
  rw[ű,afJ]
  cases h:f w with
  |none=>simpa using E1 f ws
  |some v=>simpa [h] using E1 f ws
def Q7 {i:Nat} {s} (h:i<r.length):aC (vH r) (.int i) s=ok (oD (r.getD i ϋ)) s:=BA (by rw[Þ,getD_some h];rfl)
def adn {i:Nat} {s} (h:i<t.length):aC (CB t) (.int i) s=ok (vH (t.getD i [])) s:=BA (by rw[Þ,getD_some h];rfl)
def aac:Bq (oD x) .aD s=ok (.bl x.isSome) s:=by cases x<;>rfl
def P9 {p o} (ho:o<=p):∀w∈qB rs p o,∃j:Nat,w.1+1=(j)/\j<p+2:=λw hw=>by
 rcases Û.mp hw with h|h
 .split at h
  .rw[Ø.mp h];exact#[o,by simp,by omega]
  .simp at h
 .split at h
  .rw[Ø.mp h];exact#[p+1,by simp,by omega]
  .simp at h
def YJ:(qB rs p o).length<=2:=by
 delta qB
 split<;>split<;>simp
def Xc {after} {s} (h:lh rs) (hp:p+1<rs.length) (ho:o<=p) (ha:after.length=p+2):Wp (Aw [rD rs,.int p,.int ((o)-1),vH after] s) λd s'=>d=.lst ((sx rs p o after).map D.int)/\Gr s s':=by
 delta Aw;simp only[VC];refine Wp.mono (Q:=λY s'=>Y=(qB rs p o).map pairD/\Gr s s') ?_ λY s' Z=>?_
 .delta bq
  rw[bI];simp only[VC];refine(aab h hp ho).mono λd s' Z=>?_;let(rfl,g):=Z;exact aha rfl #[rfl,g]
 .let(rfl,g):=Z
  refine#[le_size (by have:=YJ (rs:=rs) (p:=p) (o:=o);rw[Ã];omega),?_];refine aha (comp_map pairD (λw=>(after.getD (w.1+1).toNat ϋ).isSome) (λw=>.int ((after.getD (w.1+1).toNat ϋ).getD 0+w.2)) _ λw hw=>#[[ϊ _,ϊ _,ϊ _],rfl,?_,λhs=>?_]) ?_
  .let(j,e,X):=P9 ho w hw
   refine ahb ?_;simp only[VC,e,Q7 (show j<after.length by omega),aac,ă,Ľ]
  .let(j,e,X):=P9 ho w hw
   refine ahb ?_;rw[e,ă] at hs |-;let(v,W):=afM.mp hs;simp only[VC,e,Q7 (show j<after.length by omega),W,Option.getD_some,Ľ]
  .refine#[?_,g]
   rw[E1 λw=>after.getD _ ϋ];rfl
def Bl (rs:List (List Int)) (p:Nat) (after:List (Option Int)):List (Option Int):=(Ô (p+1)).map λo=>yH (sx rs p o after)
def rowAt (rs:List (List Int)):Nat->List (Option Int)
 |0=>Ñ rs.length (ϊ 0)
 |k+1=>Bl rs (rs.length-2-k) (rowAt rs k)
def jV (rs:List (List Int)):Nat->List (List (Option Int))
 |0=>[rowAt rs 0]
 |k+1=>rowAt rs (k+1)::jV rs k
def Xd:∀k,k<rs.length->(rowAt rs k).length=rs.length-k
 |0,_=>by simp[rowAt]
 |k+1,h=>by
  erw[rowAt,Bl,Ã,Ŗ];omega
theorem E2:∀k,(jV rs k).length=k+1
 |0=>rfl
 |k+1=>by rw[jV,Ú,E2 k]
theorem NS:∀k i,i<=k->(jV rs k)[i]?=ϊ (rowAt rs (k-i))
 |0,i,h=>by
  have:i=0:=by omega
  subst this;rfl
 |k+1,0,h=>rfl
 |k+1,i+1,h=>by
  rw[jV,List.getElem?_cons_succ,NS k i ⋯];congr 2;omega
def Xe {k i} (h:i<=k):(jV rs k).getD i []=rowAt rs (k-i):=by
 rw[ý,NS k i h];rfl
def abS (h:xs.length+ys.length<=1000000):dG (.tup xs) (.tup ys) s=ok (.tup (xs++ys)) s:=by
 have e:vn (.tup xs) (.tup ys)=ϊ (.tup (xs++ys)):=by
  show (if sj xs ys=ό then ϊ _ else ϋ)=_
  have Z:sj xs ys=ό:=Ï (le_size h);rw[õ Z]
 show bU (vn (.tup xs) (.tup ys)) s=_;rw[e];rfl
def abT {s s1} {n} (h:fa env s=ok [.int n] s1) (hn:n<=1000000):wa fa env s=ok (rW n) s1:=by
 delta wa;rw[h,bH]
 show (if (kh _&&ώ _)=ό then ok _ s1 else ϋ)=_
 rw[õ (by rw[AS ⋯ ⋯];rfl),ă]
def YK (n):(Ñ n [D.int 0]).flatten=(Ñ n (ϊ (0))).map oD:=by
 induction n with
 |zero=>rfl
 |succ n ih=>rw[ae7,abI,ih,ae7];rfl
def NT (h:lh rs):Wp (ra [rD rs] s) λd s'=>d=CB (jV rs (rs.length-1))/\Gr s s':=by
 have N:=h.lo;have M:=h.hi;delta ra;simp only[VC,OG h,IF];refine#[by decide,?_];refine aha (show jq _ _ s=ok (vH (rowAt rs 0)) s from ?_) ?_
 .have e:Cp (.tup [.int 0]) (.int rs.length)=ϊ (vH (rowAt rs 0)):=by
   show (if (!([D.int 0]).isEmpty&&ώ _&&ώ (1*(rs.length:Int).toNat<=â))=ό then ϊ _ else ϋ)=_
   rw[õ (by rw[Ï ⋯,Ï (le_size ⋯)];rfl),YK];rfl
  show bU _ s=_;rw[e];rfl
 .refine#[by decide,?_]
  refine aha (abT (s1:=s) (ahb (by simp only[VC,IF];exact#[by rw[show ((rs.length)-1)=((rs.length-1:Nat):Int) by omega],trivial])) ⋯) ?_;refine Wp.jw (λi env s'=>Gr s s'/\∃X W,env=[ϊ _,ϊ (CB (jV rs i)),X,W]) _ #[Gr.refl s,_,_,rfl] (λi d env s' Y V=>?_) (λenv s' V=>?_)
  .let(g,X,W,rfl):=V
   rw[MP] at Y;split at Y
   .cases Y
    have T:(((rs.length-1:Nat))-1-i)=((rs.length-2-i:Nat):Int):=by omega
    rw[T];generalize S:rs.length-2-i=p;have R:p+1<rs.length:=by omega
    simp only[VC];have e2:((p:Int) - -1).toNat=p+1:=by omega
    refine aha (Bx rfl ⋯ ⋯ ⋯ ⋯) ?_;rw[e2];refine#[le_size (by rw[fC];omega),?_];refine(Nd (λo=>D.int _) (λo=>.lst ((sx rs p o (rowAt rs i)).map D.int)) _ λo U s1 g1=>#[[ϊ _,ϊ _,ϊ _,ϊ _],rfl,?_]).mono λL s1 Q=>?_
    .have U:=é.mp U
     simp only[VC];rw[show (0)=((0:Nat):Int) from rfl,adn (by rw[E2];omega),Xe (Ă i)];simp only[VC,Nat.sub_zero];exact Xc h R ⋯ (by rw[Xd i ⋯];omega)
    .let(rfl,g1):=Q
     have P:((Ô (p+1)).map λo=>D.lst ((sx rs p o (rowAt rs i)).map D.int))=((Ô (p+1)).map λo=>sx rs p o (rowAt rs i)).map λZ=>D.lst (Z.map D.int):=by rw[ï];rfl
     rw[P];refine aha (iK rfl) #[le_size (by erw[Ã,Ŗ];omega),?_];refine aha (comp_map (λZ=>D.lst _) (λ_=>ό) (λZ=>oD (yH Z)) _ λZ _=>#[_,rfl,rfl,λ_=>?_]) ?_
     .refine ahb ?_
      simp only[VC,minD_eq,Ľ]
     .rw[filter_tt,ï]
      refine aha (rfl) #[by decide,?_];refine aha (abS (by erw[Ã,Ú,Ċ,E2];omega)) #[g.trans g1,?_];have O:((Ô (p+1)).map ((λZ=>oD (yH Z)) ∘ λo=>sx rs p o (rowAt rs i)))=(rowAt rs (i+1)).map oD:=by
       rw[rowAt,Bl,S,ï];rfl
      rw[O];exact#[_,_,rfl]
   .cases Y
  .let(g,X,W,rfl):=V
   rw[MO];simp only[VC];exact g
noncomputable abbrev toF (p:Int×Int×Int×Int):List Int:=[p.1,p.2.1,p.2.2.1,p.2.2.2]
def BD:ST.ny.lt (toF a) (toF b)=if a.1=b.1 then if a.2.1=b.2.1 then if a.2.2.1=b.2.2.1 then ώ (a.2.2.2<b.2.2.2) else ώ (a.2.2.1<b.2.2.1) else ώ (a.2.1<b.2.1) else ώ (a.1<b.1):=by
 show HT.lexLt ..=_;erw[HT.jk];by_cases Z:a.2.2.2=b.2.2.2
 .simp[Z,ST.xi]
 .simp[Z]
def Q8:m4.Pairwise (· < ·):=by decide
def Ca:k8.Pairwise (· < ·):=by decide
def YL:((fE ps).map toF).Pairwise λa b=>ST.ny.lt a b=ό:=by
 rw[ń];refine afr.mpr #[λm _=>afr.mpr #[λk _=>ń.mpr ?_,Ca.imp λ{k X} W x Z y Y=>?_],Q8.imp λ{m V} U x Z y Y=>?_]
 .refine afr.mpr #[λd _=>ń.mpr ?_,(qT _).imp λ{d T} S x Z y Y=>?_]
  ·have up:(qc d).Pairwise (· < ·):=by
    exact ń.mpr (agb.imp λh=>by omega)
   exact(up.filter _).imp λh=>by rw[BD];simpa using h
  .let(_,_,rfl):=á.mp Z
   let(_,_,rfl):=á.mp Y;rw[BD];simp[show ¬ d=T by omega,S]
 .let(_,_,rfl):=á.mp Z
  let(_,_,rfl):=á.mp Y;rw[BD];simp[show ¬ k=X by omega,W]
 .let(_,_,Z):=Ő.mp Z
  let(_,_,Y):=Ő.mp Y;let(_,_,rfl):=á.mp Z;let(_,_,rfl):=á.mp Y;rw[BD];simp[show ¬ m=V by omega,U]
def Xf (h:qy ps):(fE ps).length<=23808:=by
 refine Ó (og (b:=8*744) λm Z=>?_) (by decide);refine Ó (og (b:=744) λk Y=>?_) (by decide);rw[Ã];exact M5 h m k
def sy (L:List (List Int)) (a:Nat):List Int:=iz (L.map λZ=>Z.getD a 0)
def aad (h:∀dt∈L,Dt n dt) (ha:a<n):(sy L a).length<=31:=by
 have:=sub_len (m:=sy L a) ((qT _).imp λh=>Int.ne_of_lt h) λk Z=>by
  let(dt,Y,rfl):=á.mp (lH.mp Z);let(W,X):=h dt Y;refine Bj.mpr (X _ ?_);rw[ý,É ⋯];exact Ţ _
 exact Ó this (by simp[cg])
def ado {a:Nat} {s} (h:a<dt.length):aC (mD dt) (.int a) s=ok (.int (dt.getD a 0)) s:=by
 have e:df (dt.map D.int) (a)=ϊ (.int (dt.getD a 0)):=by
  rw[Ba];delta df;rw[GI ⋯ ⋯];show Option.map _ (dt[(a:Int).toNat]?)=_;rw[ă,ý,É h];rfl
 erw[aC,iU,res,e,bU]
def aae {dt} (h:Dt n dt) (ha:a<n):0<=dt.getD a 0/\dt.getD a 0<31:=by
 refine h.2 _ ?_;rw[ý,É (by have:=h.1;omega)];exact Ţ _
def YM {L:List _} {n a} {s} (h:∀dt∈L,Dt n dt) (ha:a<n) (hl:L.length<=29791) :
  aQ 1 [0] (bq (ae 1)) (gN 0) bu (e1 rB (e2 aC (ae 0) (ae 1))) [ϊ (.int a),ϊ (.lst (L.map mD))] s=ok (lI (L.map λdt=>dt.getD a 0)) s:=by
 have Y:(L.map mD).length<=1000000:=by rw[Ã];omega
 refine AU (iK rfl) Y ?_;rw[comp_map mD (λ_=>ό) (λdt=>.int _) L λdt Z=>#[[ϊ _,ϊ _],rfl,rfl,λ_=>ahb ?_]]
 .rw[filter_tt,ï];rfl
 .erw[u9,fm,dD,dE,ado (show a<dt.length by have:=(h dt Z).1;omega),aT]
  have:=aae (h dt Z) ha;refine aha (?_) #[rfl,rfl];delta rB;simp only[];rw[õ (by rw[Æ];omega)]
def YN (h:∀dt∈L,Dt n dt) (ha:a<n):kM (lI (L.map λdt=>dt.getD a 0)) s=ok (lI (sy L a)) s:=by
 have:=aad h ha;delta sy at this;delta kM;erw[t9];rw[õ (by rw[Æ];omega)];rfl
def abU {ss} (h3:ss.length<=3):(fz ps m ss ss.length).length<=29791:=Ó OV (Ó (agG (by decide) h3) (by decide))
def aaf:cR [jU ss] s=ok (.int ss.length) s:=by rw[show cR _ s=ok _ s from rfl,Ã]
def Xg {α β:Type} (f:α->β) (l:List α):∀j,(l.map f).eraseIdx j=(l.eraseIdx j).map f:=by
 induction l with
 |nil=>intro j;rfl
 |cons a r ih =>
  intro j
  cases j with
  |zero=>rfl
  |succ j=>erw[Ü,List.eraseIdx_cons_succ,ih]
def V3 {α:Type} {hs:List α} {i} {x} (h:hs[i]?=ϊ x):hs.Perm (x::hs.eraseIdx i):=by
 induction hs generalizing i with
 |nil=>simp at h
 |cons a t ih =>
  cases i with
  |zero=>cases h;exact .refl _
  |succ i =>
   exact((ih (by simpa using h)).cons a).trans (List.Perm.swap x a _)
def Nf (hl:ps.length<=24) (h:Laid ps):uu [bD ps] s=ok (.lst ((fE ps).map fD)) s:=by
 refine ahb ?_;delta uu;simp only[VC];refine aha (OJ ⋯ λp Z=>Es (h.pg p Z)) ?_;rw[h.i6 hl];simp only[VC,ŏ,Ò,Ğ];exact aha (M6 (AK (h.i6 hl))) #[rfl,rfl]
theorem NU:∀{ps},va ps=ό->ps.Pairwise λa b=>fc.lt a b=ό
 | [],_=>.nil
 | [a],_=>by simp
 |a::b::r,h=>by
  delta va at h;erw[agY,afD,ļ,List.all_cons,Ç] at h;have ih:=NU (by exact h.2);refine û.mpr #[λx hx=>?_,ih]
  rcases Ð.mp hx with rfl|hx
  .exact h.1
  .exact fc.tr _ _ _ h.1 ((û.mp ih).1 x hx)
def rn {O} {l m:List α} (h:l.Perm m) (u:m.Pairwise λa b=>O.lt a b=ό):ST.gf O l=m :=
 (ST.X1 h).trans (ST.Eh (ST.jF m) (ST.wX m) (u.imp λz=>ST.Ord.le_of_lt z))
def xM {l:List Int} (h:l.Pairwise (· < ·)):l.Pairwise λa b=>ST.Ct.lt a b=ό:=h.imp λz=>Ï z
def E3 {α:Type} {l m:List α} (h:l.Perm m) (p):l.any p=m.any p:=by
 rw[ś,ĸ,ĸ];erw[h.mem_iff]
def Ea {α β:Type} {p q:α->List β} {l:List α} (h:∀x∈l,p x=q x):l.flatMap p=l.flatMap q:=by rw[List.flatMap_def,List.flatMap_def,ae8 h]
theorem Ng {α β:Type} {p q:α->List β} (h:∀x,(p x).Perm (q x)):∀l:List α,(l.flatMap p).Perm (l.flatMap q)
 | []=>.refl _
 |x::l=>by exact(h x).append (Ng h l)
def Nm (n:Nat) (f:List Int):Prop:=f.Perm ((Ô n).map λi:Nat=>(i))
noncomputable def bw (f:List Int) (k:Int):Int:=f.getD k.toNat 0
section
variable {n:Nat} {f g:List Int}
def Nm.len (h:Nm n f):f.length=n:=by simpa using h.length_eq
theorem Nm.map (h:Nm n f):((Ô n).map λi:Nat=>(i:Int)).map (bw f)=f:=by
 have Z:=h.len;subst Z;apply į;intro i;by_cases hi:i<f.length
 .simp[bw,hi]
 .simp[hi]
def Nm.mem (h:Nm n f) {x}:x∈f↔0<=x/\x<n:=by
 rw[h.mem_iff,á];constructor
 .rintro ⟨i,hi,rfl⟩
  rw[é] at hi;omega
 .intro h
  exact#[x.toNat,by rw[é];omega,by omega]
def Nm.at (h:Nm n f) {k:Int} (hk:0<=k/\k<n):f[k.toNat]?=ϊ (bw f k):=by
 have Z:=h.len;delta bw;rw[ý,É ⋯];rfl
def Nm.bL (h:Nm n f) {k:Int} (hk:0<=k/\k<n):0<=bw f k/\bw f k<n:=h.mem.mp (ö (h.at hk))
def Nm.nd (h:Nm n f):f.Nodup:=h.nodup_iff.mpr (ń.mpr (agb.imp λh=>by omega))
def Nm.inj (h:Nm n f) {a b:Int} (ha:0<=a/\a<n) (hb:0<=b/\b<n) (e:bw f a=bw f b):a=b:=by
 have e1:=h.at ha;have e2:=h.at hb;rw[e] at e1;let(Z,e1):=Ä.mp e1;let(Y,e2):=Ä.mp e2;have:=(List.getElem_inj h.nd).mp (e1.trans e2.symm);omega
def aag (h:Nm n f) {P Q} (e:∀k:Int,0<=k/\k<n->P (bw f k)=Q k):((((Ô n).map λi:Nat=>(i:Int)).filter Q).map (bw f)).Perm (((Ô n).map λi:Nat=>(i:Int)).filter P):=by
 have q:(((Ô n).map λi:Nat=>(i:Int)).filter Q).map (bw f)=(((Ô n).map λi:Nat=>(i:Int)).map (bw f)).filter P:=by
  generalize Y:(Ô n).map (λi:Nat=>(i:Int))=L;rw[List.filter_map];congr 1;refine agk λk Z=>?_;rw[<- Y,á] at Z;let(i,hi,rfl):=Z;rw[é] at hi;exact(e _ ⋯).symm
 rw[q,h.map];exact h.filter P
def cj (f l:List Int):List Int:=ST.gf ST.Ct (l.map (bw f))
def xg:(cj f l).Perm (l.map (bw f)):=ST.jF _
def Az (h:Nm 8 f) {P Q} (e:∀k,0<=k/\k<8->P (bw f k)=Q k):cj f (k8.filter Q)=k8.filter P :=
 rn (aag h e) (xM (Ca.filter P))
def HA (h:cf 8 l):k8.filter (λk=>ώ (k∈l))=l:=by
 have Z:=Ca.filter λk=>ώ (k∈l);refine((rn (.refl _) (xM Z)).symm.trans ?_);refine rn ((List.perm_ext_iff_of_nodup (Z.imp λz e=>by omega) (h.up.imp λz e=>by omega)).mpr λx=>?_) (xM h.up);rw[î,m7,Æ];exact#[λz=>z.2,λz=>#[h.lo x z,z]]
def kg (h:Nm 8 f) {l} {k} (hl:cf 8 l) (hk:0<=k/\k<8):bw f k∈cj f l↔k∈l:=by
 rw[xg.mem_iff,á];constructor
 .rintro ⟨x,Z,e⟩
  rw[<- h.inj (hl.lo x Z) hk e];exact Z
 .exact λh=>#[k,h,rfl]
def aeZ (h:Nm 8 f) {l} (hl:cf 8 l):cj f l=k8.filter λk=>ώ (k∈cj f l):=by
 conv=>lhs;rw[<- HA hl]
 exact Az h λk Z=>decide_eq_decide.mpr (kg h hl Z)
def uT (p):cf 8 (k8.filter p):=#[λx Z=>m7.mp (î.mp Z).1,Ca.filter p]
def xN (h:Nm 8 f) {l} (hl:cf 8 l):cf 8 (cj f l):=aeZ h hl ▸ uT _
def Qa (h:Nm 8 f) {a b} (ha:cf 8 a) (hb:cf 8 b) (e:cj f a=cj f b):a=b:=by
 rw[<- HA ha,<- HA hb];refine agk λk Z=>decide_eq_decide.mpr ?_;rw[<- kg h ha (m7.mp Z),e,kg h hb (m7.mp Z)]
def E4 (h:Nm 8 f) {a b} (ha:cf 8 a) (hb:cf 8 b):gB (cj f a) (cj f b)=gB a b:=by
 delta gB;rw[E3 xg,List.any_map];congr 1;rw[ś,ĸ,ĸ];refine exists_congr λx=>and_congr_right λZ=>?_;show ώ _=ό↔_;rw[Æ,Æ,kg h hb (ha.lo x Z)]
def iI (f g:List Int):Pg->Pg
 | .made m d h l=>.made (bw g m) d (cj f h) (cj f l)
 | .bx m d k=>.bx (bw g m) d (bw f k)
def bV (f g:List Int) (ps:List Pg):List Pg:=ST.gf fc (ps.map (iI f g))
def uA {h l} (hp:dg (.made m d h l)=ό):(0<=m/\m<4)/\(0<=d/\d<31)/\cf 8 h/\cf 8 l/\gB h l=ό:=by
 erw[dg,i4,jx,Ç,Æ] at hp;exact#[hp.1.1,hp.1.2,tZ hp.2.1,tZ hp.2.2.1,hp.2.2.2]
def xo (hp:dg (.bx m d k)=ό):(0<=m/\m<4)/\(0<=d/\d<31)/\(0<=k/\k<8):=by
 erw[dg,i4,jx,markB,Ç,Æ] at hp;exact#[hp.1.1,hp.1.2,hp.2]
variable (hf:Nm 8 f) (hg:Nm 4 g)
include hf hg
def abV (hp:dg p=ό):dg (iI f g p)=ό:=by
 cases p with
 |made m d h l =>
  let(a,b,c,e,q):=uA hp;have e1:=E4 hf c e;rw[q] at e1;delta gB at e1;rw[Ĕ,Ž] at e1;exact Er (hg.bL a) b (xN hf c) (xN hf e) (ahd _) λx Z Y=>e1 x Z (Ï Y)
 |bx m d k =>
  let(a,b,c):=xo hp;exact Ep (hg.bL a) b (hf.bL c)
def aah (hp:dg p=ό) (hq:dg q=ό) (e:iI f g p=iI f g q):p=q:=by
 cases p with
 |made m d h l =>
  cases q with
  |made W V S R =>
   let(a,_,b,c,_):=uA hp;let(Z,_,Y,U,_):=uA hq
   injection e with e1 e2 X T
   rw[hg.inj a Z e1,e2,Qa hf b Y X,Qa hf c U T]
  |bx=>cases e
 |bx m d k =>
  cases q with
  |made=>cases e
  |bx W V Q =>
   let(a,_,b):=xo hp;let(Z,_,Y):=xo hq
   injection e with e1 e2 X
   rw[hg.inj a Z e1,e2,hf.inj b Y X]
def Qb (h:Laid ps):(ps.map (iI f g)).Nodup :=
 ń.mpr (h.up.imp_of_mem λ{p q} Z Y z e=>by rw[aah hf hg (h.pg p Z) (h.pg q Y) e,fc.qP] at z;cases z)
def FN (h:Laid ps):Laid (bV f g ps):=#[λq Z=>by
 let(p,Y,rfl):=á.mp ((ST.jF _).mem_iff.mp Z);exact abV hf hg (h.pg p Y),EX (Qb hf hg h)]
omit hf hg in
def GN {ps:List Pg}:(bV f g ps).length=ps.length:=by delta bV;rw[(ST.jF _).length_eq,Ã]
omit hf hg in
def FO {ps:List Pg} {P Q:Pg->Bool} (h:∀p∈ps,P (iI f g p)=Q p):(((bV f g ps).filter P).map Pg.day).Perm ((ps.filter Q).map Pg.day):=by
 refine(((ST.jF _).filter P).map _).trans ?_
 rw[List.filter_map,ï,agk (p:=P ∘ iI f g) (q:=Q) h,show Pg.day ∘ iI f g=Pg.day from funext λp=>by cases p<;>rfl]
section
variable {ps:List Pg} {m k:Int} (hp:∀p∈ps,dg p=ό) (hm:0<=m/\m<4) (hk:0<=k/\k<8)
include hp hm hk
def NV:(shown (bV f g ps) (bw g m) (bw f k)).Perm (shown ps m k):=FO λp h=>by
 cases p with
 |made Z d a b =>
  let(r,_,s,_):=uA (hp _ h);erw[Dk,iI,kg hf s hk,show bw g Z=bw g m↔Z=m from #[hg.inj r hm,λe=>by rw[e]]]
 |bx=>rfl
def Nh:(jm (bV f g ps) (bw g m) (bw f k)).Perm (jm ps m k):=FO λp h=>by
 cases p with
 |made Z d a b =>
  let(r,_,_,s,_):=uA (hp _ h);erw[Dl,iI,kg hf s hk,show bw g Z=bw g m↔Z=m from #[hg.inj r hm,λe=>by rw[e]]]
 |bx=>rfl
def Ew:(f6 (bV f g ps) (bw g m) (bw f k)).Perm (f6 ps m k):=FO λp h=>by
 cases p with
 |made=>rfl
 |bx Z d Y =>
  let(r,_,s):=xo (hp _ h);erw[zS,iI,show bw g Z=bw g m↔Z=m from #[hg.inj r hm,λe=>by rw[e]],show bw f Y=bw f k↔Y=k from #[hf.inj s hk,λe=>by rw[e]]]
def YO:ke (bV f g ps) (bw g m) (bw f k)=ke ps m k:=by
 have s:=NV hf hg hp hm hk;have l:=Nh hf hg hp hm hk;have e:=Ew hf hg hp hm hk;delta ke;have u:=by
  have Z:=qT (shown (bV f g ps) (bw g m) (bw f k));have Y:=qT (shown ps m k);exact(rn (.refl _) (xM Z)).symm.trans (rn ((List.perm_ext_iff_of_nodup (Z.imp λz e=>by omega) (Y.imp λz e=>by omega)).mpr λx=>by rw[lH,lH,s.mem_iff]) (xM Y))
 rw[u,show nU _ _ _=nU ps m k from funext λd=>funext λx=>by delta nU nD;erw[l.mem_iff,e.mem_iff,E3 e]]
def GO:fT (bV f g ps) (bw g m) (bw f k)=fT ps m k/\eI (bV f g ps) (bw g m) (bw f k)=eI ps m k:=by
 have s:sN _ _ _=sN ps m k:=funext λd=>decide_eq_decide.mpr (NV hf hg hp hm hk).mem_iff;have l:lN _ _ _=lN ps m k:=funext λd=>decide_eq_decide.mpr (Nh hf hg hp hm hk).mem_iff;have e:mN _ _ _=mN ps m k:=funext λd=>decide_eq_decide.mpr (Ew hf hg hp hm hk).mem_iff;delta fT eI;rw[s,l,e];exact#[rfl,rfl]
end
def fN (f g:List Int) (p:Int×Int×Int×Int):Int×Int×Int×Int:=(bw g p.1,bw f p.2.1,p.2.2)
def NW (hp:∀p∈ps,dg p=ό):((fE ps).map (fN f g)).Perm (fE (bV f g ps)):=by
 have e:(fE ps).map (fN f g)=(m4.map (bw g)).flatMap λm=>(k8.map (bw f)).flatMap λk=>(ke (bV f g ps) m k).map λp=>(m,k,p.1,p.2):=by
  delta fE;rw[Ų,List.flatMap_map];refine Ea λm Z=>?_;rw[Ų,List.flatMap_map];refine Ea λk Y=>?_;rw[YO hf hg hp (xJ.mp Z) (m7.mp Y),ï];rfl
 have e1:m4.map _=g:=hg.map;have e2:k8.map _=f:=hf.map;rw[e,e1,e2];refine(af4 _ hg).trans (Ng (λm=>af4 _ hf) _)
def V4 (hp:∀p∈ps,dg p=ό):((fE ps).map λp=>toF (fN f g p)).Nodup/\ST.gf ST.ny ((fE ps).map λp=>toF (fN f g p))=(fE (bV f g ps)).map toF:=by
 have h:=(NW hf hg hp).map toF;rw[ï] at h;have u:=YL (ps:=bV f g ps);exact#[h.nodup_iff.mpr (u.imp λz e=>by rw[e,ST.ny.qP] at z;cases z),rn h u]
def aai (h:fq ps=ό) (hl:Laid ps) (hn:ps.length<=24):fq (bV f g ps)=ό:=by
 delta fq at h |-;rw[Ç] at h |-;refine#[(FN hf hg hl).i6 (by rw[GN];exact hn),?_];have e:=NW hf hg hl.pg;rw[List.isEmpty_iff.mp h.2] at e;rw[e.symm.eq_nil];rfl
end
def gW (f:List Int) (p:fy):fy:=(cj f p.1,cj f p.2)
def lD (ps:List Pg) (m d:Int):fy:=(xK ps m d,k8.filter λk=>ώ (d∈eI ps m k))
section
variable {f g:List Int} (hf:Nm 8 f) (hg:Nm 4 g)
include hf
def adp (ha:cf 8 a) (hb:cf 8 b) (h:∀x∈a,x∉b):∀x∈cj f a,x∉cj f b:=λx Y=>by
 let(k,Z,rfl):=á.mp (xg.mem_iff.mp Y);rw[kg hf hb (ha.lo k Z)];exact h k Z
def Qc (h:cV p):cV (gW f p):=#[xN hf h.h,xN hf h.l,adp hf h.h h.l h.ap]
def abW (ha:cf 8 a) (hb:cf 8 b):sub (cj f a) (cj f b)=sub a b:=by
 rw[ś,OE,OE];constructor
 .exact λh k Z=>(kg hf hb (ha.lo k Z)).mp (h _ ((kg hf ha (ha.lo k Z)).mpr Z))
 .intro h x Y
  let(k,Z,rfl):=á.mp (xg.mem_iff.mp Y);exact(kg hf hb (ha.lo k Z)).mpr (h k Z)
omit hf in
def abX:cV iY:=#[#[by simp[iY],.nil],#[by simp[iY],.nil],by simp[iY]]
omit hf in
def xO {ss:List fy} (h:∀p∈ss,cV p) (i:Nat):cV (ss.getD i iY):=by
 by_cases hi:i<ss.length
 .exact FL h hi
 .rw[ý,Ġ ⋯]
  exact abX
omit hf in
def get_map {ss:List fy} (i:Nat):(ss.map (gW f)).getD i iY=gW f (ss.getD i iY):=by
 rw[ý,ý,Þ]
 cases ss[i]?<;>rfl
section
variable {ps:List Pg} {m d:Int} (hp:∀p∈ps,dg p=ό) (hm:0<=m/\m<4)
omit hf in
def BE:cf 8 (lD ps m d).1/\cf 8 (lD ps m d).2:=#[uT λk=>ώ (d∈fT ps m k),uT λk=>ώ (d∈eI ps m k)]
omit hf in
def Qd (hb:fq ps=ό) (hm:0<=m/\m<4) (hd:0<=d/\d<31):cV (lD ps m d):=#[BE.1,BE.2,λx Z Y=>by
 let(W,Z):=î.mp Z;have Y:=(î.mp Y).2;let(n,rfl):=afb hd.1;have X:n<=30:=by omega
 rw[show ώ ((n:Int)∈fT ps m x)=_ from Z6 X] at Z;rw[show ώ ((n:Int)∈eI ps m x)=_ from Z7 X,adl (Z5 hb hm (m7.mp W)) X Z] at Y;cases Y]
include hg hp hm
def HB:lD (bV f g ps) (bw g m) d=gW f (lD ps m d):=by
 refine Prod.ext ?_ ?_
 .show xK ..=cj f (xK ps m d)
  exact(Az hf λk Z=>by rw[(GO hf hg hp hm Z).1]).symm
 .show k8.filter (λk=>ώ (d∈eI _ (bw g m) k))=cj f (k8.filter λk=>ώ (d∈eI ps m k))
  exact(Az hf λk Z=>by rw[(GO hf hg hp hm Z).2]).symm
def aaj:yi (bV f g ps) (bw g m) d=cj f (yi ps m d) :=
 (Az hf λk Z=>by rw[(GO hf hg hp hm Z).2]).symm
def Q9 (h:cV p):Dv (bV f g ps) (bw g m) (gW f p) d=Dv ps m p d:=by
 show tR _ (lD _ _ d).1 (lD _ _ d).2=tR p (lD ps m d).1 (lD ps m d).2;rw[HB hf hg hp hm];show (gB (cj f _) (cj f _)&&gB (cj f _) (cj f _))=_;rw[E4 hf h.h BE.2,E4 hf h.l BE.1];rfl
def Qe (h:cV p) (hq:cV q) (x y):qz (nW (bV f g ps) (bw g m) (gW f p) (gW f q)) x y=qz (nW ps m p q) x y:=by
 delta qz nW;congr 1;rw[agr,agr,ś,Ĉ,Ĉ];have e:∀k,0<=k/\k<8->nD _ x y=nD (f6 ps m k) x y:=λk Z=>E3 (Ew hf hg hp hm Z) _;constructor
 .intro H k Z
  let(Y,X):=î.mp Z;have r:=h.h.lo k Y;show nD _ x y=ό;rw[<- e k r];exact H _ (î.mpr #[(kg hf h.h r).mpr Y,Ï ((kg hf hq.l r).mpr (ē X))])
 .intro H k Z
  let(Y,X):=î.mp Z;let(k,W,rfl):=á.mp (xg.mem_iff.mp Y);have r:=h.h.lo k W;show nD _ x y=ό;rw[e k r];exact H _ (î.mpr #[W,Ï ((kg hf hq.l r).mp (ē X))])
theorem Qf (hs:∀p∈ss,cV p):∀i,fz (bV f g ps) (bw g m) (ss.map (gW f)) i=fz ps m ss i
 |0=>rfl
 |i+1=>by
  rw[fz,fz,Qf hs i];delta we vd;have Z:∀a,pF _ _ _ _=pF ps m _ _:=λa=>funext λx=>funext λy=>by
   delta pF;rw[Qe hf hg hp hm (xO hs a) (xO hs i),Qe hf hg hp hm (xO hs i) (xO hs a)]
  erw[get_map,Z];rw[show vG _ _ _=vG ps m _ from agk λd _=>Q9 hf hg hp hm (xO hs i)]
end
def j5 (ps:List Pg) (p:fy):List (List Int):=m4.flatMap λm=>(bZ (pG ps m p) 31).map λq=>[m,q.1,q.2]
def Ab (g:List Int):List Int->List Int
 |m::r=>bw g m::r
 | []=>[]
omit hf in
def yk {ps:List Pg} {p:fy}:wg ps p=(j5 ps p).map tupI:=by
 delta wg j5;rw[Ų];erw[ï];rfl
omit hf in
theorem OY (b:Nat->Bool):∀n,((bZ b n).map (·.1)).Pairwise (· < ·)/\∀x∈(bZ b n).map (·.1),x<n
 |0=>#[.nil,by simp[bZ]]
 |n+1=>by
  let(Y,Z):=OY b n;delta bZ;split
  .rename_i h
   rw[Ç] at h;let(L,d,e,X):=Nb h.2;rw[X] at Y Z;rw[X,List.dropLast_concat,List.getLast?_concat];rw[ā] at Y Z |-;exact⟨Y,λx hx=>Ē (Z x hx)⟩
  .split
   .rw[ā]
    refine#[ô.mpr #[Y,Ş _ _,λx hx y W=>?_],λx hx=>?_]
    .rw[Ø.mp W]
     exact Z x hx
    .rcases Û.mp hx with hx|hx
     .exact Ē (Z x hx)
     .rw[Ø.mp hx]
      exact μ n
   .exact#[Y,λx hx=>Ē (Z x hx)]
omit hf in
def abY {ps:List Pg} {p:fy}:(j5 ps p).Pairwise λa b=>ST.ny.lt a b=ό:=by
 delta j5;refine afr.mpr #[λm _=>ń.mpr ?_,Q8.imp λ{m Z} Y x X y W=>?_]
 .refine(ń.mp (OY (pG ps m p) 31).1).imp λ{a b} h=>?_
  show HT.lexLt _ _=ό;erw[HT.jk];have h:a.1<b.1:=h;rw[õ trivial];rw[ÿ (show ¬ ((a.1:Nat):Int)=(b.1:Nat) by omega)];exact Ï (show ((a.1:Nat):Int)<(b.1:Nat) by omega)
 .let(_,_,rfl):=á.mp X
  let(_,_,rfl):=á.mp W;show HT.lexLt _ _=ό;erw[HT.jk];simp[show ¬ m=Z by omega,Y]
include hg in
def V5 {ps:List Pg} {p:fy} (hp:∀p∈ps,dg p=ό) (h:cV p):((j5 ps p).map (Ab g)).Nodup/\ST.gf ST.ny ((j5 ps p).map (Ab g))=j5 (bV f g ps) (gW f p):=by
 have e:(j5 ps p).map (Ab g)=(m4.map (bw g)).flatMap λm=>(bZ (pG (bV f g ps) m (gW f p)) 31).map λq=>[m,q.1,q.2]:=by
  delta j5;rw[Ų,List.flatMap_map];refine Ea λm Z=>?_;rw[show pG (bV f g ps) (bw g m) (gW f p)=pG ps m p from funext λi=>Q9 hf hg hp (xJ.mp Z) h,ï];rfl
 have e1:m4.map (bw g)=g:=hg.map;have u:=abY (ps:=bV f g ps) (p:=gW f p);have q:((j5 ps p).map (Ab g)).Perm (j5 (bV f g ps) (gW f p)):=by rw[e,e1];exact af4 _ hg
 exact#[q.nodup_iff.mpr (u.imp λ{a b} z e=>by rw[e,ST.ny.qP] at z;cases z),rn q u]
section
variable {rs:List (List Int)} (h:lh rs)
include h
def abZ:lh (rs.map (cj f)):=#[by rw[Ã];exact h.lo,by rw[Ã];exact h.hi,λr Z=>by
 let(l,Y,rfl):=á.mp Z;exact xN hf (h.wc l Y)]
def OZ (i j):sub ((rs.map (cj f)).getD i []) ((rs.map (cj f)).getD j [])=sub (rs.getD i []) (rs.getD j []):=by
 have e:∀i,(rs.map (cj f)).getD i []=cj f (rs.getD i _)/\cf 8 (rs.getD i _):=λi=>by
  rw[ý,ý,Þ]
  cases hi:rs[i]? with
  |none=>exact#[rfl,by simp,.nil]
  |some l=>exact#[rfl,h.wc l (ö hi)]
 rw[(e i).1,(e j).1,abW hf (e i).2 (e j).2]
theorem O0:∀k,iC (rs.map (cj f)) k=iC rs k
 |0=>rfl
 |k+1=>by
  rw[iC,iC,O0 k];delta step rP;erw[OZ hf h]
theorem FP:∀k,rowAt (rs.map (cj f)) k=rowAt rs k
 |0=>by rw[rowAt,rowAt,Ã]
 |k+1=>by
  rw[rowAt,rowAt,FP k,Ã];delta Bl sx qB;erw[OZ hf h]
theorem tab_run:∀k,jV (rs.map (cj f)) k=jV rs k
 |0=>by rw[jV,jV,FP hf h]
 |k+1=>by rw[jV,jV,FP hf h,tab_run k]
end
end
def adq {env:Env} {s:ai} {f1 f2:ag9 D} {x:D} {QD:D->ai->Prop} (h1:f1 env s=ok x s) (hl:iE x s=ό) (h:Wp (f2 env s) λi s=>Wp (vA x i s) QD):Wp (yx f1 f2 env s) QD:=by
 delta yx;rw[h1,bH,õ hl,bI];exact h
def YQ {s:ai} {k n:Nat} (h:bo s k) (hn:n<=100):Wp (uq [.aw k,.int n] s) λd s'=>∃f:List Int,d=lI f/\Nm n f/\bo s' k/\Ex k s s':=by
 have z:=h.lt;delta uq;refine iB.symm ▸ #[rfl,ahc λR J=>?_];show Wp (aM _ _ [ϊ (.aw k),ϊ (.int n),ϋ] s) _;rw[ip,kj,bz,dE,dD,bQ];refine aha (show A3 [.int n] s=ok (.aw s.length) (s++[.lst (((Ô n).map λi:Nat=>(i:Int)).map D.int)]) from ?_) ?_
 .show (if (ώ (0<=(n:Int))&&ώ ((n:Int)<=1000000))=ό then _ else ϋ)=_
  rw[õ (by rw[Ï ⋯,Ï ⋯];rfl),ă,Bd,ï];simp
 rw[jQ];show tL R _ (.nx [ϊ (.aw k),ϊ (.int n),ϊ (.aw s.length)]) _;rw[fZ];subst J;rw[iM,iN];generalize N:(Ô n).map (λi:Nat=>(i:Int))=U;have y:U.length=n:=by rw[<- N];simp
 refine aha (eQ (n:=n) (s1:=s++[.lst (U.map D.int)]) rfl ⋯) #[le_size (by rw[fC];omega),?_];refine uy (λi Y s'=>∃Z left:List Int,Y=Z.map D.int/\Z.length=i/\s'[s.length]?=ϊ (.lst (left.map D.int))/\(Z++left).Perm U/\bo s' k/\Ex k s s') (bL 0 n) #[[],U,rfl,rfl,by simp,.refl _,h.app _,Ex.app _ _ _] (λi d Y s' W T=>?_) λY s' T=>?_
 .let(Z,left,rfl,S,V,X,Q,P):=T
  rw[iL] at W;split at W
  .rename_i hi
   cases W;refine#[[ϊ (.int (0+i)),ϊ (.aw s.length),ϊ (.aw k)],rfl,?_];have x:Z.length+left.length=n:=by
    have:=X.length_eq;rw[Î] at this;omega
   refine aha (show bu _ s'=ok ό s' from rfl) (show Wp (yx _ _ _ s') _ from adq rfl (by delta iE;erw[V]) (fG ((j8 Q (m:=left.length) ⋯ ⋯).mono λd O W=>?_) (adf ?_)))
   case refine_2 =>
    delta cR yu res;erw[V,Ã];rfl
   let(j,rfl,I,w,H,M):=W;let(j,rfl):=afb I;have G:j<left.length:=by omega
   have F:=(Ä.mp V).1;have L:O[s.length]?=ϊ (.lst (left.map D.int)):=(M.val _ F ⋯).trans V;have E:=(Ä.mp L).1;have C:dZ (left.map D.int).length (j:Int)=ϊ j:=by
    delta dZ;rw[õ ⋯,õ (by rw[Ã];omega)];rfl
   have K:left[j]?=ϊ left[j]:=É G;have B:(left.map D.int)[j]?=ϊ (.int left[j]):=by rw[Þ,K];rfl
   have A:(left.map D.int).length<â:=ŭ (show _<=1000000 by rw[Ã];omega) (by decide);refine aha (show vA (.aw s.length) (.int j) O=ok (.int left[j]) (O.set s.length (.lst ((left.map D.int).eraseIdx j))) from ?_) ?_
   .delta vA
    erw[L,C,B,Ï A,ĭ]
   .refine#[Z++[left[j]],left.eraseIdx j,by rw[ā];rfl,by rw[Î,S];rfl,?_,?_,H.set ⋯ _,(P.trans M).hi (ahd _) _]
    .rw[ñ E,Xg]
    .rw[Ö]
     exact(ū Z (V3 K).symm).trans X
  .cases W
 .let(Z,left,rfl,S,V,X,Q,P):=T
  rw[fC] at S;have:=X.length_eq;rw[Î] at this;have e:left=[]:=ŝ.mp ⋯;subst e;rw[ĕ] at X;exact#[Z,rfl,by rw[<- N] at X;exact X,Q,P]
section
variable {n:Nat} {f g:List Int} {s:ai}
def lU (h:Nm n f) {k:Int} (hk:0<=k/\k<n):aC (lI f) (.int k) s=ok (.int (bw f k)) s:=by
 let(i,rfl):=afb hk.1;refine abC ?_;rw[Þ,show f[i]?=ϊ _ from h.at hk];rfl
def named_eq (h:Nm 8 f) {l} (hl:cf 8 l):n9 [mD l,lI f] s=ok (mD (cj f l)) s:=by
 have W:=hl.len;refine ahb ?_;delta n9;simp only[VC];refine aha (ik rfl) #[gZ (by rw[Ã];omega),?_];refine aha (iJ (λ_=>ό) (λk=>.int (bw f k)) l λk Z=>#[[ϊ _,ϊ _],rfl,rfl,λ_=>ahb (by simp only[VC,lU h (hl.lo k Z),Ľ])]) ?_;rw[filter_tt,show (l.map λk=>D.int _)=(l.map _).map _ by rw[ï];rfl];have nd:(l.map _).Nodup:=ń.mpr (hl.up.imp_of_mem λ{a b} Y X z e=>by have:=h.inj (hl.lo a Y) (hl.lo b X) e;omega);refine aha (show xC _ s=ok (lI _) s from ?_) (aha rfl #[rfl,rfl]);delta xC;erw[res,t9];rw[õ (by rw[Ï nd,Ï (gZ (by rw[Ã];omega))];rfl)];rfl
def DW (h:Nm 8 f) {p} (hp:cV p):pH [fe p,lI f] s=ok (fe (gW f p)) s:=by
 refine ahb ?_;delta pH;simp only[VC,(sd p s).1,(sd p s).2];exact aha (named_eq h hp.h) (aha (sd p s).2 (aha (named_eq h hp.l) #[by decide,rfl,rfl]))
def Mx (hf:Nm 8 f) (hg:Nm 4 g) {ps:List Pg} (h:Laid ps) (hn:ps.length<=24):Wp (wu [bD ps,lI f,lI g] s) λd s'=>d=bD (bV f g ps)/\∃c,s'=s++[c]:=by
 delta wu;refine iB.symm ▸ #[rfl,oK (env':=[ϊ (bD ps),ϊ (lI f),ϊ (lI g),ϊ (.aw s.length),ϋ,ϋ,ϋ,ϋ]) (s':=s++[.lst []]) rfl (ahc λR M=>?_)];rw[mT];refine aha (ik (ds:=ps.map Pg.d) rfl) ?_;refine Wp.jw (λi env s'=>i<=ps.length->s'=s++[.lst (((ps.take i).map (iI f g)).map Pg.d)]/\∃V U T S,env=[ϊ (bD ps),ϊ (lI f),ϊ (lI g),ϊ (.aw s.length),V,U,T,S]) _ (λ_=>#[rfl,_,_,_,_,rfl]) (λi d env s' Z W=>?_) (λenv s' W=>?_)
 .rw[Þ] at Z
  cases Y:ps[i]? with
  |none=>rw[Y] at Z;cases Z
  |some p =>
   rw[Y] at Z;have Z:p.d=d:=ahe Z;subst Z;have hi:=(Ä.mp Y).1;let(rfl,V,U,T,S,rfl):=W ⋯;have N:=h.pg p (ö Y);have fin:∀s0:ai,s0=s++[.lst (((ps.take i).map (iI f g)).map Pg.d)]->iE (.aw s.length) s0=ό/\ja (.aw s.length) (iI f g p).d s0=ok .aD (s++[.lst (((ps.take (i+1)).map (iI f g)).map Pg.d)]):=λs0 e=>by
    subst e;refine#[M8,(OR (by erw[Ã,Ŏ];omega)).trans ?_];rw[List.take_succ,Y];simp
   generalize s++[Cell.lst (((ps.take i).map (iI f g)).map Pg.d)]=s0 at fin |-;let(f1,f2):=fin s0 rfl
   cases p with
   |made Q P a b =>
    let(r,_,L,K,O):=uA N;refine#[[ϊ (bD ps),ϊ (lI f),ϊ (lI g),ϊ (.aw s.length),ϊ (.str "made"),ϊ (.int Q),ϊ (.int P),ϊ (fe (a,b))],rfl,?_];refine B0 (Dj (zR (lU hg r)) (ifN (show cu (.str "made") (.str "mended") s0=ok (.bl ύ) s0 from mG.trans (by rw[ø λe=>Be e.symm])) (pC (DW hf (p:=(a,b)) #[L,K,λx J I=>?_])))) f1 f2 λ_=>#[rfl,_,_,_,_,rfl];delta gB at O;rw[Ĕ,Ž] at O;exact O x J (Ï I)
   |bx Q P H =>
    let(r,_,q):=xo N;refine#[[ϊ (bD ps),ϊ (lI f),ϊ (lI g),ϊ (.aw s.length),ϊ (.str "mended"),ϊ (.int Q),ϊ (.int P),ϊ (.int H)],rfl,?_];exact B0 (Dj (zR (lU hg r)) (ifY (show cu (.str "mended") (.str "mended") s0=ok (.bl ό) s0 from mG.trans (by rw[Ï rfl])) (zR (lU hf q)))) f1 f2 λ_=>#[rfl,_,_,_,_,rfl]
 .rw[Ã] at W
  let(rfl,V,U,T,S,rfl):=W (ahd _);rw[fZ];subst M;rw[List.take_length];generalize e:s++[Cell.lst ((ps.map (iI f g)).map Pg.d)]=X;erw[iM,kj,bz,bQ,dD,dE];refine aha (show ka [.aw s.length] X=ok (.lst ((bV f g ps).map Pg.d)) X from ?_) (aha (show cG [.lst ((bV f g ps).map Pg.d)] X=ok (bD (bV f g ps)) X from rfl) ?_)
  .delta ka
   have r:res (.aw s.length) X=.lst ((ps.map (iI f g)).map Pg.d):=by delta res;rw[<- e];simp
   erw[r];rw[õ (by erw[Ã];omega),AR (Qb hf hg h)];rfl
  .rw[kc]
   exact#[rfl,_,e.symm]
end
def O1 {ss} {s} (hb:fq ps=ό) (hm:0<=m/\m<4) (h1:1<=ss.length) (h3:ss.length<=3) (hs:∀p∈ss,cV p):Wp (rh [bD ps,.int m,jU ss] s) λx s'=>x=.lst ((Ô ss.length).map λa=>lI (sy (fz ps m ss ss.length) a))/\∃c,s'=s++c:=by
 let(X,W):=Et hb;delta rh;simp only[VC];refine aha (NR hb hm h1 h3 hs) ?_;refine(Mw ⋯ h3 hs).mono λx s1 Y=>?_;let(rfl,c,rfl):=Y;refine aha (eQ (n:=ss.length) (s1:=s++c) (ahb ?_) ⋯) #[by rw[fC];exact gZ ⋯,?_]
 .simp only[VC]
  exact aha aaf #[rfl,rfl]
 refine aha (comp_map (λa=>D.int _) (λ_=>ό) (λa=>lI (sy (fz ps m ss ss.length) a)) _ λa Z=>#[_,rfl,rfl,λ_=>ahb ?_]) ?_
 .rw[u9,Ÿ]
  exact aha (YM BC (é.mp Z) (abU h3)) (aha (YN BC (é.mp Z)) #[rfl,rfl])
 .rw[filter_tt]
  exact#[rfl,c,rfl]
def Sm (n:Nat) (d:D):Prop:=(zm d=ύ/\lay d=ό)/\dep d<=n/\beq d d=ό
def GP (i):Sm 0 (.int i):=#[#[rfl,rfl],ahd _,ι i]
theorem Qg:∀{ds},(∀x∈ds,Sm n x)->eT ds=ό/\dB ds<=n/\i9 ds ds=ό
 | [],_=>#[rfl,Ă _,rfl]
 |d::ds,h=>by
  obtain⟨⟨_,a⟩,b,c⟩:=h d Ë;let(x,y,z):=Qg λx Z=>h x (Ì _ Z);erw[eT,dB,i9,a,c,x,z,ķ,afw,and_true];omega
def Qh {ds} (h:∀x∈ds,Sm n x):Sm (n+1) (.tup ds)/\Sm (n+1) (.lst ds):=by
 let(x,y,z):=Qg h;exact#[#[#[rfl,x],agz y,z],#[rfl,x],agz y,z]
def qd {α:Type} {n} {f} (h:∀x,Sm n (f x)) (l:List α):Sm (n+1) (.tup (l.map f))/\Sm (n+1) (.lst (l.map f)):=Qh λx Z=>by
 let(y,_,rfl):=á.mp Z;exact h y
def rE (l):Sm 1 (mD l):=(qd GP l).1
def ads (p):Sm 2 (fe p):=(Qh λx Z=>by
 erw[Ð,ü,or_false] at Z
 rcases Z with rfl|rfl
 .exact rE _
 .exact rE _).1
def ql {s} (h:Sm n d) (hn:n<=100:=by decide):eU d d s=ok (.bl ύ) s:=by
 obtain⟨⟨a,b⟩,c,e⟩:=h
 have r:res d s=d:=by cases d<;>first|rfl|cases b
 delta eU xV;rw[r,a,b,e,Ï (Ó (Nat.min_le_left ..) (Ó c hn))];rfl
def ab0 (o):Sm 1 (IJ o):=by
 cases o with
 |none=>exact#[#[rfl,rfl],Ă _,rfl]
 |some x=>exact rE x
def aak (L):Sm 1 (Q0 L):=by
 cases L with
 |nil=>exact#[#[rfl,rfl],Ă _,rfl]
 |cons x Z=>exact rE _
def ab1 (t):Sm 2 (CB t):=(qd (λr=>(qd (λo=>by
 cases o with
 |none=>exact#[#[rfl,rfl],Ă _,rfl]
 |some i=>exact GP i) r).1) t).1
def YR {p} (h:p∈fE ps):(0<=p.1/\p.1<4)/\(0<=p.2.1/\p.2.1<8):=by
 let(m,Z,h):=Ő.mp h;let(k,Y,h):=Ő.mp h;let(_,_,rfl):=á.mp h;exact#[xJ.mp Z,m7.mp Y]
def Ra (h:bP.Nodup/\ST.gf ST.ny bP=L) (hl:bP.length<=1000000):ox [.lst (bP.map tupI)] s=ok (.lst (L.map tupI)) s:=by
 delta ox;erw[res,WH];rw[õ (by rw[Ï h.1,Ï (le_size hl)];rfl),h.2]
structure Bk (ps):Prop where
 b:fq ps=ό
 l:Laid ps
 n:ps.length<=24
def Bk.f (h:Bk ps):∀p∈ps,jT p:=λp Z=>Es (h.l.pg p Z)
theorem Bk.h (h:Bk ps):ps.length<=1000:=Ó h.n (by decide)
def adt (hb:fq ps=ό):Bk ps:=by
 have h:=hb;delta fq i6 at h;erw[Ç,Æ,Ĉ] at h;exact#[hb,#[h.1.2.1,NU h.1.2.2],h.1.1]
section
variable {f g:List Int} {s:ai} {ps:List Pg} (hf:Nm 8 f) (hg:Nm 4 g)
def Bk.sure (h:Bk ps) {m d} (hm:0<=m/\m<4) (hd:0<=d/\d<31):Wp (pV [bD ps,.int m,.int d] s) λx s'=>x=fe (lD ps m d)/\∃c,s'=s++c:=W7 h.h h.f h.b hm hd
include hf hg
def Bk.name (h:Bk ps):Bk (bV f g ps):=#[aai hf hg h.b h.l h.n,FN hf hg h.l,by rw[GN];exact h.n]
def ab2 (h:Laid ps) (hn:ps.length<=24) {e0 e1 fU} {r:Env} :
  eB ox (af (aQ 4 [4,3] (bq (ak uu (af (ae 5) ah))) (gT [gN 0,gN 1,gN 2,gN 3]) bu (bp (af (e2 aC (ae 4) (ae 0)) (af (e2 aC (ae 5) (ae 1)) (af (ae 2) (af (ae 3) ah)))))) ah) (e0::e1::fU::ϊ (lI f)::ϊ (lI g)::ϊ (bD ps)::r) s=ok (.lst ((fE (bV f g ps)).map fD)) s:=by
 have Y:=Xf (AK (h.i6 hn));refine ahb ?_;erw[kj,bz,bQ,iN];refine aha (iK (s1:=s) (ds:=(fE ps).map fD) (ahb ?_)) #[le_size (by rw[Ã];omega),?_]
 .erw[wp_call,bz,bQ,dD,dE]
  exact aha (Nf hn h) #[rfl,rfl]
 refine aha (comp_map fD (λ_=>ό) (λp=>tupI (toF (fN f g p))) _ λp Z=>#[[ϊ _,ϊ _,ϊ _,ϊ _,ϊ _,ϊ _],rfl,rfl,λ_=>ahb ?_]) ?_
 .let(a,b):=YR Z
  erw[lP,bz,bQ,fm,dD,dE];exact aha (lU hg a) (aha (lU hf b) #[gZ (show 4<=1000 by decide),rfl,rfl])
 .rw[filter_tt,show ((fE ps).map λp=>tupI _)=((fE ps).map λp=>toF _).map tupI by rw[ï];rfl]
  refine aha (Ra (V4 hf hg h.pg) (by rw[Ã];omega)) #[?_,rfl];rw[ï];rfl
def places_eq (h:Bk ps) {p q} (hp:cV p) {e0 e1 fU e3 e5 e7 e8 e9 gX fB cW} {r:Env} :
  Wp (eB ox (af (aQ 3 [4] (bq (ak pO (af (ae 6) (af (e2 aC (ae 13) (eC (.int 0))) ah)))) (gT [gN 0,gN 1,gN 2]) bu (bp (af (e2 aC (ae 3) (ae 0)) (af (ae 1) (af (ae 2) ah))))) ah) (e0::e1::fU::e3::ϊ (lI g)::e5::ϊ (bD ps)::e7::e8::e9::gX::fB::cW::ϊ (jU [p,q])::r) s) λx s'=>x=.lst (wg (bV f g ps) (gW f p))/\∃c,s'=s++c:=by
 have Z:=by
  have:=P7 ps p;rw[yk,Ã] at this;exact this
 let(x,s',e,rfl,c,rfl):=Nc h.h h.f h.b hp;erw[kj,bz,bQ,iN];refine aha (iK (s1:=s++c) (ds:=wg ps p) (ahb ?_)) #[le_size (by rw[yk,Ã];omega),?_]
 .erw[wp_call,bz,bQ,dD,dE,fm,kA]
  exact aha (rfl) (aha e #[rfl,rfl])
 rw[yk];refine aha (comp_map tupI (λ_=>ό) (λl=>tupI (Ab g l)) _ λl Z=>?_) ?_
 .let(m,Y,Z):=Ő.mp Z
  let(t,_,rfl):=á.mp Z;refine#[[ϊ _,ϊ _,ϊ _,ϊ _],rfl,rfl,λ_=>ahb ?_];erw[lP,bz,bQ,fm,dD,dE];exact aha (lU hg (xJ.mp Y)) #[gZ (show 3<=1000 by decide),rfl,rfl]
 .rw[filter_tt,show ((j5 ps p).map λl=>tupI _)=((j5 ps p).map _).map tupI by rw[ï];rfl]
  refine aha (Ra (V5 hf hg h.l.pg hp) (by rw[Ã];omega)) #[?_,c,rfl];rw[yk]
def Ey (h:Bk ps) {m} (hm:0<=m/\m<4) {q1 q2 a} {fn} {F} (hF:∀d,cf 8 (F d)) (hV:∀fa env s,env[11]?=ϊ (ϊ (.cx a [] []))->qa 11 q1 pL q2 qY fa env s=ak fn fa env s)
  (h1:∀s,Wp (fn [bD ps,.int m] s) λx s'=>x=B9 F/\∃c,s'=s++c) (h2:∀s,Wp (fn [bD (bV f g ps),.int (bw g m)] s) λx s'=>x=B9 (λd=>cj f (F d))/\∃c,s'=s++c) {e0 e1 fU e5 e7 gX cW} {r:Env} {Q}
  (q:∀cW c,Q (.nx (e0::e1::fU::ϊ (lI f)::ϊ (lI g)::e5::ϊ (bD ps)::e7::ϊ (bD (bV f g ps))::ϊ (.int m)::gX::ϊ (.cx a [] [])::cW::r)) (s++c)) :
  Wp (Gn q1 q2 (e0::e1::fU::ϊ (lI f)::ϊ (lI g)::e5::ϊ (bD ps)::e7::ϊ (bD (bV f g ps))::ϊ (.int m)::gX::ϊ (.cx a [] [])::cW::r) s) Q:=by
 let(x,s',e,rfl,c,rfl):=h1 s;refine oK (env':=e0::e1::fU::ϊ (lI f)::ϊ (lI g)::e5::ϊ (bD ps)::e7::ϊ (bD (bV f g ps))::ϊ (.int m)::gX::ϊ (.cx a [] [])::ϊ (.lst (cg.map λd=>mD (cj f (F d))))::r) (s':=s++c) (ahb ?_) ?_
 .erw[ip,iN]
  refine aha (ik (s1:=s++c) (ds:=cg.map λd=>mD (F d)) ?_) #[gZ (by rw[Ã];decide),?_]
  .rw[hV _ _ _ rfl]
   refine ahb ?_;erw[wp_call,bz,bQ,dD,dE];exact aha e #[rfl,rfl]
  refine aha (comp_map (λd=>mD _) (λ_=>ό) (λd=>mD (cj f (F d))) cg λd _=>#[[ϊ _,ϊ _],rfl,rfl,λ_=>ahb ?_]) ?_
  .erw[wp_call,bz,bQ,dD,dE]
   exact aha (named_eq hf (hF d)) #[rfl,rfl]
  .rw[jQ]
   exact#[rfl,rfl]
 .let(x,s',e,rfl,Z,rfl):=h2 _
  rw[lR,lQ,fm,hV _ _ _ rfl];erw[wp_call,bz,bQ,dD,dE,fm];refine aha (lU hg hm) (aha e ?_);refine aha (rfl) (aha (ql (qd (λd=>rE _) cg).1) ?_);rw[lJ,oo,Ö];exact q ..
def V6 (h:Bk ps) {m} (hm:0<=m/\m<4) {q1 q2} {e0 e1 fU e5 e7 gX fB cW} {r:Env} {Q}
  (q:∀fB cW c,Q (.nx (e0::e1::fU::ϊ (lI f)::ϊ (lI g)::e5::ϊ (bD ps)::e7::ϊ (bD (bV f g ps))::ϊ (.int m)::gX::fB::cW::r)) (s++c)) :
  Wp (fv (bq (qp (af (eC (.cx q1 [] [])) (af (eC (.cx q2 [] [])) ah)))) (gN 11) (Gn q1 q2) (e0::e1::fU::ϊ (lI f)::ϊ (lI g)::e5::ϊ (bD ps)::e7::ϊ (bD (bV f g ps))::ϊ (.int m)::gX::fB::cW::r) s) Q:=by
 have B:=h.name hf hg;have V:=λs=>by
  have:=EY (s:=s) B.h B.f B.b (hg.bL hm);rw[show xK _ _=λd=>cj f _ from funext λd=>ň Prod.fst (HB hf hg h.l.pg hm)] at this;exact this
 have T:=λs=>by
  have:=OT (s:=s) B.h B.f B.b (hg.bL hm);rw[show yi _ _=λd=>cj f _ from funext λd=>aaj hf hg h.l.pg hm] at this;exact this
 have v1:∀Z env s,env[11]?=ϊ (ϊ (.cx q1 [] []))->qa 11 q1 pL q2 qY Z env s=ak pL Z env s:=λZ env s e=>by
  delta qa;rw[e];exact õ rfl
 rw[mT];refine aha (iK rfl) ?_;refine Wp.jw (λi env Y=>∃fB cW c,env=e0::e1::fU::ϊ _::ϊ _::e5::ϊ _::e7::ϊ _::ϊ _::gX::fB::cW::r/\Y=s++c) _ #[_,_,[],rfl,by simp] (λi d env Y X W=>?_) (λenv Y W=>?_)
 .let(fB,cW,c,rfl,rfl):=W
  rcases i with _ | _|i
  .cases X
   refine#[_,rfl,Ey hf hg h hm (λd=>uT _) v1 (λs=>EY h.h h.f h.b hm) V λcW U=>#[_,cW,_,rfl,by rw[Ö]]]
  .cases X
   by_cases e:q2=q1
   .subst e
    refine#[_,rfl,Ey hf hg h hm (λd=>uT _) v1 (λs=>EY h.h h.f h.b hm) V λcW U=>#[_,cW,_,rfl,by rw[Ö]]]
   .refine#[_,rfl,Ey hf hg h hm (λd=>uT _) (λZ env s S=>?_) (λs=>OT h.h h.f h.b hm) T λcW U=>#[_,cW,_,rfl,by rw[Ö]]]
    delta qa;rw[S];exact(ÿ e).trans (õ rfl)
  .cases X
 .let(fB,cW,c,rfl,rfl):=W
  exact q ..
end
def ab3:ag9 Fl:=(ay (aM (bp (af (ak uw (af (ae 2) ah)) (af (ak pV (af (ae 6) (af (ae 9) (af (ae 10) ah)))) ah))) (gN 13)) (ay (aM (eB cG (af (aQ 1 [3] (bq (ae 13)) (gN 0) bu (ak pH (af (ae 0) (af (ae 1) ah)))) ah)) (gN 14)) (ay (aM (eB ox (af (aQ 3 [4] (bq (ak pO (af (ae 6) (af (e2 aC (ae 13) (eC (.int 0))) ah)))) (gT [gN 0,gN 1,gN 2]) bu (bp (af (e2 aC (ae 3) (ae 0)) (af (ae 1) (af (ae 2) ah))))) ah)) (gN 7)) (ay (bO (aU (e2 eU (ak pO (af (ae 8) (af (e2 aC (ae 14) (eC (.int 0))) ah))) (ae 7))) (aL (eC (.bl ύ))) bY) (ay (bO (aU (e2 eU (ak rh (af (ae 8) (af (e2 aC (ae 4) (ae 9)) (af (ae 14) ah)))) (ak rh (af (ae 6) (af (ae 9) (af (ae 13) ah)))))) (aL (eC (.bl ύ))) bY) (ay (bO (aU (e2 eU (ak qX (af (ae 8) (af (e2 aC (ae 4) (ae 9)) (af (ae 14) ah)))) (ak qX (af (ae 6) (af (ae 9) (af (ae 13) ah)))))) (aL (eC (.bl ύ))) bY) (ay (aM (eB cG (af (aQ 1 [2] (bT (af (e2 dG (eC (.int 1)) (ak bC (af (ae 2) (af (eC (.int 8)) ah)))) ah)) (gN 0) bu (ak j7 (af (ae 1) (af (eC (.int 4)) ah)))) ah)) (gN 15)) (ay (aM (eB cG (af (aQ 1 [3] (bq (ae 15)) (gN 0) bu (ak n9 (af (ae 0) (af (ae 1) ah)))) ah)) (gN 16)) (bO (jd (aU (e2 eU (ak qS (af (ae 16) ah)) (ak qS (af (ae 15) ah)))) (aU (e2 eU (ak ra (af (ae 16) ah)) (ak ra (af (ae 15) ah))))) (aL (eC (.bl ύ))) bY)))))))))
section
variable {f g:List Int} {s:ai} {ps:List Pg}
def YS (hf:Nm 8 f) {p q} (hp:cV p) (hq:cV q) {e0 e1 fU e4 e5 e6 e7 e8 e9 gX fB cW} {r:Env} :
  eB cG (af (aQ 1 [3] (bq (ae 13)) (gN 0) bu (ak pH (af (ae 0) (af (ae 1) ah)))) ah) (e0::e1::fU::ϊ (lI f)::e4::e5::e6::e7::e8::e9::gX::fB::cW::ϊ (jU [p,q])::r) s=ok (jU ([p,q].map (gW f))) s:=by
 refine ahb ?_;erw[kj,bz,bQ,iN];refine aha (ik rfl) #[gZ ∅,?_];refine aha (comp_map fe (λ_=>ό) (λx=>fe _) _ λx Z=>#[[ϊ _,ϊ _],rfl,rfl,λ_=>ahb ?_]) (aha rfl #[rfl,rfl]);erw[wp_call,bz,bQ,dD,dE];refine aha (DW hf ?_) #[rfl,rfl];erw[Ð,ü,or_false] at Z
 rcases Z with rfl|rfl
 .exact hp
 .exact hq
def aal (hf:Nm 8 f) {rs} (h:lh rs) {e0 e1 fU e4 e5 e6 e7 e8 e9 gX fB cW lE lF} {r:Env} :
  eB cG (af (aQ 1 [3] (bq (ae 15)) (gN 0) bu (ak n9 (af (ae 0) (af (ae 1) ah)))) ah) (e0::e1::fU::ϊ (lI f)::e4::e5::e6::e7::e8::e9::gX::fB::cW::lE::lF::ϊ (rD rs)::r) s=ok (rD (rs.map (cj f))) s:=by
 have hi:=h.hi;refine ahb ?_;erw[kj,bz,bQ,iN];refine aha (ik rfl) #[gZ (by rw[Ã];omega),?_];refine aha (comp_map mD (λ_=>ό) (λx=>mD (cj f x)) rs λx Z=>#[[ϊ _,ϊ _],rfl,rfl,λ_=>ahb ?_]) ?_
 .erw[wp_call,bz,bQ,dD,dE]
  exact aha (named_eq hf (h.wc x Z)) #[rfl,rfl]
 .rw[filter_tt,show (rs.map λx=>mD _)=(rs.map _).map mD by rw[ï];rfl]
  exact aha rfl #[rfl,rfl]
def Fz (h:bo s k) {e0 e1} {r:Env} :
  Wp (eB cG (af (aQ 1 [2] (bT (af (e2 dG (eC (.int 1)) (ak bC (af (ae 2) (af (eC (.int 8)) ah)))) ah)) (gN 0) bu (ak j7 (af (ae 1) (af (eC (.int 4)) ah)))) ah) (e0::e1::ϊ (.aw k)::r) s) λd s'=>∃rs,d=rD rs/\lh rs:=by
 erw[kj,bz,bQ,iN];let(_,s1,e,n,rfl,T,N,S,M):=j8 h (show (0)<8 by decide) (by decide);let(n,rfl):=afb T;refine aha (xn (n:=n+1) (i:=1+(n)) (s1:=s1) (ahb ?_) ⋯ ⋯) #[gZ (by rw[fC];omega),?_]
 .erw[bz,bQ,fm,kA,wp_call,dD,dE]
  refine aha e ?_;rw[Bb];exact#[rfl,rfl]
 refine uy (λi Z s'=>∃rs,Z=rs.map mD/\rs.length=i/\(∀r∈rs,cf 8 r)/\bo s' k) _ #[[],rfl,rfl,by simp,S] (λi d Z s' V Y=>?_) λZ s' Y=>?_
 .let(rs,rfl,X,W,R):=Y
  refine#[[ϊ d,ϊ _],rfl,?_];rw[show bu _ s'=ok ό s' from rfl,aT];erw[wp_call,bz,bQ,dD,dE,kA];refine(w6 R (n:=4) (by decide)).mono λd L V=>?_;let(l,rfl,U,Q,_):=V;refine#[rs++[l],by rw[ā];rfl,by rw[Î,X];rfl,λr P=>?_,Q]
  rcases Û.mp P with h|h
  .exact W r h
  .rw[Ø.mp h]
   exact#[λx O=>by have:=U.lo x O;omega,U.up]
 .let(rs,rfl,X,W,_):=Y
  rw[fC] at X;exact aha (rfl) #[rs,rfl,by omega,by omega,W]
section
variable {env:Env} {f1 f2:ag9 D} {fa:ag9 (List D)} {R:ag9 Fl} {Q:Fl->ai->Prop} {QD:D->ai->Prop} {fn:List D->ai->Res D} {ds:List D} {x y z:D} {s1:ai} {k:Nat}
def ae0 (h:Wp (f1 env s) λx s=>Wp (f2 env s) λy s=>eU x y s=ok (.bl ύ) s/\Q (.nx env) s):Wp (bO (aU (e2 eU f1 f2)) (aL (eC (.bl ύ))) bY env s) Q:=by
 rw[lR,lQ,fm];exact h.mono λx s h=>h.mono λy s h=>aha h.1 (by rw[lJ,ÿ è,oo];exact h.2)
def yI (h:Wp (f1 env s) λx s=>Wp (f2 env s) λy s=>eU x y s=ok (.bl ύ) s/\Wp (R env s) Q):Wp (ay (bO (aU (e2 eU f1 f2)) (aL (eC (.bl ύ))) bY) R env s) Q:=by
 rw[jH];exact ae0 h
def Qi (h:Wp (f1 env s) λx s=>Wp (f2 env s) λy s=>QD (.tup [x,y]) s):Wp (bp (af f1 (af f2 ah)) env s) QD:=by
 erw[lP,bz,bQ];exact h.mono λx s h=>h.mono λy s h=>#[gZ (show 2<=1000 by decide),h]
def adu {F:List D->ai->Res D} {fb:ag9 (List D)} (q:Wp (F ds s) λx s=>Wp (fn [x] s) QD) (h:fb env s=ok ds s:=by rfl):Wp (ak fn (af (ak F fb) ah) env s) QD:=by
 rw[wp_call,bz,wp_call,h,aT];exact q.mono λx s q=>bQ ▸ q
def IM {fb:ag9 (List D)} (h:aC x y s=ok z s) (h1:f1 env s=ok x s:=by rfl) (h2:f2 env s=ok y s:=by rfl) (h3:fb env s=ok ds s:=by rfl):af (e2 aC f1 f2) fb env s=ok (z::ds) s:=by
 refine ahb ?_;rw[bz,fm,h1,aT,h2,aT,h,aT,h3,aT];exact#[rfl,rfl]
def IQ {fb:ag9 (List D)} (h:fb env s=ok ds s) (h1:f1 env s=ok x s:=by rfl):af f1 fb env s=ok (x::ds) s:=by
 refine ahb ?_;rw[bz,h1,aT,h,aT];exact#[rfl,rfl]
def K1 {r:Res D} (hS:bo s k) (q:∀s,bo s k->QD x s) (h:Wp r λd s'=>d=x/\∃c,s'=s++c):Wp r QD:=h.mono λd s' h=>by
 let(e,c,Z):=h;subst e Z;exact q _ (hS.app c)
def K2 {r:Res D} (hS:bo s k) (q:∀s,bo s k->QD x s) (h:Wp r λd s'=>d=x/\∃c,s'=s++[c]):Wp r QD:=K1 hS q (h.mono λ_ _ h=>#[h.1,let ⟨c,e⟩:=h.2;#[[c],e]])
def ab4 (hS:bo s k) (q:∀p s,cV p->bo s k->QD (fe p) s):Wp (uw [.aw k] s) QD:=(Xa hS).mono λx s h=>by
 let(p,e,Z,Y,_):=h;subst e;exact q p s Z Y
def Rb {m:Int} (hS:bo s k) (q:∀r s,0<=r/\r<m->bo s k->QD (.int r) s) (h1:0<m:=by decide) (h2:m<1073741824:=by decide):Wp (bC [.aw k,.int m] s) QD:=(j8 hS h1 h2).mono λx s h=>by
 let(r,e,a,b,c,_):=h;subst e;exact q r s #[a,b] c
def RM {n:Nat} (hS:bo s k) (q:∀f s,Nm n f->bo s k->QD (lI f) s) (hn:n<=100:=by decide):Wp (uq [.aw k,.int n] s) QD:=(YQ hS hn).mono λx s h=>by
 let(f,e,a,b,_):=h;subst e;exact q f s a b
def adv {W:ģ} (hS:bo s k) (q:∀ps s,ps.length<=24->Laid ps->bo s k->QD (bD ps) s):Wp (xl W [.aw k] s) QD:=(Z3 hS).mono λx s h=>by
 let(ps,e,_,a,b,_,c):=h;subst e;exact q ps s a c b
def adw {W:ģ} (hS:bo s k) (q:∀ps s,Bk ps->bo s k->QD (bD ps) s):Wp (xk W [.aw k] s) QD:=(YE hS).mono λx s h=>by
 let(ps,e,_,a,_,b):=h;subst e;exact q ps s (adt b) a
def runK (hS:bo s k) {e0 e1:Option D} {r:Env} (q:∀rs s,lh rs->QD (rD rs) s):Wp (eB cG (af (aQ 1 [2] (bT (af (e2 dG (eC (.int 1)) (ak bC (af (ae 2) (af (eC (.int 8)) ah)))) ah)) (gN 0) bu (ak j7 (af (ae 1) (af (eC (.int 4)) ah)))) ah) (e0::e1::ϊ (.aw k)::r) s) QD:=(Fz hS).mono λx s h=>by
 let(rs,e,a):=h;subst e;exact q rs s a
end
def YT (hf:Nm 8 f) (hg:Nm 4 g) (h:Bk ps) {m d:Int} (hm:0<=m/\m<4) (hd:0<=d/\d<31) {k:Nat} (hS:bo s k) {e0 e1 e5 e7 fB cW lE lF nY nZ:Option D} {Q:Fl->ai->Prop}
  (q:∀e7 lE lF nY nZ s,Q (.nx [e0,e1,ϊ (.aw k),ϊ (lI f),ϊ (lI g),e5,ϊ (bD ps),e7,ϊ (bD (bV f g ps)),ϊ (.int m),ϊ (.int d),fB,cW,lE,lF,nY,nZ]) s) :
  Wp (ab3 [e0,e1,ϊ (.aw k),ϊ (lI f),ϊ (lI g),e5,ϊ (bD ps),e7,ϊ (bD (bV f g ps)),ϊ (.int m),ϊ (.int d),fB,cW,lE,lF,nY,nZ] s) Q:=by
 have B:=h.name hf hg;have R:=h.l.pg;refine qb (Qi (fG (ab4 hS λp s W hS=>fG (K1 hS (λs hS=>?_) (h.sure hm hd)))));have V:cV (lD ps m d):=Qd h.b hm hd;generalize lD ps m d=X at V |-;have kJ:∀x∈[p,X],cV x:=λx Z=>by
  erw[Ð,ü,or_false] at Z
  rcases Z with rfl|rfl
  .exact W
  .exact V
 have U:∀x∈[p,X].map (gW f),cV x:=λx Z=>by
  let(y,P,rfl):=á.mp Z;exact Qc hf (kJ y P)
 have T:fz (bV f g ps) (bw g m) ([p,X].map (gW f)) ([p,X].map (gW f)).length=_:=Qf hf hg R hm kJ 2;refine i5 (YS hf W V) (qb (K1 hS (λs hS=>yI (fG (K1 hS (λs hS=>aha rfl #[?n1,?_]) (Nc B.h B.f B.b (Qc hf W))))) (places_eq hf hg h W)))
 case n1=>exact ql (yk ▸ (qd (λl=>rE l) (j5 (bV f g ps) (gW f p))).2)
 refine yI (fG (K1 hS (λs hS=>fG (K1 hS (λs hS=>#[?n2,?_]) (O1 h.b hm ∅ ∅ kJ))) (O1 B.b (hg.bL hm) ∅ ∅ U)) (IQ (IM (lU hg hm))))
 case n2=>rw[T];exact ql (qd (λa=>(qd GP (sy (fz ps m [p,X] 2) a)).2) (Ô 2)).2
 refine yI (fG (K1 hS (λs hS=>fG (K1 hS (λs hS=>#[?n3,?_]) (Na h.b hm ∅ ∅ kJ))) (Na B.b (hg.bL hm) ∅ ∅ U)) (IQ (IM (lU hg hm))))
 case n3=>rw[T];exact ql (ab0 _)
 refine qb (runK hS λO s Y=>i5 (aal hf Y) ?_);have S:=abZ hf Y;rw[lR,xF,lQ,fm];refine fG (aha (OI S) (fG (aha (OI Y) ?_)));rw[Ã,O0 hf Y];refine aha (ql (aak _)) ?_;rw[lJ,ÿ è,lQ,fm];refine fG ((NT S).mono λx N Z=>?_);let(rfl,_):=Z;refine fG ((NT Y).mono λx M Z=>?_);let(rfl,_):=Z;rw[Ã,tab_run hf Y];refine aha (ql (ab1 _)) ?_;rw[lJ,ÿ è,oo];exact q _ _ _ _ _ _
end
def Xh {W:ģ} {q1 q2:ę} {ns:List Int} {i:Int} {s:ai} {fU e3 e4 e5 e6 e7 e8 e9 gX fB cW lE lF nY nZ:Option D} {Q:Fl->ai->Prop} (hi:0<=i)
  (q:∀fU e3 e4 e5 e6 e7 e8 e9 gX fB cW lE lF nY nZ s',Q (.nx [ϊ (.cw ns),ϊ (.int i),fU,e3,e4,e5,e6,e7,e8,e9,gX,fB,cW,lE,lF,nY,nZ]) s') :
  Wp (PM W q1 q2 [ϊ (.cw ns),ϊ (.int i),fU,e3,e4,e5,e6,e7,e8,e9,gX,fB,cW,lE,lF,nY,nZ] s) Q:=by
 refine qb (fG ((Yw hi).mono λd C U=>?_));let(rfl,N,_):=U;generalize s.length=k at N;refine ahc λR X=>?_;rw[ip];refine Qi (fG (RM N (n:=8) λf s Y M=>fG (RM M (n:=4) λg s Z L=>#[_,rfl,?_])));subst X;refine ahc λR X=>?_;rw[xm,bz];refine fG (adv L λT s S P K=>?_);rw[bz];refine fG (adw K λA s h J=>bQ ▸ #[_,_,rfl,?_]);have B:=h.name Y Z;subst X;refine i5 (ab2 Y Z P S) (yI (adu (K2 J (λs I=>aha (Nf (by rw[GN];exact S) (FN Y Z P)) (aha rfl #[ql (qd (λp=>rE (toF p)) (fE (bV f g T))).2,?_])) (Mx Y Z P S))));refine ahc λR X=>?_;refine Wp.Hw ?_;rw[bz];refine fG (K2 I (λs H=>?_) (Mx Y Z h.l h.n));rw[bz];refine fG (Rb (m:=4) H λm s V G=>?_);rw[bz];refine fG (Rb (m:=31) G λd s U F=>bQ ▸ #[_,_,_,rfl,?_]);subst X;refine yI (fG (K1 F (λs O=>?_) (B.sure (Z.bL V) U)) (IQ (IM (lU Z V))));rw[wp_call,bz];refine fG (K1 O (λs E=>?_) (h.sure V U));refine aha (show af (ae 3) ah _ s=ok [lI f] s from rfl) (aha (DW Y (Qd h.b V U)) #[?n1,?_])
 case n1=>rw[HB Y Z h.l.pg V];exact ql (ads _)
 refine ahc λR X=>?_;refine V6 Y Z h V λfB cW c=>?_;subst X;exact YT Y Z h V U (E.app c) λ_ _ _ _ _ _=>q _ _ _ _ _ _ _ _ _ _ _ _ _ _ _ _
def YU (W) (q1 q2) (ns) (hn:ns.length<=63):∃s,Hd W q1 q2 [.cw ns] []=ϊ (.ok (.bl ό),s):=by
 suffices h:Wp (Hd W q1 q2 _ _) λd _=>d=.bl ό by
  let(d,s,e,rfl):=h;exact#[s,e]
 refine iB.symm ▸ #[rfl,ahc λR F=>?_];rw[mT];have Y:∃n:Nat,n<=1000/\∀r,(af (eB uW (af (eC (.int 1)) (af (eB BO (af (eB cR (af (ae 0) ah)) (af (eC (.int 2)) ah))) ah))) ah) (ϊ (.cw ns)::r) []=ok [.int n] []:=by
  refine#[(if (if (2:Int)<ns.length then (2:Int) else ns.length) > 1 then (if (2:Int)<ns.length then (2:Int) else ns.length) else 1).toNat,by split<;>split<;>omega,λr=>?_]
  rw[agU (by split<;>split<;>omega)]
  rfl
 let(n,hn,Y):=Y;refine aha (eQ (Y _) ⋯) ?_;refine Wp.jw (λi env s=>∃e1 X V U T S Q P O N M L K J I H,env=[ϊ _,e1,X,V,U,T,S,Q,P,O,N,M,L,K,J,I,H]) _ #[_,_,_,_,_,_,_,_,_,_,_,_,_,_,_,_,rfl] (λi d env s Z G=>?_) (λenv s G=>?_)
 .let(e1,X,V,U,T,S,Q,P,O,N,M,L,K,J,I,H,rfl):=G
  rw[iL] at Z;split at Z
  .have Z:=ahe Z
   subst Z;exact#[_,rfl,Xh ⋯ λ_ _ _ _ _ _ _ _ _ _ _ _ _ _ _ _=>#[_,_,_,_,_,_,_,_,_,_,_,_,_,_,_,_,rfl]]
  .cases Z
 .rw[fZ]
  subst F;erw[iM,kA,kc]
end DI
end
namespace DI.jj
open PySem L2 DI
def Df (K:ae3) (x:Str) (st:Stmt):Prop:=∃(f:ę) (Z:ì) (Y:Option ę) (X:Array (Option ì)) (kV W pm:ì) (an:Option ę) (cd V:ì),Ā K ù x=ϊ (ϊ (.ref f))/\K.lookup f=ϊ ⟨Z,Y,.func (ae2 x x (rp st) (mP st) (iZ st) .none kV W pm an cd V),X⟩/\agm K cd x=ό/\afd K (.ref f)=ό
def adx {K:ae3} {x:Str} {st:Stmt} {f:ę} {oc:ì} {od:Option ę} {sl:Array (Option ì)} {kV dc pm:ì} {an:Option ę} {cd ct:ì} (a:Ā K ù x=ϊ (ϊ (.ref f))) (l:K.lookup f=ϊ ⟨oc,od,.func (ae2 x x (rp st) (mP st) (iZ st) .none kV dc pm an cd ct),sl⟩) (c:agm K cd x=ό) (k:afd K (.ref f)=ό):Df K x st:=⟨f,oc,od,sl,kV,dc,pm,an,cd,ct,a,l,c,k⟩
def nh {K:ae3} {x:Str} {i:Int} {t:Tok} (e:Ā K ù x=ϊ (ϊ (.int i t))):∃t,Ā K ù x=ϊ (ϊ (.int i t)):=⟨t,e⟩
def bj {K:ae3} {h:afz} {mg:Str->Option ì} {x:Str} {st:Stmt} {ps:List Str} (X:K.In h) (G:h.Ns ù mg) (D:Df K x st) (hb:∀(kV doc pm:ì) (an:Option ę) (cU ct:ì) (us:List ì),us.length=ps.length->bindArgs (ae2 x x (rp st) (mP st) (iZ st) .none kV doc pm an cU ct) ⟨us,[]⟩=pure (ps.zip us)):∃f fd,Gd K mg x st ps f fd:=by
 obtain⟨f,Z,Y,W,kV,V,pm,an,cd,ct,a,l,c,k⟩:=D;have F:=O9 (st:=st) l c k;exact⟨f,_,ő X G a,F,F.binds hb⟩
def dI {P:List ì->Prop} (h:∀a0:ì,P [a0]) (us:List ì) (hl:us.length=1):P us:=by
 cases us with
 |nil=>simp at hl
 |cons a0 Z =>
 cases Z with
 |cons _ _=>simp at hl
 |nil =>
 exact h a0
def iD {P:List ì->Prop} (h:∀a0 a1:ì,P [a0,a1]) (us:List ì) (hl:us.length=2):P us:=by
 cases us with
 |nil=>simp at hl
 |cons a0 Z =>
 cases Z with
 |nil=>simp at hl
 |cons a1 Y =>
 cases Y with
 |cons _ _=>simp at hl
 |nil =>
 exact h a0 a1
def jr {P:List ì->Prop} (h:∀a0 a1 a2:ì,P [a0,a1,a2]) (us:List ì) (hl:us.length=3):P us:=by
 cases us with
 |nil=>simp at hl
 |cons a0 Z =>
 cases Z with
 |nil=>simp at hl
 |cons a1 Y =>
 cases Y with
 |nil=>simp at hl
 |cons a2 X =>
 cases X with
 |cons _ _=>simp at hl
 |nil =>
 exact h a0 a1 a2
def Cb {P:List ì->Prop} (h:∀a0 a1 a2 a3:ì,P [a0,a1,a2,a3]) (us:List ì) (hl:us.length=4):P us:=by
 cases us with
 |nil=>simp at hl
 |cons a0 Y =>
 cases Y with
 |nil=>simp at hl
 |cons a1 X =>
 cases X with
 |nil=>simp at hl
 |cons a2 W =>
 cases W with
 |nil=>simp at hl
 |cons a3 Z =>
 cases Z with
 |cons _ _=>simp at hl
 |nil =>
 exact h a0 a1 a2 a3
def all_mk {P:Ć} {w:ģ} {K:ae3} {h:afz} {mg:Str->Option ì} {fa:ę} (X:K.In h) (G:h.Ns ù mg) (hfa:mg "law"=ϊ (.ref fa))
  (d0:Df K "_law_cell_at" (top 77))
  (d1:Df K "_law_state" (top 78))
  (d2:Df K "_law_take" (top 79))
  (d3:Df K "_law_mixed" (top 85))
  (d4:Df K "_law_marks" (top 80))
  (d5:Df K "_law_near" (top 82))
  (d6:Df K "_law_lived" (top 83))
  (d7:Df K "_law_book" (top 84))
  (d8:Df K "days_seen" (top 36))
  (d9:Df K "days_mended" (top 37))
  (Ke:Df K "is_any_behind" (top 35))
  (Kf:Df K "clashes" (top 34))
  (Kg:Df K "faults_of" (top 33))
  (Kh:Df K "is_rising" (top 17))
  (Ki:Df K "is_number" (top 12))
  (Kj:Df K "is_below" (top 13))
  (Kk:Df K "is_mark" (top 14))
  (Kl:Df K "are_marks" (top 24))
  (Km:Df K "are_apart" (top 26))
  (Ko:Df K "is_sheet" (top 25))
  (Kp:Df K "is_mould" (top 15))
  (Kq:Df K "is_day" (top 16))
  (Kr:Df K "is_page" (top 29))
  (Ks:Df K "are_laid" (top 30))
  (Kt:Df K "faults" (top 31))
  (Ku:Df K "_law_named" (top 86))
  (Kv:Df K  ahs (top 87))
  (Kw:Df K  aht (top 88))
  (Kx:Df K "is_book" (top 32))
  (Ky:Df K "need_book" (top 39))
  (Kz:Df K "need_mould" (top 18))
  (cg:Df K "need_day" (top 19))
  (KC:Df K "days_present" (top 47))
  (KD:Df K "days_absent" (top 48))
  (KG:Df K "marks_on" (top 46))
  (KH:Df K "sure_sheets" (top 45))
  (KI:Df K "surely" (top 41))
  (KJ:Df K "_law_sheet" (top 81))
  (KL:Df K "need_sheet" (top 38))
  (KN:Df K "stretches" (top 50))
  (KO:Df K "agree" (top 49))
  (KP:Df K "places_of" (top 44))
  (KQ:Df K "are_sheets" (top 56))
  (KR:Df K "need_asked" (top 57))
  (KS:Df K "mendings_between" (top 61))
  (KU:Df K "is_clear" (top 62))
  (KW:Df K "days_together" (top 60))
  (KY:Df K "is_free" (top 59))
  (KZ:Df K "datings" (top 58))
  (K0:Df K "days_of" (top 53))
  (K3:Df K "by_width" (top 55))
  (K4:Df K "narrowest" (top 54))
  (K5:Df K "breaks_in" (top 72))
  (K6:Df K "by_breaks" (top 73))
  (K7:Df K "are_laid_marks" (top 28))
  (K8:Df K "need_run" (top 69))
  (K9:Df K "has_all" (top 27))
  (La:Df K "may_lay" (top 70))
  (Lb:Df K "layings" (top 71))
  (Lc:Df K "best_laying" (top 67))
  (Ld:Df K "ways_on" (top 74))
  (Lg:Df K "bounds_at" (top 75))
  (Lh:Df K "paper_of" (top 68))
  (Li:Df K "least_life" (top 42))
  (Lj:Df K "most_life" (top 43))
  (dl:Df K "law" (top 89))
  (FQ:∃t,Ā K ù "MARKS"=ϊ (ϊ (.int (8) t)))
  (E5:∃t,Ā K ù "MOULDS"=ϊ (ϊ (.int (4) t)))
  (GQ:∃t,Ā K ù "DAYS"=ϊ (ϊ (.int (31) t)))
  (FR:∃t,Ā K ù "PAGES"=ϊ (ϊ (.int (24) t)))
  (HC:∃t,Ā K ù "HAS"=ϊ (ϊ (.int (0) t)))
  (FT:∃t,Ā K ù "LACKS"=ϊ (ϊ (.int (1) t)))
  (E6:∃t,Ā K ù "SHEETS"=ϊ (ϊ (.int (3) t)))
  (HD:∃t,Ā K ù "RUN"=ϊ (ϊ (.int (10) t)))
  (FU:∃t,Ā K ù "TWINS"=ϊ (ϊ (.int (2) t)))
  (Eb:∃t,Ā K ù "NO_OTHER"=ϊ (ϊ (.int (-1) t)))
  (HE:Ā K ù "all"=ϊ ϋ)
  (HF:Ā K ù "any"=ϊ ϋ)
  (GR:Ā K ù "bool"=ϊ ϋ)
  (HG:Ā K ù "int"=ϊ ϋ)
  (DL:Ā K ù "isinstance"=ϊ ϋ)
  (HH:Ā K ù "len"=ϊ ϋ)
  (GS:Ā K ù "list"=ϊ ϋ)
  (HI:Ā K ù "max"=ϊ ϋ)
  (HJ:Ā K ù "min"=ϊ ϋ)
  (FV:Ā K ù "range"=ϊ ϋ)
  (Ec:Ā K ù "reversed"=ϊ ϋ)
  (HK:Ā K ù "set"=ϊ ϋ)
  (E7:Ā K ù "sorted"=ϊ ϋ)
  (FW:Ā K ù "tuple"=ϊ ϋ)
  (HL:Ā K ù "zip"=ϊ ϋ)
  : ∃fd:FuncData,(∀(s:ß) (v:ì),BindsTo s fd ⟨[v],[]⟩ [(ahh,v)])/\∀base:afz,K.In base->base.Ns ù mg->gC P w K mg base iS 13 fa fd [ahh] (BQ K):=by
 have g0:=bj (ps:=[ahh,"_law_k"]) X G d0 λ_ _ _ _ _ _=>iD λ_ _=>rfl;have g1:=bj (ps:=[ahh,"_law_k"]) X G d1 λ_ _ _ _ _ _=>iD λ_ _=>rfl;have g2:=bj (ps:=[ahf,ahm]) X G d2 λ_ _ _ _ _ _=>iD λ_ _=>rfl;have g3:=bj (ps:=[ahf,ahm]) X G d3 λ_ _ _ _ _ _=>iD λ_ _=>rfl;have g4:=bj (ps:=[ahf,"_law_most"]) X G d4 λ_ _ _ _ _ _=>iD λ_ _=>rfl;have g5:=bj (ps:=[ahf]) X G d5 λ_ _ _ _ _ _=>dI λ_=>rfl;have g6:=bj (ps:=[ahf,ahp]) X G d6 λ_ _ _ _ _ _=>iD λ_ _=>rfl;have g7:=bj (ps:=[ahf]) X G d7 λ_ _ _ _ _ _=>dI λ_=>rfl;have g8:=bj (ps:=["pages","mould","mark","half"]) X G d8 λ_ _ _ _ _ _=>Cb λ_ _ _ _=>rfl;have g9:=bj (ps:=["pages","mould","mark"]) X G d9 λ_ _ _ _ _ _=>jr λ_ _ _=>rfl;have Z:=bj (ps:=["days","day","later"]) X G Ke λ_ _ _ _ _ _=>jr λ_ _ _=>rfl;have Y:=bj (ps:=["pages","mould","mark"]) X G Kf λ_ _ _ _ _ _=>jr λ_ _ _=>rfl;have W:=bj (ps:=["pages"]) X G Kg λ_ _ _ _ _ _=>dI λ_=>rfl;have V:=bj (ps:=["things"]) X G Kh λ_ _ _ _ _ _=>dI λ_=>rfl;have U:=bj (ps:=["thing"]) X G Ki λ_ _ _ _ _ _=>dI λ_=>rfl;have T:=bj (ps:=["thing","many"]) X G Kj λ_ _ _ _ _ _=>iD λ_ _=>rfl;have S:=bj (ps:=["thing"]) X G Kk λ_ _ _ _ _ _=>dI λ_=>rfl;have R:=bj (ps:=["thing"]) X G Kl λ_ _ _ _ _ _=>dI λ_=>rfl;have Q:=bj (ps:=["marks","others"]) X G Km λ_ _ _ _ _ _=>iD λ_ _=>rfl;have O:=bj (ps:=["thing"]) X G Ko λ_ _ _ _ _ _=>dI λ_=>rfl;have N:=bj (ps:=["thing"]) X G Kp λ_ _ _ _ _ _=>dI λ_=>rfl;have M:=bj (ps:=["thing"]) X G Kq λ_ _ _ _ _ _=>dI λ_=>rfl;have L:=bj (ps:=["thing"]) X G Kr λ_ _ _ _ _ _=>dI λ_=>rfl;have J:=bj (ps:=["thing"]) X G Ks λ_ _ _ _ _ _=>dI λ_=>rfl;have I:=bj (ps:=["laid"]) X G Kt λ_ _ _ _ _ _=>dI λ_=>rfl;have H:=bj (ps:=["_law_some",ahg]) X G Ku λ_ _ _ _ _ _=>iD λ_ _=>rfl;have E:=bj (ps:=[ahr,ahg]) X G Kv λ_ _ _ _ _ _=>iD λ_ _=>rfl;have D:=bj (ps:=[ahq,ahg,ahj]) X G Kw λ_ _ _ _ _ _=>jr λ_ _ _=>rfl;have C:=bj (ps:=["thing"]) X G Kx λ_ _ _ _ _ _=>dI λ_=>rfl;have B:=bj (ps:=["thing"]) X G Ky λ_ _ _ _ _ _=>dI λ_=>rfl;have A:=bj (ps:=["thing"]) X G Kz λ_ _ _ _ _ _=>dI λ_=>rfl;have z:=bj (ps:=["thing"]) X G cg λ_ _ _ _ _ _=>dI λ_=>rfl;have y:=bj (ps:=["book","mould","mark"]) X G KC λ_ _ _ _ _ _=>jr λ_ _ _=>rfl;have x:=bj (ps:=["book","mould","mark"]) X G KD λ_ _ _ _ _ _=>jr λ_ _ _=>rfl;have u:=bj (ps:=["days_by_mark","day"]) X G KG λ_ _ _ _ _ _=>iD λ_ _=>rfl;have r:=bj (ps:=["book","mould"]) X G KH λ_ _ _ _ _ _=>iD λ_ _=>rfl;have q:=bj (ps:=["book","mould","day"]) X G KI λ_ _ _ _ _ _=>jr λ_ _ _=>rfl;have p:=bj (ps:=[ahf]) X G KJ λ_ _ _ _ _ _=>dI λ_=>rfl;have o:=bj (ps:=["thing"]) X G KL λ_ _ _ _ _ _=>dI λ_=>rfl;have n:=bj (ps:=["holds"]) X G KN λ_ _ _ _ _ _=>dI λ_=>rfl;have m:=bj (ps:=["sheet","sure"]) X G KO λ_ _ _ _ _ _=>iD λ_ _=>rfl;have j:=bj (ps:=["book","sheet"]) X G KP λ_ _ _ _ _ _=>iD λ_ _=>rfl;have i:=bj (ps:=["thing"]) X G KQ λ_ _ _ _ _ _=>dI λ_=>rfl;have g:=bj (ps:=["book","mould","sheets"]) X G KR λ_ _ _ _ _ _=>jr λ_ _ _=>rfl;have d:=bj (ps:=["book","mould","sheet","other"]) X G KS λ_ _ _ _ _ _=>Cb λ_ _ _ _=>rfl;have b:=bj (ps:=["mendings","day","later"]) X G KU λ_ _ _ _ _ _=>jr λ_ _ _=>rfl;have g46:=bj (ps:=["book","mould","sheet","other"]) X G KW λ_ _ _ _ _ _=>Cb λ_ _ _ _=>rfl;have g47:=bj (ps:=["tables","dating","day"]) X G KY λ_ _ _ _ _ _=>jr λ_ _ _=>rfl;have g48:=bj (ps:=["book","mould","sheets"]) X G KZ λ_ _ _ _ _ _=>jr λ_ _ _=>rfl;have g49:=bj (ps:=["book","mould","sheets"]) X G K0 λ_ _ _ _ _ _=>jr λ_ _ _=>rfl;have g50:=bj (ps:=["dating"]) X G K3 λ_ _ _ _ _ _=>dI λ_=>rfl;have g51:=bj (ps:=["book","mould","sheets"]) X G K4 λ_ _ _ _ _ _=>jr λ_ _ _=>rfl;have g52:=bj (ps:=["laying"]) X G K5 λ_ _ _ _ _ _=>dI λ_=>rfl;have g53:=bj (ps:=["laying"]) X G K6 λ_ _ _ _ _ _=>dI λ_=>rfl;have g54:=bj (ps:=["thing","most"]) X G K7 λ_ _ _ _ _ _=>iD λ_ _=>rfl;have g55:=bj (ps:=["thing"]) X G K8 λ_ _ _ _ _ _=>dI λ_=>rfl
 have g56:=bj (ps:=["marks","others"]) X G K9 λ_ _ _ _ _ _=>iD λ_ _=>rfl;have g57:=bj (ps:=["run","laid","mould"]) X G La λ_ _ _ _ _ _=>jr λ_ _ _=>rfl;have g58:=bj (ps:=["run"]) X G Lb λ_ _ _ _ _ _=>dI λ_=>rfl;have g59:=bj (ps:=["run"]) X G Lc λ_ _ _ _ _ _=>dI λ_=>rfl;have g60:=bj (ps:=["run","place","other"]) X G Ld λ_ _ _ _ _ _=>jr λ_ _ _=>rfl;have g61:=bj (ps:=["run","place","other","after"]) X G Lg λ_ _ _ _ _ _=>Cb λ_ _ _ _=>rfl;have g62:=bj (ps:=["run"]) X G Lh λ_ _ _ _ _ _=>dI λ_=>rfl;have Tv:=bj (ps:=["book","mould"]) X G Li λ_ _ _ _ _ _=>iD λ_ _=>rfl;have Tw:=bj (ps:=["book","mould"]) X G Lj λ_ _ _ _ _ _=>iD λ_ _=>rfl;have pW:∃t,mg "MARKS"=ϊ (.int (8) t):=by obtain⟨t,e⟩:=FQ;exact⟨t,ő X G e⟩
 have wO:∃t,mg "MOULDS"=ϊ (.int (4) t):=by obtain⟨t,e⟩:=E5;exact⟨t,ő X G e⟩
 have mS:∃t,mg "DAYS"=ϊ (.int (31) t):=by obtain⟨t,e⟩:=GQ;exact⟨t,ő X G e⟩
 have EN:∃t,mg "PAGES"=ϊ (.int (24) t):=by obtain⟨t,e⟩:=FR;exact⟨t,ő X G e⟩
 have rM:∃t,mg "HAS"=ϊ (.int (0) t):=by obtain⟨t,e⟩:=HC;exact⟨t,ő X G e⟩
 have rl:∃t,mg "LACKS"=ϊ (.int (1) t):=by obtain⟨t,e⟩:=FT;exact⟨t,ő X G e⟩
 have El:∃t,mg "SHEETS"=ϊ (.int (3) t):=by obtain⟨t,e⟩:=E6;exact⟨t,ő X G e⟩
 have Gq:∃t,mg "RUN"=ϊ (.int (10) t):=by obtain⟨t,e⟩:=HD;exact⟨t,ő X G e⟩
 have EO:∃t,mg "TWINS"=ϊ (.int (2) t):=by obtain⟨t,e⟩:=FU;exact⟨t,ő X G e⟩
 have Ax:∃t,mg "NO_OTHER"=ϊ (.int (-1) t):=by obtain⟨t,e⟩:=Eb;exact⟨t,ő X G e⟩
 have ady:=đ X G HE;have adz:=đ X G HF;have ab5:=đ X G GR;have adA:=đ X G HG;have UM:=đ X G DL;have adB:=đ X G HH;have ab6:=đ X G GS;have adC:=đ X G HI;have adD:=đ X G HJ;have aam:=đ X G FV;have V7:=đ X G Ec;have adE:=đ X G HK;have YV:=đ X G E7;have aan:=đ X G FW;have adF:=đ X G HL;obtain⟨f,oc,od,sl,kV,dc,pm,an,cd,ct,a,l,c,k⟩:=dl;have e:=hfa.symm.trans (ő X G a);cases e;have F:=O9 (st:=(top 89)) l c k;have GL:Gd K mg "law" (top 89) [ahh] _ _:=⟨ő X G a,F,F.binds λ_ _ _ _ _ _=>dI λ_=>rfl⟩;have Lk:=Tv;obtain⟨q_0,d_0,Lk⟩:=Lk;have Ll:=Tw;obtain⟨q_1,d_1,Ll⟩:=Ll;exact⟨_,λs v=>.of_eq rfl,λbase _ _=>abd (abB ⟨ady,adz,ab5,adA,UM,adB,ab6,adC,adD,aam,V7,adE,YV,aan,adF,pW,wO,mS,EN,rM,rl,El,Gq,EO,Ax,g0,g1,g2,g3,g4,g5,g6,g7,g8,g9,Z,Y,W,V,U,T,S,R,Q,O,N,M,L,J,I,H,E,D,C,B,A,z,y,x,u,r,q,p,o,n,m,j,i,g,d,b,g46,g47,g48,g49,g50,g51,g52,g53,g54,g55,g56,g57,g58,g59,g60,g61,g62,Tv,Tw⟩ Lk Ll GL) (YU w q_0 q_1)⟩
def walk {l:PySem.W.OpenLaw} {q:Ć} {loose:List Str} {XP:(Str->Option ì)->afz->Prop} {YP:ģ->afz->Prop} {d:DefRec} {K:Params->ae3} (hn:l.most=ϊ 63) (yX:d.params.defaults=[])
  (hY:∀(w:ģ) (h:afz),YP w h->(K w.params).In h)
  (F:∀(w:ģ) (mg:Str->Option ì) (fa:ę) (h:afz),(K w.params).In h->h.Ns ù mg->mg d.name=ϊ (.ref fa) ->
   ∃fd:FuncData,(∀(s:ß) (u:ì),BindsTo s fd ⟨[u],[]⟩ [(ahh,u)])/\∀base:afz,(K w.params).In base->base.Ns ù mg->gC l.prog w (K w.params) mg base iS 13 fa fd [ahh] (BQ (K w.params))) :
  PySem.W.WalkO q loose XP YP l.row.toRowW d [] (λf vs=>PySem.call f vs) :=
 L2.Zg (n:=63) (k:=13) (x:= ahh) (CX:=λ_=>iS) (sp:=λw=>BQ (K w.params)) hn (by decide) yX ⟨rfl,by decide,by decide,rfl⟩ hY F (λ_ _ a Z Y _ X=>⟨a,Z,rfl,X,Y,λ_=>rfl⟩) λ_ _ _ _ _ z=>z
end DI.jj
open PySem PySem.W PyProof.Rows
namespace PySem.W.Fast
def te4580637597197741640:=trivial
def te16815159774956426851:=trivial
def te13143935184852863385:=trivial
def te8403559534865787773:=trivial
def te15500001179271910561:=trivial
def te4678103353419205127:=trivial
def te8593344485492926597:=trivial
def te16206850233861740884:=trivial
def te13052408679150730464:=trivial
end PySem.W.Fast
set_option maxRecDepth 100000 in
set_option maxHeartbeats 0 in
theorem PySem.Challenge.cw_twinmoulds_k15_marks_and_moulds_named_ot_holds : PySem.Challenge.rw_twinmoulds_k15_marks_and_moulds_named_ot.Holds := by
 w_on;o_law;k_head;(case hw=>w_witness2)
 k_fill
 refine DI.jj.walk (l:=PySem.Challenge.rw_twinmoulds_k15_marks_and_moulds_named_ot) rfl rfl (λw h Y=>PySem.W.kIn_of Y) ?F
 case F =>
  intro w V U h Z G X;refine' DI.jj.all_mk Z G X ?d0 ?d1 ?d2 ?d3 ?d4 ?d5 ?d6 ?d7 ?d8 ?d9 ?Ke ?Kf ?Kg ?Kh ?Ki ?Kj ?Kk ?Kl ?Km ?Ko ?Kp ?Kq ?Kr ?Ks ?Kt ?Ku ?Kv ?Kw ?Kx ?Ky ?Kz ?cg ?KC ?KD ?KG ?KH ?KI ?KJ ?KL ?KN ?KO ?KP ?KQ ?KR ?KS ?KU ?KW ?KY ?KZ ?K0 ?K3 ?K4 ?K5 ?K6 ?K7 ?K8 ?K9 ?La ?Lb ?Lc ?Ld ?Lg ?Lh ?Li ?Lj ?dl ?FQ ?E5 ?GQ ?FR ?HC ?FT ?E6 ?HD ?FU ?Eb ?HE ?HF ?GR ?HG ?DL ?HH ?GS ?HI ?HJ ?FV ?Ec ?HK ?E7 ?FW ?HL
  (case d0|d1|d2|d3|d4|d5|d6|d7|d8|d9|Ke|Kf|Kg|Kh|Ki|Kj|Kk|Kl|Km|Ko|Kp|Kq|Kr|Ks|Kt|Ku|Kv|Kw|Kx|Ky|Kz|cg|KC|KD|KG|KH|KI|KJ|KL|KN|KO|KP|KQ|KR|KS|KU|KW|KY|KZ|K0|K3|K4|K5|K6|K7|K8|K9|La|Lb|Lc|Ld|Lg|Lh|Li|Lj|dl=>refine' DI.jj.adx ?a ?l ?c ?k;(case a=>k_is);(case l=>k_is);(case c=>k_is);(case k=>k_is))
  (case FQ=>refine' DI.jj.nh ?e;(case e=>k_is))
  (case E5=>refine' DI.jj.nh ?e;(case e=>k_is))
  (case GQ=>refine' DI.jj.nh ?e;(case e=>k_is))
  (case FR=>refine' DI.jj.nh ?e;(case e=>k_is))
  (case HC=>refine' DI.jj.nh ?e;(case e=>k_is))
  (case FT=>refine' DI.jj.nh ?e;(case e=>k_is))
  (case E6=>refine' DI.jj.nh ?e;(case e=>k_is))
  (case HD=>refine' DI.jj.nh ?e;(case e=>k_is))
  (case FU=>refine' DI.jj.nh ?e;(case e=>k_is))
  (case Eb=>refine' DI.jj.nh ?e;(case e=>k_is))
  (case HE|HF|GR|HG|DL|HH|GS|HI|HJ|FV|Ec|HK|E7|FW|HL=>k_is)
