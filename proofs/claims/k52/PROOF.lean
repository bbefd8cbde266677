import PyProof.Rows.All
import Wide.All
import OpenK.AllK
import Wide.FinOn
import Lean
import PyProof.EqAt
import PyProof.EqKinds
import PyProof.TupleCall
import PyProof.NeData
import PyProof.P3In
import PyProof.FactsAll.set
import PyProof.CollectWalk
import PyProof.FactsAll.range
import PyProof.MinMaxWalk
import KE.KMinKey
import PyProof.WalkInts
import PyProof.Rows.CallKwBuiltin
import KE.KLam
import KE.KSortTup
import PyProof.Rows.Range3
import PyProof.ListRange
import PyProof.DictRoadsH
import KE.KDictList
import PyProof.Rows.SortKeyStr
import PyProof.DictCompW
import PyProof.DictWalks
import PyProof.Rows.CompDC
import PyProof.SumAny
import PyProof.TupleOfGen
import PyProof.CollectIter
import KE.KTryMore
import OpenK.KOwn
import PyProof.ExcBaseAll.ValueError
import KE.KNestM
import PyProof.NsDelKeeps
import PyProof.ExcAttrAll.ValueError
import PyProof.Conv_int_bool
import PyProof.InstStoreFacts
import KE.KIntText
import PyProof.StrLawsTight
import PyProof.StrLawsChain
import PyProof.StrLawsIn
import PySem.Challenge.RW_twinmoulds_k52_rows_of_a_desk_refused
set_option compiler.extract_closed false
set_option bootstrap.genMatcherCode false
set_option genInjectivity false
set_option genSizeOfSpec false
set_option Elab.async false
set_option linter.all false
set_option maxRecDepth 100000
set_option maxHeartbeats 4000000
open Decidable renaming decide→ώ
open Option renaming some→ϊ,none→ϋ
open Bool renaming true→ό,false→ύ
open PySem renaming wpAny_bind→À,Shared→Â,wpAny_pure→Ã,Value→Ç,starEach→Í,mainGlobals→Ò,sizeLine→Õ,Addr→ß,wpAny→á,Program→å,model→é,Around→í,wpAny_newObj_type→û,bootBuiltins→ü,World→Ą,wpAny_holding→ą,foldedSetIterable→Ć,wpAny_callSpecial?_slot→ĉ,wpAny_call_entry→Ď,compareOp→ĕ,wpAny_mono→ė,Expr→ě,FuncData→Ĩ,backTo→ī,wpAny_field→Į,attributeBase→İ,eval→ķ,rawInt→ĸ,Heap→ĺ,mem_of_lookup→Ľ,wpAny_seqItems→ń,binaryOp→ņ,codeAny_builtin→ň,codeAny_mono→Ŋ,assignEach→ō,letOwnedTupleGo→Œ,keywordEach→Ŗ,Builtin→ŗ,wpAny_truthy_bool→Ŝ,intKind→Ţ,wpAny_askSetting→ť,wpAny_Call_Name_kw→ũ,wpAny_setField_rec→Ū,sizeLine_eq→ŭ,NameKind→Ű,codeAny_call_builtin→ų,wpAny_rule→Ŵ,wpAny_pyIter_list→ŵ,wpAny_setState_of→ŷ,wpAny_standAt→Ż,codeAny→ż,wpAny_attempt→Ž,wpAny_setEntries_of→ž,pickOrder→ε,call_meets→η,wpAny_setField→θ,wpAny_of_eq→abL,Scope→acR,swapsWithSole→acS,swappedStores→acT,fits_of_scanBound→acV,holding→acY,Keyword→acZ,pyNext→ac0,cellsFrom→ac2,IsPair→ac5,scanBound→ac7,intText?→ac9,backToKw→ada,standAt→adh,wpAny_call→adn,wpAny_typeOf→adq,assignInOrder→adt,wpAny_passesOwn→adv,behindInMarks→adw,wpAny_pyIter_rangeiter→adG,typeIs_str→adL,sliceBounds→adM,wpAny_storeSet_of→adQ,bindName→adT,wpAny_bindName→adU,builtinLookup_eq_fast→adZ,Stmt→ad2,checkBuiltinCall→ad6,codeAny_of_tree→aeg,getMethod→aeq,Arguments→aer,assign→aex
open PySem.Heap renaming get?_push_of_some→Á,get?_push_size→Î,lt_size→Ð,size_push→Ā,get?_update_self→Ğ,SameBut→Ĭ,get?_update_other→ν,ExtBut→adl,get?_update_ne→adm,get?_some_iff→adE,FlyingW→ad0
open Bool renaming false_ne_true→Ä,and_eq_true→Å,false_eq_true→Æ,true_and→ú,not_true→ý,eq_iff_iff→ĭ,and_self→ĵ,not_eq_true'→ł,false_and→Ŭ,not_false→ι,not_eq_true→adb,and_true→ad8,or_eq_true→aef
open List renaming length_map→É,mem_cons_of_mem→Ï,getElem?_eq_some_iff→Ô,replicate→Ö,getElem?_eq_getElem→Ø,mem_append_right→Ù,mem_cons→Û,size_toArray→Ü,mem_cons_self→Þ,map_cons→à,length_cons→â,length_append→ä,getElem?_append_left→ç,range→è,getElem?_map→ê,getElem?_append_right→ð,mem_append→ó,all_eq_true→ô,getElem?_set_ne→õ,pairwise_cons→ø,getElem?_set_self→ù,mem_append_left→ÿ,length_set→Ă,length_nil→ă,not_mem_nil→ć,mem_range→Ċ,mem_map→Č,mem_singleton→Đ,lookup_cons→ē,set_cons_succ→Ĝ,set_cons_zero→ĝ,getElem?_eq_none→ğ,map_map→Ġ,mem_filter→Ĥ,append_nil→ĥ,cons_append→Ħ,map_append→ħ,getElem?_replicate→ı,append_assoc→Ĳ,zip_cons_cons→Ĺ,nil_append→Ļ,getElem?_range→Ŀ,map_nil→ŋ,replicate_succ→Ŏ,flatten_cons→ŏ,filter_eq_self→Ő,filter_cons→Ŧ,length_filter_le→ū,drop_eq_getElem_cons→ů,mem_of_getElem?→ű,getD→Ŷ,mem_filterMap→ξ,nodup_cons→ψ,length_replicate→ω,set_append_right→acQ,ext_getElem?→acU,isEmpty_nil→ade,filterMap_cons→adg,lookup→adi,getElem_of_mem→adk,forIn_cons→adA,length_eq_zero_iff→adD,nodup_append→adR,length_singleton→adW,toArray→adY,length_take→ad4,getElem_mem→ad5,of_mem_zip→aeb,map_eq_flatMap→aej
open Nat renaming lt_of_lt_of_le→Ê,le_trans→Ý,ne_of_lt→ã,lt_irrefl→ñ,zero_le→Ē,lt_succ_of_lt→Ĵ,lt_succ_self→ŕ,ne_of_gt→Ũ,le_of_not_lt→δ,lt_of_le_of_lt→ς,le_succ→adj,mul_le_mul_right→ad7,le_of_eq→ael
open PySem.PyData renaming strOk→Ó,eqv→ĩ,depthAll→aeh
open And renaming intro→ë
open PySem.W renaming nsIn→ì,mg_none_of→þ,Frag→đ,mg_of→ļ,emptyDict→Ł,keepIn→ő,findIn→ř,fnOf→Ś,instObj→ş,cellsFrom_some→μ,lookIn→ac1,codeIn→ac3,hideAll_get→adf,callWith_K→ady,plainGet→ad3,plainGet_of→aea,methodObj→aeo,hasDictIn→aep,tabIn→aev,excIn→aew
open PySem.NameKind renaming free→î
open Array renaming length_toList→ö,getElem?_toList→į,toList_push→adP,getD→aes
open PySem.Builtin.SmallTypes renaming nextOf→ā,ownedTupleIsFree→ľ,ownedTupleHandOut→ac6
open PySem.Str renaming ofString→Ĉ,join→š,empty→χ
open PySem.SetTable renaming below→ċ,grown→adV
open False renaming elim→č
open PySem.Obj renaming data_mapFields→ď,isFreed_of_fields→œ,mapSeq→ŝ,cls_mapFields→adN
open PyProof.Rows renaming slot_tuple_getitem→Ę,envOfC→ŀ,callWith_type1→Ņ,firstMet→Ř,assignInOrder_cons→ŧ,seqObj→adI,split_le→ad1,IntsAre→aec,AllBare→aeu,envOfC→aey
open PySem.Builtin.Range renaming rangeFitsLong→ę,rangeSize→adu,rangeFields→aen
open PySem.Builtin.Str renaming strSliceIndices→Ě,occurrences→ġ
open PySem.Heap.SameBut renaming update→Ģ
open PySem.Txt renaming split→Ī,mul→adS,upper→aei
open Int renaming toNat_natCast→ĳ,emod_lt_of_pos→υ,emod_nonneg→adF
open ForInStep renaming yield→Ň
open PySem.Value renaming ref→Ō,bool→ś,type→Ť,int→ad9
open PySem.Builtin.Tuple renaming tupleExact→Ŕ,tupleItemsOf→acW,tupleIsExact→acX
open Function renaming comp_def→Ş
open PySem.Builtin.List renaming listExtendWith→Š,listTooLong→ads
open PySem.F renaming slot_tuple_iterator_next→ţ,plainAttrs_list→ſ,called_set→acO,slot_range_reversed→acP,args_tuple_add_2→adp,entry_tuple_add→adz,slot_tuple_add→adH,plainAttrs_str→adK,slot_int_rmul→aed,slot_zip_next→aee
open PySem.Builtin.Slice renaming slicePlaces→Ů,sliceAdjust→ac4,sliceApplied→aek
open PySem.Around renaming under_plainId→Ų
open List.cons renaming injEq→Ÿ
open PySem.PassesOwn renaming never→Ź
open Ne renaming symm→ź
open PySem.Sem renaming wp→ζ
open Or renaming inl→ο
open Option renaming map_some→abI,isNone_iff_eq_none→ac8,isSome_iff_exists→ado,map_eq_some_iff→adJ
open PySem.Calls renaming spliced_cons→adx
open PyProof.Rows.F renaming plain_set_update_loop→adB
open PySem.Code renaming quiet_builtin→adC
open PySem.SetTable.below renaming go→adO
open List.Pairwise renaming sublist→adX
open PySem.StrLaws renaming join_split→aem
open PySem.SetTable.probe renaming go→aet
def È:=@decide_eq_true
def Ë:=@decide_eq_true_eq
def Ì:=@decide_eq_false
def Ñ:=@if_pos
def Ú:=@if_neg
def æ:=@of_decide_eq_true
def ï:=@if_false
def ò:=@if_true
def Ĕ:=@bne_self_eq_false
def Ė:=@beq_self_eq_true
def ģ:=@and_self
def Ķ:=@decide_true
def Ń:=@congrArg
def aeD:=@Nat.le_refl
def aeE:=@Option.some.inj
abbrev aeF:PySem.Str:="_law_script"
abbrev aeG:PySem.Str:="_law_state_here"
abbrev aeH:PySem.Str:="_law_row"
abbrev aeI:PySem.Str:="_law_word"
noncomputable section
def hold{G:Prop}(h:∀P:Prop,(G->P)->P):G:=h G id
local macro_rules | `(tactic| obtain ⟨$a,$b,$c,$d,$xs,*⟩ := $h)=>`(tactic| (refine hold λP k=>?_;rcases $h:term with ⟨$a,$b,$c,$d,$xs,*⟩<;>(refine k ?_;clear k P)))
local macro_rules | `(tactic| obtain ⟨$a,$b,$c,$d⟩ := $h)=>`(tactic| (refine hold λP k=>?_;rcases $h:term with ⟨$a,$b,$c,$d⟩<;>(refine k ?_;clear k P)))
local macro_rules | `(tactic| rcases $h:term with ⟨$a,$b,$c,$xs,*⟩ | $q)=>`(tactic| (refine hold λP k=>?_;obtain ⟨$a,$b,$c,$xs,*⟩ | $q := $h<;>(refine k ?_;clear k P)))
local macro_rules | `(⋯)=>`(by omega)
local macro_rules | `(∅)=>`(by simp)
local macro_rules | `(nofun)=>`(by decide +kernel)
local macro_rules | `(tactic| delta $x* $[$l]?)=>`(tactic| unfold $x* $[$l]?)
local macro_rules | `(tactic| erw[$[$x:term],*] $[$l:location]?)=>`(tactic| simp only[$[$x:term],*] $[$l:location]?)
local macro_rules | `(tactic| omega) => `(tactic| lia)
open PySem.W (Frag)
namespace L2
open PySem PySem.Spec PyProof.Rows
abbrev Key:=Sum Int Str
def DR:Key->Ç->Bool
 | .inl k,v=>Value.isInt k v
 | .inr x,v=>Value.isStrOf x v
def abt (w:Ą):Key->Int
 | .inl k=>hashInt k
 | .inr x=>hashStr w x
def lZ:∀{k:Key} {v:Ç},DR k v=ό->(∃i t,k=Sum.inl i/\v=ad9 i t)\/(∃x t,k=Sum.inr x/\v=Value.str x t)
 | .inl i,v,h=>by
  obtain⟨t,e⟩:=Value.isInt_shape (k:=i) (v:=v) h;exact .inl ⟨i,t,rfl,e⟩
 | .inr x,v,h=>by
  obtain⟨t,e⟩:=Value.isStrOf_shape (x:=x) (v:=v) h;exact .inr ⟨x,t,rfl,e⟩
def X1 (a b:Int):ώ ((Sum.inl a:Key)=Sum.inl b)=(a==b):=by
 by_cases e:a=b
 ·subst e;simp
 ·have h:¬ (Sum.inl a:Key)=Sum.inl b:=λq=>e (Sum.inl.inj q)
  rw[Ì h];exact(beq_eq_false_iff_ne.mpr e).symm
def X2 (a b:Str):ώ ((Sum.inr a:Key)=Sum.inr b)=ώ (a=b):=by
 by_cases e:a=b
 ·subst e;simp
 ·have h:¬ (Sum.inr a:Key)=Sum.inr b:=λq=>e (Sum.inr.inj q)
  rw[Ì h,Ì e]
def X5 (a:Int) (b:Str):ώ ((Sum.inl a:Key)=Sum.inr b)=ύ:=Ì (λq=>nomatch q)
def X6 (a:Str) (b:Int):ώ ((Sum.inr a:Key)=Sum.inl b)=ύ:=Ì (λq=>nomatch q)
def zd (prog:å) (w:Ą):PySem.KeyKind prog w Key where
 is:=DR
 hash:=abt w
 inj:=λv a b X Y=>by
  rcases lZ X with ⟨i,t,rfl,rfl⟩ | ⟨x,t,rfl,rfl⟩
  ·rcases lZ Y with ⟨j,u,rfl,e⟩ | ⟨y,u,rfl,e⟩
   ·injection e with e1 _;rw[e1]
   ·exact nomatch e
  ·rcases lZ Y with ⟨j,u,rfl,e⟩ | ⟨y,u,rfl,e⟩
   ·exact nomatch e
   ·injection e with e1 _;rw[e1]
 byValue:=λk v h=>by
  rcases lZ h with ⟨i,t,rfl,rfl⟩ | ⟨x,t,rfl,rfl⟩<;>rfl
 pyHash:=λZ h=>by
  rcases lZ Z with ⟨i,t,rfl,rfl⟩ | ⟨x,t,rfl,rfl⟩
  ·exact wpAny_pyHash_int h
  ·exact wpAny_pyHash_str h
 eqBool:=λW Z h=>by
  rcases lZ W with ⟨i,t,rfl,rfl⟩ | ⟨x,t,rfl,rfl⟩
  ·rcases lZ Z with ⟨j,u,rfl,rfl⟩ | ⟨y,u,rfl,rfl⟩
   ·rw[X1] at h;exact wpAny_eqBool_int h
   ·rw[X5] at h;exact SeqAt.EqAt.int_str i t y u _ _ _ _ h
  ·rcases lZ Z with ⟨j,u,rfl,rfl⟩ | ⟨y,u,rfl,rfl⟩
   ·rw[X6] at h;exact SeqAt.EqAt.str_int x t j u _ _ _ _ h
   ·rw[X2] at h;exact wpAny_eqBool_str h
 «strs»:=λk x t v h=>by
  rcases lZ h with ⟨i,u,rfl,e⟩ | ⟨y,u,rfl,e⟩
  ·exact nomatch e
  ·injection e with e1 _
   subst e1
   cases v<;>rfl
set_option genInjectivity true in
inductive V where
 |au|bl (b:Bool)|int (i:Int)|str (x:Str)|jo (b:Array UInt8)|AF (b:UInt64)|ref (a:ß)|ty (n:String)
 deriving DecidableEq
def RelV:V->Ç->Prop
 | .au,u=>u=Value.none
 | .bl b,u=>u=ś b
 | .int i,u=>∃t,u=ad9 i t
 | .str x,u=>∃t,u=Value.str x t
 | .jo b,u=>∃t,u=Value.bytes b t
 | .AF b,u=>∃t,u=Value.float b t
 | .ref a,u=>u=Ō a
 | .ty n,u=>u=Ť n
abbrev Vals:List V->List Ç->Prop:=Paired RelV
theorem Vals.length (r:Vals xs us):xs.length=us.length:=Paired.length r
theorem Vals.get:∀{xs:List V} {us:List Ç} {i:Nat} {x:V},Vals xs us->xs[i]?=ϊ x->∃u,us[i]?=ϊ u/\RelV x u
 |_,_,_,_,.nil,e=>by simp at e
 |_,_,0,_,.cons r _,e=>by simp at e;subst e;exact⟨_,rfl,r⟩
 |_,_,i+1,x,.cons _ t,e=>by
  obtain⟨u,Z,Y⟩:=Vals.get (i:=i) (x:=x) t (by simpa using e);exact⟨u,by simpa using Z,Y⟩
theorem Vals.set (r:RelV x u):∀{xs:List V} {us:List Ç} (i:Nat),Vals xs us->Vals (xs.set i x) (us.set i u)
 |_,_,_,.nil=>.nil
 |_,_,0,.cons _ t=>.cons r t
 |_,_,i+1,.cons q t=>.cons q (Vals.set r i t)
theorem Vals.append:∀{xs ys:List V} {us ws:List Ç},Vals xs us->Vals ys ws->Vals (xs++ys) (us++ws)
 |_,_,_,_,.nil,s=>s
 |_,_,_,_,.cons r t,s=>.cons r (Vals.append t s)
theorem Vals.take:∀{xs:List V} {us:List Ç} (n:Nat),Vals xs us->Vals (xs.take n) (us.take n)
 |_,_,0,_=>.nil
 |_,_,_ + 1,.nil=>.nil
 |_,_,n+1,.cons r t=>.cons r (Vals.take n t)
theorem Vals.drop:∀{xs:List V} {us:List Ç} (n:Nat),Vals xs us->Vals (xs.drop n) (us.drop n)
 |_,_,0,r=>r
 |_,_,_ + 1,.nil=>.nil
 |_,_,n+1,.cons _ t=>Vals.drop n t
def mq:Option V->Option Ç->Prop
 |some v,ϊ u=>RelV v u
 |none,ϋ=>True
 |_,_=>False
def KV {κ:Type}:List (κ×V)->List (κ×Ç)->Prop:=Paired λ(p:κ×V) (q:κ×Ç)=>p.1=q.1/\RelV p.2 q.2
def kV:Key->V
 | .inl i=>.int i
 | .inr x=>.str x
inductive HO where
 |lst (xs:List V)
 |tup (xs:List V)
 |dK (aX:List (Key×V))|dT (aX:List (List Key×V))
 |set (S:Int->Bool) (n:Nat)
 |ins (C dx:ß) (fs:List (Str×V))
 |own (x:ß)
 |xd (fs:List (Str×V))
 |met (f x:ß)
 |df (lo hi:Int)
 |bo (o:Obj) (u:HO)
 |ef (ps:Array Ç)
 |ext (φ:ĺ->Prop)
abbrev Hp:=ß->Option HO
def upd (H:Hp) (a:ß) (o:HO):Hp:=λb=>if b=a then ϊ o else H b
def cO:upd H a o a=ϊ o:=by delta upd;rw[Ñ rfl]
def bt (h:b≠a):upd H a o b=H b:=by delta upd;rw[Ú h]
def dC {H:Hp} {a b:ß} {o:HO} (h:H a=ϊ o) (h':H b=ϋ):a≠b:=by
 intro e;subst e;rw[h] at h';cases h'
section
variable (P:å) (w:Ą)
def eO (H:Hp) (h:ĺ) (a:ß):HO->Prop
 | .lst Z=>Z.length<=Õ/\∃(its:List Ç) (n:Nat),Vals Z its/\h.get? a=ϊ { cls:=.type "list",data:=.seq its.toArray n }
 | .tup Z=>Z.length<=Õ/\∃its:List Ç,Vals Z its/\IsTup h a its.toArray
 | .dK X=>X.length<=Õ/\(a==sysModules)=ύ/\∃T,KV X T/\h.DictOf (zd P w) a T
 | .dT X=>X.length<=Õ/\(a==sysModules)=ύ/\∃Z:List (List Key×ß×Ç),
   Paired (λ(p:List Key×V) (q:List Key×ß×Ç)=>p.1=q.1/\H q.2.1=ϊ (.tup (p.1.map kV))/\RelV p.2 q.2.2) X Z /\
   ∃o R N,h.get? a=ϊ o/\o.ExactDict/\o.data=.dict R N/\R.toList=Z.map (entryOfKey (tupleKind (zd P w)))/\(Z.map (·.1)).Nodup
 | .set S n=>h.SetOf (Ţ P w) a S n
 | .ins C W fs=>H W=ϊ (.own a)/\fs.length<=1000/\W≠a/\h.get? a=ϊ (ş C W) /\
   ∃Y,h.Ns1 W Y/\(∀f,mq (fs.lookup f) (Y f))/\PySem.Within Y (fs.map (·.1))
 | .own _=>∃o,h.get? a=ϊ o
 | .xd fs=>∃Y,h.Ns1 a Y/\∀f,mq (fs.lookup f) (Y f)
 | .df lo M=>∃t u v,h.get? a=ϊ { cls:=.type "range",data:=.fields #[.int lo t,.int M u,.int 1 v] }
 | .bo o u=>h.get? a=ϊ o/\eO H h a u
 | .ef L=>h.get? a=ϊ { cls:=.none,data:=.fields L }
 | .met f x=>h.get? a=ϊ (aeo (.ref f) (.ref x))
 | .ext U=>U h/\(∃o,h.get? a=ϊ o)/\∀Q O:ĺ,U Q->(∀o,Q.get? a=ϊ o->O.get? a=ϊ o)->U O
def cM (H:Hp) (h:ĺ):Prop:=∀a o,H a=ϊ o->eO P w H h a o
end
section
variable {P:å} {w:Ą} {H H':Hp} {h h':ĺ} {a:ß} {o:HO}
theorem eO.lt (x:eO P w H h a o):a<h.objs.size:=by
 cases o with
 |lst Z=>obtain⟨_,_,_,_,e⟩:=x;exact Ð e
 |tup Z=>obtain⟨_,_,_,p⟩:=x;exact p.lt
 |dK Y=>obtain⟨_,_,_,_,o,_,_,e,_⟩:=x;exact Ð e
 |dT Y=>obtain⟨_,_,_,_,o,_,_,e,_⟩:=x;exact Ð e
 |set S n=>obtain⟨o,_,_,_,e,_⟩:=x;exact Ð e
 |ins C X fs=>obtain⟨_,_,_,e,_⟩:=x;exact Ð e
 |own y=>obtain⟨_,e⟩:=x;exact Ð e
 |xd fs=>obtain⟨_,⟨_,_,_,e,_⟩,_⟩:=x;exact Ð e
 |df lo W=>obtain⟨_,_,_,e⟩:=x;exact Ð e
 |bo V u=>obtain⟨e,_⟩:=x;exact Ð e
 |ef U=>exact Ð (show h.get? a=ϊ _ from x)
 |met f y=>exact Ð (show h.get? a=ϊ _ from x)
 |ext T=>obtain⟨_,⟨_,e⟩,_⟩:=x;exact Ð e
theorem Paired.Ov {α β:Type} {F G:α->β->Prop}:∀{Ow:List α} {l₂:List β},Paired F Ow l₂->(∀a b,F a b->G a b)->Paired G Ow l₂
 |_,_,.nil,_=>.nil
 |_,_,.cons r t,f=>.cons (f _ _ r) (Paired.Ov t f)
def eO.iE (x:eO P w H h a o) (k:∀b u,(b=a\/H b=ϊ (.own a))->h.get? b=ϊ u->h'.get? b=ϊ u)
  (ho:∀b,H b=ϊ (.own a)->H' b=ϊ (.own a)) (ht:∀b xs,H b=ϊ (.tup xs)->H' b=ϊ (.tup xs)):eO P w H' h' a o:=by
 induction o with
 |lst xs=>obtain⟨z,its,n,r,e⟩:=x;exact⟨z,its,n,r,k _ _ (.inl rfl) e⟩
 |tup xs=>obtain⟨z,its,r,Z,e,c⟩:=x;exact⟨z,its,r,Z,k _ _ (.inl rfl) e,c⟩
 |dK R=>obtain⟨z,y,Q,r,Z,Y,X,e,c⟩:=x;exact⟨z,y,Q,r,Z,Y,X,k _ _ (.inl rfl) e,c⟩
 |dT R =>
  obtain⟨z,y,xs,r,Z,Y,X,e,c⟩:=x;exact⟨z,y,xs,Paired.Ov r λp q z=>⟨z.1,ht _ _ z.2.1,z.2.2⟩,Z,Y,X,k _ _ (.inl rfl) e,c⟩
 |set S n=>obtain⟨Z,Y,X,t,e,c⟩:=x;exact⟨Z,Y,X,t,k _ _ (.inl rfl) e,c⟩
 |ins C O fs =>
  obtain⟨d,z,ne,e,W,⟨V,Y,X,e2,c⟩,r⟩:=x;exact⟨ho _ d,z,ne,k _ _ (.inl rfl) e,W,⟨V,Y,X,k _ _ (.inr d) e2,c⟩,r⟩
 |own y=>obtain⟨Z,e⟩:=x;exact⟨Z,k _ _ (.inl rfl) e⟩
 |xd fs=>obtain⟨W,⟨V,Y,X,e,c⟩,r⟩:=x;exact⟨W,⟨V,Y,X,k _ _ (.inl rfl) e,c⟩,r⟩
 |df lo N=>obtain⟨t,u,v,e⟩:=x;exact⟨t,u,v,k _ _ (.inl rfl) e⟩
 |bo Z u ih=>obtain⟨e,q⟩:=x;exact⟨k _ _ (.inl rfl) e,ih q⟩
 |ef U =>
  have e:h.get? a=ϊ { cls:=.none,data:=.fields U }:=x;show h'.get? a=ϊ { cls:=.none,data:=.fields U };exact k a _ (.inl rfl) e
 |met f y =>
  have e:h.get? a=ϊ (aeo (.ref f) (.ref y)):=x;show h'.get? a=ϊ (aeo (.ref f) (.ref y));exact k a _ (.inl rfl) e
 |ext M=>obtain⟨p,⟨o,e⟩,T⟩:=x;exact⟨T _ _ p λo q=>k _ _ (.inl rfl) q,⟨o,k _ _ (.inl rfl) e⟩,T⟩
theorem cM.lt (x:cM P w H h) (e:H a=ϊ o):a<h.objs.size:=(x a o e).lt
def cM.fresh (x:cM P w H h) (e:h.objs.size<=a):H a=ϋ:=by
 cases q:H a with
 |none=>rfl
 |some u=>exact absurd (Ê (x.lt q) e) (ñ _)
def cM.kept (x:cM P w H h) (k:∀b u,h.get? b=ϊ u->h'.get? b=ϊ u):cM P w H h':=λa o e =>
 (x a o e).iE (λb u _ q=>k b u q) (λ_ q=>q) λ_ _ q=>q
def cM.laid (x:cM P w H h) (k:∀b u,h.get? b=ϊ u->h'.get? b=ϊ u) (hp:h.objs.size<=a) (new:eO P w (upd H a o) h' a o):cM P w (upd H a o) h':=λb u e=>by
 have Z:=x.fresh hp;by_cases Y:b=a
 ·subst Y;rw[cO] at e;cases e;exact new
 ·rw[bt Y] at e
  exact(x b u e).iE (λc v _ q=>k c v q) (λc q=>by rw[bt (dC q Z)];exact q) λc X q=>by rw[bt (dC q Z)];exact q
end
def Rd (H:Hp) (a:ß) (u:HO):Prop:=H a=ϊ u\/∃o,H a=ϊ (.bo o u)
def Rd.ok (r:Rd H a u) (x:cM P w H h):eO P w H h a u:=by
 rcases r with r | ⟨o,r⟩
 ·exact x a u r
 ·obtain⟨_,q⟩:=x a _ r
  exact q
def AG:Option HO->Prop
 |some (.lst _)=>True
 |some (.dK _)=>True
 |some (.dT _)=>True
 |some (.set _ _)=>True
 |some (.ins _ _ _)=>True
 |some (.ext _)=>True
 |_=>False
section
variable {P:å} {w:Ą} {H:Hp} {h h':ĺ} {x e:ß} {o':HO}
def cM.write (ok:cM P w H h) (mu:AG (H x)) (he:e=x\/H e=ϊ (.own x)) (k:∀b u,b≠e->h.get? b=ϊ u->h'.get? b=ϊ u) (uz:∃u,h'.get? e=ϊ u)
  (new:eO P w (upd H x o') h' x o'):cM P w (upd H x o') h':=λb u q=>by
 have V:∀c y,H c=ϊ (.own y)->c≠x:=λc y r z=>by subst z;rw[r] at mu;exact mu
 have W:∀c Z,H c=ϊ (.tup Z)->c≠x:=λc Z r z=>by subst z;rw[r] at mu;exact mu
 by_cases Y:b=x
 ·subst Y;rw[cO] at q;cases q;exact new
 ·rw[bt Y] at q
  by_cases X:b=e
  ·have U:H b=ϊ (.own x):=by
    rcases he with z|z
    ·exact absurd (X.trans z) Y
    ·rw[X];exact z
   rw[q] at U;cases U;obtain⟨v,T⟩:=uz;exact⟨v,by rw[X];exact T⟩
  ·refine(ok b u q).iE (λc v hc r=>k c v ?_ r) (λc r=>by rw[bt (V c b r)];exact r) λc Z r=>by rw[bt (W c Z r)];exact r
   rcases hc with rfl|hc
   ·exact X
   ·rintro rfl
    rcases he with z|z
    ·exact V c b hc z
    ·rw[hc] at z;cases z;exact Y rfl
end
structure Un (fs ex:List ß) (H H':Hp) (h h':ĺ):Prop where
 keep:∀b o,h.get? b=ϊ o->H b=ϋ->b∉fs->b∉ex->h'.get? b=ϊ o
 slot:∀b o,h.get? b=ϊ o->H b=ϋ->b∈fs->b∉ex->∃sl,h'.get? b=ϊ { o with slots:=sl }
 free:∀b o,h.get? b=ϊ o->H b=ϋ->b∉ex->H' b=ϋ
 there:∀b o,h.get? b=ϊ o->b∉ex->∃o',h'.get? b=ϊ o'
 gg:∀b xs,H b=ϊ (.tup xs)->H' b=ϊ (.tup xs)
 fx:∀b o u,H b=ϊ (.bo o u)->H' b=ϊ (.bo o u)
 gj:∀b ps,H b=ϊ (.ef ps)->∃more,H' b=ϊ (.ef (ps++more))
section
variable {fs fs' ex ex':List ß} {H H1 H2:Hp} {h h1 h2 h':ĺ} {a x e:ß} {o:HO}
def Un.any (u:Un fs ex H H1 h h1) (q:h.get? b=ϊ ob) (n:H b=ϋ) (hx:b∉ex):∃sl,h1.get? b=ϊ { ob with slots:=sl }:=by
 by_cases Z:b∈fs
 ·exact u.slot b ob q n Z hx
 ·exact⟨ob.slots,u.keep b ob q n Z hx⟩
def Un.kept (k:∀b u,h.get? b=ϊ u->h'.get? b=ϊ u):Un fs ex H H h h' :=
 ⟨λb Z q _ _ _=>k b Z q,λb Z q _ _ _=>⟨Z.slots,k b Z q⟩,λ_ _ _ n _=>n,λb Z q _=>⟨Z,k b Z q⟩,λ_ _ q=>q,λ_ _ _ q=>q,λ_ Y q=>⟨#[],by rw[q];simp⟩⟩
def Un.refl:Un fs ex H H h h:=Un.kept λ_ _ q=>q
def Un.laid (k:∀b u,h.get? b=ϊ u->h'.get? b=ϊ u) (hp:h.objs.size<=a) (hn:H a=ϋ):Un fs ex H (upd H a o) h h' where
 keep:=λb u q _ _ _=>k b u q
 slot:=λb u q _ _ _=>⟨u.slots,k b u q⟩
 free:=λb u q n _=>by rw[bt (ã (Ê (Ð q) hp))];exact n
 there:=λb u q _=>⟨u,k b u q⟩
 gg:=λb Z q=>by rw[bt (dC q hn)];exact q
 fx:=λb u Z q=>by rw[bt (dC q hn)];exact q
 gj:=λb Y q=>⟨#[],by rw[bt (dC q hn),q];simp⟩
def Un.write (mu:AG (H x)) (he:e=x\/H e=ϊ (.own x)) (k:∀b u,b≠e->h.get? b=ϊ u->h'.get? b=ϊ u) (uz:∃u,h'.get? e=ϊ u):Un fs ex H (upd H x o) h h':=by
 have Y:∀b,H b=ϋ->b≠x:=λb n z=>by subst z;rw[n] at mu;exact mu
 have X:∀b,H b=ϋ->b≠e:=λb n z=>by
  subst z
  rcases he with r|r
  ·exact Y b n r
  ·rw[n] at r;cases r
 have Z:∀b u,H b=ϊ u->¬ AG (ϊ u)->b≠x:=λb u q nm z=>by subst z;rw[q] at mu;exact nm mu
 refine⟨λb u q n _ _=>k b u (X b n) q,λb u q n _ _=>⟨u.slots,k b u (X b n) q⟩,λb u q n _=>by rw[bt (Y b n)];exact n,λb u q _=>?_,
  λb V q=>by rw[bt (Z b _ q λz=>z)];exact q,λb u V q=>by rw[bt (Z b _ q λz=>z)];exact q,λb U q=>⟨#[],by rw[bt (Z b _ q λz=>z),q];simp⟩⟩
 by_cases W:b=e
 ·subst W;exact uz
 ·exact⟨u,k b u W q⟩
end
def uA (h:ĺ) (H:Hp):List ß:=(è h.objs.size).filter λa=>(H a).isSome
def nK (h:ĺ) (H:Hp):ĺ:=PySem.W.hideAll h (uA h H)
def SR (h:ĺ) (H:Hp):(nK h H).objs.size=h.objs.size:=PySem.W.hideAll_size _ _
def BS (e:h.get? b=ϊ o) (n:H b=ϋ):(nK h H).get? b=ϊ o :=
 adf _ e λZ=>by
  have q:(H b).isSome=ό:=(Ĥ.mp Z).2;rw[n] at q;simp at q
def Wm (e:(nK h H).get? b=ϊ o):h.get? b=ϊ o/\H b=ϋ:=by
 have Z:h.get? b=ϊ o:=PySem.W.of_hideAll (uA h H) e;refine⟨Z,?_⟩
 cases q:H b with
 |none=>rfl
 |some x =>
  have Y:b∈uA h H:=Ĥ.mpr ⟨Ċ.mpr (Ð Z),by simp[q]⟩;have z:(nK h H).get? b=ϋ:=PySem.W.hideAll_none (uA h H) Y;rw[z] at e;cases e
def Wn (g h:ĺ) (L:ß):List (ß×Obj):=(è h.objs.size).filterMap λa=>if a=L\/(g.get? a).isSome=ό then ϋ else (h.get? a).map λo=>(a,o)
def rest (g h:ĺ) (L d:ß):List (ß×Obj):=(Wn g h L).filter λp=>ώ (p.1≠d)
structure Mod (K:đ) (mg:Str->Option Ç) (base:ĺ):Prop where
 kC:K.In base
 glob:base.Ns Ò mg
 blt:∃mb,base.Ns builtinsNs mb/\∀x:Str,x≠"__name__"->mb x=ü x
 nolimit:base.NoLimit
structure Cx where
 prog:å
 w:Ą
 K:đ
 mg:Str->Option Ç
 base:ĺ
 A:í
 N:List Str
 c9:Â
 mr:Hp
 env:Env
 outer:List Env
 stack:List Env
 ex:List ß
 fn:Str->Bool
 calm:Bool
 pn:List (ß×Obj)
 xe:Ç->Â->Prop
def cK (l:List Env):List ß:=l.filterMap (·.frame)
abbrev Cx.fs (X:Cx):List ß:=cK X.outer
def qU (sc:acR) (x:Str):Prop:=sc.names.lookup x=ϊ .local\/sc.names.lookup x=ϊ .cell\/sc.names.lookup x=ϊ .free
def Loc (sc:acR) (x:Str):Prop:=sc.names.lookup x=ϊ .local\/sc.names.lookup x=ϊ .cell
def Look (env:Env) (h:ĺ) (m:Str->Option Ç) (x:Str) (u:Ç):Prop :=
 (env.kindOf x=ϊ .local/\m x=ϊ u)\/((env.kindOf x=ϊ .cell\/env.kindOf x=ϊ .free)/\∃c,env.cells.lookup x=ϊ c/\h.IsCell c (ϊ u))
structure Cx.Ok (X:Cx):Prop where
 mod:Mod X.K X.mg X.base
 kind:X.env.scope.kind=.function
 glob:X.env.globals=Ò
 blt:X.env.builtins=builtinsNs
 above:X.c9.heap.objs.size<=X.env.locals
 inj:∀x y c,X.env.cells.lookup x=ϊ c->X.env.cells.lookup y=ϊ c->x=y
 has:∀x,(X.env.kindOf x=ϊ .cell\/X.env.kindOf x=ϊ .free)->∃c,X.env.cells.lookup x=ϊ c
 uB:∀x c,X.fn x=ό->X.env.cells.lookup x=ϊ c->X.c9.heap.objs.size<=c
 hd:X.calm=ό->X.A.handled=ϋ
 frames:X.A.frames=ϊ X.stack
 mF:X.stack=X.outer\/(X.stack=X.env::X.outer/\X.env.frame=ϊ X.env.locals)
 O7:∀b∈X.ex,b≠X.env.locals/\∀x c,X.env.cells.lookup x=ϊ c->c≠b
 bs:∀b o,X.base.get? b=ϊ o->X.c9.heap.get? b=ϊ o/\X.mr b=ϋ
 iW:X.base.objs.size<=X.c9.heap.objs.size
 oQ:∀b o,X.base.get? b=ϊ o->b∉X.ex
 Ai:∀b∈X.ex,b∉X.fs
 iS:X.c9.heap.FunFrames X.base X.outer
 lJ:∀b∈X.fs,X.mr b=ϋ
structure Inv (X:Cx) (π:List (ß×Obj)) (σ:List (Option V)) (H:Hp) (s:Â):Prop where
 ok:X.Ok
 os:s.os=X.c9.os
 bare:aeu s.gens
 base:Un X.fs X.ex X.mr H X.c9.heap s.heap
 loc:∃m,s.heap.Ns X.env.locals m/\∀(i:Nat) (x:Str) (v:V),X.N[i]?=ϊ x->σ[i]?=ϊ (ϊ v)->qU X.env.scope x->∃u,RelV v u/\Look X.env s.heap m x u
 cell:∀x c,X.env.cells.lookup x=ϊ c->∃v,s.heap.IsCell c v
 free:H X.env.locals=ϋ
 jd:∀x c,X.env.cells.lookup x=ϊ c->H c=ϋ
 pin:∀p∈X.pn++π,s.heap.get? p.1=ϊ p.2/\H p.1=ϋ/\p.1≠X.env.locals/\p.1∉X.fs/\∀v,p.2.data≠.cell v
 aI:cM X.prog X.w H s.heap
 len:σ.length=X.N.length
section
variable {X:Cx} {π:List (ß×Obj)} {σ:List (Option V)} {H H':Hp} {s:Â} {h':ĺ}
def Cx.Ok.abv (ok:X.Ok) (e:X.base.get? b=ϊ o):b∉X.fs:=λZ=>by
 have:=(ok.iS.mem Z).1;rw[e] at this;cases this
theorem Inv.bs (I:Inv X π σ H s):∀b o,X.base.get? b=ϊ o->s.heap.get? b=ϊ o/\H b=ϋ:=λb o e =>
 ⟨I.base.keep b o (I.ok.bs b o e).1 (I.ok.bs b o e).2 (I.ok.abv e) (I.ok.oQ b o e),I.base.free b o (I.ok.bs b o e).1 (I.ok.bs b o e).2 (I.ok.oQ b o e)⟩
def Inv.bk (I:Inv X π σ H s):∀b o,X.base.get? b=ϊ o->s.heap.get? b=ϊ o:=λb o e=>(I.bs b o e).1
theorem Inv.mod (I:Inv X π σ H s):Mod X.K X.mg X.base:=I.ok.mod
def Inv.fy (I:Inv X π σ H s):X.K.In s.heap:=I.ok.mod.kC.keeps I.bk
theorem Inv.lt (I:Inv X π σ H s):X.env.locals<s.heap.objs.size:=let ⟨_,Z,_⟩:=I.loc;Z.lt
def Inv.sz (I:Inv X π σ H s):X.c9.heap.objs.size<=s.heap.objs.size:=Ý I.ok.above (Nat.le_of_lt I.lt)
def Inv.xi (I:Inv X π σ H s) {a:ß} (h:s.heap.objs.size<=a):a∉X.fs:=λZ=>by
 obtain⟨_,o,Y,_⟩:=I.ok.iS.mem Z;exact absurd (Ê (Ð Y) (Ý I.sz h)) (ñ _)
def Inv.kD (I:Inv X π σ H s):∀x c,X.env.cells.lookup x=ϊ c->c≠X.env.locals:=λx c e z=>by
 obtain⟨v,o,Z,Y⟩:=I.cell x c e;obtain⟨m,⟨U,T,S,W,V,_⟩,_⟩:=I.loc;rw[z,W] at Z;cases Z;rw[V] at Y;cases Y
theorem Inv.iS (I:Inv X π σ H s):s.heap.FunFrames X.base X.outer:=by
 have all:∀(l:List Env),(∀b∈cK l,b∈X.fs)->X.c9.heap.FunFrames X.base l->s.heap.FunFrames X.base l:=by
  intro l
  induction l with
  |nil=>intro _ _;trivial
  |cons env r ih =>
   intro V U;obtain⟨T,⟨L,o,Z,S,R,Q⟩,P⟩:=U;have Y:L∈X.fs:=V L (by delta cK;rw[adg,Z];exact Þ);obtain⟨sl,e⟩:=I.base.slot L o R (I.ok.lJ L Y) Y λz=>I.ok.Ai L z Y;exact⟨T,⟨L,_,Z,S,e,Q⟩,ih (λb W=>V b (by delta cK;rw[adg,Z];exact Ï _ W)) P⟩
 exact all X.outer (λ_ W=>W) I.ok.iS
theorem Inv.stack (I:Inv X π σ H s):s.heap.FunFrames X.base X.stack:=by
 rcases I.ok.mF with e | ⟨e,Z⟩
 ·rw[e];exact I.iS
 ·rw[e]
  obtain⟨m,Y,_⟩:=I.loc;refine .cons (by rw[I.ok.kind];decide) Z Y ?_ I.iS;exact Heap.get?_none_of_le (Ý I.ok.iW I.ok.above)
def Inv.kX (I:Inv X π σ H s):∀b∈cK X.stack,b∈X.env.locals::X.fs:=λb Z=>by
 rcases I.ok.mF with e | ⟨e,Y⟩
 ·rw[e] at Z;exact Ï _ Z
 ·rw[e] at Z
  delta cK at Z;rw[adg,Y] at Z;exact Z
def Inv.vN (I:Inv X π σ H s):∀b∈cK X.stack,H b=ϋ:=λb hb=>by
 rcases Û.mp (I.kX b hb) with e|hb
 ·rw[e];exact I.free
 ·obtain⟨_,o,Z,_⟩:=I.ok.iS.mem hb
  exact I.base.free b o Z (I.ok.lJ b hb) λz=>I.ok.Ai b z hb
def Inv.step {g':Array GenState} {t':Nat} {d':Drawn} {ch:List ß} (I:Inv X π σ H s)
  (mG:∀b∈ch,(b∈X.ex\/X.c9.heap.objs.size<=b)/\b≠X.env.locals/\(∀x c,X.env.cells.lookup x=ϊ c->c≠b)/\∀p∈X.pn++π,p.1≠b)
  (keep:∀b o,b≠X.env.locals->b∉X.fs->b∉ch->s.heap.get? b=ϊ o->H b=ϋ->h'.get? b=ϊ o)
  (slot:∀b o,b≠X.env.locals->b∈X.fs->b∉ch->s.heap.get? b=ϊ o->H b=ϋ->∃sl,h'.get? b=ϊ { o with slots:=sl }) (free:∀b o,b∉ch->s.heap.get? b=ϊ o->H b=ϋ->H' b=ϋ)
  (there:∀b o,b∉ch->s.heap.get? b=ϊ o->∃o',h'.get? b=ϊ o')
  (gg:∀b xs,H b=ϊ (.tup xs)->H' b=ϊ (.tup xs)) (fx:∀b o u,H b=ϊ (.bo o u)->H' b=ϊ (.bo o u)) (gj:∀b ps,H b=ϊ (.ef ps)->∃more,H' b=ϊ (.ef (ps++more)))
  (ns:∀m,s.heap.Ns X.env.locals m->h'.Ns X.env.locals m) (aI:cM X.prog X.w H' h') (hg:aeu g') :
  Inv X π σ H' { s with heap:=h',gens:=g',drawn:=d',toks:=t' }:=by
 have S:∀b o,X.c9.heap.get? b=ϊ o->b≠X.env.locals:=λb o e=>ã (Ê (Ð e) I.ok.above);have U:∀b o,X.c9.heap.get? b=ϊ o->b∉X.ex->b∉ch:=λb o e Z Y=>by
  rcases(mG b Y).1 with z|z
  ·exact Z z
  ·exact absurd (Ê (Ð e) z) (ñ _)
 have cellK:∀x c,X.env.cells.lookup x=ϊ c->∀v,s.heap.IsCell c v->h'.IsCell c v:=λx c e v ⟨o,W,T⟩=>by
  have V:c∉ch:=λz=>(mG c z).2.2.1 x c e rfl;by_cases R:c∈X.fs
  ·obtain⟨sl,q⟩:=slot c o (I.kD x c e) R V W (I.jd x c e)
   exact⟨_,q,T⟩
  ·exact⟨o,keep c o (I.kD x c e) R V W (I.jd x c e),T⟩
 refine⟨I.ok,I.os,hg,⟨λb o e n Y Z=>?_,λb o e n Y Z=>?_,λb o e n Z=>?_,λb o e Z=>?_,λb xs e=>gg b xs (I.base.gg b xs e),λb o xs e=>fx b o xs (I.base.fx b o xs e),λb ps e=>?_⟩,?_,λx c e=>?_,?_,λx c e=>?_,λp Q=>?_,aI,I.len⟩
 ·exact keep b o (S b o e) Y (U b o e Z) (I.base.keep b o e n Y Z) (I.base.free b o e n Z)
 ·obtain⟨sl,e1⟩:=I.base.slot b o e n Y Z
  obtain⟨O,e2⟩:=slot b _ (S b o e) Y (U b o e Z) e1 (I.base.free b o e n Z);exact⟨O,e2⟩
 ·obtain⟨o',e1⟩:=I.base.there b o e Z
  exact free b o' (U b o e Z) e1 (I.base.free b o e n Z)
 ·obtain⟨o',e1⟩:=I.base.there b o e Z
  exact there b o' (U b o e Z) e1
 ·obtain⟨N,e1⟩:=I.base.gj b ps e
  obtain⟨M,e2⟩:=gj b _ e1;exact⟨N++M,by rw[e2,Array.append_assoc]⟩
 ·obtain⟨m,L,K⟩:=I.loc
  refine⟨m,ns m L,λi x v e1 e2 J=>?_⟩;obtain⟨u,r,l⟩:=K i x v e1 e2 J;refine⟨u,r,?_⟩
  rcases l with l | ⟨k,c,e,z⟩
  ·exact .inl l
  ·exact .inr ⟨k,c,e,cellK x c e _ z⟩
 ·obtain⟨v,z⟩:=I.cell x c e
  exact⟨v,cellK x c e v z⟩
 ·obtain⟨m,⟨o,_,_,W,_⟩,_⟩:=I.loc
  exact free _ o (λz=>(mG _ z).2.1 rfl) W I.free
 ·obtain⟨v,o,W,T⟩:=I.cell x c e
  exact free c o (λz=>(mG c z).2.2.1 x c e rfl) W (I.jd x c e)
 ·obtain⟨e,n,ne,P,d⟩:=I.pin p Q
  have V:p.1∉ch:=λz=>(mG p.1 z).2.2.2 p Q rfl;exact⟨keep p.1 p.2 ne P V e n,free p.1 p.2 V e n,ne,P,d⟩
def Inv.un {t':Nat} (I:Inv X π σ H s) (u:Un X.fs [] H H' s.heap h') (aI:cM X.prog X.w H' h'):Inv X π σ H' { s with heap:=h',toks:=t' }:=by
 obtain⟨m,⟨o,Q,P,Y,r⟩,_⟩:=id I.loc;obtain⟨sl,V⟩:=u.any Y I.free ∅
 exact I.step (g':=s.gens) (d':=s.drawn) (ch:=[]) (λ_ z=>nomatch z) (λb o _ Z _ e n=>u.keep b o e n Z ∅) (λb o _ Z _ e n=>u.slot b o e n Z ∅) (λb o _ e n=>u.free b o e n ∅) (λb o _ e=>u.there b o e ∅) u.gg u.fx u.gj (λO U=>by
  obtain⟨N,T,S,W,R⟩:=U;rw[Y] at W;cases W;exact⟨_,T,S,V,R⟩) aI I.bare
def Inv.call {g':Array GenState} {t':Nat} {d':Drawn} {ch:List ß} (I:Inv X π σ H s) (u:Un (cK X.stack) ch H H' s.heap h') (aI:cM X.prog X.w H' h') (hg:aeu g')
  (mG:∀b∈ch,(b∈X.ex\/X.c9.heap.objs.size<=b)/\b≠X.env.locals/\(∀x c,X.env.cells.lookup x=ϊ c->c≠b)/\∀p∈X.pn++π,p.1≠b) :
  Inv X π σ H' { s with heap:=h',gens:=g',drawn:=d',toks:=t' }:=by
 obtain⟨m,⟨o,P,O,W,r⟩,_⟩:=id I.loc;obtain⟨sl,Y⟩:=u.any W I.free λz=>(mG _ z).2.1 rfl;exact I.step (ch:=ch) mG (λb o Y U Z e n=>u.keep b o e n (λz=>(Û.mp (I.kX b z)).elim Y U) Z) (λb o _ _ Z e n=>u.any e n Z) (λb o Z e n=>u.free b o e n Z) (λb o Z e=>u.there b o e Z) u.gg u.fx u.gj (λN T=>by
  obtain⟨M,S,R,V,Q⟩:=T;rw[W] at V;cases V;exact⟨_,S,R,Y,Q⟩) aI hg
def Inv.turned {t':Nat} {it:ß} (I:Inv X π σ H s) (k:∀b o,b≠it->s.heap.get? b=ϊ o->h'.get? b=ϊ o) (hn:H it=ϋ) (hL:it≠X.env.locals)
  (h1:it∈X.ex\/X.c9.heap.objs.size<=it) (h2:∀x c,X.env.cells.lookup x=ϊ c->c≠it) (h3:∀p∈X.pn++π,p.1≠it):Inv X π σ H { s with heap:=h',toks:=t' }:=by
 have Y:∀b u,H b=ϊ u->b≠it:=λb u e z=>by rw[z,hn] at e;cases e
 refine I.step (g':=s.gens) (d':=s.drawn) (ch:=[it]) (λb W=>?_) (λb o _ _ Z e _=>k b o (λz=>Z (by simp[z])) e) (λb o _ _ Z e _=>⟨o.slots,k b o (λz=>Z (by simp[z])) e⟩) (λ_ _ _ _ n=>n)
  (λb o Z e=>⟨o,k b o (λz=>Z (by simp[z])) e⟩) (λ_ _ e=>e) (λ_ _ _ e=>e) (λb R e=>⟨#[],by rw[e];simp⟩) (λm V=>?_) (λb u e=>?_) I.bare
 ·have e:b=it:=by simpa using W
  subst e;exact⟨h1,hL,h2,h3⟩
 ·obtain⟨o,U,T,S,r⟩:=V
  exact⟨o,U,T,k _ o (ź hL) S,r⟩
 ·refine(I.aI b u e).iE (λc v Z q=>k c v ?_ q) (λ_ q=>q) λ_ _ q=>q
  rcases Z with z|z
  ·rw[z];exact Y b u e
  ·exact Y c _ z
def Inv.tok (I:Inv X π σ H s) (t:Nat):Inv X π σ H { s with toks:=t }:=I.un (h':=s.heap) (t':=t) Un.refl I.aI
theorem Inv.kept (I:Inv X π σ H s) (k:∀b u,s.heap.get? b=ϊ u->h'.get? b=ϊ u):Inv X π σ H { s with heap:=h',toks:=t' }:=I.un (Un.kept k) (I.aI.kept k)
theorem Inv.laid {a:ß} {o:HO} {t':Nat} (I:Inv X π σ H s) (k:∀b u,s.heap.get? b=ϊ u->h'.get? b=ϊ u) (hp:s.heap.objs.size<=a) (new:eO X.prog X.w (upd H a o) h' a o) :
  Inv X π σ (upd H a o) { s with heap:=h',toks:=t' }:=I.un (Un.laid k hp (I.aI.fresh hp)) (I.aI.laid k hp new)
theorem Inv.write (I:Inv X π σ H s) (mu:AG (H x)) (he:e=x\/H e=ϊ (.own x)) (k:∀b u,b≠e->s.heap.get? b=ϊ u->h'.get? b=ϊ u) (uz:∃u,h'.get? e=ϊ u)
 (new:eO X.prog X.w (upd H x o) h' x o):Inv X π σ (upd H x o) { s with heap:=h',toks:=t' }:=I.un (Un.write mu he k uz) (I.aI.write mu he k uz new)
def Inv.qa (I:Inv X π σ H s) (h:∀p∈Z0,s.heap.get? p.1=ϊ p.2/\H p.1=ϋ/\p.1≠X.env.locals/\p.1∉X.fs/\∀v,p.2.data≠.cell v):Inv X Z0 σ H s :=
 ⟨I.ok,I.os,I.bare,I.base,I.loc,I.cell,I.free,I.jd,λp Z=>(ó.mp Z).elim (λz=>I.pin p (ÿ _ z)) (h p),I.aI,I.len⟩
def BU {N:List Str} (hN:N.Nodup) {i j:Nat} {x:Str} (a:N[i]?=ϊ x) (b:N[j]?=ϊ x):i=j:=by
 obtain⟨Z,e1⟩:=Ô.mp a;obtain⟨Y,e2⟩:=Ô.mp b;exact(List.getElem_inj hN).mp (e1.trans e2.symm)
def SS {M:Model} {A:í} {E:Ç->Â->Prop} {i:Nat} {x:Str} {v:V} {u:Ç} {Q:Unit->Â->Prop} (I:Inv X π σ H s) (hN:X.N.Nodup) (hi:X.N[i]?=ϊ x) (hx:Loc X.env.scope x) (r:RelV v u)
  (h:∀s',Inv X π (σ.set i (ϊ v)) H s'->(∃a,Ĭ a s.heap s'.heap/\(a=X.env.locals\/X.env.cells.lookup x=ϊ a))->Q () s') (hf:X.fn x=ό\/X.env.scope.names.lookup x=ϊ .local:=by first|exact .inl rfl|exact .inr rfl|assumption):á M A (storeName X.env x u) Q E s:=by
 obtain⟨m,S,C⟩:=id I.loc;have xj:(X.env.scope.kind==.class||(X.env.scope.kind==.module&&X.env.locals != X.env.globals))=ύ:=by rw[I.ok.kind];rfl
 have B:i < σ.length:=by rw[I.len];exact(Ô.mp hi).1
 have kD:=I.kD;have tracked:∀{a:ß} {h':ĺ},(∃o,s.heap.get? a=ϊ o/\H a=ϋ)->Ĭ a s.heap h'->cM X.prog X.w H h':=λ{a h'} ha Z b ob e=>by
  obtain⟨_,_,t⟩:=ha;refine(I.aI b ob e).iE (λc U hc q=>(Z.2 c ?_).trans q) (λ_ q=>q) λ_ _ q=>q;rintro rfl
  rcases hc with rfl|hc
  ·rw[t] at e;cases e
  ·rw[t] at hc;cases hc
 rcases hx with hk|hk
 ·refine wpAny_storeName_local hk S (λh' jQ Z=>?_) xj
  obtain⟨oL,_,_,uC,_⟩:=id S;refine h _ ⟨I.ok,I.os,I.bare,⟨λb o e n Y hx=>?_,λb o e n Y hx=>?_,I.base.free,λb o e hx=>?_,I.base.gg,I.base.fx,I.base.gj⟩,⟨_,jQ,λj y R e1 e2 P=>?_⟩,λy c e=>?_,I.free,I.jd,λp O=>?_,tracked ⟨oL,uC,I.free⟩ Z,by simpa using I.len⟩ ⟨_,Z,.inl rfl⟩
  ·exact(Z.2 b (ã (Ê (Ð e) I.ok.above))).trans (I.base.keep b o e n Y hx)
  ·obtain⟨sl,e1⟩:=I.base.slot b o e n Y hx
   exact⟨sl,(Z.2 b (ã (Ê (Ð e) I.ok.above))).trans e1⟩
  ·obtain⟨L,e1⟩:=I.base.there b o e hx
   exact⟨L,(Z.2 b (ã (Ê (Ð e) I.ok.above))).trans e1⟩
  ·by_cases W:j=i
   ·subst W
    rw[hi] at e1;cases e1;rw[ù B] at e2;cases e2;exact⟨u,r,.inl ⟨hk,by simp⟩⟩
   ·rw[õ (ź W)] at e2
    obtain⟨K,J,q⟩:=C j y R e1 e2 P;refine⟨K,J,?_⟩
    rcases q with ⟨k,e⟩ | ⟨k,c,e,z⟩
    ·refine .inl ⟨k,?_⟩
     have:y≠x:=λe=>W (BU hN e1 (e ▸ hi));simp[this,e]
    ·exact .inr ⟨k,c,e,z.sameBut Z (kD y c e)⟩
  ·obtain⟨U,z⟩:=I.cell y c e
   exact⟨U,z.sameBut Z (kD y c e)⟩
  ·obtain⟨e,n,ne,G,d⟩:=I.pin p O
   exact⟨(Z.2 p.1 ne).trans e,n,ne,G,d⟩
 ·have F:X.fn x=ό:=by
   rcases hf with z|z
   ·exact z
   ·rw[z] at hk;cases hk
  obtain⟨c,hc⟩:=I.ok.has x (.inl hk);obtain⟨U,z⟩:=I.cell x c hc;refine wpAny_storeName_cell I.ok.kind hk hc z (λh' l Z=>?_);obtain⟨g,f,D⟩:=id z
  refine h { s with heap:=h' } ⟨I.ok,I.os,I.bare,⟨λb o e n Y hx=>?_,λb o e n Y hx=>?_,I.base.free,λb o e hx=>?_,I.base.gg,I.base.fx,I.base.gj⟩,⟨m,S.sameBut Z (ź (kD x c hc)),λj y R e1 e2 P=>?_⟩,λy T e=>?_,I.free,I.jd,λp O=>?_,tracked ⟨g,f,I.jd x c hc⟩ Z,by simpa using I.len⟩ ⟨c,Z,.inr hc⟩
  ·exact(Z.2 b (ã (Ê (Ð e) (I.ok.uB x c F hc)))).trans (I.base.keep b o e n Y hx)
  ·obtain⟨sl,e1⟩:=I.base.slot b o e n Y hx
   exact⟨sl,(Z.2 b (ã (Ê (Ð e) (I.ok.uB x c F hc)))).trans e1⟩
  ·obtain⟨L,e1⟩:=I.base.there b o e hx
   exact⟨L,(Z.2 b (ã (Ê (Ð e) (I.ok.uB x c F hc)))).trans e1⟩
  ·by_cases W:j=i
   ·subst W
    rw[hi] at e1;cases e1;rw[ù B] at e2;cases e2;exact⟨u,r,.inr ⟨.inl hk,c,hc,l⟩⟩
   ·rw[õ (ź W)] at e2
    obtain⟨K,J,q⟩:=C j y R e1 e2 P;refine⟨K,J,?_⟩
    rcases q with q | ⟨k,T,e,z'⟩
    ·exact .inl q
    ·refine .inr ⟨k,T,e,z'.sameBut Z ?_⟩
     rintro rfl;exact W (BU hN e1 (I.ok.inj _ _ _ e hc ▸ hi))
  ·by_cases AJ:T=c
   ·subst AJ;exact⟨_,l⟩
   ·obtain⟨w2,z2⟩:=I.cell y T e
    exact⟨w2,z2.sameBut Z AJ⟩
  ·obtain⟨e,n,ne,G,d⟩:=I.pin p O
   refine⟨(Z.2 p.1 ?_).trans e,n,ne,G,d⟩;intro q;rw[q,f] at e;have q':g=p.2:=aeE e;exact d U (by rw[<- q'];exact D)
def oj (I:Inv X π σ H s) (hN:X.N.Nodup) (hi:X.N[i]?=ϊ x) (hx:Loc X.env.scope x) (r:RelV v u)
 (h:∀s',Inv X π (σ.set i (ϊ v)) H s'->Q () s') (hf:X.fn x=ό\/X.env.scope.names.lookup x=ϊ .local:=by first|exact .inl rfl|exact .inr rfl|assumption):á M A (storeName X.env x u) Q E s :=
 SS I hN hi hx r (λs' Z _=>h s' Z) hf
def Inv.wB (I:Inv X π σ H s) (ho:s'.os=s.os) (u:Un (cK X.stack) ch H H' s.heap s'.heap) (aI:cM X.prog X.w H' s'.heap) (hg:aeu s'.gens)
 (mG:∀b∈ch,(b∈X.ex\/X.c9.heap.objs.size<=b)/\b≠X.env.locals/\(∀x c,X.env.cells.lookup x=ϊ c->c≠b)/\∀p∈X.pn++π,p.1≠b):Inv X π σ H' s':=by
 obtain⟨h',g',d',t',Z⟩:=s';have e:Z=s.os:=ho;subst e;exact I.call (g':=g') (t':=t') (d':=d') u aI hg mG
end
abbrev XK:=Ç->Option ß->Hp->Prop
abbrev St:=List (Option V)
abbrev VK:=V->Hp->Prop
abbrev TE:=St->Hp->VK->Prop
abbrev TT:=St->Hp->(Bool->Hp->Prop)->Prop
abbrev TA:=St->Hp->(List V->Hp->Prop)->Prop
structure Ends where
 nx:St->Hp->Prop
 rt:VK
 bk:St->Hp->Prop:=λ_ _=>False
 ct:St->Hp->Prop:=λ_ _=>False
abbrev TS:=Ends->St->Hp->Prop
def EP (X:Cx) (π:List (ß×Obj)) (σ:St) (Q:VK) (u:Ç) (s':Â):Prop:=∃v Z,Inv X π σ Z s'/\RelV v u/\Q v Z
def TP (X:Cx) (π:List (ß×Obj)) (σ:St) (Q:Bool->Hp->Prop) (b:Bool) (s':Â):Prop:=∃Z,Inv X π σ Z s'/\Q b Z
def AP (X:Cx) (π:List (ß×Obj)) (σ:St) (Q:List V->Hp->Prop) (us:List Ç) (s':Â):Prop:=∃Z Y,Inv X π σ Y s'/\Vals Z us/\Q Z Y
def SP (X:Cx) (π:List (ß×Obj)) (D:Ends) (f:Flow) (s':Â):Prop :=
 match f with
 | .next=>∃ Y Z,Inv X π Y Z s'/\D.nx Y Z
 | .brk=>∃ Y Z,Inv X π Y Z s'/\D.bk Y Z
 | .cont=>∃ Y Z,Inv X π Y Z s'/\D.ct Y Z
 | .ret u=>∃v Y Z,Inv X π Y Z s'/\RelV v u/\D.rt v Z
def PE (X:Cx) (e:ě) (t:TE):Prop :=
 ∀(Z:List (ß×Obj)) (s:Â) (σ:St) (H:Hp) (Q:VK),Inv X Z σ H s->t σ H Q->á (é X.prog X.w) X.A (ķ e X.env) (EP X Z σ Q) X.xe s
def PT (X:Cx) (e:ě) (t:TT):Prop :=
 ∀(Z:List (ß×Obj)) (s:Â) (σ:St) (H:Hp) (Q:Bool->Hp->Prop),Inv X Z σ H s->t σ H Q->á (é X.prog X.w) X.A (isTrue e X.env (ķ e X.env)) (TP X Z σ Q) X.xe s
def PW (X:Cx) (e:ě) (t:TT):Prop :=
 ∀(whole:Sem Ç) (Z:List (ß×Obj)) (s:Â) (σ:St) (H:Hp) (Q:Bool->Hp->Prop),Inv X Z σ H s->t σ H Q->á (é X.prog X.w) X.A (isTrue e X.env whole) (TP X Z σ Q) X.xe s
def PW.pt (h:PW X e t):PT X e t:=h _
def PA (X:Cx) (es:List ě) (t:TA):Prop :=
 ∀(pos:Pos) (Z:List (ß×Obj)) (s:Â) (σ:St) (H:Hp) (Q:List V->Hp->Prop),Inv X Z σ H s->t σ H Q->á (é X.prog X.w) X.A (spliced (ī pos (Í es X.env))) (AP X Z σ Q) X.xe s
def PS (X:Cx) (st:ad2) (t:TS):Prop :=
 ∀(Z:List (ß×Obj)) (s:Â) (σ:St) (H:Hp) (D:Ends),Inv X Z σ H s->t D σ H->á (é X.prog X.w) X.A (exec st X.env) (SP X Z D) X.xe s
def dg (X:Cx) (st:List ad2) (t:TS):Prop :=
 ∀(Z:List (ß×Obj)) (s:Â) (σ:St) (H:Hp) (D:Ends),Inv X Z σ H s->t D σ H->á (é X.prog X.w) X.A (execs st X.env) (SP X Z D) X.xe s
def aO {α:Type} {t:Sem α} {Q Q':α->Â->Prop} {M:Model} {A:í} {E:Ç->Â->Prop} {s:Â} (h:á M A t Q E s) (hQ:∀a s,Q a s->Q' a s):á M A t Q' E s:=ė h hQ λ_ _ x=>x
section
variable {X:Cx}
def abx (i:Nat):TE:=fun σ H Q=>∃v,σ[i]?=ϊ (ϊ v)/\Q v H
def tC (v:V):TE:=λ_ H Q=>Q v H
def Mo {i:Nat} {x:Str} {pos:Pos} (hN:X.N[i]?=ϊ x) (hv:qU X.env.scope x) (hd:(x==("__debug__":Str))=ύ:=by decide) (eh:(x==("__classdict__":Str))=ύ:=by decide):PE X (.Name x pos) (abx i):=by
 intro W s σ H Q I h;obtain⟨v,e,h⟩:=h;obtain⟨m,V,U⟩:=I.loc;obtain⟨u,r,l⟩:=U i x v hN e hv;have fin:EP X W σ Q u s:=⟨v,H,I,r,h⟩
 rcases l with ⟨hk,T⟩ | ⟨hk,c,Z,Y⟩
 ·exact wpAny_Name (wpAny_loadName_local I.ok.kind hk V T fin) hd
 ·rcases hk with hk|hk
  ·exact wpAny_Name (wpAny_loadName_cell I.ok.kind hk Z Y fin) hd
  ·exact wpAny_Name (wpAny_loadName_free I.ok.kind hk Z Y fin eh) hd
def Mp {i j pos}:PE X (.Constant (.int i) j pos) (tC (.int i)):=λ_ _ _ H _ I h=>wpAny_Constant_int ⟨.int i,H,I.tok _,⟨_,rfl⟩,h⟩
def DT {b j pos}:PE X (.Constant (.bool b) j pos) (tC (.bl b)):=λ_ _ _ H _ I h=>Constant_bool ⟨.bl b,H,I,rfl,h⟩
def X7 {j pos}:PE X (.Constant .none j pos) (tC .au):=λ_ _ _ H _ I h=>Constant_none ⟨.au,H,I,rfl,h⟩
def X8 {x j pos}:PE X (.Constant (.str x) j pos) (tC (.str x)):=λ_ _ _ H _ I h=>Calls.Constant_str ⟨.str x,H,I.tok _,⟨_,rfl⟩,h⟩
def Gl (X:Cx) (x:Str):Prop:=X.env.kindOf x=ϊ .globalImplicit
def qb {E:Ç->Â->Prop} {π:List (ß×Obj)} {s:Â} {σ:St} {H:Hp} {x:Str} {u:Ç} {pos:Pos} {Q:Ç->Â->Prop} (I:Inv X π σ H s) (hg:Gl X x) (hm:X.mg x=ϊ u) (h:Q u s)
  (hd:(x==("__debug__":Str))=ύ:=by decide):á (é X.prog X.w) X.A (ķ (.Name x pos) X.env) Q E s :=
 Calls.Name_function_global I.ok.kind hg (Calls.loadGlobal_global (by rw[I.ok.glob];exact I.mod.glob.keeps I.bk) hm h) hd
def qh {E:Ç->Â->Prop} {π:List (ß×Obj)} {s:Â} {σ:St} {H:Hp} {x:Str} {u:Ç} {pos:Pos} {Q:Ç->Â->Prop} (I:Inv X π σ H s) (hg:Gl X x) (hm:X.mg x=ϋ) (hv:ü x=ϊ u) (h:Q u s)
  (hn:x≠"__name__":=by decide) (hd:(x==("__debug__":Str))=ύ:=by decide):á (é X.prog X.w) X.A (ķ (.Name x pos) X.env) Q E s:=by
 obtain⟨W,Z,Y⟩:=I.mod.blt;exact Calls.Name_function_global I.ok.kind hg (Calls.loadGlobal_builtin (by rw[I.ok.glob];exact I.mod.glob.keeps I.bk) hm (by rw[I.ok.blt];exact Z.keeps I.bk) ((Y x hn).trans hv) h) hd
def Cp (hg:Gl X x) (hm:X.mg x=ϊ u) (r:RelV v u) (hd:(x==("__debug__":Str))=ύ:=by decide):PE X (.Name x pos) (tC v) :=
 λ_ _ _ H _ I h=>qb I hg hm ⟨v,H,I,r,h⟩ hd
def Lm {x:Str} {v:V} {u:Ç} {pos:Pos} (hg:Gl X x) (hm:X.mg x=ϋ) (hv:ü x=ϊ u) (r:RelV v u) (hn:x≠"__name__":=by decide) (hd:(x==("__debug__":Str))=ύ:=by decide):PE X (.Name x pos) (tC v) :=
 λ_ _ _ H _ I h=>qh I hg hm hv ⟨v,H,I,r,h⟩ hn hd
variable {a b:ě} {ta tb:TE} {pos:Pos}
variable {tA AK:TT} {rest:List ě}
def jg (t u:TT):TT:=fun σ H Q=>t σ H λc Z=>if c=ό then u σ Z Q else Q ύ Z
def eT (t u:TT):TT:=fun σ H Q=>t σ H λc Z=>if c=ό then Q ό Z else u σ Z Q
def cU (t:TT):TT:=fun σ H Q=>t σ H λc Z=>Q (!c) Z
def Wo (ha:PT X a tA):PW X (.BoolOp .And [a] pos) tA:=by
 intro Y Z s σ H Q I h;refine isTrue_and (aO (ha Z s σ H Q I h) λc W e=>?_)
 cases c with
 |true=>exact isTrue_and_nil e
 |false=>exact e
def X9 (ha:PT X a tA):PW X (.BoolOp .Or [a] pos) tA:=by
 intro Y Z s σ H Q I h;refine isTrue_or (aO (ha Z s σ H Q I h) λc W e=>?_)
 cases c with
 |false=>exact isTrue_or_nil e
 |true=>exact e
def Ya (ha:PT X a tA) (hb:PW X (.BoolOp .And (b::rest) pos) AK):PW X (.BoolOp .And (a::b::rest) pos) (jg tA AK):=by
 intro U Z s σ H Q I h;refine isTrue_and (aO (ha Z s σ H _ I h) λc T ⟨Y,W,V⟩=>?_)
 cases c with
 |true=>exact hb U Z T σ Y Q W V
 |false=>exact⟨Y,W,V⟩
def Z1 (ha:PT X a tA) (hb:PW X (.BoolOp .Or (b::rest) pos) AK):PW X (.BoolOp .Or (a::b::rest) pos) (eT tA AK):=by
 intro U Z s σ H Q I h;refine isTrue_or (aO (ha Z s σ H _ I h) λc T ⟨Y,W,V⟩=>?_)
 cases c with
 |true=>exact⟨Y,W,V⟩
 |false=>exact hb U Z T σ Y Q W V
def Yb (ha:PT X a tA):PT X (.UnaryOp .Not a pos) (cU tA):=by
 intro Z s σ H Q I h;exact isTrue_not (ha Z s σ H (λc Y=>Q (!c) Y) I h)
def Z2 (ta tb:TE):TE:=fun σ H Q=>ta σ H λx Z=>∃c,x=.bl c/\if c=ό then tb σ Z Q else Q (.bl ύ) Z
def aby (ta tb:TE):TE:=fun σ H Q=>ta σ H λx Z=>∃c,x=.bl c/\if c=ό then Q (.bl ό) Z else tb σ Z Q
def Z3 (ta:TE):TE:=fun σ H Q=>ta σ H λx Z=>∃c,x=.bl c/\Q (.bl (!c)) Z
def Yc {op} (h:PE X a t):PE X (.BoolOp op [a] pos) t:=λZ s σ H Q I hw=>BoolOp_one (h Z s σ H Q I hw)
def Yd (ha:PE X a ta) (hb:PE X (.BoolOp .And (b::rest) pos) tb):PE X (.BoolOp .And (a::b::rest) pos) (Z2 ta tb):=by
 intro Y s σ H Q I h;refine BoolOp_and (aO (ha Y s σ H _ I h) λv U ⟨x,W,V,T,Z⟩=>?_);obtain⟨c,rfl,Z⟩:=Z;cases T;refine Ŝ ?_
 cases c with
 |true=>exact hb Y U σ W Q V Z
 |false=>exact⟨.bl ύ,W,V,rfl,Z⟩
def Z4 (ha:PE X a ta) (hb:PE X (.BoolOp .Or (b::rest) pos) tb):PE X (.BoolOp .Or (a::b::rest) pos) (aby ta tb):=by
 intro Y s σ H Q I h;refine BoolOp_or (aO (ha Y s σ H _ I h) λv U ⟨x,W,V,T,Z⟩=>?_);obtain⟨c,rfl,Z⟩:=Z;cases T;refine Ŝ ?_
 cases c with
 |false=>exact hb Y U σ W Q V Z
 |true=>exact⟨.bl ό,W,V,rfl,Z⟩
def Ye (ha:PE X a ta):PE X (.UnaryOp .Not a pos) (Z3 ta):=by
 intro Y s σ H Q I h;refine UnaryOp_ (aO (ha Y s σ H _ I h) λv T ⟨x,W,V,U,Z⟩=>?_);obtain⟨c,rfl,Z⟩:=Z;cases U;exact not_of (Ŝ ⟨.bl (!c),W,V,rfl,Z⟩)
def tIf (t:TT) (ta tb:TE):TE:=fun σ H Q=>t σ H λc Z=>if c=ό then ta σ Z Q else tb σ Z Q
def UA {c:ě} (hc:PT X c tA) (ha:PE X a ta) (hb:PE X b tb):PE X (.IfExp c a b pos) (tIf tA ta tb):=by
 intro Z s σ H Q I h;refine wpAny_IfExp (aO (hc Z s σ H _ I h) λd Y ⟨W,V,U⟩=>?_)
 cases d with
 |true=>exact ha Z Y σ W Q V U
 |false=>exact hb Z Y σ W Q V U
end
def bY (K:đ) (H:Hp) (a:ß) (xs:List V):Prop :=
 Rd H a (.lst xs) \/
  ∃(o:Obj) (its:Array Ç) (n:Nat),K.lookup a=ϊ o/\o.cls=.type "list"/\o.dict=ϋ/\o.data=.seq its n/\its.size<=Õ/\Vals xs its.toList
def bV (K:đ) (H:Hp) (a:ß) (xs:List V):Prop :=
 Rd H a (.tup xs) \/
  ∃(o:Obj) (its:Array Ç) (n:Nat),K.lookup a=ϊ o/\o.cls=.type "tuple"/\o.data=.seq its n/\its.size<=Õ/\Vals xs its.toList
def abz:Ç->Option V
 | .none=>ϊ .au
 | .bool b=>ϊ (.bl b)
 | .int i _=>ϊ (.int i)
 | .str x _=>ϊ (.str x)
 | .bytes b _=>ϊ (.jo b)
 | .float b _=>ϊ (.AF b)
 | .ref a=>ϊ (.ref a)
 | .type n=>ϊ (.ty n)
 |_=>ϋ
def RelV.abs (r:RelV x u):abz u=ϊ x:=by
 cases x with
 |au=>cases r;rfl
 |bl _=>cases r;rfl
 |int _=>obtain⟨t,rfl⟩:=r;rfl
 |str _=>obtain⟨t,rfl⟩:=r;rfl
 |jo _=>obtain⟨t,rfl⟩:=r;rfl
 |AF _=>obtain⟨t,rfl⟩:=r;rfl
 |ref _=>cases r;rfl
 |ty _=>cases r;rfl
def RelV.inj (r:RelV x u) (q:RelV y u):x=y:=aeE (r.abs.symm.trans q.abs)
theorem Vals.inj:∀{xs ys:List V} {us:List Ç},Vals xs us->Vals ys us->xs=ys
 |_,_,_,.nil,.nil=>rfl
 |_,_,_,.cons r t,.cons Z Y=>by rw[r.inj Z,Vals.inj t Y]
section
variable {X:Cx} {π:List (ß×Obj)} {σ:St} {H:Hp} {s:Â} {a:ß} {xs ys:List V}
def bY.of {K:đ} (h:H a=ϊ (.lst xs)):bY K H a xs:=.inl (.inl h)
def bV.of {K:đ} (h:H a=ϊ (.tup xs)):bV K H a xs:=.inl (.inl h)
def Inv.list (I:Inv X π σ H s) (h:bY X.K H a xs):∃its:List Ç,Vals xs its/\PlainL s.heap a its.toArray/\xs.length<=Õ:=by
 rcases h with h | ⟨o,its,n,Z,Y,W,V,U,r⟩
 ·obtain⟨z,its,n,r,e⟩:=h.ok I.aI
  exact⟨its,r,⟨_,n,e,rfl,rfl,rfl⟩,z⟩
 ·refine⟨its.toList,r,⟨o,n,I.fy a o Z,Y,W,by simpa using V⟩,?_⟩
  have e:=r.length;erw[ö] at e;omega
def Inv.tuple (I:Inv X π σ H s) (h:bV X.K H a xs):∃its:List Ç,Vals xs its/\IsTup s.heap a its.toArray/\xs.length<=Õ:=by
 rcases h with h | ⟨o,its,n,Z,Y,W,V,r⟩
 ·obtain⟨z,its,r,p⟩:=h.ok I.aI
  exact⟨its,r,p,z⟩
 ·refine⟨its.toList,r,⟨o,I.fy a o Z,Y,n,by simpa using W⟩,?_⟩
  have e:=r.length;erw[ö] at e;omega
def Inv.Ku (I:Inv X π σ H s) (h:bY X.K H a xs) (h':bY X.K H a ys):xs=ys:=by
 obtain⟨its,r,⟨o,n,e,_,_,d⟩,_⟩:=I.list h;obtain⟨Z,V,⟨T,S,Y,_,_,W⟩,_⟩:=I.list h';rw[e] at Y;cases Y;rw[d] at W
 injection W with U _
 have:its=Z:=by simpa using Ń Array.toList U
 subst this;exact r.inj V
def Inv.JU (I:Inv X π σ H s) (h:bV X.K H a xs) (h':bV X.K H a ys):xs=ys:=by
 obtain⟨its,r,⟨o,e,_,n,d⟩,_⟩:=I.tuple h;obtain⟨Z,V,⟨T,Y,_,S,W⟩,_⟩:=I.tuple h';rw[e] at Y;cases Y;rw[d] at W
 injection W with U _
 have:its=Z:=by simpa using Ń Array.toList U
 subst this;exact r.inj V
end
abbrev Cx.ko (X:Cx) (E:Ç->Â->Prop):Cx:={ X with xe:=E }
abbrev Cx.nS (X:Cx):Cx:=X.ko λ_ _=>False
theorem Cx.Ok.ko {X:Cx} (ok:X.Ok) (E:Ç->Â->Prop):(X.ko E).Ok :=
 ⟨ok.mod,ok.kind,ok.glob,ok.blt,ok.above,ok.inj,ok.has,ok.uB,ok.hd,ok.frames,ok.mF,ok.O7,ok.bs,ok.iW,ok.oQ,ok.Ai,ok.iS,ok.lJ⟩
def Cx.Ok.nr {X:Cx} {E:Ç->Â->Prop} (ok:(X.ko E).Ok):X.Ok :=
 ⟨ok.mod,ok.kind,ok.glob,ok.blt,ok.above,ok.inj,ok.has,ok.uB,ok.hd,ok.frames,ok.mF,ok.O7,ok.bs,ok.iW,ok.oQ,ok.Ai,ok.iS,ok.lJ⟩
section
variable {X:Cx} {π:List (ß×Obj)} {σ:St} {H:Hp} {s:Â} {E:Ç->Â->Prop}
theorem Inv.ko (I:Inv X π σ H s) (E:Ç->Â->Prop):Inv (X.ko E) π σ H s:=⟨I.ok.ko E,I.os,I.bare,I.base,I.loc,I.cell,I.free,I.jd,I.pin,I.aI,I.len⟩
theorem Inv.nr (I:Inv (X.ko E) π σ H s):Inv X π σ H s:=⟨I.ok.nr,I.os,I.bare,I.base,I.loc,I.cell,I.free,I.jd,I.pin,I.aI,I.len⟩
theorem SP.nr (h:SP (X.ko E) π D f s'):SP X π D f s':=by
 cases f with
 |next=>obtain⟨Z,Y,I,q⟩:=h;exact⟨Z,Y,I.nr,q⟩
 |brk=>obtain⟨Z,Y,I,q⟩:=h;exact⟨Z,Y,I.nr,q⟩
 |cont=>obtain⟨Z,Y,I,q⟩:=h;exact⟨Z,Y,I.nr,q⟩
 |ret u=>obtain⟨v,Z,Y,I,r,q⟩:=h;exact⟨v,Z,Y,I.nr,r,q⟩
theorem dg.nS {st:List ad2} {t:TS} (h:dg X.nS st t):dg X st t:=λπ s σ H D I hw =>
 ė (h π s σ H D (I.ko _) hw) (λ_ _ q=>q.nr) λ_ _ z=>č z
end
section
variable {X:Cx} {st:ad2} {rest:List ad2} {t u:TS} {e:ě} {te:TE} {pos:Pos}
def Z5:TS:=λD σ H=>D.nx σ H
def abA (t u:TS):TS:=λD σ H=>t { D with nx:=u D } σ H
def Wq:dg X [] Z5:=λ_ _ σ H _ I h=>wpAny_execs_nil ⟨σ,H,I,h⟩
def UB (h1:PS X st t) (h2:dg X rest u):dg X (st::rest) (abA t u):=by
 intro Z s σ H D I h
 refine wpAny_execs_cons (aO (h1 Z s σ H { D with nx:=u D } I h) λf Y q=>?_)
 cases f with
 |next =>
  obtain⟨W,V,U,q⟩:=q;exact h2 Z Y W V D U q
 |ret v=>exact q
 |brk=>exact q
 |cont=>exact q
def Wr (h1:PS X st t):dg X [st] t:=by
 intro Z s σ H D I h;refine wpAny_execs_cons (aO (h1 Z s σ H D I h) λf Y q=>?_)
 cases f with
 |next=>exact wpAny_execs_nil q
 |ret v=>exact q
 |brk=>exact q
 |cont=>exact q
def Inv.quiet {π:List (ß×Obj)} {σ:St} {H:Hp} {s:Â} (I:Inv X π σ H s):interactive X.env=ύ:=by simp[interactive,I.ok.kind]
def Z6 (te:TE):TS:=λD σ H=>te σ H λ_ Z=>D.nx σ Z
def Ws (he:PE X e te) (hs:swapsWith e ϋ pos.line X.env=pure ύ:=by rfl):PS X (.Expr e pos) (Z6 te):=by
 intro Z s σ H D I h;exact wpAny_Expr_any (aO (he Z s σ H _ I h) λv U ⟨x,Y,W,T,V⟩=>⟨σ,Y,W,V⟩) I.quiet hs
def abB (te:TE):TS:=λD σ H=>te σ H D.rt
def Yf (he:PE X e te):PS X (.Return (ϊ e) pos) (abB te):=by
 intro Z s σ H D I h;exact wpAny_Return_some (aO (he Z s σ H _ I h) λv T ⟨x,Y,W,V,U⟩=>⟨x,σ,Y,W,V,U⟩)
def abC (c:TT) (t u:TS):TS:=λD σ H=>c σ H λb Z=>if b=ό then t D σ Z else u D σ Z
def Z7 {c:ě} {a b:List ad2} {tc:TT} (hc:PT X c tc) (ha:dg X a t) (hb:dg X b u):PS X (.If c a b pos) (abC tc t u):=by
 intro Z s σ H D I h;refine wpAny_If (aO (hc Z s σ H _ I h) λd Y ⟨W,V,U⟩=>?_)
 cases d with
 |true=>exact ha Z Y σ W D V U
 |false=>exact hb Z Y σ W D V U
end
abbrev TG:=V->St->Hp->(St->Hp->Prop)->Prop
abbrev jR:=List V->St->Hp->(St->Hp->Prop)->Prop
def PG (X:Cx) (target:ě) (t:TG):Prop :=
 ∀(Z:List (ß×Obj)) (s:Â) (σ:St) (H:Hp) (v:V) (u:Ç) (Q:St->Hp->Prop),Inv X Z σ H s->RelV v u->t v σ H Q ->
  á (é X.prog X.w) X.A (aex target X.env u) (λ_ U=>∃ Y W,Inv X Z Y W U/\Q Y W) X.xe s
def kE (X:Cx) (ts:List ě) (t:jR):Prop :=
 ∀(Z:List (ß×Obj)) (s:Â) (σ:St) (H:Hp) (Y:List V) (W:List Ç) (Q:St->Hp->Prop),Inv X Z σ H s->Vals Y W->t Y σ H Q ->
  á (é X.prog X.w) X.A (adt ((ō ts X.env).map (·.2)) W) (λ_ S=>∃ U T,Inv X Z U T S/\Q U T) X.xe s
abbrev EO:=V->V->V->Hp->(Hp->Prop)->Prop
def Oz (X:Cx) (t:EO):Prop :=
 ∀(Z:List (ß×Obj)) (s:Â) (σ:St) (H:Hp) (o i v:V) (Y W u:Ç) (Q:Hp->Prop),Inv X Z σ H s->RelV o Y->RelV i W->RelV v u->t o i v H Q ->
  á (é X.prog X.w) X.A (setItem Y W u) (λ_ T=>∃U,Inv X Z σ U T/\Q U) X.xe s
section
variable {X:Cx} {pos:Pos}
def qu (i:Nat):TG:=λv σ H Q=>Q (σ.set i (ϊ v)) H
def iB (hN:X.N.Nodup) (hi:X.N[i]?=ϊ x) (hx:Loc X.env.scope x) (hf:X.fn x=ό\/X.env.scope.names.lookup x=ϊ .local:=by first|exact .inl rfl|exact .inr rfl|assumption):PG X (.Name x pos) (qu i):=by
 intro Y s σ H v u Q I r h;exact wpAny_assign_Name (oj I hN hi hx r (λW Z=>⟨_,H,Z,h⟩) hf)
def ER:jR:=λZ σ H Q=>Z=[]/\Q σ H
def DU (t:TG) (u:jR):jR:=λZ σ H Q=>∃v r,Z=v::r/\t v σ H fun Y X=>u r Y X Q
def vO:kE X [] ER:=by
 intro Z s σ H Y W Q I r h;obtain⟨e,h⟩:=h;subst e;cases r;exact assignInOrder_nil ⟨σ,H,I,h⟩
def l7 {e:ě} {es:List ě} {t:TG} {u:jR} (h1:PG X e t) (h2:kE X es u)
  (hs:(ō (e::es) X.env).map (·.2)=aex e X.env::(ō es X.env).map (·.2):=by rfl):kE X (e::es) (DU t u):=by
 intro Z s σ H R P Q I r h;obtain⟨v,O,e1,h⟩:=h;subst e1
 cases r with
 |cons r Y =>
  rw[hs];refine ŧ (aO (h1 Z s σ H _ _ _ I r h) λ_ W ⟨V,U,T,S⟩=>?_);exact h2 Z W V U _ _ Q T Y S
def ES (K:đ) (n:Nat) (t:jR):TG:=λv σ H Q=>∃a Z,v=.ref a/\bV K H a Z/\Z.length=n/\t Z σ H Q
def v8 {k:Nat} {n:Nat} (hc:X.calm=ό) (h:kE X es t)
 (hn:(ō es X.env).length=n:=by rfl) (jS:(ō es X.env).findIdx? (·.1)=ϋ:=by rfl):PG X (.Tuple es k pos) (ES X.K n t):=by
 intro Z s σ H v u Q I r hw;obtain⟨a,W,e1,V,U,hw⟩:=hw;subst e1;cases r;obtain⟨its,Y,T,O⟩:=I.tuple V;refine assign_Tuple_tuple (I.ok.hd hc) T (by simp[hn,<- U,Y.length]) jS λS R=>?_
 have P:Inv X Z σ H { s with heap:=S }:=I.kept (t':=s.toks) λb o e=>R b o (ã (Ð e)) e
 exact h Z _ σ H W _ Q P (by simpa using Y) hw
def abD (to ti:TE) (t:EO):TG:=λv σ H Q=>to σ H λo Z=>ti σ Z λi Y=>t o i v Y λX=>Q σ X
def Yg {o i:ě} {to ti:TE} {t:EO} (ho:PE X o to) (hi:PE X i ti) (hs:Oz X t)
  (ha:∀v,aex (.Subscript o i pos) X.env v=(do
   let ov <- acY [v] (ķ o X.env)
   let iv <- acY [v,ov] (ķ i X.env)
   adh pos
   acY [v,ov,iv] (setItem ov iv v)
   release [v,ov,iv] []):=by intro _;rfl):PG X (.Subscript o i pos) (abD to ti t):=by
 intro Z s σ H v u Q I r h;rw[ha];refine À (ą (aO (ho Z s σ H _ I h) λov Y ⟨x,W,V,U,T⟩=>?_));refine À (ą (aO (hi Z Y σ W _ V T) λiv S ⟨y,R,P,O,N⟩=>?_));refine À (Ż (À (ą (aO (hs Z S σ R x y v ov iv u _ P U O r N) λ_ J ⟨M,L,K⟩=>?_))));exact wpAny_release ⟨σ,M,L,K⟩
def xk (te:TE) (g:TG):TS:=λD σ H=>te σ H λx Z=>g x σ Z D.nx
def Mq {tg e:ě} {te:TE} {g:TG} (he:PE X e te) (hg:PG X tg g) (hs:acS [tg] e pos.line X.env=pure ύ:=by rfl) (hw:acT [tg] e X.env=pure ϋ:=by rfl)
  (h1:(ō [tg] X.env).map (·.2)=[aex tg X.env]:=by rfl):PS X (.Assign [tg] e pos) (xk te g):=by
 intro Z s σ H D I h;refine wpAny_Assign_stores (aO (he Z s σ H _ I h) λv Y ⟨x,W,V,U,T⟩=>?_) hs hw;rw[h1];exact aO (hg Z Y σ W x v _ V U T) λ_ S q=>q
def Yh {i:Nat} {x:Str} {e:ě} {te:TE} {pos':Pos} (hN:X.N.Nodup) (hi:X.N[i]?=ϊ x) (hx:Loc X.env.scope x) (he:PE X e te) (hs:swapsWith e (ϊ (.Name x pos')) pos.line X.env=pure ύ:=by rfl) (hf:X.fn x=ό\/X.env.scope.names.lookup x=ϊ .local:=by first|exact .inl rfl|exact .inr rfl|assumption) :
  PS X (.Assign [.Name x pos'] e pos) (xk te (qu i)):=by
 intro Z s σ H D I h;refine wpAny_Assign_Name (aO (he Z s σ H _ I h) λv S ⟨y,Y,W,V,U⟩=>?_) hs;exact oj W hN hi hx V (λR T=>⟨_,Y,T,U⟩) hf
def abE (i j:Nat) (ta:TA):TS:=λD σ H=>ta σ H λZ Y=>∃v w,Z=[v,w]/\D.nx ((σ.set i (ϊ v)).set j (ϊ w)) Y
def Yi {i j:Nat} {x y:Str} {a b:ě} {ta:TA} {px py pt:Pos} {kt k2 iX} (hc:X.calm=ό) (hN:X.N.Nodup) (hi:X.N[i]?=ϊ x) (hj:X.N[j]?=ϊ y) (fz:i≠j)
  (hx:X.env.scope.names.lookup x=ϊ .local) (hy:X.env.scope.names.lookup y=ϊ .local) (ha:PA X [a,b] ta)
  (hw:acT [.Tuple [.Name x px,.Name y py] kt pt] (.Tuple [a,b] k2 iX) X.env=pure (ϊ [x,y]))
  (hs:acS [.Tuple [.Name x px,.Name y py] kt pt] (.Tuple [a,b] k2 iX) pos.line X.env=pure ύ:=by rfl) :
  PS X (.Assign [.Tuple [.Name x px,.Name y py] kt pt] (.Tuple [a,b] k2 iX) pos) (abE i j ta):=by
 intro U s σ H D I h;rw[exec_Assign_arm];refine À (Ż ?_);rw[hs];refine À (Ã ?_);rw[Ú (by decide)];refine À (Tuple_ (aO (ha _ U s σ H _ I h) λR Z ⟨C,T,Q,P,V⟩=>?_));obtain⟨v,w,e1,V⟩:=V;subst e1;obtain⟨Y,W,rfl,O,M⟩:∃Y W,R=[Y,W]/\RelV v Y/\RelV w W:=by
  cases P with
  |cons p q =>
   cases q with
   |cons L K =>
    cases K;exact⟨_,_,rfl,p,L⟩
 refine û ?_ (by show 2<=Õ;decide)
 have J:Inv X U σ T { Z with heap:=Z.heap.push { cls:=.type "tuple",data:=.seq [Y,W].toArray } }:=Q.kept (t':=Z.toks) λb o e=>Á _ e
 rw[hw];refine À (Ã ?_)
 show á (é X.prog X.w) X.A (do rule "assign.swapped-stores";let items <- unpackItems (.ref Z.heap.objs.size) 2 ϋ;adt [λv=>adT X.env y v,λv=>adT X.env x v] items.reverse;pure Flow.next) _ _ _
 refine À (Ŵ (À (unpackItems_tuple (items:=#[Y,W]) (I.ok.hd hc) (IsTup.new Z.heap _) λh' G=>?_)));have F:=J.kept (h':=h') (t':=Z.toks) λb o e=>G b o (ã (Ð e)) e
 show á _ _ (adt [λv=>adT X.env y v,λv=>adT X.env x v] [W,Y] >>= λ_=>pure Flow.next) _ _ _
 refine À (ŧ (adU (oj F hN hj (.inl hy) M (λB E=>?_) (.inr hy))));refine ŧ (adU (oj E hN hi (.inl hx) O (λz S=>assignInOrder_nil (Ã ?_)) (.inr hx)));rw[List.set_comm _ _ (ź fz)] at S;exact⟨_,T,S,V⟩
end
structure It where
 go:Nat->Hp->Prop
 uE:Nat->Hp->V->Hp->Prop
 stop:Nat->Hp->Prop
def gk (X:Cx) (π:List (ß×Obj)) (H:Hp) (b:ß):Prop :=
 H b=ϋ/\b≠X.env.locals/\b∉X.fs/\(b∈X.ex\/X.c9.heap.objs.size<=b)/\(∀x c,X.env.cells.lookup x=ϊ c->c≠b)/\∀p∈X.pn++π,p.1≠b
def Inv.tU {X:Cx} {π:List (ß×Obj)} {σ:St} {H H':Hp} {s:Â} {b:ß} (I:Inv X π σ H s) (hb:s.heap.objs.size<=b) (hn:H' b=ϋ):gk X π H' b:=by
 refine⟨hn,Ũ (Ê I.lt hb),I.xi hb,.inr (Ý I.sz hb),λx c e z=>?_,λp Z z=>?_⟩
 ·obtain⟨v,q⟩:=I.cell x c e
  exact absurd (Ê q.lt (by rw[z];exact hb)) (ñ _)
 ·exact absurd (Ê (Ð (I.pin p Z).1) (by rw[z];exact hb)) (ñ _)
structure Turn (P:å) (w:Ą) (K:đ) (tg:ě) (J:It) (fp:List ß) (it:ß) (tn:Nat->ĺ->Prop):Prop where
 mem:it∈fp
 obj:∀i h,tn i h->∀b∈fp,∃o,h.get? b=ϊ o/\∀v,o.data≠.cell v
 keep:∀i h h',tn i h->(∀b∈fp,∀o,h.get? b=ϊ o->h'.get? b=ϊ o)->tn i h'
 item:∀(X:Cx),X.prog=P->X.w=w->X.K=K->X.calm=ό->∀(i:Nat) (π:List (ß×Obj)) (s:Â) (σ:St) (H:Hp) (E:Ç->Â->Prop),Inv X π σ H s->(∀b∈fp,gk X π H b)->tn i s.heap->J.go i H ->
  á (é P w) X.A (ac0 (.ref it)) (λr s1=>∃u,r=ϊ u /\
   á (é P w) X.A (Œ tg (.ref it) u) (λ_ s2=>∃x H',Inv X π σ H' s2/\RelV x u/\J.uE i H x H'/\tn (i+1) s2.heap/\∀b∈fp,H' b=ϋ) E s1) E s
 done:∀(X:Cx),X.prog=P->X.w=w->X.K=K->X.calm=ό->∀(i:Nat) (π:List (ß×Obj)) (s:Â) (σ:St) (H:Hp) (E:Ç->Â->Prop),Inv X π σ H s->(∀b∈fp,gk X π H b)->tn i s.heap->J.stop i H ->
  á (é P w) X.A (ac0 (.ref it)) (λr s1=>r=ϋ/\Inv X π σ H s1) E s
 self:∀(A:í) (i:Nat) (s:Â) (Q:Ç->Â->Prop) (E:Ç->Â->Prop),tn i s.heap->Q (.ref it) s->á (é P w) A (pyIter (.ref it)) Q E s
abbrev TI:=St->Hp->(It->Hp->Prop)->Prop
def Pb (X:Cx) (π:List (ß×Obj)) (σ:St) (tg:ě) (R:It->Hp->Prop) (iq:Ç) (s2:Â):Prop :=
 ∃(it:ß) (Y:List ß) (W:Nat->ĺ->Prop) (J:It) (Z:Hp),iq=.ref it/\Inv X π σ Z s2/\Turn X.prog X.w X.K tg J Y it W/\W 0 s2.heap/\(∀b∈Y,gk X π Z b)/\R J Z
def PI (X:Cx) (tg iter:ě) (wi:TI):Prop :=
 ∀(Z:List (ß×Obj)) (s:Â) (σ:St) (H:Hp) (R:It->Hp->Prop),Inv X Z σ H s->wi σ H R ->
  á (é X.prog X.w) X.A (ķ iter X.env) (λv Y=>á (é X.prog X.w) X.A (pyIter v) (Pb X Z σ tg R) X.xe Y) X.xe s
def wC (ho:s.heap.get? it=ϊ o) (hc:o.cls=.type n) (hd:o.data=.fields vs)
 (hn:["enumerate","zip","dict_itemiterator","dict_reverseitemiterator","odict_iterator","itertools.zip_longest","itertools.pairwise"].contains n=ύ) (hQ:Q () s):á M A (Œ tg (.ref it) u) Q E s:=by
 delta Œ
 cases tg<;>first
  |exact Ã hQ
  |(cases u<;>first
    |exact Ã hQ
    |(refine À (wpAny_load ho ?_)
      rw[hc,hd]
      show á M A (if (["enumerate","zip","dict_itemiterator","dict_reverseitemiterator","odict_iterator","itertools.zip_longest","itertools.pairwise"].contains n&&vs[0]?==ϊ (ĸ _))=ό then _ else _) Q E s
      rw[Ú (by intro h;rw[hn,Ŭ] at h;cases h)];exact Ã hQ))
def Fz (K:đ) (a:ß):It :=
 ⟨λi H=>∃Z x,bY K H a Z/\Z[i]?=ϊ x,λi H x Y=>Y=H/\∀Z,bY K H a Z->Z[i]?=ϊ x,λi H=>∃Z,bY K H a Z/\Z.length<=i⟩
def FA (K:đ) (a:ß):It :=
 ⟨λi H=>∃Z x,bV K H a Z/\Z[i]?=ϊ x,λi H x Y=>Y=H/\∀Z,bV K H a Z->Z[i]?=ϊ x,λi H=>∃Z,bV K H a Z/\Z.length<=i⟩
def xQ (lo:Int) (n:Nat):It:=⟨λi _=>i<n,λi H x Z=>Z=H/\x=.int (lo+i),λi _=>n<=i⟩
def SU {P:å} {w:Ą} {K:đ} {tg:ě} (a it:ß):Turn P w K tg (Fz K a) [it] it (λi h=>h.IsListIter it a i) where
 mem:=by simp
 obj:=λi h Z b Y=>by
  have e:b=it:=by simpa using Y
  subst e;obtain⟨o,e,c,d⟩:=Z;exact⟨o,e,λv z=>by rw[d] at z;cases z⟩
 keep:=λi h W Z k=>Z.at λo e=>k it ∅ o e
 item:=by
  intro X T hw S L i J s σ H E I V Z R;subst T hw S;obtain⟨F,x,U,Q⟩:=R;obtain⟨its,O,p,D⟩:=I.list U;obtain⟨u,C,B⟩:=O.get Q;obtain⟨f0,f1,f2,N,f4,M⟩:=V it ∅;refine wpAny_pyNext_list_item Z p.isList (x:=u) (by simpa using C) λW G A=>?_
  have y:Inv X J σ H { s with heap:=W }:=I.turned (t':=s.toks) (λb o Y e=>(A.2 b Y).trans e) f0 f1 N f4 M
  obtain⟨o,e,c,d⟩:=id G
  exact⟨u,rfl,wC (s:={ s with heap:=W }) e c d (by decide) ⟨x,H,y,B,⟨rfl,λq t=>by rw[I.Ku t U];exact Q⟩,G,λb Y=>(V b Y).1⟩⟩
 done:=by
  intro X T hw S L i J s σ H E I V Z R;subst T hw S;obtain⟨F,U,Q⟩:=R;obtain⟨its,O,p,D⟩:=I.list U;obtain⟨f0,f1,f2,N,f4,M⟩:=V it ∅;have n:=O.length;exact wpAny_pyNext_list_end (I.ok.hd L) Z p.isList (by simp;omega) λW r=>⟨rfl,I.turned (t':=s.toks) (λb o Y e=>r b o Y e) f0 f1 N f4 M⟩
 self:=λ_ _ _ _ _ Z h=>wpAny_pyIter_listiter Z h
def RL {P:å} {w:Ą} {K:đ} {tg:ě} (a it:ß):Turn P w K tg (FA K a) [it] it (λi h=>h.IsTupleIter it a i) where
 mem:=by simp
 obj:=λi h Z b Y=>by
  have e:b=it:=by simpa using Y
  subst e;obtain⟨o,e,c,d⟩:=Z;exact⟨o,e,λv z=>by rw[d] at z;cases z⟩
 keep:=λi h W Z k=>Z.at λo e=>k it ∅ o e
 item:=by
  intro X T hw S L i J s σ H E I V Z R;subst T hw S;obtain⟨F,x,U,Q⟩:=R;obtain⟨its,O,p,D⟩:=I.tuple U;obtain⟨u,C,B⟩:=O.get Q;obtain⟨f0,f1,f2,N,f4,M⟩:=V it ∅;refine wpAny_pyNext_tuple_item Z (show s.heap.IsTuple a its.toArray from p) (x:=u) (by simpa using C) λW G A=>?_
  have y:Inv X J σ H { s with heap:=W }:=I.turned (t':=s.toks) (λb o Y e=>(A.2 b Y).trans e) f0 f1 N f4 M
  obtain⟨o,e,c,d⟩:=id G
  exact⟨u,rfl,wC (s:={ s with heap:=W }) e c d (by decide) ⟨x,H,y,B,⟨rfl,λq t=>by rw[I.JU t U];exact Q⟩,G,λb Y=>(V b Y).1⟩⟩
 done:=by
  intro X T hw S L i J s σ H E I V Z R;subst T hw S;obtain⟨F,U,Q⟩:=R;obtain⟨its,O,p,D⟩:=I.tuple U;obtain⟨f0,f1,f2,N,f4,M⟩:=V it ∅;have n:=O.length;exact wpAny_pyNext_tuple_end (I.ok.hd L) Z (show s.heap.IsTuple a its.toArray from p) (by simp;omega) λW r=>⟨rfl,I.turned (t':=s.toks) (λb o Y e=>r b o Y e) f0 f1 N f4 M⟩
 self:=λ_ _ _ _ _ Z h=>wpAny_pyIter_tupleiter Z h
def RM {P:å} {w:Ą} {K:đ} {tg:ě} (it:ß) (lo:Int) (n:Nat):Turn P w K tg (xQ lo n) [it] it (λi h=>IsRangeIter h it (lo+(i:Nat)*1) ((n:Int)-(i:Nat)) 1) where
 mem:=by simp
 obj:=λi h Z b Y=>by
  have e:b=it:=by simpa using Y
  subst e;exact⟨_,Z,λv z=>by
   have G:Data.fields _=Data.cell v:=z;cases G⟩
 keep:=λi h V Z k=>k it ∅ _ Z
 item:=by
  intro X T hw S R i M s σ H E I U Z Q;subst T hw S;obtain⟨f0,f1,f2,O,f4,N⟩:=U it ∅;have W:=Walks.range (prog:=X.prog) (w:=X.w) (I.ok.hd R) it lo 1 n;refine W.item i s _ _ Q Z λv V L F J D=>?_;obtain⟨t,rfl⟩:=F
  have C:Inv X M σ H { s with heap:=V,toks:=L }:=I.turned (λb o Y e=>D b o (by simpa using Y) e) f0 f1 O f4 N
  refine⟨_,rfl,wC (s:={ s with heap:=V,toks:=L }) (n:="range_iterator") J rfl rfl (by decide) ⟨.int (lo+i),H,C,⟨t,?_⟩,⟨rfl,rfl⟩,J,λb Y=>(U b Y).1⟩⟩
  rw[Int.mul_one]
 done:=by
  intro X T hw S R i M s σ H E I U Z Q;subst T hw S;obtain⟨f0,f1,f2,O,f4,N⟩:=U it ∅;exact wpAny_pyNext_range_end (I.ok.hd R) Z (by have:n<=i:=Q;omega) λV B=>⟨rfl,I.turned (t':=s.toks) (λb o Y e=>B b o Y e) f0 f1 O f4 N⟩
 self:=λ_ _ _ _ _ Z h=>adG Z h
section
variable {X:Cx} {tg:ě}
def Nv (K:đ) (tl:TE):TI:=fun σ H R=>tl σ H λx Z=>∃a,x=.ref a/\(∃Y,bY K Z a Y)/\R (Fz K a) Z
def OA (K:đ) (tl:TE):TI:=fun σ H R=>tl σ H λx Z=>∃a,x=.ref a/\(∃Y,bV K Z a Y)/\R (FA K a) Z
def Wt {l:ě} {tl:TE} (hl:PE X l tl):PI X tg l (Nv X.K tl):=by
 intro W s σ H R I h;refine aO (hl W s σ H _ I h) λv Z ⟨x,V,Y,U,T⟩=>?_;obtain⟨a,e,⟨P,S⟩,q⟩:=T;subst e;cases U;obtain⟨its,O,p,N⟩:=Y.list S;refine ŵ p.isList ?_;refine⟨Z.heap.objs.size,[Z.heap.objs.size],_,_,V,rfl,Y.kept (t':=Z.toks) λb o e=>Á _ e,SU a _,⟨_,Î _ rfl,rfl,rfl⟩,λb Q=>?_,q⟩;have e:b=Z.heap.objs.size:=by simpa using Q
 subst e;exact Y.tU (aeD _) (Y.aI.fresh (aeD _))
def Yj {l:ě} {tl:TE} (hl:PE X l tl):PI X tg l (OA X.K tl):=by
 intro W s σ H R I h;refine aO (hl W s σ H _ I h) λv Z ⟨x,V,Y,U,T⟩=>?_;obtain⟨a,e,⟨P,S⟩,q⟩:=T;subst e;cases U;obtain⟨its,O,p,N⟩:=Y.tuple S;refine wpAny_pyIter_tuple (show Z.heap.IsTuple a its.toArray from p) ?_;refine⟨Z.heap.objs.size,[Z.heap.objs.size],_,_,V,rfl,Y.kept (t':=Z.toks) λb o e=>Á _ e,RL a _,⟨_,Î _ rfl,rfl,rfl⟩,λb Q=>?_,q⟩;have e:b=Z.heap.objs.size:=by simpa using Q
 subst e;exact Y.tU (aeD _) (Y.aI.fresh (aeD _))
def Kv {π:List (ß×Obj)} {σ:St} {H:Hp} {s:Â} {R:It->Hp->Prop} {E:Ç->Â->Prop} {lo hi:Int} {t u v:Tok} {tk:Nat} (I:Inv X π σ H s) (h1:-(2 ^ 62)<=lo) (h2:lo<2 ^ 62) (h3:-(2 ^ 62)<=hi) (h4:hi<2 ^ 62)
  (q:R (xQ lo (hi-lo).toNat) H):á (é X.prog X.w) X.A (pyIter (.ref s.heap.objs.size)) (Pb X π σ tg R) E { s with heap:=s.heap.push { cls:=.type "range",data:=.fields #[.int lo t,.int hi u,.int 1 v] },toks:=tk }:=by
 refine wpAny_pyIter_range (IsRange.new ..) (small_one h1 h2 h3 h4) ?_
 have Z:Inv X π σ H { s with heap:=s.heap.push { cls:=.type "range",data:=.fields #[.int lo t,.int hi u,.int 1 v] },toks:=tk }:=I.kept λb o e=>Á _ e
 refine⟨(s.heap.push { cls:=.type "range",data:=.fields #[.int lo t,.int hi u,.int 1 v] }).objs.size,[(s.heap.push { cls:=.type "range",data:=.fields #[.int lo t,.int hi u,.int 1 v] }).objs.size],_,_,H,rfl,
  Z.kept (t':=tk) λb o e=>Á _ e,RM _ lo (hi-lo).toNat,?_,λb Y=>?_,q⟩
 ·have e1:lo+((0:Nat):Int)*1=lo:=by simp
  have e2:(((hi-lo).toNat:Nat):Int)-((0:Nat):Int)=adu lo hi 1:=by rw[rangeSize_one];split<;>omega
  show IsRangeIter _ _ (lo+((0:Nat):Int)*1) ((((hi-lo).toNat:Nat):Int)-((0:Nat):Int)) 1;rw[e1,e2];exact Î _ rfl
 ·have e:b=(s.heap.push { cls:=.type "range",data:=.fields #[.int lo t,.int hi u,.int 1 v] }).objs.size:=by simpa using Y
  subst e;exact Z.tU (aeD _) (Z.aI.fresh (aeD _))
def Z8 (ta:TA):TI:=fun σ H R=>ta σ H λZ Y=>∃j:Int,Z=[.int j]/\-(2 ^ 62)<=j/\j<2 ^ 62/\R (xQ 0 j.toNat) Y
def Z9 (ta:TA):TI:=fun σ H R=>ta σ H λZ Y=>∃i j:Int,Z=[.int i,.int j]/\(-(2 ^ 62)<=i/\i<2 ^ 62/\-(2 ^ 62)<=j/\j<2 ^ 62)/\R (xQ i (j-i).toNat) Y
def SV {a:ě} {ta:TA} {p pos:Pos} (hg:Gl X "range") (hm:X.mg "range"=ϋ) (ha:PA X [a] ta) (hs:Í [a] X.env=[(ύ,ķ a X.env)]:=by rfl):PI X tg (.Call (.Name "range" p) [a] [] pos) (Z8 ta):=by
 intro Y s σ H R I h;refine Call_ (qh I hg hm boot_range (Ņ (aO (ha pos Y s σ H _ I h) λS Q ⟨P,O,W,V,Z⟩=>?_) hs rfl));obtain⟨j,e,Z,U,q⟩:=Z;subst e
 cases V with
 |cons r T =>
  cases T;obtain⟨t,rfl⟩:=r;exact call_range_1 (Kv W ⋯ ⋯ Z U (by simpa using q))
def SW {a b:ě} {ta:TA} {p pos:Pos} (hg:Gl X "range") (hm:X.mg "range"=ϋ) (ha:PA X [a,b] ta) (hs:Í [a,b] X.env=[(ύ,ķ a X.env),(ύ,ķ b X.env)]:=by rfl) (fg:Í [b] X.env=[(ύ,ķ b X.env)]:=by rfl) :
  PI X tg (.Call (.Name "range" p) [a,b] [] pos) (Z9 ta):=by
 intro W s σ H R I h;refine Call_ (qh I hg hm boot_range (Ņ (aO (ha pos W s σ H _ I h) λO N ⟨M,L,V,U,Z⟩=>?_) (by rw[hs,fg]) (by rw[fg];rfl)));obtain⟨i,j,e,⟨Z,T,S,Q⟩,q⟩:=Z;subst e
 cases U with
 |cons r Y =>
  cases Y with
  |cons P Y =>
   cases Y;obtain⟨t,rfl⟩:=r;obtain⟨K,rfl⟩:=P;exact call_range_2 (Kv V Z T S Q q)
def OB (wi:TI) (g:TG) (tb:TS):TS:=λD σ H=>wi σ H λJ V=>∃W:Nat->Nat->St->Hp->Prop,(∃m,W 0 m σ V)/\∀i m σ H,W i m σ H ->
 (J.stop i H/\D.nx σ H)\/(J.go i H/\∃N:St->Hp->Prop,(∀ Y Z,N Y Z->∃X,X < m/\W (i+1) X Y Z)/\∀x Z,J.uE i H x Z->g x σ Z fun U T=>tb { D with nx:=N,ct:=N,bk:=D.nx } U T)
def ot (fp:List ß) (h:ĺ):List (ß×Obj):=fp.filterMap λb=>(h.get? b).map λo=>(b,o)
def rS (hb:b∈fp) (e:h.get? b=ϊ o):(b,o)∈ot fp h:=ξ.mpr ⟨b,hb,by rw[e];rfl⟩
def JV (hp:p∈ot fp h):p.1∈fp/\h.get? p.1=ϊ p.2:=by
 obtain⟨b,Z,e⟩:=ξ.mp hp
 cases q:h.get? b with
 |none=>rw[q] at e;cases e
 |some o =>
  rw[q] at e;have Y:(b,o)=p:=aeE e;subst Y;exact⟨Z,q⟩
def Inv.pinned {π:List (ß×Obj)} {σ:St} {H:Hp} {s:Â} {fp:List ß} (I:Inv X π σ H s) (hf:∀b∈fp,gk X π H b) (ho:∀b∈fp,∃o,s.heap.get? b=ϊ o/\∀v,o.data≠.cell v):Inv X (π++ot fp s.heap) σ H s :=
 I.qa λp W=>(ó.mp W).elim (λz=>I.pin p (Ù _ z)) λz=>by
  obtain⟨Z,e⟩:=JV z;obtain⟨f0,f1,f2,_⟩:=hf p.1 Z;obtain⟨o,Y,d⟩:=ho p.1 Z;rw[e] at Y;cases Y;exact⟨e,f0,f1,f2,d⟩
def Inv.m8 {π pl:List (ß×Obj)} {σ:St} {H:Hp} {s:Â} (I:Inv X (π++pl) σ H s):Inv X π σ H s:=I.qa λp Z=>I.pin p (Ù _ (ÿ _ Z))
def Yk {iter:ě} {body:List ad2} {wi:TI} {g:TG} {tb:TS} {pos:Pos} (hp:PassesOwn (é X.prog X.w) X.A X.env X.xe) (hc:X.calm=ό) (hi:PI X tg iter wi) (hg:PG X tg g) (hb:dg X body tb)
  (hs:∀x,Ć iter X.env x=pure x:=by intro _;rfl):PS X (.For tg iter body [] pos) (OB wi g tb):=by
 intro R s σ H D I h;refine wpAny_For (aO (hi R s σ H _ I h) λv s1 l=>aO l λiq s2 k=>?_) hs;obtain⟨it,Q,C,J,j,e,c,T,a,f2,W,⟨m0,w0⟩,turn⟩:=k;subst e;have stat:∀{U:Hp},(∀b∈Q,U b=ϋ)->∀b∈Q,gk X R U b:=λhn b hb=>⟨hn b hb,(f2 b hb).2⟩;refine codeAny_forLoop_any (λn B=>∃i P U,Inv X R P U B/\C i B.heap/\(∀b∈Q,U b=ϋ)/\W i n P U) ?_ m0 ⟨0,σ,j,c,a,λb hb=>(f2 b hb).1,w0⟩;intro n z zzz;obtain⟨i,O,L,y,t,q,w3⟩:=zzz
 rcases turn i n O L w3 with ⟨stop,qn⟩ | ⟨go,N,hN,step⟩
 ·refine adv hp (aO (T.done X rfl rfl rfl hc i R z O L X.xe y (stat q) t stop) λr s4 ⟨K,I4⟩=>?_)
  subst K;exact wpAny_execs_nil ⟨O,L,I4,qn⟩
 ·refine adv hp (aO (T.item X rfl rfl rfl hc i R z O L X.xe y (stat q) t go) λr s4 ⟨u,K,h4⟩=>?_)
  subst K;refine adv hp (aO h4 λ_ s5 ⟨x,p,I5,r5,y5,G,xR⟩=>?_);have xS:=I5.pinned (stat xR) (T.obj _ _ G);refine adv hp (aO (hg _ s5 O p x u _ xS r5 (step x p y5)) λ_ s6 ⟨F,H6,I6,q6⟩=>?_);refine adv hp (aO (hb _ s6 F H6 _ I6 q6) λf E S=>?_);have again:∀{Z:St} {Y:Hp},Inv X (R++ot Q s5.heap) Z Y E->N Z Y->∃m,m<n/\∃i P U,Inv X R P U E/\C i E.heap/\(∀b∈Q,U b=ϋ)/\W i m P U:=λ{Z Y} V M=>by
   obtain⟨m',hm,w7⟩:=hN Z Y M;refine⟨m',hm,i+1,Z,Y,V.m8,T.keep _ _ _ G λb hb o e=>(V.pin (b,o) (Ù _ (Ù _ (rS hb e)))).1,λb hb=>?_,w7⟩;obtain⟨o,e,d⟩:=T.obj _ _ G b hb;exact(V.pin (b,o) (Ù _ (Ù _ (rS hb e)))).2.1
  cases f with
  |next=>obtain⟨Z,Y,V,M⟩:=S;exact again V M
  |cont=>obtain⟨Z,Y,V,M⟩:=S;exact again V M
  |brk=>obtain⟨Z,Y,V,S⟩:=S;exact⟨Z,Y,V.m8,S⟩
  |ret v=>obtain⟨x7,Z,Y,V,r7,S⟩:=S;exact⟨x7,Z,Y,V.m8,r7,S⟩
end
abbrev R2:=V->V->Hp->VK->Prop
def bM (X:Cx) (f:Ç->Ç->Sem Ç) (r:R2):Prop :=
 ∀(Z:List (ß×Obj)) (s:Â) (σ:St) (H:Hp) (x y:V) (v u:Ç) (Q:VK),Inv X Z σ H s->RelV x v->RelV y u->r x y H Q ->
  á (é X.prog X.w) X.A (f v u) (EP X Z σ Q) X.xe s
def xT (X:Cx) (f:Ç->Sem Ç) (r:V->Hp->VK->Prop):Prop :=
 ∀(Z:List (ß×Obj)) (s:Â) (σ:St) (H:Hp) (x:V) (v:Ç) (Q:VK),Inv X Z σ H s->RelV x v->r x H Q ->
  á (é X.prog X.w) X.A (f v) (EP X Z σ Q) X.xe s
def cT (X:Cx) (f:Ç) (r:List V->Hp->VK->Prop):Prop :=
 ∀(Z:List (ß×Obj)) (s:Â) (σ:St) (H:Hp) (Y:List V) (W:List Ç) (Q:VK),Inv X Z σ H s->Vals Y W->r Y H Q ->
  á (é X.prog X.w) X.A (call f W) (EP X Z σ Q) X.xe s
def abF (X:Cx) (r:V->Hp->(Bool->Hp->Prop)->Prop):Prop :=
 ∀(Z:List (ß×Obj)) (s:Â) (σ:St) (H:Hp) (x:V) (v:Ç) (Q:Bool->Hp->Prop),Inv X Z σ H s->RelV x v->r x H Q ->
  á (é X.prog X.w) X.A (truthy v) (TP X Z σ Q) X.xe s
def xU (r:R2) (ta tb:TE):TE:=fun σ H Q=>ta σ H λx Z=>tb σ Z λy Y=>r x y Y Q
def Pc (r:V->Hp->VK->Prop) (ta:TE):TE:=fun σ H Q=>ta σ H λx Z=>r x Z Q
def rI (C:Int->Int->Prop) (g:Int->Int->V):R2:=λx y H Q=>∃i j,x=.int i/\y=.int j/\C i j/\Q (g i j) H
def qW (g:Int->Int->V):R2:=λx y H Q=>∃i j,x=.int i/\y=.int j/\Q (g i j) H
def rU (g:Int->V):V->Hp->VK->Prop:=λx H Q=>∃i,x=.int i/\Q (g i) H
section
variable {X:Cx} {a b c:ě} {ta tb tc:TE} {pos:Pos}
def ET (ha:PE X a ta) (hb:PE X b tb) {π:List (ß×Obj)} {s:Â} {σ:St} {H:Hp} {R:V->V->Hp->Prop} (I:Inv X π σ H s)
  (h:ta σ H λx H1=>tb σ H1 λy H2=>R x y H2) {Q:Ç->Â->Prop} {f:Ç->Ç->Sem Ç}
  (hf:∀v u s2 x y H2,Inv X π σ H2 s2->RelV x v->RelV y u->R x y H2->á (é X.prog X.w) X.A (f v u) Q X.xe s2) :
  á (é X.prog X.w) X.A (ķ a X.env) (λv bJ=>á (é X.prog X.w) X.A (ķ b X.env) (λu tV=>á (é X.prog X.w) X.A (f v u) Q X.xe tV) X.xe bJ) X.xe s:=by
 refine aO (ha π s σ H _ I h) λv Z ⟨x,H1,Y,W,U⟩=>?_;refine aO (hb π Z σ H1 _ Y U) λu s2 ⟨y,H2,T,S,P⟩=>?_;exact hf v u s2 x y H2 T W S P
def aaa (ho:bM X (ņ op) r) (ha:PE X a ta) (hb:PE X b tb):PE X (.BinOp a op b pos) (xU r ta tb):=by
 intro Z s σ H Q I h;exact wpAny_BinOp (ET ha hb I h λv u Y x y W V U T q=>ho Z Y σ W x y v u Q V U T q)
def Nw {op:UnaryOp} {r:V->Hp->VK->Prop} (ho:xT X (unaryOp op) r) (ha:PE X a ta):PE X (.UnaryOp op a pos) (Pc r ta):=by
 intro Z s σ H Q I h;exact UnaryOp_ (aO (ha Z s σ H _ I h) λv Y ⟨x,W,U,T,S⟩=>ho Z Y σ W x v Q U T S)
def AL {C:Int->Int->Prop} {g:Int->Int->Int}
 (rule:∀(i j:Int) (t u:Tok) (s:Â) (Q:Ç->Â->Prop) (E:Ç->Â->Prop),C i j->Q (.int (g i j) s.toks) { s with toks:=s.toks+1 }->á (é X.prog X.w) X.A (f (.int i t) (.int j u)) Q E s) :
  bM X f (rI C λi j=>.int (g i j)):=by
 intro U s σ H x y v u Q I Z Y h;obtain⟨i,j,rfl,rfl,W,q⟩:=h;obtain⟨t,rfl⟩:=Z;obtain⟨V,rfl⟩:=Y;exact rule i j t V s _ _ W ⟨.int (g i j),H,I.tok _,⟨_,rfl⟩,q⟩
def OC {g:Int->Int->Int}
 (rule:∀(i j:Int) (t u:Tok) (s:Â) (Q:Ç->Â->Prop) (E:Ç->Â->Prop),Q (.int (g i j) s.toks) { s with toks:=s.toks+1 }->á (é X.prog X.w) X.A (f (.int i t) (.int j u)) Q E s) :
  bM X f (qW λi j=>.int (g i j)):=by
 intro V s σ H x y v u Q I Z Y h;obtain⟨i,j,rfl,rfl,q⟩:=h;obtain⟨t,rfl⟩:=Z;obtain⟨W,rfl⟩:=Y;exact rule i j t W s _ _ ⟨.int (g i j),H,I.tok _,⟨_,rfl⟩,q⟩
def EU {g:Int->Int->Bool}
 (rule:∀(i j:Int) (t u:Tok) (s:Â) (Q:Ç->Â->Prop) (E:Ç->Â->Prop),Q (.bool (g i j)) s->á (é X.prog X.w) X.A (f (.int i t) (.int j u)) Q E s) :
  bM X f (qW λi j=>.bl (g i j)):=by
 intro V s σ H x y v u Q I Z Y h;obtain⟨i,j,rfl,rfl,q⟩:=h;obtain⟨t,rfl⟩:=Z;obtain⟨W,rfl⟩:=Y;exact rule i j t W s _ _ ⟨.bl (g i j),H,I,rfl,q⟩
def abG (i j:Int):Prop:=0<j/\j<1073741824
def abH (i j:Int):Prop:=0<=j/\j<=1000000/\i.natAbs<2 ^ 64
def Aj (i j:Int):Prop:=(-(2 ^ 64)<i/\i<2 ^ 64)\/(-(2 ^ 64)<j/\j<2 ^ 64)
def Aj.ok (h:Aj i j):IntMulOk i j:=by
 rcases h with ⟨Z,Y⟩ | ⟨Z,Y⟩
 ·exact .of_left (intBits_le_64 Z Y)
 ·exact .of_right (intBits_le_64 Z Y)
def Yl:bM X (ņ .Add) (qW λi j=>.int (i+j)):=OC λ_ _ _ _ _ _ _ q=>add_int q
def Ym:bM X (ņ .Sub) (qW λi j=>.int (i-j)):=OC λ_ _ _ _ _ _ _ q=>sub_int q
def Yn:bM X (ņ .Mult) (rI Aj λi j=>.int (i*j)):=AL λ_ _ _ _ _ _ _ Z q=>mul_int q Z.ok
def Wu:bM X (ņ .FloorDiv) (rI abG λi j=>.int (i / j)):=AL λi j _ _ _ _ _ Z q=>by
 have Y:(0:Int)<j:=Z.1;have W:j<1073741824:=Z.2;exact floordiv_int ⋯ (by rw[Int.fdiv_eq_ediv_of_nonneg i ⋯];exact q) (.inl (PyProof.noPylong_small ⋯))
def Yo:bM X (ņ .Mod) (rI (λ_ j=>0<j) λi j=>.int (i % j)):=AL λi j _ _ _ _ _ Z q=>by
 have Y:(0:Int)<j:=Z;exact mod_int' ⋯ (by rw[Int.fmod_eq_emod_of_nonneg i ⋯];exact q)
def Yp:bM X (ņ .Pow) (rI abH λi j=>.int (i ^ j.toNat)):=AL λ_ _ _ _ _ _ _ Z q=>pow_int_small Z.1 Z.2.1 Z.2.2 q
def unI {g:Int->Int}
 (rule:∀(i:Int) (t:Tok) (s:Â) (Q:Ç->Â->Prop) (E:Ç->Â->Prop),Q (.int (g i) s.toks) { s with toks:=s.toks+1 }->á (é X.prog X.w) X.A (f (.int i t)) Q E s) :
  xT X f (rU λi=>.int (g i)):=by
 intro Y s σ H x v Q I Z h;obtain⟨i,rfl,q⟩:=h;obtain⟨t,rfl⟩:=Z;exact rule i t s _ _ ⟨.int (g i),H,I.tok _,⟨_,rfl⟩,q⟩
def Mr:xT X (unaryOp .USub) (rU λi=>.int (-i)):=unI λ_ _ _ _ _ q=>neg_int q
end
def EV:V->V->Bool
 | .au,.au=>ό | .au,.int _=>ό | .int _,.au=>ό | .au,.bl _=>ό | .bl _,.au=>ό | .au,.str _=>ό | .str _,.au=>ό
 | .int _,.int _=>ό | .bl _,.bl _=>ό | .str _,.str _=>ό | .jo _,.jo _=>ό
 | .int _,.str _=>ό | .str _,.int _=>ό | .bl _,.str _=>ό | .str _,.bl _=>ό
 |_,_=>ύ
def rEq:R2:=λx y H Q=>EV x y=ό/\Q (.bl (ώ (x=y))) H
def rNe:R2:=λx y H Q=>EV x y=ό/\Q (.bl (!ώ (x=y))) H
def Ln:ώ (V.int i=V.int j)=(i==j):=by
 rw[ĭ];simp
def Ms:ώ (V.bl i=V.bl j)=(i==j):=by
 rw[ĭ];simp
def Cq:ώ (V.str i=V.str j)=(i==j):=by
 rw[ĭ];simp
def Lo:ώ (V.jo i=V.jo j)=(i.toList==j.toList):=by
 rw[ĭ];cases i;cases j;simp
section
variable {X:Cx} {a b c:ě} {ta tb tc:TE} {pos:Pos}
def cX {π:List (ß×Obj)} {σ:St} {H:Hp} {s:Â} {Q:VK} {k k':Bool} (I:Inv X π σ H s) (q:Q (.bl k) H) (e:k=k'):EP X π σ Q (.bool k') s:=by
 subst e;exact⟨.bl k,H,I,rfl,q⟩
def aab:bM X (ĕ .Eq) rEq:=by
 intro T s σ H x y v u Q I U Z h;obtain⟨V,q⟩:=h
 cases x with
 |au =>
  cases U
  cases y with
  |au=>cases Z;exact PySem.EqNone.eq_none_none (cX I q ∅)
  |bl j=>cases Z;exact PySem.EqNone.eq_none_bool (cX I q ∅)
  |int j=>obtain⟨Y,rfl⟩:=Z;exact PySem.EqNone.eq_none_int (cX I q ∅)
  |str j=>obtain⟨Y,rfl⟩:=Z;exact PySem.EqNone.eq_none_str (cX I q ∅)
  |_=>exact absurd (show ύ=ό from V) Ä
 |bl i =>
  cases U
  cases y with
  |au=>cases Z;exact PySem.EqNone.eq_bool_none (cX I q ∅)
  |bl j=>cases Z;exact eq_bool (cX I q Ms)
  |str j=>obtain⟨Y,rfl⟩:=Z;exact PySem.EqMixed.eq_bool_str (cX I q ∅)
  |_=>exact absurd (show ύ=ό from V) Ä
 |int i =>
  obtain⟨t,rfl⟩:=U
  cases y with
  |au=>cases Z;exact PySem.EqNone.eq_int_none (cX I q ∅)
  |int j=>obtain⟨Y,rfl⟩:=Z;exact eq_int (cX I q Ln)
  |str j=>obtain⟨Y,rfl⟩:=Z;exact PySem.EqMixed.eq_int_str (cX I q ∅)
  |_=>exact absurd (show ύ=ό from V) Ä
 |str i =>
  obtain⟨t,rfl⟩:=U
  cases y with
  |au=>cases Z;exact PySem.EqNone.eq_str_none (cX I q ∅)
  |bl j=>cases Z;exact PySem.EqMixed.eq_str_bool (cX I q ∅)
  |int j=>obtain⟨Y,rfl⟩:=Z;exact PySem.EqMixed.eq_str_int (cX I q ∅)
  |str j=>obtain⟨Y,rfl⟩:=Z;exact eq_str (cX I q Cq)
  |_=>exact absurd (show ύ=ό from V) Ä
 |jo i =>
  obtain⟨t,rfl⟩:=U
  cases y with
  |jo j=>obtain⟨Y,rfl⟩:=Z;exact PySem.W.eq_bytes (cX I q Lo)
  |_=>exact absurd (show ύ=ό from V) Ä
 |_=>cases y<;>exact absurd (show ύ=ό from V) Ä
def Nx:bM X (ĕ .NotEq) rNe:=by
 intro T s σ H x y v u Q I U Z h;obtain⟨V,q⟩:=h
 cases x with
 |au =>
  cases U
  cases y with
  |au=>cases Z;exact PySem.EqNone.ne_none_none (cX I q ∅)
  |bl j=>cases Z;exact PySem.EqNone.ne_none_bool (cX I q ∅)
  |int j=>obtain⟨Y,rfl⟩:=Z;exact PySem.EqNone.ne_none_int (cX I q ∅)
  |str j=>obtain⟨Y,rfl⟩:=Z;exact PySem.EqNone.ne_none_str (cX I q ∅)
  |_=>exact absurd (show ύ=ό from V) Ä
 |bl i =>
  cases U
  cases y with
  |au=>cases Z;exact PySem.EqNone.ne_bool_none (cX I q ∅)
  |bl j=>cases Z;exact ne_bool (cX I q (Ń not Ms))
  |str j=>obtain⟨Y,rfl⟩:=Z;exact PySem.EqMixed.ne_bool_str (cX I q ∅)
  |_=>exact absurd (show ύ=ό from V) Ä
 |int i =>
  obtain⟨t,rfl⟩:=U
  cases y with
  |au=>cases Z;exact PySem.EqNone.ne_int_none (cX I q ∅)
  |int j=>obtain⟨Y,rfl⟩:=Z;exact ne_int (cX I q (Ń not Ln))
  |str j=>obtain⟨Y,rfl⟩:=Z;exact PySem.EqMixed.ne_int_str (cX I q ∅)
  |_=>exact absurd (show ύ=ό from V) Ä
 |str i =>
  obtain⟨t,rfl⟩:=U
  cases y with
  |au=>cases Z;exact PySem.EqNone.ne_str_none (cX I q ∅)
  |bl j=>cases Z;exact PySem.EqMixed.ne_str_bool (cX I q ∅)
  |int j=>obtain⟨Y,rfl⟩:=Z;exact PySem.EqMixed.ne_str_int (cX I q ∅)
  |str j=>obtain⟨Y,rfl⟩:=Z;exact ne_str (cX I q (Ń not Cq))
  |_=>exact absurd (show ύ=ό from V) Ä
 |jo i =>
  obtain⟨t,rfl⟩:=U
  cases y with
  |jo j=>obtain⟨Y,rfl⟩:=Z;exact PySem.W.ne_bytes (cX I q (Ń not Lo))
  |_=>exact absurd (show ύ=ό from V) Ä
 |_=>cases y<;>exact absurd (show ύ=ό from V) Ä
def aac:bM X (ĕ .LtE) (qW λi j=>.bl (ώ (i<=j))):=EU λ_ _ _ _ _ _ _ q=>le_int q
def aad:bM X (ĕ .Gt) (qW λi j=>.bl (ώ (j<i))):=EU λ_ _ _ _ _ _ _ q=>gt_int q
def aae:bM X (ĕ .GtE) (qW λi j=>.bl (ώ (j<=i))):=EU λ_ _ _ _ _ _ _ q=>ge_int q
def SX:bM X (ĕ .In) (λx y H Q=>∃i j,x=.str i/\y=.str j/\Q (.bl (!(ġ j i 0 j.length 1).isEmpty)) H):=by
 intro W s σ H x y v u Q I Z Y h;obtain⟨i,j,rfl,rfl,q⟩:=h;obtain⟨t,rfl⟩:=Z;obtain⟨V,rfl⟩:=Y;exact in_str (cX I q rfl)
def aZ (b:ě) (h:op≠.In:=by decide) (h2:op≠.NotIn:=by decide):adw op b=ύ:=by
 have e1:(op==CmpOp.In)=ύ:=by cases op<;>first|rfl|exact absurd rfl h
 have e2:(op==CmpOp.NotIn)=ύ:=by cases op<;>first|rfl|exact absurd rfl h2
 cases b<;>simp[adw,e1,e2]
def Wv (ho:bM X (ĕ op) r) (ha:PE X a ta) (hb:PE X b tb) (hm:adw op b=ύ):PE X (.Compare a [op] [b] pos) (xU r ta tb):=by
 intro Z s σ H Q I h;exact wpAny_Compare1 (ET ha hb I h λv u Y x y W V U T q=>ho Z Y σ W x y v u Q V U T q) hm
def zS (t:TE):TT:=fun σ H Q=>t σ H λx Z=>∃k,x=.bl k/\Q k Z
def Ww {op:CmpOp} {r:R2} (ho:bM X (ĕ op) r) (ha:PE X a ta) (hb:PE X b tb) (hm:adw op b=ύ):PT X (.Compare a [op] [b] pos) (zS (xU r ta tb)):=by
 intro Z s σ H Q I h;refine wpAny_isTrue_Compare1 (aO (ha Z s σ H _ I h) λv Y ⟨x,W,V,U,T⟩=>aO (hb Z Y σ W _ V T) λu S ⟨y,R,P,O,N⟩ =>
  aO (ho Z S σ R x y v u _ P U O N) λc G ⟨z,M,L,K,k,e,J⟩=>?_) hm
 subst e;cases K;exact Ŝ ⟨M,L,J⟩
def Mt (r r':R2) (ta tb tc:TE):TE:=fun σ H Q=>ta σ H λx Y=>tb σ Y λy X=>r x y X λz Z=>∃k,z=.bl k /\
 (if k=ό then tc σ Z λW V=>r' y W V Q else Q (.bl ύ) Z)
def UC {op uF:CmpOp} {r r':R2} (ho:bM X (ĕ op) r) (ip:bM X (ĕ uF) r') (ha:PE X a ta) (hb:PE X b tb) (hc:PE X c tc)
  (hm:lastMarks [op,uF] [b,c]=ύ:=by with_unfolding_all rfl):PE X (.Compare a [op,uF] [b,c] pos) (Mt r r' ta tb tc):=by
 intro Z s σ H Q I h;refine Compare_chain (aO (ha Z s σ H _ I h) λv T ⟨x,S,R,P,O⟩=>chain_link (aO (hb Z T σ S _ R O) λu N ⟨y,M,L,Y,K⟩ =>
  aO (ho Z N σ M x y v u _ L P Y K) λd J ⟨z,W,V,G,k,e,U⟩=>?_)) hm
 subst e;cases G;refine Ŝ ?_
 cases k with
 |false=>exact ite_ff ⟨.bl ύ,W,V,rfl,U⟩
 |true=>exact ite_tt (chain_last (aO (hc Z J σ W _ V U) λF E ⟨D,C,B,A,w⟩=>ip Z E σ C y D u F Q B Y A w))
def qK (K:đ) (x:V) (H:Hp) (k:Bool):Prop :=
 match x with
 | .au=>k=ύ
 | .bl b=>k=b
 | .int i=>k=(i != 0)
 | .str y=>y.length<=Õ/\k=((y.length:Int) != 0)
 | .jo y=>y.size<=Õ/\k=((y.size:Int) != 0)
 | .ref p=>(∃Z,bY K H p Z/\k=!Z.isEmpty)\/(∃Z,bV K H p Z/\k=!Z.isEmpty)\/∃Y,H p=ϊ (.dK Y)/\k=!Y.isEmpty
 |_=>False
def RN {κ:Type} {aX:List (κ×V)} {vs:List (κ×Ç)} (r:KV aX vs):(!vs.isEmpty)=!aX.isEmpty:=by
 cases r<;>rfl
def Jy (r:Vals xs its):(!its.toArray.isEmpty)=!xs.isEmpty:=by
 cases r<;>simp
def qi:(Õ:Nat)<2 ^ 63:=by rw[ŭ];decide
def C9:abF X (λx H Q=>∃k,qK X.K x H k/\Q k H):=by
 intro J s σ H x v Q I U h;obtain⟨k,e,q⟩:=h;have G:=qi;have F:Õ=16777216:=ŭ
 cases x with
 |au =>
  cases U;have Z:k=ύ:=e;subst Z;exact truthy_none ⟨H,I,q⟩
 |bl b =>
  cases U;have Z:k=b:=e;subst Z;exact Ŝ ⟨H,I,q⟩
 |int i =>
  obtain⟨t,rfl⟩:=U;have Z:k=(i != 0):=e;subst Z;exact PySem.P.truthy_int ⟨H,I,q⟩
 |str y =>
  obtain⟨t,rfl⟩:=U;obtain⟨M,Z⟩:y.length<=Õ/\k=((y.length:Int) != 0):=e;subst Z;exact PySem.P.truthy_str ⋯ ⟨H,I.tok _,q⟩
 |jo y =>
  obtain⟨t,rfl⟩:=U;obtain⟨M,Z⟩:y.size<=Õ/\k=((y.size:Int) != 0):=e;subst Z;exact PySem.W.truthy_bytes ⋯ ⟨H,I.tok _,q⟩
 |ref p =>
  cases U;have Z:(∃V,bY X.K H p V/\k=!V.isEmpty)\/(∃V,bV X.K H p V/\k=!V.isEmpty)\/∃T,H p=ϊ (.dK T)/\k=!T.isEmpty:=e
  rcases Z with ⟨V,S,Z⟩ | ⟨V,S,Z⟩ | ⟨T,S,Z⟩
  ·subst Z
   obtain⟨its,r,O,N⟩:=I.list S;have Y:=r.length;exact wpAny_truthy_list O.isList (by erw[Ü];omega) ⟨H,I.tok _,by rw[Jy r];exact q⟩
  ·subst Z
   obtain⟨its,r,O,N⟩:=I.tuple S;have Y:=r.length;exact truthy_tuple O (by erw[Ü];omega) ⟨H,I.tok _,by rw[Jy r];exact q⟩
  ·subst Z
   obtain⟨N,L,R,r,m⟩:T.length<=Õ/\(p==sysModules)=ύ/\∃R,KV T R/\s.heap.DictOf (zd X.prog X.w) p R:=I.aI p _ S;have Y:T.length=R.length:=Paired.length r;exact wpAny_truthy_dict L m ⋯ ⟨H,I.tok _,by rw[RN r];exact q⟩
 |_=>exact(show False from e).elim
def UD (ha:PE X a ta) (he:∀whole,isTrue a X.env whole=(do let v <- whole;adh a.pos;acY [v] (truthy v))) :
  PT X a (fun σ H Q=>ta σ H λx H'=>∃k,qK X.K x H' k/\Q k H'):=by
 intro Z s σ H Q I h;exact isTrue_plain (aO (ha Z s σ H _ I h) λv Y ⟨x,W,V,U,T⟩=>C9 Z Y σ W x v Q V U T) (he _)
def RO:bM X (ņ .Add) (λx y H Q=>∃i j,x=.str i/\y=.str j/\i.length+j.length<=Õ/\Q (.str (i++j)) H):=by
 intro U s σ H x y v u Q I Z Y h;obtain⟨i,j,rfl,rfl,W,q⟩:=h;obtain⟨t,rfl⟩:=Z;obtain⟨V,rfl⟩:=Y;exact add_str (λV T=>⟨.str (i++j),H,I.tok _,⟨_,rfl⟩,q⟩) W
def vals1 (r:Vals [x] us):∃u,us=[u]/\RelV x u:=by
 cases r with
 |cons Z Y=>cases Y;exact⟨_,rfl,Z⟩
def vals2 (r:Vals [x,y] us):∃u w',us=[u,w']/\RelV x u/\RelV y w':=by
 cases r with
 |cons Z Y =>
  cases Y with
  |cons X W=>cases W;exact⟨_,_,rfl,Z,X⟩
def SY (hc:X.calm=ό):cT X (.builtin "max") (λxs H Q=>∃i j,xs=[.int i,.int j]/\Q (.int (if j > i then j else i)) H):=by
 intro Y s σ H xs W Q I r h;obtain⟨i,j,rfl,q⟩:=h;obtain⟨u,V,rfl,⟨t,rfl⟩,⟨U,rfl⟩⟩:=vals2 r;refine max_two_ints (I.ok.hd hc) λT S k=>⟨_,H,I.kept k,?_,q⟩;by_cases Z:j > i
 ·rw[Ñ Z,Ñ Z];exact⟨_,rfl⟩
 ·rw[Ú Z,Ú Z];exact⟨_,rfl⟩
def S0 (hc:X.calm=ό):cT X (.builtin "min") (λxs H Q=>∃i j,xs=[.int i,.int j]/\Q (.int (if j<i then j else i)) H):=by
 intro Y s σ H xs W Q I r h;obtain⟨i,j,rfl,q⟩:=h;obtain⟨u,V,rfl,⟨t,rfl⟩,⟨U,rfl⟩⟩:=vals2 r;refine min_two_ints (I.ok.hd hc) λT S k=>⟨_,H,I.kept k,?_,q⟩;by_cases Z:j<i
 ·rw[Ñ Z,Ñ Z];exact⟨_,rfl⟩
 ·rw[Ú Z,Ú Z];exact⟨_,rfl⟩
def QP:cT X (.type "str") (λxs H Q=>∃i,xs=[.int i]/\i.natAbs.log2<1920/\Q (.str (toString i)) H):=by
 intro Y s σ H xs W Q I r h;obtain⟨i,rfl,Z,q⟩:=h;obtain⟨u,rfl,t,rfl⟩:=vals1 r;exact PySem.P.str_of_int Z ⟨.str _,H,I.tok _,⟨_,rfl⟩,q⟩
end
structure qL (h:ĺ) (x dx C:ß) (mA:Str->Option Ç):Prop where
 obj:h.get? x=ϊ (ş C dx)
 ns:h.Ns1 dx mA
 ne:dx≠x
def S7 {h:ĺ} {dx:ß} {mA:Str->Option Ç} (n:h.Ns1 dx mA):∃od,h.get? dx=ϊ od/\∀name,ac1 name od=ϊ (mA name):=by
 obtain⟨o,Y,R,X,W,V,_,U⟩:=n;refine⟨o,X,λname=>?_⟩;have e:=U name;delta nsFind findBy at e;rw[<- Array.find?_toList] at e;delta ac1;rw[W];dsimp only;split
 ·rename_i y q
  rw[q] at e;exact Ń ϊ e
 ·rename_i q
  rw[q] at e;have a:Y.toList.any (·.refKey)=ύ:=by
   rw[List.any_eq_false];intro y T;obtain⟨z,t,Z⟩:=V y (Array.mem_toList_iff.mp T);simp[DictEntry.refKey,Z]
  have S:¬ Y.toList.any (·.refKey)=ό:=by rw[a];exact Ä
  rw[Ú S];exact Ń ϊ e
def qL.look (I:qL h x dx C mA):∃od,PySem.W.InstAt h x (ş C dx) C (ϊ od)/\∀name,ac1 name od=ϊ (mA name) :=
 let ⟨od,Z,Y⟩:=S7 I.ns
 ⟨od,⟨I.obj,rfl,rfl,Z⟩,Y⟩
section
variable {prog:å} {w:Ą} {A:í} {E:Ç->Â->Prop} {s:Â} {K:đ} {x dx C f:ß} {mA:Str->Option Ç} {name:Str} {v:Ç}
def get_map (X:K.In s.heap) (I:qL s.heap x dx C mA) (hg:ad3 K C name=ό) (hh:aep K C=ό)
 (ha:ř K (.ref C) name=ϊ ϋ) (hv:mA name=ϊ v) (AM:PySem.W.handedIn v=ό) (h:Q v { s with toks:=s.toks+1 }) :
  á (é prog w) A (getAttr (.ref x) name expr) Q E s:=by
 obtain⟨Y,J,Z⟩:=I.look;exact PySem.W.get_value X J (aea hg).1 (PySem.W.findObj_own hh ha rfl (by rw[Z,hv])) AM h
def UE (X:K.In s.heap) (I:qL s.heap x dx C mA) (hg:ad3 K C name=ό)
 (hf:ř K (.ref C) name=ϊ (ϊ (.ref f))) (ht:PySem.W.isFn K (.ref f)=ό) (hv:mA name=ϋ) (h:Q (.ref f,[.ref x]) s) :
  á (é prog w) A (aeq (.ref x) name pl) Q E s:=by
 obtain⟨Z,J,Y⟩:=I.look;exact PySem.W.method_fn X J (aea hg).1 (aea hg).2 hf (beq_iff_eq.mp ht) (by show (ac1 name Z).map (·.isSome)=ϊ ύ;rw[Y,hv];rfl) h
def Wx (X:K.In s.heap) (I:qL s.heap x dx C mA)
 (hs:ř K (.ref C) "__setattr__"=ϊ (ϊ (.builtin "object.__setattr__"))) (hp:PySem.W.plainOver K C=ό) (ht:PySem.W.takerIn K C name=ϊ ϋ) (hh:aep K C=ό)
 (hw:PySem.Within mA ns) (hsz:ns.length<=Õ)
 (h:∀h',qL h' x dx C (λy=>if y=name then ϊ v else mA y)->Ĭ dx s.heap h'->Q () { s with heap:=h',toks:=s.toks+2 }) :
  á (é prog w) A (setAttr (.ref x) name v) Q E s:=by
 obtain⟨M,J,L⟩:=I.look
 refine PySem.W.set_plain X J hs (PySem.W.osa_open (s:={ s with toks:=s.toks+1 }) (r:=ϋ) X J hp ht λb=>?_)
 obtain⟨cd,S,R⟩:=PySem.W.any_some hh;have P:s.heap.get? x=ϊ ⟨.ref C,ϊ dx,.plain,#[]⟩:=I.obj
 refine À (Ã (À (À (wpAny_loadPart P (À (PySem.W.Looks.here (s:={ s with toks:=s.toks+1 }) (PySem.W.looks_clsIn X S) ?_))))))
 rw[R];refine Ã (a:=ϊ dx) (À (Ã (À ?_)))
 refine wpAny_nsSet1 (s:={ s with toks:=s.toks+1 }) I.ns λh' U T=>?_
 obtain⟨H,O,N,Z,Y,V⟩:=U.count (PySem.Within.cons name v hw);refine À (wpAny_lookBehind Z (by rw[Y];exact pastItsLine_dict (Ý V (by rw[â];omega))) ?_);exact Ã (h _ ⟨(T.2 _ (ź I.ne)).trans I.obj,U,I.ne⟩ T)
def UG (X:K.In s.heap) (hm:PySem.W.makesIn K C=ό)
 (hi:ř K (.ref C) "__init__"=ϊ (ϊ (.ref f))) (hf:PySem.W.typeIn K (.ref f)=ϊ (.type "function"))
 (h:ż (é prog w) (A.under (.builtin "type.__call__" ⟨.ref C::vs,kw⟩)) (.call (.ref f) ⟨.ref (s.heap.objs.size+1)::vs,kw⟩) (PySem.W.InitBack (s.heap.objs.size+1) R)
 { s with heap:=(s.heap.push Ł).push (ş C s.heap.objs.size) }) :
  ż (é prog w) A (.call (.ref C) ⟨vs,kw⟩) R s:=by
 obtain⟨Z,g,d,t,os⟩:=s;exact PySem.W.make_core (PySem.W.makes_of X hm) (PySem.W.looks_findIn X hi) (λself=>PySem.W.bind_fn X self hf) (.inl rfl) h
end
def fJ (f:Str) (v:V):List (Str×V)->List (Str×V)
 | []=>[(f,v)]
 |(g,x)::r=>if g=f then (g,v)::r else (g,x)::fJ f v r
theorem Je (f g:Str) (v:V):∀fs:List (Str×V),(fJ f v fs).lookup g=if g=f then ϊ v else fs.lookup g
 | []=>by
  show adi g [(f,v)]=_;by_cases h:g=f
  ·have Z:(g==f)=ό:=beq_iff_eq.mpr h
   erw[adi,Z,Ñ h]
  ·have Z:(g==f)=ύ:=beq_eq_false_iff_ne.mpr h
   erw[adi,Z,Ú h]
 |(k,x)::r=>by
  have ih:=Je f g v r
  rw[show fJ f v ((k,x)::r)=(if k=f then (k,v)::r else (k,x)::fJ f v r) from rfl]
  by_cases Y:k=f
  ·rw[Ñ Y]
   by_cases h:g=k
   ·have Z:(g==k)=ό:=beq_iff_eq.mpr h
    erw[adi,Z,Ñ (h.trans Y)]
   ·have Z:(g==k)=ύ:=beq_eq_false_iff_ne.mpr h
    erw[adi,Z,Ú (λe:g=f=>h (e.trans Y.symm))]
  ·rw[Ú Y]
   by_cases h:g=k
   ·have Z:(g==k)=ό:=beq_iff_eq.mpr h
    erw[adi,Z,Ú (λe:g=f=>Y (h.symm.trans e))]
   ·have Z:(g==k)=ύ:=beq_eq_false_iff_ne.mpr h
    erw[adi,Z];exact ih
theorem BF (f:Str) (v:V):∀fs:List (Str×V),f∈(fJ f v fs).map (·.1)/\∀g,g∈fs.map (·.1)->g∈(fJ f v fs).map (·.1)
 | []=>⟨by simp[fJ],λg h=>by simp at h⟩
 |(k,x)::r=>by
  obtain⟨Y,X⟩:=BF f v r
  rw[show fJ f v ((k,x)::r)=(if k=f then (k,v)::r else (k,x)::fJ f v r) from rfl]
  by_cases Z:k=f
  ·rw[Ñ Z]
   subst Z;exact⟨by simp,λg h=>by simpa using h⟩
  ·rw[Ú Z]
   refine⟨?_,λg h=>?_⟩
   ·rw[à]
    exact Ï _ Y
   ·rw[à] at h |-
    rcases Û.mp h with e|e
    ·exact Û.mpr (.inl e)
    ·exact Ï _ (X g e)
theorem Jf (f:Str) (v:V):∀fs:List (Str×V),(fJ f v fs).length<=fs.length+1
 | []=>by simp[fJ]
 |(k,x)::r=>by
  have ih:=Jf f v r
  rw[show fJ f v ((k,x)::r)=(if k=f then (k,v)::r else (k,x)::fJ f v r) from rfl]
  by_cases Z:k=f
  ·rw[Ñ Z,â,â];omega
  ·rw[Ú Z,â,â];omega
def mq.some_of (r:mq (ϊ v) o):∃u,o=ϊ u/\RelV v u:=by
 cases o with
 |none=>exact(show False from r).elim
 |some u=>exact⟨u,rfl,r⟩
def mq.none_of (r:mq ϋ o):o=ϋ:=by
 cases o with
 |none=>rfl
 |some u=>exact(show False from r).elim
def S8 (r:RelV v u):PySem.W.handedIn u=ό:=by
 cases v with
 |au=>cases (show u=Value.none from r);rfl
 |bl b=>cases (show u=ś b from r);rfl
 |int i=>obtain⟨t,e⟩:=(show ∃t,u=ad9 i t from r);cases e;rfl
 |str x=>obtain⟨t,e⟩:=(show ∃t,u=Value.str x t from r);cases e;rfl
 |jo b=>obtain⟨t,e⟩:=(show ∃t,u=Value.bytes b t from r);cases e;rfl
 |AF b=>obtain⟨t,e⟩:=(show ∃t,u=Value.float b t from r);cases e;rfl
 |ref a=>cases (show u=Ō a from r);rfl
 |ty n=>cases (show u=Ť n from r);rfl
section
variable {P:å} {w:Ą} {H H':Hp} {h h':ĺ} {a C dx:ß} {fs fs':List (Str×V)}
def Cr (aI:cM P w H h) (e:H a=ϊ (.ins C dx fs)):∃mA,qL h a dx C mA/\(∀f,mq (fs.lookup f) (mA f))/\PySem.Within mA (fs.map (·.1))/\fs.length<=1000/\H dx=ϊ (.own a):=by
 obtain⟨d,z,ne,Z,mA,n,r,q⟩:=(show eO P w H h a (.ins C dx fs) from aI a _ e);exact⟨mA,⟨Z,n,ne⟩,r,q,z,d⟩
end
structure kF (K:đ) (C:ß):Prop where
 pg:ad3 K C χ=ό
 hd:aep K C=ό
 po:PySem.W.plainOver K C=ό
 sa:ř K (.ref C) "__setattr__"=ϊ (ϊ (.builtin "object.__setattr__"))
def kF.get {K:đ} {C:ß} (c:kF K C) (f:Str):ad3 K C f=ό:=c.pg
def nv (K:đ) (C:ß) (f:Str):Prop:=ř K (.ref C) f=ϊ ϋ
def nv.aaf {K:đ} {C:ß} {f:Str} (n:nv K C f):PySem.W.takerIn K C f=ϊ ϋ:=by
 delta PySem.W.takerIn;rw[show ř K (.ref C) f=ϊ ϋ from n];rfl
structure Meth (K:đ) (C:ß) (m:Str) (f:ß):Prop where
 at_:ř K (.ref C) m=ϊ (ϊ (.ref f))
 fn:PySem.W.isFn K (.ref f)=ό
 kp:ő K (.ref f)=ό
section
variable {X:Cx} {π:List (ß×Obj)} {σ:St} {H:Hp} {s:Â} {a C dx:ß} {fs:List (Str×V)} {f:Str} {v:V} {A:í} {E:Ç->Â->Prop}
def RP (I:Inv X π σ H s) (e:H a=ϊ (.ins C dx fs)) (c:kF X.K C) (n:nv X.K C f) (l:fs.lookup f=ϊ v)
 (h:∀u s',Inv X π σ H s'->RelV v u->Q u s'):á (é X.prog X.w) A (getAttr (.ref a) f b) Q E s:=by
 obtain⟨Y,O,r,_,_,_⟩:=Cr I.aI e;obtain⟨u,W,Z⟩:=mq.some_of (v:=v) (o:=Y f) (by rw[<- l];exact r f);exact get_map I.fy O (c.get f) c.hd n W (S8 Z) (h u _ (I.tok _) Z)
def Jz (I:Inv X π σ H s) (e:H a=ϊ (.ins C dx fs)) (c:kF X.K C) (k:Meth X.K C m g) (l:fs.lookup m=ϋ)
 (h:Q (.ref g,[.ref a]) s):á (é X.prog X.w) A (aeq (.ref a) m pl) Q E s:=by
 obtain⟨Z,O,r,_,_,_⟩:=Cr I.aI e;have Y:Z m=ϋ:=mq.none_of (by rw[<- l];exact r m);exact UE I.fy O (c.get m) k.at_ k.fn Y h
def RQ (I:Inv X π σ H s) (e:H a=ϊ (.ins C dx fs)) (c:kF X.K C) (n:nv X.K C f) (hl:fs.length<1000) (ry:RelV y u)
 (h:∀s',Inv X π σ (upd H a (.ins C dx (fJ f y fs))) s'->Q () s'):á (é X.prog X.w) A (setAttr (.ref a) f u) Q E s:=by
 obtain⟨Y,O,r,W,_,V⟩:=Cr I.aI e;have U:(fs.map (·.1)).length<=Õ:=by rw[É,ŭ];omega
 refine Wx I.fy O c.sa c.po n.aaf c.hd W U λT Z S=>h _ ?_
 have hd:∃o,T.get? dx=ϊ o:=let ⟨o,_,_,R,_⟩:=Z.ns;⟨o,R⟩
 refine I.write (x:=a) (e:=dx) (by rw[e];exact True.intro) (.inr V) (λb q P z=>(S.2 b P).trans z) hd ?_;refine⟨by rw[bt O.ne];exact V,?_,O.ne,Z.obj,_,Z.ns,λg=>?_,λg N=>?_⟩
 ·have:=Jf f y fs;omega
 ·show mq ((fJ f y fs).lookup g) (if g=f then ϊ u else Y g)
  rw[Je];by_cases q:g=f
  ·rw[Ñ q,Ñ q];exact ry
  ·rw[Ú q,Ú q];exact r g
 ·by_cases q:g=f
  ·rw[q];exact(BF f y fs).1
  ·refine(BF f y fs).2 g (W g λz=>N ?_)
   show (if g=f then ϊ u else Y g)=ϋ
   rw[Ú q];exact z
def Inv.made (I:Inv X π σ H s):Inv X π σ (upd (upd H s.heap.objs.size (.own (s.heap.objs.size+1))) (s.heap.objs.size+1) (.ins C s.heap.objs.size []))
  { s with heap:=(s.heap.push Ł).push (ş C s.heap.objs.size) }:=by
 have e1:(s.heap.push Ł).get? s.heap.objs.size=ϊ Ł:=Î s.heap rfl;have e2:((s.heap.push Ł).push (ş C s.heap.objs.size)).get? (s.heap.objs.size+1)=ϊ (ş C s.heap.objs.size):=by
  have:=Î (s.heap.push Ł) (o:=ş C s.heap.objs.size) rfl;rwa [Ā] at this
 have Z:(s.heap.push Ł).Ns s.heap.objs.size (λ_=>ϋ):=⟨Ł,#[],_,e1,rfl,(λe Y=>absurd Y ∅),λ_=>rfl⟩;have W:=I.laid (a:=s.heap.objs.size) (o:=.own (s.heap.objs.size+1)) (h':=s.heap.push Ł) (t':=s.toks) (λb u q=>Á _ q) (aeD _) ⟨_,e1⟩;refine W.laid (a:=s.heap.objs.size+1) (o:=.ins C s.heap.objs.size []) (t':=s.toks) (λb u q=>Á _ q) (ael (Ā _ _)) ?_;have ne:s.heap.objs.size≠s.heap.objs.size+1:=ã (ŕ _);refine⟨by rw[bt ne,cO],Ē _,ne,e2,λ_=>ϋ,(Heap.Ns1.of_empty Z).at λo q=>Á _ q,λ_=>True.intro,λy V=>absurd rfl V⟩
def Wy (hb:İ e f env (ķ e env)=ķ e env)
 (h:á (é prog w) A (ķ e env) (λo bJ=>á (é prog w) A (getAttr o f ό) Q E bJ) E s):á (é prog w) A (ķ (.Attribute e f pos) env) Q E s :=
 Attribute_any_ h (by rw[arm_eval_Attribute,hb])
end
def abK (K:đ) (ta:TE) (f:Str):TE:=fun σ H Q=>ta σ H λx Z=>∃a C Y fs v,x=.ref a/\Z a=ϊ (.ins C Y fs)/\kF K C/\nv K C f/\fs.lookup f=ϊ v/\Q v Z
def abM (K:đ) (ta tv:TE) (f:Str):TS:=λD σ H=>tv σ H λy X=>ta σ X λx Z=>∃a C Y fs,x=.ref a/\Z a=ϊ (.ins C Y fs)/\kF K C/\nv K C f/\fs.length<1000 /\
 D.nx σ (upd Z a (.ins C Y (fJ f y fs)))
section
variable {X:Cx} {o e value:ě} {f:Str} {pos pos' xl:Pos} {ta tv:TE}
def Yq (he:PE X e ta) (hb:İ e f X.env (ķ e X.env)=ķ e X.env):PE X (.Attribute e f pos) (abK X.K ta f):=by
 intro Z s σ H Q I h;refine Wy hb (aO (he Z s σ H _ I h) λu R ⟨x,Y,W,V,a,C,P,fs,v,ex,U,c,n,l,q⟩=>?_);subst ex;obtain rfl:u=Ō a:=V;exact RP W U c n l λO N T S=>⟨v,Y,T,S,q⟩
def Yr (ha:PE X o ta) (hv:PE X value tv) (hs:swapsWith value (ϊ (.Attribute o f pos')) pos.line X.env=pure ύ):PS X (.Assign [.Attribute o f pos'] value pos) (abM X.K ta tv f):=by
 intro Z s σ H D I h;refine plainObj_wpAny_Assign_Attribute (aO (hv Z s σ H _ I h) λu Y ⟨y,W,V,U,q⟩=>aO (ha Z Y σ W _ V q) λT N ⟨x,M,S,R,a,C,L,fs,ex,Q,c,n,l,P⟩=>?_) hs;subst ex;obtain rfl:T=Ō a:=R;exact RQ S Q c n l U λJ O=>⟨σ,_,O,P⟩
end
structure bK (k:Nat) (A:í):Prop where
 hd:A.handled=ϋ
 dp:A.depth+3*k+5<recursionLimit
 un:A.units+16*k+200<cLine
 gd:A.guards=ϊ []
def bK.mono (r:bK k A) (h:j<=k):bK j A:=⟨r.hd,by have:=r.dp;omega,by have:=r.un;omega,r.gd⟩
theorem bK.deeper (r:bK (k+1) A) (env:Env):bK k (A.deeper env) :=
 ⟨r.hd,by have:=r.dp;show A.depth+1+3*k+5 < _;omega,by have:=r.un;show A.units+3+16*k+200 < _;omega,r.gd⟩
def RR {A:í} {C:ß} {us:List Ç} {kw:List (Str×Ç)}:(A.under (.builtin "type.__call__" ⟨.ref C::us,kw⟩)).depth=A.depth+1:=by
 first|rfl|simp[Around.under,Code.weight,Code.isCreation,Code.isGuard,Code.isCaller,Code.frames,Code.isFrame,guardIds]
def RS {A:í} {C:ß} {us:List Ç} {kw:List (Str×Ç)}:(A.under (.builtin "type.__call__" ⟨.ref C::us,kw⟩)).units=A.units+1:=by
 first|rfl|simp[Around.under,Code.cUnits,Code.frames,Code.isFrame]
def bK.make (r:bK (k+1) A) (C:ß) (us:List Ç) (kw:List (Str×Ç)):bK k (A.under (.builtin "type.__call__" ⟨.ref C::us,kw⟩)) :=
 ⟨r.hd,by have:=r.dp;rw[RR];omega,by have:=r.un;rw[RS];omega,by first|exact r.gd | (simp[Around.under,Code.isGuard,guardIds];exact r.gd)⟩
theorem bK.depth (r:bK k A):A.depth<recursionLimit:=by have:=r.dp;omega
def EW:TA:=λ_ H Q=>Q [] H
def aag (ta:TE) (tr:TA):TA:=fun σ H Q=>ta σ H λx Z=>tr σ Z λY X=>Q (x::Y) X
section
variable {X:Cx} {e:ě} {es:List ě} {te:TE} {t:TA} {pos:Pos}
def l8:PA X [] EW:=λ_ _ _ _ H Q I h=>Calls.spliced_nil ⟨[],H,I,.nil,h⟩
def kP (ha:PE X e te) (hr:PA X es t) (hs:Í (e::es) X.env=(ύ,ķ e X.env)::Í es X.env:=by rfl):PA X (e::es) (aag te t):=by
 intro pos Z s σ H Q I h;rw[hs];show á _ _ (spliced ((ύ,ķ e X.env)::ī pos (Í es X.env))) _ _ s;refine adx (aO (ha Z s σ H _ I h) λu Y ⟨x,W,V,U,T⟩=>?_);exact aO (hr pos Z Y σ W _ V T) λM L ⟨S,R,P,O,N⟩=>⟨x::S,R,P,.cons U O,N⟩
def abN (t:TA):TE:=fun σ H Q=>t σ H λZ Y=>Z.length<=Õ/\∀p,Y p=ϋ->Q (.ref p) (upd Y p (.tup Z))
def abO (t:TA):TE:=fun σ H Q=>t σ H λZ Y=>Z.length<=Õ/\∀p,Y p=ϋ->Q (.ref p) (upd Y p (.lst Z))
def Ys {x1} (h:PA X es t):PE X (.Tuple es x1 pos) (abN t):=by
 intro V s σ H Q I U;refine wpAny_Tuple_spliced (aO (h pos V s σ H _ I U) λT Z ⟨S,Y,W,r,z,q⟩=>⟨by rw[<- r.length];exact z,?_⟩);have R:Y Z.heap.objs.size=ϋ:=W.aI.fresh (aeD _);refine⟨.ref Z.heap.objs.size,upd Y Z.heap.objs.size (.tup S),W.laid (t':=Z.toks) (λb u e=>Á _ e) (aeD _) ?_,rfl,q _ R⟩;exact⟨z,T,r,⟨_,Î _ rfl,rfl,_,rfl⟩⟩
def Mu (h:PA X es t):PE X (.List es pos) (abO t):=by
 intro V s σ H Q I U;refine wpAny_List_spliced (aO (h pos V s σ H _ I U) λT Z ⟨S,Y,W,r,z,q⟩=>⟨by rw[<- r.length];exact z,?_⟩);have R:Y Z.heap.objs.size=ϋ:=W.aI.fresh (aeD _);refine⟨.ref Z.heap.objs.size,upd Y Z.heap.objs.size (.lst S),W.laid (t':=Z.toks) (λb u e=>Á _ e) (aeD _) ?_,rfl,q _ R⟩;exact⟨z,T,0,r,Î _ rfl⟩
end
abbrev Sp:=List V->Hp->VK->XK->Prop
abbrev jT:=List Env->Hp->Â->XK->Ç->Â->Prop
structure nL (P:å) (w:Ą) (K:đ) (mg:Str->Option Ç) (base:ĺ) (A:í) (outer:List Env) (s:Â) (H:Hp):Prop where
 frames:A.frames=ϊ outer
 mod:Mod K mg base
 bs:∀b o,base.get? b=ϊ o->s.heap.get? b=ϊ o/\H b=ϋ
 iW:base.objs.size<=s.heap.objs.size
 iS:s.heap.FunFrames base outer
 lJ:∀b∈cK outer,H b=ϋ
 aI:cM P w H s.heap
 bare:aeu s.gens
def CE (outer:List Env) (P:å) (w:Ą) (H:Hp) (s:Â) (Q:VK) (u:Ç) (s':Â):Prop :=
 ∃v Z,s'.os=s.os/\aeu s'.gens/\Un (cK outer) [] H Z s.heap s'.heap/\cM P w Z s'.heap/\RelV v u/\Q v Z
def CR (CX:jT) (outer:List Env) (P:å) (w:Ą) (H:Hp) (s:Â) (Q:VK) (E:XK) (r:Result) (s':Â):Prop :=
 match r with
 | .ok (.ret u)=>CE outer P w H s Q u s'
 | .ok _=>False
 | .error e=>CX outer H s E e s'
structure cV (P:å) (w:Ą) (K:đ) (mg:Str->Option Ç) (base:ĺ) (CX:jT) (k:Nat) (f:ß) (fd:Ĩ) (ps:List Str) (sp:Sp):Prop where
 len:∀vs H Q E,sp vs H Q E->vs.length=ps.length
 run:∀(A:í) (outer:List Env) (s:Â) (H:Hp) (args:Args) (us:List Ç) (vs:List V) (Q:VK) (E:XK),bK k A->nL P w K mg base A outer s H->BindsTo s fd args (ps.zip us)->Vals vs us->sp vs H Q E ->
  ż (é P w) A (.call (.ref f) args) (CR CX outer P w H s Q E) s
def cV.imp {P:å} {w:Ą} {K:đ} {mg:Str->Option Ç} {base:ĺ} {CX:jT} {k:Nat} {f:ß} {fd:Ĩ} {ps:List Str} {sp Pd:Sp} (F:cV P w K mg base CX k f fd ps sp)
  (h:∀vs H Q E,Pd vs H Q E->sp vs H Q E):cV P w K mg base CX k f fd ps Pd :=
 ⟨λvs H Q E q=>F.len vs H Q E (h _ _ _ _ q),λA outer s H args Z vs Q E Y X W V U=>F.run A outer s H args Z vs Q E Y X W V (h _ _ _ _ U)⟩
def nL.make {P:å} {w:Ą} {K:đ} {mg:Str->Option Ç} {base:ĺ} {A:í} {outer:List Env} {s:Â} {H:Hp} (e:nL P w K mg base A outer s H) (C:ß) (us:List Ç) (kw:List (Str×Ç)) :
  nL P w K mg base (A.under (.builtin "type.__call__" ⟨.ref C::us,kw⟩)) outer s H:=⟨by first|exact e.frames | (simpa [Around.under,Code.envs,Code.isFrame,pushEnvs] using e.frames),e.mod,e.bs,e.iW,e.iS,e.lJ,e.aI,e.bare⟩
section
variable {X:Cx} {π:List (ß×Obj)} {σ:St} {H:Hp} {s s':Â}
def Inv.kq (I:Inv X π σ H s):nL X.prog X.w X.K X.mg X.base X.A X.stack s H :=
 ⟨I.ok.frames,I.ok.mod,I.bs,Ý I.ok.iW I.sz,I.stack,I.vN,I.aI,I.bare⟩
def Inv.after (I:Inv X π σ H s) (h:CE X.stack X.prog X.w H s Q u s'):EP X π σ Q u s':=by
 obtain⟨v,Z,os,bare,un,Y,r,q⟩:=h;obtain⟨W,g,d,t,V⟩:=s';obtain rfl:V=s.os:=os;exact⟨v,Z,I.call (h':=W) (g':=g) (d':=d) (t':=t) (ch:=[]) un Y bare (λb z=>absurd z ∅),r,q⟩
end
def Ny (sp:Sp) (ak:List V) (E:XK) (t:TA):TE:=fun σ H Q=>t σ H λZ Y=>sp (Z++ak) Y Q E
def zT (C:ß) (m:Str) (sp:Sp) (ak:List V) (E:XK) (ta:TE) (t:TA):TE:=fun σ H Q=>ta σ H λx Z=>∃a Y fs,x=.ref a/\Z a=ϊ (.ins C Y fs)/\fs.lookup m=ϋ /\
 t σ Z λX W=>sp (x::(X++ak)) W Q E
def aah (C:ß) (sp:Sp) (ak:List V) (E:XK) (t:TA):TE:=fun σ H Q=>t σ H λX Y=>∀x Z,Y x=ϋ->Y Z=ϋ->Z≠x ->
 sp (.ref x::(X++ak)) (upd (upd Y Z (.own x)) x (.ins C Z [])) (λv W=>v=.au/\Q (.ref x) W) E
def Binds (K:đ) (fd:Ĩ) (ps:List Str) (ds:List Ç):Prop :=
 ∀(s:Â) (Z:List Ç),K.In s.heap->(Z++ds).length=ps.length->BindsTo s fd ⟨Z,[]⟩ (ps.zip (Z++ds))
def Binds.all {K:đ} {fd:Ĩ} {ps:List Str} (h:∀us:List Ç,us.length=ps.length->bindArgs fd ⟨us,[]⟩=pure (ps.zip us)):Binds K fd ps []:=λs us _ Z=>by
 rw[ĥ] at Z |-;exact .of_eq (h us Z)
def Passes (CX:jT) (X:Cx) (E:XK):Prop:=∀(Y:List (ß×Obj)) (σ:St) (H:Hp) (s:Â) (e:Ç) (Z:Â),Inv X Y σ H s->CX X.stack H s E e Z->X.xe e Z
section
variable {X:Cx} {CX:jT} {k:Nat} {f C:ß} {fd:Ĩ} {ps:List Str} {sp:Sp} {ak:List V} {ds:List Ç} {E:XK} {x m:Str} {p pos apos:Pos} {e o:ě} {es:List ě} {ta:TE} {t:TA}
def Dc {π:List (ß×Obj)} {σ:St} {H:Hp} {s:Â} {Q:VK} {us:List Ç} {vs:List V} (F:cV X.prog X.w X.K X.mg X.base CX k f fd ps sp) (hr:bK k X.A) (hb:Binds X.K fd ps ds) (hd:Vals ak ds) (hx:Passes CX X E)
  (I:Inv X π σ H s) (r:Vals vs us) (h:sp (vs++ak) H Q E):á (é X.prog X.w) X.A (call (.ref f) us) (EP X π σ Q) X.xe s:=by
 have Y:Vals (vs++ak) (us++ds):=r.append hd;have W:(us++ds).length=ps.length:=by rw[<- Y.length];exact F.len _ _ _ _ h
 refine adn (Ŋ (F.run X.A X.stack s H ⟨us,[]⟩ (us++ds) (vs++ak) Q E hr I.kq (hb s us I.fy W) Y h) λr U Z=>?_)
 cases r with
 |error e=>exact hx π σ H s e U I Z
 |ok T =>
  cases T with
  |ret u=>exact I.after Z
  |next=>exact č Z
  |brk=>exact č Z
  |cont=>exact č Z
def Lp (F:cV X.prog X.w X.K X.mg X.base CX k f fd ps sp) (hr:bK k X.A) (hg:Gl X x) (hm:X.mg x=ϊ (.ref f)) (hk:ő X.K (.ref f)=ό) (hb:Binds X.K fd ps ds) (hd:Vals ak ds) (hx:Passes CX X E)
  (ha:PA X (e::es) t) (dQ:(x==("__debug__":Str))=ύ:=by decide) (he:Í (e::es) X.env=(ύ,ķ e X.env)::Í es X.env:=by rfl) (bN:(ī pos (Í es X.env)).any (·.1)=ύ:=by rfl) :
  PE X (.Call (.Name x p) (e::es) [] pos) (Ny sp ak E t):=by
 intro Y s σ H Q I h;refine ũ (qb I hg hm ?_ dQ);refine ady (h₀:=X.base) I.ok.mod.kC hk (aO (ha pos Y s σ H _ I h) λW V ⟨U,T,Z,r,q⟩=>⟨Z.fy,?_⟩) he bN;exact Dc F hr hb hd hx Z r q
def Lq {pl:Sem Bool} (he:PE X o ta) (c:kF X.K C) (hm:Meth X.K C m f) (F:cV X.prog X.w X.K X.mg X.base CX k f fd ps sp) (hr:bK k X.A) (hb:Binds X.K fd ps ds) (hd:Vals ak ds) (hx:Passes CX X E) (ha:PA X (e::es) t)
  (jS:Í (e::es) X.env=(ύ,ķ e X.env)::Í es X.env:=by rfl) (bN:(ī pos (Í es X.env)).any (·.1)=ύ:=by rfl)
  (ht:ķ (.Call (.Attribute o m apos) (e::es) [] pos) X.env=(do
   let ov <- ķ o X.env
   adh apos.atName
   let (f,first) <- acY [ov] (aeq ov m pl)
   callWith pos f first (ī pos (Í (e::es) X.env)) (ada pos (Ŗ [] X.env))):=by rfl) :
  PE X (.Call (.Attribute o m apos) (e::es) [] pos) (zT C m sp ak E ta t):=by
 intro Z s σ H Q I h;refine PySem.W.methodCall_KW (pl:=pl) (aO (he Z s σ H _ I h) λu U ⟨x,T,Y,S,a,O,fs,ex,R,l,q⟩=>?_) ht;subst ex;obtain rfl:u=Ō a:=S;refine Jz Y R c hm l ?_
 refine ady (first:=[.ref a]) (h₀:=X.base) I.ok.mod.kC hm.kp (aO (ha pos Z U σ T _ Y q) λus N ⟨vs,M,V,r,P⟩=>⟨V.fy,?_⟩) jS bN
 exact Dc (us:=.ref a::us) (vs:=.ref a::vs) F hr hb hd hx V (.cons rfl r) P
def UH (he:PE X o ta) (c:kF X.K C) (hm:Meth X.K C m f) (F:cV X.prog X.w X.K X.mg X.base CX k f fd ps sp) (hr:bK k X.A) (hb:Binds X.K fd ps ds) (hd:Vals ak ds) (hx:Passes CX X E)
 (ht:ķ (.Call (.Attribute o m apos) [] [] pos) X.env=(do
   let ov <- ķ o X.env
   adh apos.atName
   let (f,first) <- acY [ov] (aeq ov m pl)
   callWith pos f first (ī pos (Í [] X.env)) (ada pos (Ŗ [] X.env))):=by rfl) :
  PE X (.Call (.Attribute o m apos) [] [] pos) (zT C m sp ak E ta EW):=by
 intro Y s σ H Q I h;refine PySem.W.methodCall_KW (pl:=pl) (aO (he Y s σ H _ I h) λu T ⟨x,S,Z,V,a,R,fs,ex,U,l,q⟩=>?_) ht;subst ex;obtain rfl:u=Ō a:=V;refine Jz Z U c hm l ?_
 exact PySem.W.callWith_K0 (first:=[.ref a]) Z.fy hm.kp (Dc (us:=[.ref a]) (vs:=[.ref a]) F hr hb hd hx Z (.cons rfl .nil) q)
structure Mk (K:đ) (C f:ß):Prop where
 makes:PySem.W.makesIn K C=ό
 init:ř K (.ref C) "__init__"=ϊ (ϊ (.ref f))
 fn:PySem.W.isFn K (.ref f)=ό
 kp:ő K (.ref C)=ό
def UI {π:List (ß×Obj)} {σ:St} {H:Hp} {s:Â} {Q:VK} {us:List Ç} {vs:List V} (M:Mk X.K C f) (F:cV X.prog X.w X.K X.mg X.base CX k f fd ps sp) (hr:bK (k+1) X.A) (hb:Binds X.K fd ps ds) (hd:Vals ak ds)
  (hx:Passes CX X E) (I:Inv X π σ H s) (r:Vals vs us)
  (h:∀x dx,H x=ϋ->H dx=ϋ->dx≠x->sp (.ref x::(vs++ak)) (upd (upd H dx (.own x)) x (.ins C dx [])) (λv H2=>v=.au/\Q (.ref x) H2) E) :
  á (é X.prog X.w) X.A (call (.ref C) us) (EP X π σ Q) X.xe s:=by
 have W:=h (s.heap.objs.size+1) s.heap.objs.size (I.aI.fresh (adj _)) (I.aI.fresh (aeD _)) (ã (ŕ _));have Y:=Inv.made (C:=C) I;have U:Vals (V.ref (s.heap.objs.size+1)::(vs++ak)) (Ō (s.heap.objs.size+1)::(us++ds)):=.cons rfl (r.append hd);have T:(Ō (s.heap.objs.size+1)::us++ds).length=ps.length:=by
  have e:=U.length;rw[F.len _ _ _ _ W] at e;exact e.symm
 refine adn (UG (f:=f) I.fy M.makes M.init (beq_iff_eq.mp M.fn) (Ŋ (F.run _ X.stack _ _ ⟨Ō (s.heap.objs.size+1)::us,[]⟩ (Ō (s.heap.objs.size+1)::(us++ds)) _ _ E (hr.make C us [])
  (Y.kq.make C us []) (hb _ (Ō (s.heap.objs.size+1)::us) Y.fy T) U W) λr S Z=>?_))
 cases r with
 |error e=>exact hx π σ _ _ e S Y Z
 |ok R =>
  cases R with
  |ret u =>
   obtain⟨v,P,O,N,ev,L⟩:=Y.after Z;subst ev;exact⟨N,⟨V.ref (s.heap.objs.size+1),P,O,rfl,L⟩⟩
  |next=>exact č Z
  |brk=>exact č Z
  |cont=>exact č Z
def UJ (M:Mk X.K C f) (F:cV X.prog X.w X.K X.mg X.base CX k f fd ps sp) (hr:bK (k+1) X.A) (hg:Gl X x) (hm:X.mg x=ϊ (.ref C)) (hb:Binds X.K fd ps ds) (hd:Vals ak ds) (hx:Passes CX X E)
  (dQ:(x==("__debug__":Str))=ύ:=by decide):PE X (.Call (.Name x p) [] [] pos) (aah C sp ak E EW):=by
 intro Z s σ H Q I h;refine ũ (qb I hg hm ?_ dQ);exact PySem.W.callWith_K0 I.fy M.kp (UI (us:=[]) M F hr hb hd hx I .nil h)
end
structure sC (N P:List Str) (sc:acR):Prop where
 kind:sc.kind=.function
 co:sc.isCoroutine=ύ
 gen:sc.isGenerator=ύ
 nd:N.Nodup
 pre:N.take P.length=P
 par:∀x∈P,sc.names.lookup x=ϊ .local\/sc.names.lookup x=ϊ .cell
 Yt:∀y∈sc.names,y.2≠.free
theorem JW {kindOf:Str->Option Ű} {x:Str}:∀{binds:List (Str×Ç)} {m:Str->Option Ç},(∀v,(x,v)∉binds)->bindL kindOf binds m x=m x
 | [],_,_=>rfl
 |(n,v)::r,m,h=>by
  delta bindL;rw[JW λw hw=>h w (Ï _ hw)];split
  ·have:x≠n:=by rintro rfl;exact h v Þ
   simp[this]
  ·rfl
theorem JX {kindOf:Str->Option Ű} {x:Str}:∀{binds:List (Str×Ç)} {m:Str->Option Ç},(∀v,(x,v)∉binds)->bindC kindOf binds m x=m x
 | [],_,_=>rfl
 |(n,v)::r,m,h=>by
  delta bindC;rw[JX λw hw=>h w (Ï _ hw)];split
  ·rfl
  ·have:x≠n:=by rintro rfl;exact h v Þ
   simp[this]
theorem JY {kindOf:Str->Option Ű} {x:Str} {v:Ç}:∀{P:List Str} {vs:List Ç} {i:Nat} {m:Str->Option Ç},P.Nodup->P[i]?=ϊ x->vs[i]?=ϊ v->kindOf x=ϊ .local ->
  bindL kindOf (P.zip vs) m x=ϊ v
 | [],_,_,_,_,h,_,_=>by simp at h
 |_::_,[],_,_,_,_,h,_=>by simp at h
 |p::P,w::vs,0,m,X,Z,Y,W=>by
  simp at Z Y;subst Z;subst Y;show bindL kindOf ((p,w)::P.zip vs) m p=_;delta bindL;rw[JW λv V=>(ψ.mp X).1 (aeb V).1,Ñ W];simp
 |p::P,w::vs,i+1,m,X,Z,Y,W=>by
  show bindL kindOf ((p,w)::P.zip vs) m x=_;delta bindL;exact JY (i:=i) (ψ.mp X).2 (by simpa using Z) (by simpa using Y) W
theorem JZ {kindOf:Str->Option Ű} {x:Str} {v:Ç}:∀{P:List Str} {vs:List Ç} {i:Nat} {m:Str->Option Ç},P.Nodup->P[i]?=ϊ x->vs[i]?=ϊ v->kindOf x≠ϊ .local ->
  bindC kindOf (P.zip vs) m x=ϊ v
 | [],_,_,_,_,h,_,_=>by simp at h
 |_::_,[],_,_,_,_,h,_=>by simp at h
 |p::P,w::vs,0,m,X,Z,Y,W=>by
  simp at Z Y;subst Z;subst Y;show bindC kindOf ((p,w)::P.zip vs) m p=_;delta bindC;rw[JX λv V=>(ψ.mp X).1 (aeb V).1,Ú W];simp
 |p::P,w::vs,i+1,m,X,Z,Y,W=>by
  show bindC kindOf ((p,w)::P.zip vs) m x=_;delta bindC;exact JZ (i:=i) (ψ.mp X).2 (by simpa using Z) (by simpa using Y) W
def start (N:List Str) (vs:List V):St:=vs.map ϊ++Ö (N.length-vs.length) ϋ
def ia (CX:jT) (P:å) (w:Ą) (K:đ) (mg:Str->Option Ç) (base:ĺ) (N:List Str) (qual:Str) (scope:acR) (f:ß) (cd:Ç) (A:í) (outer:List Env) (s:Â) (H:Hp) (E:XK):Cx where
 prog:=P
 w:=w
 K:=K
 mg:=mg
 base:=base
 A:=A.deeper (aey qual scope s.heap.objs.size f cd)
 N:=N
 c9:=s
 mr:=H
 env:=aey qual scope s.heap.objs.size f cd
 outer:=outer
 stack:=aey qual scope s.heap.objs.size f cd::outer
 ex:=[]
 calm:=ό
 fn:=λ_=>ό
 pn:=[]
 xe:=λe Y=>á (é P w) (A.deeper (aey qual scope s.heap.objs.size f cd)) (leaving (aey qual scope s.heap.objs.size f cd) e) (λ_ Z=>CX outer H s E e Z) (λX Z=>CX outer H s E X Z) Y
def Kw {sc:acR} {n:Nat} {x:Str} (h:sc.names.lookup x=ϊ .cell):∃c,(ac2 n sc.names []).lookup x=ϊ c:=by
 have q:=μ sc.names n [] (.inl h);exact ado.mp q
def J0 {CX:jT} {P:å} {w:Ą} {K:đ} {mg:Str->Option Ç} {base:ĺ} {N ps:List Str} {qual:Str} {scope:acR} {f:ß} {cd:Ç} {A:í} {outer:List Env} {s s1:Â} {H:Hp} {E:XK} {us:List Ç} {vs:List V}
  (S:sC N ps scope) (hd:A.handled=ϋ) (e0:nL P w K mg base A outer s H) (hl:vs.length=ps.length) (r:Vals vs us)
  (x:InCallC s s.heap.objs.size (bindL (aey qual scope s.heap.objs.size f cd).kindOf (ps.zip us) λ_=>ϋ) (ac2 (s.heap.objs.size+1) scope.names []) (bindC (aey qual scope s.heap.objs.size f cd).kindOf (ps.zip us) λ_=>ϋ) s1) :
  Inv (ia CX P w K mg base N qual scope f cd A outer s H E) [] (start N vs) H s1:=by
 have L:ps.length<=N.length:=by have:=Ń List.length S.pre;rw[ad4] at this;omega
 obtain⟨X,J,rfl,T⟩:=x.done;have U:∀b:ß,b∉(ia CX P w K mg base N qual scope f cd A outer s H E).ex:=λb z=>absurd (show b∈([]:List ß) from z) ∅;refine⟨⟨e0.mod,S.kind,rfl,rfl,aeD _,λy z c X Z=>?_,λy hy=>?_,λy c _ h=>?_,λ_=>hd,Around.frames_deeper e0.frames,.inr ⟨rfl,rfl⟩,λb z=>absurd z (U b),e0.bs,e0.iW,λb _ _=>U b,λb z=>absurd z (U b),e0.iS,e0.lJ⟩,
  rfl,e0.bare,Un.kept T,⟨_,x.toInCall.ns,λi y v X Z I=>?_⟩,λy c h=>⟨_,x.cell y c h⟩,e0.aI.fresh (aeD _),λy c h=>?_,λp Y=>absurd (show p∈([]:List (ß×Obj)) from Y) ∅,e0.aI.kept T,?_⟩
 ·exact name_of_addr x.apart (Ľ X) (Ľ Z)
 ·have hy:scope.names.lookup y=ϊ .cell\/scope.names.lookup y=ϊ .free:=hy
  rcases hy with hy|hy
  ·exact Kw hy
  ·exact absurd rfl (S.Yt _ (Ľ hy))
 ·exact Nat.le_of_lt (x.above y c (Ľ h))
 ·have W:i<vs.length:=by
   delta start at Z;by_cases W:i<vs.length
   ·exact W
   ·rw[ð (by simpa using W)] at Z
    rw[ı] at Z
    split at Z<;>cases Z
  have O:vs[i]?=ϊ v:=by
   delta start at Z;rw[ç (by simpa using W),ê] at Z
   cases e:vs[i]? with
   |none=>rw[e] at Z;cases Z
   |some a=>rw[e] at Z;cases Z;rfl
  obtain⟨u,R,M⟩:=r.get O;have Y:ps[i]?=ϊ y:=by
   rw[<- S.pre,List.getElem?_take_of_lt ⋯];exact X
  have Q:ps.Nodup:=by rw[<- S.pre];exact S.nd.sublist (List.take_sublist _ _)
  refine⟨u,M,?_⟩
  rcases S.par y (ű Y) with k|k
  ·exact .inl ⟨k,JY Q Y R k⟩
  ·obtain⟨c,e⟩:=Kw (n:=s.heap.objs.size+1) k
   refine .inr ⟨.inl k,c,e,?_⟩;have q:=x.cell y c e;rw[JZ Q Y R (by show scope.names.lookup y≠_;rw[k];decide)] at q;exact q
 ·exact e0.aI.fresh (Nat.le_of_lt (x.above y c (Ľ h)))
 ·delta start
  show _=N.length;rw[ä,É,ω];omega
def zU {CX:jT} {P:å} {w:Ą} {K:đ} {mg:Str->Option Ç} {base:ĺ} {k:Nat} {f:ß} {name qual:Str} {params:aer} {body:List ad2} {scope:acR} {dV kV doc pm aY ct oc:Ç} {an od:Option ß}
  {js:Array (Option Ç)} {N ps:List Str} {sp:Sp} (lk:K.lookup f=ϊ ⟨oc,od,.func (Ś name qual params body scope dV kV doc pm an aY ct),js⟩) (eh:ac3 K aY qual=ό) (S:sC N ps scope)
  (len:∀vs H Q E,sp vs H Q E->vs.length=ps.length)
  (k9:∀(A:í) (outer:List Env) (s:Â) (H:Hp) (vs:List V) (Q:VK) (E:XK),bK k (A.deeper (aey qual scope s.heap.objs.size f aY))->sp vs H Q E ->
   ∃t,dg (ia CX P w K mg base N qual scope f aY A outer s H E) body t/\t { nx:=λ_ H'=>Q .au H',rt:=Q } (start N vs) H) :
  cV P w K mg base CX (k+1) f (Ś name qual params body scope dV kV doc pm an aY ct) ps sp:=by
 refine⟨len,λA outer s H args F vs Q E U Y D r M=>?_⟩;have C:=len _ _ _ _ M;have L:K.In s.heap:=Y.mod.kC.keeps λb o e=>(Y.bs b o e).1;have lim:s.heap.NoLimit:=Y.mod.nolimit.keeps λb o e=>(Y.bs b o e).1;have T:∀y∈ps.zip F,scope.names.lookup y.1=ϊ .local\/(scope.names.lookup y.1=ϊ .cell/\((ac2 (s.heap.objs.size+1) scope.names []).lookup y.1).isSome=ό):=λ⟨n,v⟩ B=>by
  rcases S.par n (aeb B).1 with q|q
  ·exact .inl q
  ·exact .inr ⟨q,μ _ _ _ (.inl q)⟩
 refine codeAny_call_function U.depth (L _ _ lk) rfl S.co S.gen rfl (PySem.W.codeRec_of L eh) (D _ _ _ _ ?_);refine wpAny_newFunctionEnv_cells S.kind T λenv z G x=>?_;subst z;refine⟨lim.keeps x.toInCall.keep,codeAny_func ?_⟩;obtain⟨t,p,m⟩:=k9 A outer s H vs Q E (U.deeper _) M;have I:Inv (ia CX P w K mg base N qual scope f aY A outer s H E) [] (start N vs) H G:=J0 S U.hd Y C r x;refine ė (p [] G (start N vs) H _ I m) (λl R Z=>?_) λe R Z=>Z;have fin:∀{X:St} {H':Hp} {v:V} {u:Ç},Inv (ia CX P w K mg base N qual scope f aY A outer s H E) [] X H' R->RelV v u->Q v H'->CE outer P w H s Q u R :=
  λ{X H' v u} J O q=>⟨v,H',J.os,J.bare,J.base,J.aI,O,q⟩
 cases l with
 |ret u =>
  obtain⟨v,X,H',J,O,q⟩:=Z;exact fin J O q
 |next =>
  obtain⟨X,H',J,q⟩:=Z;exact fin (v:=V.au) (u:=Value.none) J rfl q
 |brk =>
  obtain⟨_,_,_,q⟩:=Z;exact č q
 |cont =>
  obtain⟨_,_,_,q⟩:=Z;exact č q
section
variable {X:Cx} {x:Str} {p pos:Pos} {e:ě} {es:List ě} {t:TA} {id T:String} {r:List V->Hp->VK->Prop}
def FD (r:List V->Hp->VK->Prop) (t:TA):TE:=fun σ H Q=>t σ H λZ Y=>r Z Y Q
def BV (hc:cT X (.builtin id) r) (hg:Gl X x) (hm:X.mg x=ϋ) (hv:ü x=ϊ (.builtin id)) (ha:PA X (e::es) t) (hn:x≠"__name__":=by decide) (dQ:(x==("__debug__":Str))=ύ:=by decide)
  (he:Í (e::es) X.env=(ύ,ķ e X.env)::Í es X.env:=by rfl) (bN:(ī pos (Í es X.env)).any (·.1)=ύ:=by rfl):PE X (.Call (.Name x p) (e::es) [] pos) (FD r t):=by
 intro Z s σ H Q I h;refine ũ (qh I hg hm hv ?_ hn dQ);exact PyProof.Rows.callWith_builtin1 (aO (ha pos Z s σ H _ I h) λY W ⟨V,U,T,S,R⟩=>hc Z W σ U V Y Q T S R) he bN
def BG (hc:cT X (.type T) r) (hg:Gl X x) (hm:X.mg x=ϋ) (hv:ü x=ϊ (.type T)) (ha:PA X (e::es) t) (hn:x≠"__name__":=by decide) (dQ:(x==("__debug__":Str))=ύ:=by decide)
  (he:Í (e::es) X.env=(ύ,ķ e X.env)::Í es X.env:=by rfl) (bN:(ī pos (Í es X.env)).any (·.1)=ύ:=by rfl):PE X (.Call (.Name x p) (e::es) [] pos) (FD r t):=by
 intro Z s σ H Q I h;refine ũ (qh I hg hm hv ?_ hn dQ);exact Ņ (aO (ha pos Z s σ H _ I h) λY W ⟨V,U,S,R,P⟩=>hc Z W σ U V Y Q S R P) he bN
end
end L2
namespace HT
open PySem PyProof.Rows
def lexLt:List Int->List Int->Bool
 | [],[]=>ύ
 | [],_::_=>ό
 |_::_,[]=>ύ
 |x::Z,y::Y=>if x=y then lexLt Z Y else ώ (x<y)
def j0 (x y:Int) (xs ys:List Int):lexLt (x::xs) (y::ys)=if x=y then lexLt xs ys else ώ (x<y):=rfl
def Kx (A:í) (s:Â) (a:Int) (t:Tok) (c:Int) (u:Tok) (prog:å) (w:Ą) (E:Ç->Â->Prop) (Q:Ç->Â->Prop) (h:Q (.bool (ώ (a<c))) s) :
  á (é prog w) A (richCompare .Lt (.int a t) (.int c u)) Q E s :=
 (PyProof.Rows.lt_int h:á (é prog w) A (ĕ .Lt (.int a t) (.int c u)) Q E s)
section
variable {prog:å} {w:Ą} {A:í} {E:Ç->Â->Prop} {s:Â}
def Wz (ht:IsTup s.heap t vs.toArray) (hb:IsTup s.heap b ws.toArray) (hv:vs≠[])
 (h1:ws=[]->Q (.ref t) s) (h2:ws≠[]->Q (.ref s.heap.objs.size) { s with heap:=s.heap.push { cls:=.type "tuple",data:=.seq (vs++ws).toArray } })
 (hsz:vs.length+ws.length<=Õ):á (é prog w) A (ņ .Add (.ref t) (.ref b)) Q E s:=by
 obtain⟨⟨cls,X,data,sl⟩,Z,W,n,V⟩:=id ht;obtain⟨⟨P,U,data2,T⟩,Y,S,R,hd2⟩:=id hb;simp only at W V S hd2;subst W V S hd2;have e:vs.toArray++ws.toArray=(vs++ws).toArray:=by simp
 by_cases hw:ws=[]
 ·exact concat_meets ⟨_,Z,rfl⟩ ⟨_,Y,rfl⟩ noFill_tuple_add seq_tuple_add adH adz (adp _ _)
   (tuple_addW1 t b vs.toArray ws.toArray n R X U sl T (by simpa using hv) (by simp[hw])) ⟨Z,Y,h1 hw⟩
 ·refine concat_meets ⟨_,Z,rfl⟩ ⟨_,Y,rfl⟩ noFill_tuple_add seq_tuple_add adH adz (adp _ _)
   (tuple_addW2 t b vs.toArray ws.toArray n R X U sl T (by simpa using hv) (by simpa using hw) (by rw[Ü,Ü];exact hsz)) ⟨Z,Y,?_⟩
  rw[e];exact h2 hw
def bp (n d:Nat):Option Int->Nat
 |none=>d
 |some v=>if v<0 then (v+(n:Int)).toNat else min v.toNat n
def Yu (n d:Nat) (hd:d<=n) (o:Option Int):bp n d o<=n:=by
 cases o with
 |none=>exact hd
 |some v =>
  show (if v<0 then (v+(n:Int)).toNat else min v.toNat n)<=n
  by_cases Z:v<0
  ·rw[Ñ Z];omega
  ·rw[Ú Z];exact Nat.min_le_right _ _
def Lr (v:Int) (n d:Nat):(if v<0 then max (v+(n:Int)) 0 else min v (n:Int))=((bp n d (ϊ v):Nat):Int):=by
 show (if v<0 then max (v+(n:Int)) 0 else min v (n:Int))=(((if v<0 then (v+(n:Int)).toNat else min v.toNat n):Nat):Int)
 by_cases Z:v<0
 ·erw[Ñ Z];omega
 ·erw[Ú Z];omega
def RT (lo hi:Option Int) (n:Nat):ac4 lo hi 1 (n:Int)=(((bp n 0 lo:Nat):Int),((bp n n hi:Nat):Int)):=by
 have Z:¬ ((1:Int)<0):=by omega
 delta ac4;erw[Z,ï];refine Prod.ext ?_ ?_
 ·cases lo with
  |none=>rfl
  |some v=>exact Lr v n 0
 ·cases hi with
  |none=>rfl
  |some v=>exact Lr v n n
def RU (i j:Nat):Ů (i:Int) (j:Int) 1=j-i:=by
 delta Ů;have Z:(1:Int) > 0:=by omega
 erw[Z,ò,Int.ediv_one]
 split<;>omega
def JA (p:IsPart v o) (h:Q o s):á (é prog w) A (Builtin.Slice.slicePartIndex v) Q E s:=by
 cases p with
 |none=>exact slicePart_none h
 |int i t=>exact slicePart_int h
def Iu {lo hi:Option Int} {n:Nat} {Q:Int×Int×Nat->Â->Prop} (hs:s.heap.IsSliceOf sl vl vu .none) (pl:IsPart vl lo) (pu:IsPart vu hi)
 (h:Q (((bp n 0 lo:Nat):Int),1,bp n n hi-bp n 0 lo) s):á (é prog w) A (aek (.ref sl) (pure (n:Int))) Q E s:=by
 obtain⟨os,Z,X,Y⟩:=id hs;delta aek Builtin.Slice.sliceFields;refine À (À (Į Z Y (x:=vl) rfl (À (Į Z Y (x:=vu) rfl (À (Į Z Y (x:=.none) rfl (Ã ?_)))))));refine À (slicePart_none ?_)
 show á _ _ (if ((1:Int)==0)=ό then _ else _) _ _ s
 rw[Ú (by decide)];refine À (JA pl (À (JA pu (À (Ã ?_)))))
 show á _ _ (match ac4 lo hi 1 (n:Int) with | (lo,hi)=>pure (lo,(1:Int),Ů lo hi 1)) _ _ s
 rw[RT lo hi n];show á _ _ (pure (((bp n 0 lo:Nat):Int),(1:Int),Ů ((bp n 0 lo:Nat):Int) ((bp n n hi:Nat):Int) 1)) _ _ s;rw[RU];exact Ã h
def UK (xs:Array Ç) (i k:Nat):((è k).filterMap λ(m:Nat)=>xs[((i:Int)+(m:Int)*1).toNat]?).toArray=((xs.toList.drop i).take k).toArray:=by
 have e:(λ(m:Nat)=>xs[((i:Int)+(m:Int)*1).toNat]?)=λm=>xs[i+m]?:=by
  funext m;have:((i:Int)+(m:Int)*1).toNat=i+m:=by omega
  rw[this]
 rw[e];have:=pick_run xs i k;rw[List.filterMap_map] at this;have e2:((λx=>xs[x]?) ∘ λx=>i+x)=λm=>xs[i+m]?:=rfl;rw[e2] at this;rw[this]
def Qa {lo hi:Option Int} {Q:Ç->Â->Prop} (ht:IsTup s.heap t items) (hs:s.heap.IsSliceOf sl vl vu .none) (pl:IsPart vl lo) (pu:IsPart vu hi)
 (hw:¬ (bp items.size 0 lo=0/\bp items.size items.size hi=items.size))
 (h:Q (.ref s.heap.objs.size) { s with heap:=s.heap.push { cls:=.type "tuple",data:=.seq ((items.toList.drop (bp items.size 0 lo)).take (bp items.size items.size hi-bp items.size 0 lo)).toArray } })
 (hsz:items.size<=Õ):á (é prog w) A (getItem (.ref t) (.ref sl)) Q E s:=by
 have Z:sizeOk (.seq ((items.toList.drop (bp items.size 0 lo)).take (bp items.size items.size hi-bp items.size 0 lo)).toArray):=by
  show ((items.toList.drop (bp items.size 0 lo)).take (bp items.size items.size hi-bp items.size 0 lo)).toArray.size<=Õ;rw[Ü,ad4,List.length_drop,ö];omega
 have U:bp items.size items.size hi<=items.size:=Yu _ _ (aeD _) hi;obtain⟨os,X,W,T⟩:=id hs;have V:s.TypeIs (.ref sl) "slice":=⟨os,X,W⟩;delta getItem
 try with_reducible refine ą ?_
 first|refine À (Ã ?_)|skip
 refine À (wpAny_sequenceKey ht.typeIs (by decide) ?_);refine À (ĉ (name:=Ĉ "__getitem__") ht.typeIs Ę
  (Ď Ę ht.typeIs entry_tuple_getitem ?_ (args_tuple_getitem _ _)))
 show á _ _ (acW (.ref t) >>= _) _ _ s;refine À (tupleItemsOf_ ht ?_);refine À (adq V ?_);rw[Ñ (by decide)];refine À (Iu hs pl pu ?_);have Y:¬ ((((bp items.size 0 lo:Nat):Int)==0&&(1:Int)==1&&(bp items.size items.size hi-bp items.size 0 lo)==items.size)=ό):=by
  intro q;rw[Å,Å] at q;have S:((bp items.size 0 lo:Nat):Int)=0:=eq_of_beq q.1.1;have R:bp items.size items.size hi-bp items.size 0 lo=items.size:=eq_of_beq q.2;exact hw ⟨by omega,by omega⟩
 show á _ _ (if (((bp items.size 0 lo:Nat):Int)==0&&(1:Int)==1&&(bp items.size items.size hi-bp items.size 0 lo)==items.size)=ό then _ else _) _ _ s
 rw[Ú Y,UK]
 first
  |exact À (m:=Ŕ _) (û (Ã ⟨_,rfl,Ã h⟩) Z)
  |exact À (m:=Ŕ _) (û (À (Ã (Ã ⟨_,rfl,Ã h⟩))) Z)
  |exact À (À (m:=Ŕ _) (û (Ã (Ã ⟨_,rfl,Ã h⟩)) Z))
  |exact À (À (m:=Ŕ _) (û (Ã ⟨_,rfl,Ã h⟩) Z))
end
end HT
namespace L2
open PySem PySem.Spec PyProof.Rows
abbrev TO:=St->Hp->(Option Int->Hp->Prop)->Prop
def PO (X:Cx) (e:Option ě) (t:TO):Prop :=
 ∀(Z:List (ß×Obj)) (s:Â) (σ:St) (H:Hp) (Q:Option Int->Hp->Prop),Inv X Z σ H s->t σ H Q ->
  á (é X.prog X.w) X.A (evalPart e X.env) (λu W=>∃o Y,Inv X Z σ Y W/\IsPart u o/\Q o Y) X.xe s
def WA:TO:=λ_ H Q=>Q ϋ H
def aaj (t:TE):TO:=fun σ H Q=>t σ H λx Z=>∃i,x=.int i/\Q (ϊ i) Z
def intsAre_of:∀{us:List Ç},Vals (ns.map V.int) us->aec us ns:=by
 induction ns with
 |nil=>intro us r;rw[ŋ] at r;cases r;exact .nil
 |cons n ns ih =>
  intro us r;rw[à] at r
  cases r with
  |cons Z Y =>
   obtain⟨t,e⟩:=Z;subst e;exact .cons n t (ih Y)
section
variable {X:Cx} {e:ě} {te:TE} {lo hi:Option ě} {tl th:TO} {pos p2:Pos}
def WB:PO X ϋ WA:=by
 intro Z s σ H Q I h;rw[evalPart_none];exact Ã ⟨ϋ,H,I,.none,h⟩
def WC (h:PE X e te):PO X (ϊ e) (aaj te):=by
 intro Z s σ H Q I hw;rw[evalPart_some];refine aO (h Z s σ H _ I hw) λu T ⟨x,Y,W,V,U⟩=>?_;obtain⟨i,rfl,q⟩:=U;obtain⟨t,rfl⟩:=V;exact⟨ϊ i,Y,W,.int i t,q⟩
def qZ (X:Cx) (r:V->Option Int->Option Int->Hp->VK->Prop):Prop :=
 ∀(Z:List (ß×Obj)) (s:Â) (σ:St) (H:Hp) (x:V) (v Y W:Ç) (lo hi:Option Int) (sl:ß) (Q:VK),Inv X Z σ H s->RelV x v->s.heap.IsSliceOf sl Y W .none->IsPart Y lo->IsPart W hi->r x lo hi H Q ->
  ∃T id,typeLookup (.type T) "__getitem__"=pure (ϊ (.builtin id))/\s.TypeIs v T/\á (é X.prog X.w) X.A (getItem v (.ref sl)) (EP X Z σ Q) X.xe s
def tSl (r:V->Option Int->Option Int->Hp->VK->Prop) (te:TE) (tl th:TO):TE:=fun σ H Q=>te σ H λx Z=>tl σ Z λl Y=>th σ Y λu X=>r x l u X Q
def Ky (hr:qZ X r) (he:PE X e te) (hl:PO X lo tl) (hu:PO X hi th):PE X (.Subscript e (.Slice lo hi ϋ p2) pos) (tSl r te tl th):=by
 intro Y s σ H Q I h;refine Subscript_ (aO (he Y s σ H _ I h) λv S ⟨x,R,P,O,N⟩=>?_);refine wpAny_Slice (aO (hl Y S σ R _ P N) λW M ⟨l,L,K,J,G⟩=>aO (hu Y M σ L _ K G) λV Z ⟨u,U,F,pu,E⟩=>?_);rw[evalPart_none];refine Ã ?_
 have D:Inv X Y σ U { Z with heap:=Z.heap.push { cls:=.type "slice",data:=.fields #[W,V,.none] } }:=F.kept (t':=Z.toks) λb y q=>Á _ q
 obtain⟨T,id,C,B,z⟩:=hr Y { Z with heap:=Z.heap.push { cls:=.type "slice",data:=.fields #[W,V,.none] } } σ U x v W V l u Z.heap.objs.size Q D O (Heap.IsSliceOf.new ..) J pu E
 show á (é X.prog X.w) X.A (subscriptTail e (.Slice lo hi ϋ p2) v (.ref Z.heap.objs.size)) (EP X Y σ Q) X.xe { Z with heap:=Z.heap.push { cls:=.type "slice",data:=.fields #[W,V,.none] } }
 exact tail_any (ops:=[.ref Z.heap.objs.size,v]) B C z (by with_unfolding_all rfl)
def lg (xs:List V) (lo hi:Option Int):List V:=(xs.drop (HT.bp xs.length 0 lo)).take (HT.bp xs.length xs.length hi-HT.bp xs.length 0 lo)
def Jg (xs:List V) (lo hi:Option Int):(lg xs lo hi).length<=xs.length:=by
 delta lg;rw[ad4,List.length_drop];omega
def abQ (K:đ):V->Option Int->Option Int->Hp->VK->Prop:=λx lo hi H Q=>∃a Z,x=.ref a/\bV K H a Z /\
 ¬ (HT.bp Z.length 0 lo=0/\HT.bp Z.length Z.length hi=Z.length)/\∀p,H p=ϋ->Q (.ref p) (upd H p (.tup (lg Z lo hi)))
def zu:qZ X (abQ X.K):=by
 intro P s σ H x v O N lo hi sl Q I U T S pu h;obtain⟨a,Y,rfl,R,hw,q⟩:=h;cases U;obtain⟨its,r,W,V⟩:=I.tuple R;have Z:its.toArray.size=Y.length:=by rw[Ü];exact r.length.symm
 refine⟨"tuple",_,Ę.lookup,W.typeIs,?_⟩;refine HT.Qa W T S pu (by rw[Z];exact hw) ?_ (by rw[Z];exact V);rw[Z];refine⟨.ref s.heap.objs.size,_,I.laid (t':=s.toks) (o:=.tup (lg Y lo hi)) (λb M q=>Á _ q) (aeD _) ?_,rfl,q _ (I.aI.fresh (aeD _))⟩;exact⟨Ý (Jg Y lo hi) V,_,(r.drop (HT.bp Y.length 0 lo)).take (HT.bp Y.length Y.length hi-HT.bp Y.length 0 lo),IsTup.new _ _⟩
def aak (K:đ):R2:=λx y H Q=>∃a b Y Z,x=.ref a/\y=.ref b/\bV K H a Y/\bV K H b Z/\Y≠[]/\Y.length+Z.length<=Õ /\
 (Z=[]->Q (.ref a) H)/\(Z≠[]->∀p,H p=ϋ->Q (.ref p) (upd H p (.tup (Y++Z))))
def Vals.Ct (r:Vals xs us):us=[]↔xs=[]:=by
 cases r with
 |nil=>simp
 |cons _ _=>simp
def WD:bM X (ņ .Add) (aak X.K):=by
 intro J s σ H x y v u Q I V U h;obtain⟨a,b,T,S,rfl,rfl,R,P,O,W,N,M⟩:=h;cases V;cases U;obtain⟨its,Y,L,_⟩:=I.tuple R;obtain⟨G,Z,p2,_⟩:=I.tuple P;refine HT.Wz L p2 (λz=>O (Y.Ct.mp z)) (λz=>⟨.ref a,H,I,rfl,N (Z.Ct.mp z)⟩) (λz=>?_) (by rw[<- Y.length,<- Z.length];exact W);refine⟨.ref s.heap.objs.size,_,I.laid (t':=s.toks) (o:=.tup (T++S)) (λb F q=>Á _ q) (aeD _) ?_,rfl,M (λw=>z (Z.Ct.mpr w)) _ (I.aI.fresh (aeD _))⟩;exact⟨by rw[ä];exact W,_,Y.append Z,IsTup.new _ _⟩
end
def gG (n:Nat) (i:Int):Option Nat:=if 0<=i then (if i<n then ϊ i.toNat else ϋ) else if -(n:Int)<=i then ϊ (i+n).toNat else ϋ
def cW {α:Type} (xs:List α) (i:Int):Option α:=(gG xs.length i).bind λj=>xs[j]?
def Ls (h:gG n i=ϊ j):seqIndex? i n=ϊ j/\j<n/\-(n:Int)<=i/\i<n:=by
 delta gG at h;by_cases Y:0<=i
 ·rw[Ñ Y] at h
  by_cases Z:i<n
  ·rw[Ñ Z] at h
   have e:i.toNat=j:=aeE h;exact⟨by rw[seqIndex_of Y Z,e],by omega,by omega,Z⟩
  ·rw[Ú Z] at h;cases h
 ·rw[Ú Y] at h
  by_cases Z:-(n:Int)<=i
  ·rw[Ñ Z] at h
   have e:(i+n).toNat=j:=aeE h;exact⟨by rw[seqIndex_neg ⋯ Z,e],by omega,Z,by omega⟩
  ·rw[Ú Z] at h;cases h
def Cu {α:Type} {xs:List α} {i:Int} {v:α} (h:cW xs i=ϊ v):∃j,seqIndex? i xs.length=ϊ j/\xs[j]?=ϊ v/\j<xs.length/\-(xs.length:Int)<=i/\i<xs.length:=by
 delta cW at h
 cases e:gG xs.length i with
 |none=>rw[e] at h;cases h
 |some j =>
  rw[e] at h;obtain⟨Z,Y,X,W⟩:=Ls e;exact⟨j,Z,h,Y,X,W⟩
def UL {α:Type} (xs:List α) (v:α):cW (xs++[v]) (-1)=ϊ v:=by
 have Z:(xs++[v]).length=xs.length+1:=by simp
 have e:gG (xs++[v]).length (-1)=ϊ xs.length:=by
  delta gG;rw[Z,Ú (by decide),Ñ ⋯];congr 1;omega
 delta cW;rw[e];show (xs++[v])[xs.length]?=ϊ v;simp
def Lu (b:ě):Prop:=∀o i,subscripted b ύ o i=operate [o,i] (getItem o i)
def xW (X:Cx) (r:R2):Prop :=
 ∀(value slice:ě) (Z:List (ß×Obj)) (s:Â) (σ:St) (H:Hp) (x y:V) (v u:Ç) (Q:VK),Inv X Z σ H s->RelV x v->RelV y u->r x y H Q ->
  subscripted slice ύ v u=operate [v,u] (getItem v u)->á (é X.prog X.w) X.A (subscriptTail value slice v u) (EP X Z σ Q) X.xe s
def ra (X:Cx) (id:String) (r:V->List V->Hp->VK->Prop):Prop :=
 ∀(Z:List (ß×Obj)) (s:Â) (σ:St) (H:Hp) (x:V) (Y:List V) (v:Ç) (W:List Ç) (Q:VK),Inv X Z σ H s->RelV x v->Vals Y W->r x Y H Q ->
  á (é X.prog X.w) X.A (call (.builtin id) (v::W)) (EP X Z σ Q) X.xe s
section
variable {X:Cx} {a b:ě} {ta tb:TE} {pos:Pos}
def aal (hr:xW X r) (ha:PE X a ta) (hb:PE X b tb) (hs:Lu b):PE X (.Subscript a b pos) (xU r ta tb):=by
 intro Z s σ H Q I h;exact Subscript_ (ET ha hb I h λv u Y x y W V U T q=>hr a b Z Y σ W x y v u Q V U T q (hs _ _))
def abR (K:đ):R2:=λx y H Q=>∃p Z i v,x=.ref p/\y=.int i/\bY K H p Z/\cW Z i=ϊ v/\Q v H
def abS (K:đ):R2:=λx y H Q=>∃p Z i v,x=.ref p/\y=.int i/\bV K H p Z/\cW Z i=ϊ v/\Q v H
def abT:R2:=λx y H Q=>∃z i c,x=.str z/\y=.int i/\z.length<=Õ/\cW z.cps.toList i=ϊ c/\Q (.str ⟨#[c]⟩) H
def Lw:xW X (abR X.K):=by
 intro value slice V s σ H x y v u Q I R P h U;obtain⟨p,D,i,z,rfl,rfl,O,N,q⟩:=h;cases R;obtain⟨t,rfl⟩:=P;obtain⟨its,r,Y,C⟩:=I.list O;obtain⟨j,Z,M,B,L,J⟩:=Cu N;obtain⟨w,T,G⟩:=r.get M;have F:=r.length;have A:=qi;have fin:EP X V σ Q w s:=⟨z,H,I,G,q⟩;by_cases S:0<=i
 ·have W:i.toNat=j:=by
   rw[seqIndex_of S J] at Z;exact aeE Z
  exact item_listR Y.isList S ⋯ (by rw[W];simpa using T) fin U
 ·have W:(i+(its.toArray.size:Int)).toNat=j:=by
   rw[seqIndex_neg ⋯ L] at Z;rw[Ü,<- F];exact aeE Z
  exact subscriptTail_builtinR (x:=w) Y.isList.typeIs slot_list_getitem.lookup
   (wpAny_getItem_list_neg (Q:=λr E=>r=w/\EP X V σ Q r E) Y.isList ⋯ (by rw[Ü]<;>omega) ⋯ (by rw[W];simpa using T) ⟨rfl,fin⟩) U
def Yv:xW X (abS X.K):=by
 intro value slice Z s σ H x y v u Q I W V h U;obtain⟨p,J,i,z,rfl,rfl,T,S,q⟩:=h;cases W;obtain⟨t,rfl⟩:=V;obtain⟨its,r,Y,G⟩:=I.tuple T;obtain⟨j,R,P,F,E,D⟩:=Cu S;obtain⟨w,O,N⟩:=r.get P;have M:=r.length;have C:=qi;have fin:EP X Z σ Q w s:=⟨z,H,I,N,q⟩;exact subscriptTail_builtinR (x:=w) Y.typeIs slot_tuple_getitem.lookup
  (getItem_tuple (j:=j) (Q:=λr L=>r=w/\EP X Z σ Q r L) Y ⋯ ⋯ (by rw[Ü,<- M];exact R) (by simpa using O) ⟨rfl,fin⟩) U
def Dd:xW X abT:=by
 intro value slice O s σ H x y v u Q I Y W h V;obtain⟨z,i,c,rfl,rfl,N,U,q⟩:=h;obtain⟨t,rfl⟩:=Y;obtain⟨M,rfl⟩:=W;obtain⟨j,Z,T,L,S,R⟩:=Cu U;have P:z.cps.toList.length=z.length:=by simp[Str.length]
 rw[P] at Z S R;have K:=qi;exact tail_any (adL s z t) slot_str_getitem.lookup (getItem_str (c:=c) (by
  have e1:ώ (i < -(2 ^ 63:Int))=ύ:=Ì ⋯;have e2:ώ (i ≥ 2 ^ 63)=ύ:=Ì ⋯;rw[e1,e2,Bool.or_false]) (by rw[Z];simpa using T) ⟨.str ⟨#[c]⟩,H,I.tok _,⟨_,rfl⟩,q⟩) V
def RV (its:List Ç) (n j:Nat) (u:Ç):ŝ (·.setIfInBounds j u) { cls:=.type "list",data:=.seq its.toArray n }={ cls:=.type "list",data:=.seq (its.set j u).toArray n }:=by
 simp[ŝ]
theorem Inv.lst {π:List (ß×Obj)} {σ:St} {H:Hp} {s:Â} {p:ß} {xs:List V} (I:Inv X π σ H s) (h:H p=ϊ (.lst xs)) :
  ∃(its:List Ç) (n:Nat),Vals xs its/\s.heap.get? p=ϊ { cls:=.type "list",data:=.seq its.toArray n }/\xs.length<=Õ:=by
 obtain⟨z,its,n,r,e⟩:=I.aI p _ h;exact⟨its,n,r,e,z⟩
def Inv.Yw {π:List (ß×Obj)} {σ:St} {H:Hp} {s:Â} {p:ß} {xs ys:List V} {its its':List Ç} {n n':Nat} {f:Obj->Obj} (I:Inv X π σ H s) (h:H p=ϊ (.lst xs))
  (ho:s.heap.get? p=ϊ { cls:=.type "list",data:=.seq its.toArray n }) (hf:f { cls:=.type "list",data:=.seq its.toArray n }={ cls:=.type "list",data:=.seq its'.toArray n' }) (r:Vals ys its') (hz:ys.length<=Õ) (t:Nat) :
  Inv X π σ (upd H p (.lst ys)) { s with heap:=s.heap.update p f,toks:=t }:=by
 have e:(s.heap.update p f).get? p=ϊ { cls:=.type "list",data:=.seq its'.toArray n' }:=by
  rw[Ğ f ho (by rw[hf]<;>rfl),hf]
 refine I.write (x:=p) (e:=p) (by rw[h];trivial) (.inl rfl) (λb u Z q=>(ν _ _ (ź Z)).trans q) ⟨_,e⟩ ?_;exact⟨hz,its',n',r,e⟩
def aam:V->V->V->Hp->(Hp->Prop)->Prop:=λo i v H Q=>∃p Z k j,o=.ref p/\i=.int k/\H p=ϊ (.lst Z)/\gG Z.length k=ϊ j/\Q (upd H p (.lst (Z.set j v)))
def set_list:Oz X aam:=by
 intro N s σ H o i v E D u Q I M L K h;obtain⟨p,J,k,j,rfl,rfl,T,G,q⟩:=h;cases M;obtain⟨t,rfl⟩:=L;obtain⟨its,n,r,Y,F⟩:=I.lst T;obtain⟨Z,C,S,R⟩:=Ls G;have V:=r.length;have B:=qi
 have P:Inv X N σ (upd H p (.lst (J.set j v))) { s with heap:=s.heap.update p (ŝ (·.setIfInBounds j u)) } :=
  I.Yw T Y (RV its n j u) (r.set K j) (by rw[Ă];exact F) s.toks
 by_cases O:0<=k
 ·have U:k.toNat=j:=by
   rw[seqIndex_of O R] at Z;exact aeE Z
  exact PySem.W.ki_setAt Y O ⋯ (by rw[Ü,<- V];exact R) (by rw[U];exact⟨_,P,q⟩)
 ·have U:(k+(its.toArray.size:Int)).toNat=j:=by
   rw[seqIndex_neg ⋯ S] at Z;rw[Ü,<- V];exact aeE Z
  exact PySem.W.ki_setBack Y ⋯ (by rw[Ü,<- V];exact S) ⋯ (by rw[U];exact⟨_,P,q⟩)
def QQ (lo hi:Option Int) (n:Nat):(adM lo hi ϋ n).1=((HT.bp n 0 lo:Nat):Int)/\(adM lo hi ϋ n).2.1=((HT.bp n n hi:Nat):Int)/\(adM lo hi ϋ n).2.2=1:=by
 refine⟨?_,?_,rfl⟩
 ·cases lo with
  |none=>simp[adM,HT.bp]
  |some i =>
   erw[adM,HT.bp,Option.getD_none,show (1:Int) > 0 by decide,ò];by_cases h:i<0
   ·erw[h,ò]<;>omega
   ·erw[h,ï]<;>omega
 ·cases hi with
  |none=>simp[adM,HT.bp]
  |some i =>
   erw[adM,HT.bp,Option.getD_none,show (1:Int) > 0 by decide,ò];by_cases h:i<0
   ·erw[h,ò]<;>omega
   ·erw[h,ï]<;>omega
def Qs (its:List Ç) (lo hi:Option Int):slicePick its.toArray lo hi ϋ=((its.drop (HT.bp its.length 0 lo)).take (HT.bp its.length its.length hi-HT.bp its.length 0 lo)).toArray:=by
 obtain⟨Z,Y,X⟩:=QQ lo hi its.toArray.size;delta slicePick;rw[Z,Y,X]
 erw[sliceRange_one,pick_run,Ü]<;>rfl
def abU (K:đ):V->Option Int->Option Int->Hp->VK->Prop:=λx lo Y H Q=>∃a Z,x=.ref a/\bY K H a Z/\∀p,H p=ϋ->Q (.ref p) (upd H p (.lst (lg Z lo Y)))
def WE:qZ X (abU X.K):=by
 intro O s σ H x v N M lo W sl Q I U T S pu h;obtain⟨a,Z,rfl,R,q⟩:=h;cases U;obtain⟨its,r,V,P⟩:=I.list R;have Y:=r.length;refine⟨"list",_,slot_list_getitem.lookup,V.isList.typeIs,?_⟩
 refine wpAny_getItem_list_slice V.isList T S pu .none ∅ ?_ (by rw[Ü]<;>omega)
 rw[Qs,<- Y];refine⟨.ref s.heap.objs.size,_,I.laid (t':=s.toks) (o:=.lst (lg Z lo W)) (λb L q=>Á _ q) (aeD _) ?_,rfl,q _ (I.aI.fresh (aeD _))⟩;exact⟨Ý (Jg Z lo W) P,_,0,(r.drop (HT.bp Z.length 0 lo)).take (HT.bp Z.length Z.length W-HT.bp Z.length 0 lo),Î _ rfl⟩
def Bn:cT X (.builtin "len") (λxs H Q=>∃p ys,xs=[.ref p]/\(bY X.K H p ys\/bV X.K H p ys)/\Q (.int ys.length) H):=by
 intro T s σ H xs S Q I r h;obtain⟨p,ys,rfl,hq,q⟩:=h;obtain⟨u,rfl,V⟩:=vals1 r;cases V;have R:=qi
 rcases hq with hq|hq
 ·obtain⟨its,Y,W,U⟩:=I.list hq
  have Z:=Y.length
  exact Calls.call_len_list W.isList (by erw[Ü]<;>omega) ⟨.int ys.length,H,I.tok _,⟨s.toks+1,by rw[Ü,Z]⟩,q⟩
 ·obtain⟨its,Y,W,U⟩:=I.tuple hq
  have Z:=Y.length
  exact len_tuple W (by erw[Ü]<;>omega) ⟨.int ys.length,H,I.tok _,⟨s.toks+1,by rw[Ü,Z]⟩,q⟩
def QR:cT X (.builtin "len") (λxs H Q=>∃z,xs=[.str z]/\z.length<=Õ/\Q (.int z.length) H):=by
 intro Z s σ H xs Y Q I r h;obtain⟨z,rfl,W,q⟩:=h;obtain⟨u,rfl,t,rfl⟩:=vals1 r;have V:=qi;exact len_str ⋯ ⟨.int z.length,H,I.tok _,⟨_,rfl⟩,q⟩
def ID:cT X (.type "tuple") (λxs H Q=>∃p ys,xs=[.ref p]/\((bY X.K H p ys/\∀l,H l=ϋ->Q (.ref l) (upd H l (.tup ys)))\/(bV X.K H p ys/\Q (.ref p) H))):=by
 intro U s σ H xs N Q I r h;obtain⟨p,ys,rfl,h⟩:=h;obtain⟨u,rfl,P⟩:=vals1 r;cases P
 rcases h with ⟨Y,q⟩ | ⟨Y,q⟩
 ·obtain⟨its,W,V,T⟩:=I.list Y
  have S:=W.length
  refine call_tuple_list V.isList (λZ kp=>?_) (by erw[Ü]<;>omega)
  have R:Inv X U σ H { s with heap:=Z }:=I.kept (t':=s.toks) kp
  have O:Inv X U σ (upd H Z.objs.size (.tup ys)) { s with heap:=Z.push { cls:=.type "tuple",data:=.seq its.toArray } } :=
   R.laid (t':=s.toks) (λb o e=>Á _ e) (aeD _) (show eO X.prog X.w _ _ _ (.tup ys) from ⟨T,its,W,IsTup.new _ _⟩)
  exact⟨.ref Z.objs.size,_,O,rfl,q _ (R.aI.fresh (aeD _))⟩
 ·obtain⟨its,W,V,T⟩:=I.tuple Y
  exact call_tuple_same V ⟨.ref p,H,I,rfl,q⟩
def FF (K:đ) (T:String) (x:V) (H:Hp):Prop:=match x with
 | .str _=>T="str"
 | .int _=>T="int"
 | .ref p=>(T="list"/\∃Y,bY K H p Y)\/(T="tuple"/\∃o,K.lookup p=ϊ o/\o.cls=.type "tuple"/\o.dict=ϋ) \/
   (T="dict"/\((∃Z,H p=ϊ (.dK Z))\/∃Z,H p=ϊ (.dT Z)))\/(T="set"/\∃S n,H p=ϊ (.set S n))
 |_=>False
def Mv {π:List (ß×Obj)} {σ:St} {H:Hp} {s:Â} {T:String} {x:V} {v:Ç} (I:Inv X π σ H s) (r:RelV x v) (ty:FF X.K T x H) :
  s.TypeIs v T/\∀a,v=.ref a->∃ob,s.heap.get? a=ϊ ob/\ob.dict=ϋ:=by
 cases x with
 |str z =>
  obtain⟨t,rfl⟩:=r;cases (show T="str" from ty)
  exact⟨adL s z t,λ_ e=>nomatch e⟩
 |int i =>
  obtain⟨t,rfl⟩:=r;cases (show T="int" from ty)
  exact⟨typeIs_int s i t,λ_ e=>nomatch e⟩
 |ref p =>
  cases r
  rcases ty with ⟨rfl,P,U⟩ | ⟨rfl,o,Z,R,Y⟩ | ⟨rfl,Z⟩ | ⟨rfl,S,n,Z⟩
  ·obtain⟨its,_,W,_⟩:=I.list U
   refine⟨W.isList.typeIs,λa e=>?_⟩;cases e;obtain⟨o,n,e,c,Y,_⟩:=W;exact⟨o,e,Y⟩
  ·refine⟨⟨o,I.fy p o Z,R⟩,λa e=>?_⟩
   cases e;exact⟨o,I.fy _ o Z,Y⟩
  ·have z:∃o,s.heap.get? p=ϊ o/\o.ExactDict:=by
    rcases Z with ⟨Q,Z⟩ | ⟨Q,Z⟩
    ·obtain⟨_,_,_,_,o,_,_,e,ex,_⟩:=I.aI p _ Z
     exact⟨o,e,ex⟩
    ·obtain⟨_,_,_,_,o,_,_,e,ex,_⟩:=I.aI p _ Z
     exact⟨o,e,ex⟩
   obtain⟨o,e,ex⟩:=z;refine⟨⟨o,e,ex.1⟩,λa e2=>?_⟩;cases e2;exact⟨o,e,ex.2.1⟩
  ·obtain⟨o,_,_,_,e,ex,_⟩:=I.aI p _ Z
   refine⟨⟨o,e,ex.1⟩,λa e2=>?_⟩;cases e2;exact⟨o,e,ex.2.1⟩
 |_=>exact č ty
def abV (K:đ) (T:String) (r:V->List V->Hp->VK->Prop) (to:TE):TE:=fun σ H Q=>to σ H λx Z=>FF K T x Z/\r x [] Z Q
def tBM (K:đ) (T:String) (r:V->List V->Hp->VK->Prop) (to:TE) (t:TA):TE:=fun σ H Q=>to σ H λx Z=>FF K T x Z/\t σ Z λY X=>r x Y X Q
variable {o e:ě} {es:List ě} {to:TE} {t:TA} {name:Str} {apos ba:Pos} {T id:String} {r:V->List V->Hp->VK->Prop}
def Mw (pa:PlainAttrs T) (slot:Slot T name id) (FG:typeOf (.builtin id)=pure (.type "method_descriptor")) (hm:ra X id r) (ho:PE X o to)
  (hV:İ o name X.env (ķ o X.env)=ķ o X.env:=by rfl) (hW:(apos.endLine==ba.line)=ό:=by rfl):PE X (.Call (.Attribute o name apos) [] [] ba) (abV X.K T r to):=by
 intro Z s σ H Q I h;refine wpAny_Call_method0_late hV hW (aO (ho Z s σ H _ I h) λv V ⟨x,U,Y,W,ty,S⟩=>?_);obtain⟨R,P⟩:=Mv Y W ty;exact⟨T,id,pa,slot,FG,R,P,Calls.callWith_builtin rfl (PySem.evalArgs_none (hm Z V σ U x [] v [] Q Y W .nil S))⟩
def wD (pa:PlainAttrs T) (slot:Slot T name id) (FG:typeOf (.builtin id)=pure (.type "method_descriptor")) (hm:ra X id r) (ho:PE X o to) (ha:PA X (e::es) t)
  (hV:İ o name X.env (ķ o X.env)=ķ o X.env:=by rfl)
  (lh:((ī ba (Í (e::es) X.env)).all (λx=>!x.1)&&(ada ba (Ŗ [] X.env)).all (λx=>x.1.isSome)
   && ώ ((e::es).length+([]:List acZ).length+(if ([]:List acZ).isEmpty then 0 else 1)<30))=ό:=by rfl)
  (hW:(apos.endLine==ba.line)=ό:=by rfl) (hs:Í (e::es) X.env=(ύ,ķ e X.env)::Í es X.env:=by rfl) (iN:(ī ba (Í es X.env)).any (·.1)=ύ:=by rfl) :
  PE X (.Call (.Attribute o name apos) (e::es) [] ba) (tBM X.K T r to t):=by
 intro Z s σ H Q I h;refine wpAny_Call_method_late hV lh hW rfl (aO (ho Z s σ H _ I h) λv U ⟨x,S,Y,W,ty,R⟩=>?_);obtain⟨P,O⟩:=Mv Y W ty;refine⟨T,id,pa,slot,FG,P,O,?_⟩;have V:=ha ba Z U σ S _ Y R;rw[hs] at V |-
 refine Calls.callWith_builtin (by show (ύ||(ī ba (Í es X.env)).any (·.1))=ύ;rw[iN]<;>rfl) (Calls.evalArgs_plain ?_)
 exact aO V λN M ⟨L,J,G,F,E⟩=>hm Z M σ J x L v N Q G W F E
end
def Pf (X:Cx) (id:String) (r:V->List V->Hp->VK->Prop):Prop :=
 ∀(Z:List (ß×Obj)) (s:Â) (σ:St) (H:Hp) (x:V) (Y:List V) (v:Ç) (W:List Ç) (Q:VK),Inv X Z σ H s->RelV x v->Vals Y W->r x Y H Q ->
  á (é X.prog X.w) X.A (call (.builtin id) (v::W)) (EP X Z σ Q) X.xe s
def Vals.one:∀{x:V} {us:List Ç},Vals [x] us->∃u,us=[u]/\RelV x u
 |_,_,.cons r .nil=>⟨_,rfl,r⟩
def Vals.zero:∀{us:List Ç},Vals [] us->us=[]
 |_,.nil=>rfl
theorem Vals.dropLast (h:Vals xs us):Vals xs.dropLast us.dropLast:=by
 induction h with
 |nil=>exact .nil
 |cons r t ih =>
  cases t with
  |nil=>exact .nil
  |cons q Z=>exact .cons r ih
theorem Vals.rep (h:Vals xs us):∀k:Nat,Vals (Ö k xs).flatten (Ö k us).flatten
 |0=>.nil
 |k+1=>by
  rw[Ŏ,Ŏ,ŏ,ŏ];exact Vals.append h (Vals.rep h k)
def RW {α:Type} (l:List α):l.eraseIdx (l.length-1)=l.dropLast:=by
 induction l with
 |nil=>rfl
 |cons a r ih =>
  cases r with
  |nil=>rfl
  |cons b r =>
   have e:(a::b::r).length-1=((b::r).length-1)+1:=by
    have Z:(a::b::r).length=r.length+2:=rfl;have Y:(b::r).length=r.length+1:=rfl;omega
   rw[e,List.eraseIdx_cons_succ,ih]
   all_goals rfl
theorem foldl_rep (its:List Ç):∀(k:Nat) (acc:List Ç),
  List.foldl (λx1 x2=>x1++x2) acc.toArray (Ö k its.toArray)=(acc++(Ö k its).flatten).toArray
 |0,acc=>by simp
 |k+1,acc=>by
  have e:acc.toArray++its.toArray=(acc++its).toArray:=by simp
  have e2:(acc++its)++(Ö k its).flatten=acc++(Ö (k+1) its).flatten:=by
   rw[Ŏ,ŏ,Ĳ]
  rw[<- e2,<- foldl_rep its k (acc++its),<- e,Ŏ,List.foldl_cons]
section
variable {X:Cx} {π:List (ß×Obj)} {σ:St} {H:Hp} {s:Â} {l b:ß} {xs ys zs:List V}
def Inv.OE {its its':List Ç} {n:Nat} {f:Array Ç->Array Ç} {t':Nat} (I:Inv X π σ H s) (hH:H l=ϊ (.lst xs))
  (e:s.heap.get? l=ϊ { cls:=.type "list",data:=.seq its.toArray n }) (hf:f its.toArray=its'.toArray) (hv:Vals ys its') (hz:ys.length<=Õ) :
  Inv X π σ (upd H l (.lst ys)) { s with heap:=s.heap.update l (ŝ f),toks:=t' }:=by
 have q:=PySem.IsL.update e f;rw[hf] at q;refine I.write (x:=l) (e:=l) (by rw[hH];exact trivial) (.inl rfl) (λW u Z Y=>(ν s.heap (ŝ f) (ź Z)).trans Y) ⟨_,q⟩ ?_;exact⟨hz,its',_,hv,q⟩
def Inv.OF (I:Inv X π σ H s) (hv:Vals ys its) (hz:ys.length<=Õ) :
  Inv X π σ (upd H s.heap.objs.size (.lst ys)) { s with heap:=s.heap.push { cls:=.type "list",data:=.seq its.toArray },toks:=t' } :=
 I.laid (λ_ _ q=>Á _ q) (aeD _) ⟨hz,its,0,hv,Î _ rfl⟩
theorem Inv.fresh (I:Inv X π σ H s):H s.heap.objs.size=ϋ:=I.aI.fresh (aeD _)
def Inv.xm (I:Inv X π σ H s) (hH:H l=ϊ (.lst xs)):xs.length<=Õ/\∃(its:List Ç) (n:Nat),Vals xs its/\xs.length=its.length/\s.heap.get? l=ϊ { cls:=.type "list",data:=.seq its.toArray n }:=by
 obtain⟨z,its,n,r,e⟩:=I.aI l _ hH;exact⟨z,its,n,r,r.length,e⟩
def UM (h:n<=Õ):ads n=ύ:=by
 delta ads;exact Ì ⋯
end
section
variable {X:Cx}
def WG:V->List V->Hp->VK->Prop:=λx Y H Q=>∃l Z y,x=.ref l/\Y=[y]/\H l=ϊ (.lst Z)/\Z.length<Õ/\Q .au (upd H l (.lst (Z++[y])))
def S9:Pf X "list.append" WG:=by
 intro U s σ H x T v S Q I Y W h;obtain⟨l,R,y,rfl,rfl,Z,P,q⟩:=h;cases Y;obtain⟨u,rfl,V⟩:=W.one;obtain⟨z,its,n,r,O,e⟩:=I.xm Z;refine η F.slot_list_append ⟨_,e,rfl⟩ F.entry_list_append (F.args_list_append_2 _ _) (PySem.list_append l its.toArray n u (by rw[Ü];omega)) ⟨e,?_⟩;refine⟨.au,_,I.OE (its':=its++[u]) Z e ∅ (r.append (.cons V .nil)) ?_,rfl,q⟩;rw[ä,adW];omega
def abW:V->List V->Hp->VK->Prop:=λx Y H Q=>∃l Z y,x=.ref l/\Y=[]/\H l=ϊ (.lst Z)/\Z[Z.length-1]?=ϊ y/\Q y (upd H l (.lst Z.dropLast))
def Yx:Pf X "list.pop" abW:=by
 intro O s σ H x N v M Q I W V h;obtain⟨l,L,y,rfl,rfl,Y,U,q⟩:=h;cases W;have Z:=V.zero;subst Z;obtain⟨z,its,n,r,T,e⟩:=I.xm Y;obtain⟨u,S,R⟩:=r.get U;have P:its.toArray[its.toArray.size-1]?=ϊ u:=by
  show its.toArray[its.length-1]?=ϊ u;rw[<- į,<- T];exact S
 refine η F.slot_list_pop ⟨_,e,rfl⟩ F.entry_list_pop (F.args_list_pop_1 _) (MeetsSeq.list_pop_last l its.toArray n u P (by rw[Ü];omega)) ⟨e,?_⟩;refine⟨y,_,I.OE (its':=its.dropLast) Y e ?_ r.dropLast ?_,R,q⟩
 ·show its.toArray.eraseIdxIfInBounds (its.toArray.size-1)=its.dropLast.toArray
  rw[Ü,List.eraseIdxIfInBounds_toArray,RW]
 ·rw[List.length_dropLast]
  omega
def abX:R2:=λx y H Q=>∃l b Z zs,x=.ref l/\y=.ref b/\H l=ϊ (.lst Z)/\H b=ϊ (.lst zs)/\Z.length+zs.length<=Õ/\∀p,H p=ϋ->Q (.ref p) (upd H p (.lst (Z++zs)))
def Yy:bM X (ņ .Add) abX:=by
 intro R s σ H x y v u Q I Y W h;obtain⟨l,b,O,zs,rfl,rfl,V,U,N,q⟩:=h;cases Y;cases W;obtain⟨z,its,n,r,M,e⟩:=I.xm V;obtain⟨L,Z,K,T,J,e2⟩:=I.xm U;refine PySem.P.add_list e e2 ?_ (by rw[Ü,Ü];omega);have S:its.toArray++Z.toArray=(its++Z).toArray:=by simp
 rw[S];exact⟨.ref _,_,I.OF (t':=s.toks) (r.append T) (by rw[ä];omega),rfl,q _ I.fresh⟩
def abY:R2:=λx y H Q=>∃l k Z,x=.ref l/\y=.int k/\H l=ϊ (.lst Z)/\-(2 ^ 63)<=k/\k<2 ^ 63/\Z.length*k.toNat<=Õ /\
 ∀p,H p=ϋ->Q (.ref p) (upd H p (.lst (Ö k.toNat Z).flatten))
def len_rep {α:Type} (xs:List α) (k:Nat):(Ö k xs).flatten.length=k*xs.length:=by
 induction k with
 |zero=>simp
 |succ k ih=>rw[Ŏ,ŏ,ä,ih,Nat.succ_mul,Nat.add_comm]
def Yz:bM X (ņ .Mult) abY:=by
 intro D s σ H x y v u Q I N M h;obtain⟨l,k,C,rfl,rfl,L,K,J,O,q⟩:=h;cases N;obtain⟨t,rfl⟩:=M;obtain⟨z,its,n,r,G,e⟩:=I.xm L;have Z:its.toArray.size*k.toNat<=Õ:=by rw[Ü,<- G];exact O
 have Y:¬ its.toArray.size*k.toNat > (2 ^ 63-1) / 8:=by
  have:(Õ:Nat)<=(2 ^ 63-1) / 8:=by decide
  omega
 have W:¬ (!Builtin.List.listFitsIndex k)=ό:=by
  rw[fitsIndex_both K J];exact Ä
 have V:¬ ads (its.toArray.size*k.toNat)=ό:=by
  rw[UM Z];exact Ä
 have S:List.foldl (λR P=>R++P) #[] (Ö (if its.toArray.isEmpty=ό then 0 else k.toNat) its.toArray)=(Ö k.toNat its).flatten.toArray:=by
  have f0:∀m:Nat,List.foldl (λR P=>R++P) #[] (Ö m its.toArray)=(Ö m its).flatten.toArray:=λm=>by
   have:=foldl_rep its m [];rw[Ļ] at this;exact this
  rw[f0]
  cases its with
  |nil=>simp
  |cons a B=>rw[Ú ∅]
 refine wpAny_binaryOp_repeat_ref (T:="list") (U:="int") (by decide) ⟨_,e,rfl⟩ (λE=>typeIs_int E k t) noFill_list_mul F.fills_int_mul aed repeat_list F.slot_int_index.lookup
  (η aed (typeIs_int s k t) F.entry_int_rmul (F.args_int_rmul_2 _ _) (int___rmul___int_list k t l its.toArray n)
   ⟨e,rfl,⟨_,e,rfl⟩,η F.slot_list_mul ⟨_,e,rfl⟩ F.entry_list_mul (F.args_list_mul_2 _ _) (AutoListH.list___mul___list_int_3 l its.toArray n k t W Y V) ⟨e,?_⟩⟩)
 rw[S];exact⟨.ref _,_,I.OF (t':=s.toks) (r.rep k.toNat) (by rw[len_rep,Nat.mul_comm];exact O),rfl,q _ I.fresh⟩
end
section
variable {prog:å} {w:Ą} {A:í} {E:Ç->Â->Prop} {s:Â}
set_option maxRecDepth 100000 in
end
end L2
namespace Ph
open PySem PySem.W PySem.Calls PyProof.Rows
def Qe:∀(ns:List Int) (vs:List Ç),WellAll P h vs (ns.map WData.int)->aec vs ns:=by
 intro ns
 induction ns with
 |nil =>
  intro vs w;rw[ŋ] at w;cases w;exact .nil
 |cons n ns ih =>
  intro vs w;rw[à] at w
  cases w with
  |cons a b =>
   cases a;exact .cons _ _ (ih _ b)
def Ta {l:OpenLaw} {n:Nat} (hn:l.most=ϊ n) {P:Params} {h:ĺ} {args:List WData} {vals:List Ç}
  (Ak:l.row.toRowW.claim.pre args=ό) (FI:WellAll P h vals args) :
  ∃a vs ns,vals=[Ō a]/\args=[WData.list (ns.map WData.int)]/\h.get? a=ϊ { cls:=.type "list",data:=.seq vs.toArray }/\aec vs ns/\ns.length<=n:=by
 have W:WShape.hasAll [] args [.list .int]=ό:=(pre_splitW Ak).1;have V:l.pre.holds [] { args:=args }=ό:=(pre_splitW Ak).2;obtain⟨d,r,rfl,U,T⟩:=hasAllW_cons W;obtain rfl:=hasAllW_nil T;obtain⟨L,rfl,S⟩:=hasW_list U;obtain⟨ns,rfl⟩:=items_int S;have Z:ns.length<=n:=by
  delta OpenLaw.pre at V;have Y:(WTm.not (.lt (.lit (.int (n:Int))) (.len (.arg 0)))).holds [] { args:=[.list (ns.map .int)] }=ό:=by
   have Y:=(holds_andW V).1;rw[hn] at Y;exact Y
  have X:=condW_of Y (w_not (w_lt w_lit (w_len_list (w_arg rfl))));rw[É] at X;refine δ λq=>?_;have R:(n:Int)<((ns.length:Nat):Int):=by omega
  first
   |(rw[È R] at X;exact absurd X (by decide))
   |(simp at X;omega)
 cases FI with
 |cons Q O =>
  cases O
  cases Q with
  |list N M=>exact⟨_,_,ns,rfl,rfl,N,Qe ns _ M,Z⟩
def Tb (l:OpenLaw) (args:List WData):l.row.toRowW.claim.post args (.bool ό) args=ό :=
 postW_of (r:=l.row.toRowW) (X:=(ό==ό))
  (show WShape.has [] (.bool ό) .bool=ό by first|rfl|decide|simp[WShape.has,WShape.arms,WShape.armsAll])
  (show (WTm.eq .res (.lit (.bool ό))).value [] { args:=args,res:=ϊ (.bool ό),after:=args }=ϊ (.bool (ό==ό)) from w_eq_bool (w_res rfl) w_lit) rfl
def Rm {l:OpenLaw} {n:Nat} {q:å} {loose:List Str} {XP:(Str->Option Ç)->ĺ->Prop} {YP:Ą->ĺ->Prop} {d:DefRec}
  (hn:l.most=ϊ n) (xX:d.params.defaults=[])
  (call:∀(w:Ą) (c9 bJ:Â) (mg mb:Str->Option Ç) (fa:ß) (o:Obj) (pm cd doc:Ç) (a:ß) (vs:List Ç) (ns:List Int),
   Ground q loose [] XP w c9 mg mb bJ.heap->YP w bJ.heap ->
   bJ.heap.get? fa=ϊ o->o.data=.func (docDef d.name d.params d.body d.scope pm cd doc)->bJ.heap.CodeRec cd d.name->mg d.name=ϊ (.ref fa) ->
   bJ.heap.get? a=ϊ { cls:=.type "list",data:=.seq vs.toArray }->aec vs ns->ns.length<=n->bJ.gens=#[] ->
   ż (é l.prog w) callerA (.call (.ref fa) ⟨[.ref a],[]⟩) (λr s'=>r=.ok (.ret (.bool ό))/\OldK bJ.heap s'.heap/\s'.os=bJ.os/\aeu s'.gens) bJ) :
  WalkO q loose XP YP l.row.toRowW d [] (λf vs=>PySem.call f vs):=by
 intro w c9 bJ mg mb G Y fa o pm cd doc W kV V U T X S R args vals as Q P O N F;obtain rfl:W=.none:=Dflts.none X xX;obtain rfl:kV=.none:=Dflts.noKw X;obtain⟨a,vs,ns,rfl,rfl,M,hints,Z⟩:=Ta hn Q N;refine enter_call (Ŋ (call w c9 bJ mg mb fa o pm cd doc a vs ns G Y V (fd_plain U) T S M hints Z R) λr s' L=>?_);obtain⟨rfl,K,J,I⟩:=L
 exact⟨.inl ⟨.bool ό,.bool ό,[],rfl,λ_=>rfl,.bool ό,Tb l _,λ_=>⟨List.Pairwise.nil,λ_ H=>(nomatch H)⟩⟩,K,J,I⟩
section
variable {prog:å} {w:Ą} {A:í} {E:Ç->Â->Prop} {s:Â} {K:đ}
def ledger (h:ĺ) (L d:ß):List (ß×Obj):=(è h.objs.size).filterMap λa=>if a=L\/a=d then ϋ else (h.get? a).map λo=>(a,o)
end
end Ph
namespace L2
open PySem PySem.Spec PyProof.Rows
theorem J1:∀{vs:List Ç} {ns:List Int},aec vs ns->Vals (ns.map V.int) vs
 |_,_,.nil=>.nil
 |_,_,.cons n t h=>.cons ⟨t,rfl⟩ (J1 h)
abbrev KOf {K:đ} {h:ĺ} (_:K.In h):đ:=K
def kQ (s:ad2):aer:=match s with
 | .FunctionDef _ a _ _ _ _ _ _ _ _=>a
 |_=>{ posonlyargs:=[],args:=[],vararg:=ϋ,kwonlyargs:=[],kw_defaults:=[],kwarg:=ϋ,defaults:=[] }
def gr (s:ad2):List ad2:=match s with
 | .FunctionDef _ _ b _ _ _ _ _ _ _=>b
 |_=>[]
def cz (s:ad2):acR:=match s with
 | .FunctionDef _ _ _ _ _ _ sc _ _ _=>sc
 |_=>{ kind:=.function,names:=[],isGenerator:=ύ,isCoroutine:=ύ }
abbrev eD:jT:=λ_ _ _ _ _ _=>False
abbrev E0:XK:=λ_ _ _=>False
def aao:Passes eD X E0:=λ_ _ _ _ _ _ _ h=>h.elim
structure pq (K:đ) (x qual:Str) (st:ad2) (f:ß) (fd:Ĩ):Prop where
 ex:∃(oc:Ç) (od:Option ß) (kV doc pm:Ç) (an:Option ß) (aY ct:Ç) (js:Array (Option Ç)),
  fd=Ś x qual (kQ st) (gr st) (cz st) .none kV doc pm an aY ct/\K.lookup f=ϊ ⟨oc,od,.func fd,js⟩/\ac3 K aY qual=ό
 kp:ő K (.ref f)=ό
section
variable {P:å} {w:Ą} {K:đ} {mg:Str->Option Ç} {base:ĺ}
def pq.ok {x qual:Str} {st:ad2} {f:ß} {fd:Ĩ} {N ps:List Str} {k:Nat} {sp:Sp} (F:pq K x qual st f fd) (S:sC N ps (cz st)) (len:∀vs H Q E,sp vs H Q E->vs.length=ps.length)
  (k9:∀(aY:Ç) (A:í) (outer:List Env) (s:Â) (H:Hp) (vs:List V) (Q:VK) (E:XK),bK k (A.deeper (aey qual (cz st) s.heap.objs.size f aY))->sp vs H Q E ->
   ∃t,dg (ia eD P w K mg base N qual (cz st) f aY A outer s H E).nS (gr st) t/\t { nx:=λ_ H'=>Q .au H',rt:=Q } (start N vs) H):cV P w K mg base eD (k+1) f fd ps sp:=by
 obtain⟨W,U,kV,doc,pm,an,aY,T,R,rfl,lk,Z⟩:=F.ex;refine zU lk Z S len λA outer s H vs Q E Y X=>?_;obtain⟨t,h,q⟩:=k9 aY A outer s H vs Q E Y X;exact⟨t,h.nS,q⟩
def pq.binds {x qual:Str} {st:ad2} {f:ß} {fd:Ĩ} {ps:List Str} (F:pq K x qual st f fd)
  (h:∀(kV doc pm:Ç) (an:Option ß) (aY ct:Ç) (us:List Ç),us.length=ps.length->bindArgs (Ś x qual (kQ st) (gr st) (cz st) .none kV doc pm an aY ct) ⟨us,[]⟩=pure (ps.zip us)):Binds K fd ps []:=by
 obtain⟨Z,Y,kV,doc,pm,an,aY,ct,X,rfl,lk,W⟩:=F.ex;exact .all (h kV doc pm an aY ct)
def zv {x qual:Str} {st:ad2} {f:ß} {oc:Ç} {od an:Option ß} {js:Array (Option Ç)} {kV doc pm aY ct:Ç} (l:K.lookup f=ϊ ⟨oc,od,.func (Ś x qual (kQ st) (gr st) (cz st) .none kV doc pm an aY ct),js⟩)
  (c:ac3 K aY qual=ό) (k:ő K (.ref f)=ό):pq K x qual st f (Ś x qual (kQ st) (gr st) (cz st) .none kV doc pm an aY ct):=⟨⟨oc,od,kV,doc,pm,an,aY,ct,js,rfl,l,c⟩,k⟩
end
def lp (H H':Hp):Prop:=∀b o,H b=ϊ o->H' b=ϊ o
def lp.refl (H:Hp):lp H H:=λ_ _ h=>h
def RX (J:Nat->Â->Prop)
 (turn:∀n s,J n s->á (é P w) A (ac0 iq) (λr s1=>match r with
   |none=>R (.ok .next) s1
   |some v=>á (é P w) A (Œ tg iq v) (λ_ s2=>á (é P w) A (aex tg ce v) (λ_ s3 =>
     á (é P w) A (forIn tests ό λc r=>if r=ό then do let ok <- isTrue c ce (ķ c ce);pure (Ň ok) else pure (Ň r)) (λok s4 =>
      if ok=ό then á (é P w) A (ķ el ce) (λy s5=>á (é P w) A (call (.builtin "list.append") [av,y]) (λ_ s6=>∃m,m<n/\J m s6) (λ_ _=>False) s5) (λ_ _=>False) s4
      else ∃m,m<n/\J m s4) (λ_ _=>False) s3) (λ_ _=>False) s2) (λ_ _=>False) s1) (λ_ _=>False) s)
 (n:Nat) (h:J n s):ż (é P w) A (.compLoop (.ListComp el [⟨tg,src,tests,0⟩] sc ps) 0 iq av ce) R s:=by
 refine codeAny_loop rfl J (λn s X=>?_) n h
 show á _ A ((compTurn (.ListComp el [⟨tg,src,tests,0⟩] sc ps) 0 iq av ce).onRaise (λx=>do noteFrame x ce;theTreesLotGoes x)) _ _ s
 refine wpAny_noted ?_;rw[compTurn_list];refine À (Ż (À (ė (turn n s X) (λr s1 Z=>?_) λ_ _ z=>z.elim)))
 cases r with
 |none=>exact Ã Z
 |some v =>
  refine À (ė Z (λ_ s2 W=>?_) λ_ _ z=>z.elim);refine À (ė W (λ_ s3 V=>À (ė V (λok s4 Y=>?_) λ_ _ z=>z.elim)) λ_ _ z=>z.elim)
  cases ok with
  |false=>exact Ã ⟨rfl,Y⟩
  |true =>
   exact À (À (ė Y (λy s5 U=>À (ė U (λ_ s6 T=>Ã (Ã ⟨rfl,T⟩)) λ_ _ z=>z.elim)) λ_ _ z=>z.elim))
theorem BW (env:Env):∀(l:List (Str×Ű)) (acc:List (Str×ß)),(∀n,(n,î)∈l->∃c,env.cells.lookup n=ϊ c) ->
  ∃cl,(forIn l acc (λ(p:Str×Ű) (cs:List (Str×ß))=>(do
   if (p.2==î)=ό then do let c <- cellOf env p.1;pure (Ň ((p.1,c)::cs)) else pure (Ň cs):Sem (ForInStep (List (Str×ß))))))=pure cl /\
   ∀n c,cl.lookup n=ϊ c↔(((n,î)∈l/\env.cells.lookup n=ϊ c)\/((n,î)∉l/\acc.lookup n=ϊ c))
 | [],acc,_=>⟨acc,rfl,λn c=>by simp⟩
 |(x,k)::r,acc,h=>by
  rw[adA]
  cases Y:(k==î) with
  |false =>
   have U:k≠.free:=by intro e;rw[e] at Y;cases Y
   obtain⟨cl,e,q⟩:=BW env r acc λn X=>h n (Ï _ X);refine⟨cl,?_,λn c=>?_⟩
   ·erw[Æ,ï]
    exact e
   ·rw[q n c]
    have:(n,î)∈(x,k)::r↔(n,î)∈r:=by
     constructor
     ·intro Z
      rcases Û.mp Z with z|z
      ·injection z with _ T
       exact absurd T.symm U
      ·exact z
     ·exact Ï _
    rw[this]
  |true =>
   have S:k=.free:=by cases k<;>first|rfl|cases Y
   subst S;obtain⟨R,W⟩:=h x Þ;obtain⟨cl,e,q⟩:=BW env r ((x,R)::acc) λn X=>h n (Ï _ X);refine⟨cl,?_,λn c=>?_⟩
   ·erw[ò,cellOf,W]
    exact e
   ·rw[q n c]
    by_cases V:n=x
    ·subst V
     constructor
     ·rintro (⟨_,z⟩ | ⟨_,z⟩)
      ·exact .inl ⟨Þ,z⟩
      ·rw[ē,Ė] at z
       exact .inl ⟨Þ,W.trans z⟩
     ·rintro (⟨_,z⟩ | ⟨z,_⟩)
      ·by_cases Z:(n,î)∈r
       ·exact .inl ⟨Z,z⟩
       ·refine .inr ⟨Z,?_⟩
        rw[ē,Ė];exact W.symm.trans z
      ·exact absurd Þ z
    ·have:(n,î)∈(x,î)::r↔(n,î)∈r:=by
      constructor
      ·intro Z
       rcases Û.mp Z with z|z
       ·injection z with Q _
        exact absurd Q V
       ·exact z
      ·exact Ï _
     rw[this,ē,beq_false_of_ne V]
def Mx (h:∀n,(n,î)∈sc.names->∃c,env.cells.lookup n=ϊ c) :
  ∃cl,closureFor sc env=pure cl/\∀n c,cl.lookup n=ϊ c↔((n,î)∈sc.names/\env.cells.lookup n=ϊ c):=by
 obtain⟨cl,e,q⟩:=BW env sc.names [] h;refine⟨cl,?_,λn c=>?_⟩
 ·delta closureFor
  exact(Ń (λz:Sem (List (Str×ß))=>z >>= λr=>pure r) e)
 ·rw[q n c]
  simp
theorem Kz (f:Str->Ű->Ű) (x:Str):∀l:List (Str×Ű),(l.map λp=>(p.1,f p.1 p.2)).lookup x=(l.lookup x).map (f x)
 | []=>rfl
 |(n,k)::r=>by
  rw[à,ē,ē]
  cases h:x==n with
  |true =>
   have e:x=n:=by simpa using h
   subst e;rfl
  |false=>exact Kz f x r
def yB (sc:acR) (env:Env) (x:Str):(relabel sc env).names.lookup x=(sc.names.lookup x).map λk=>if (k==î&&env.scope.kind==.function&&env.kindOf x==ϊ .cell)=ό then NameKind.cell else k:=by
 rw[<- Kz (λx k=>if (k==î&&env.scope.kind==.function&&env.kindOf x==ϊ .cell)=ό then NameKind.cell else k)]
 show adi x (sc.names.map _)=_;congr 1;apply List.map_congr_left;rintro ⟨n,k⟩ _;dsimp only
 split<;>rfl
abbrev eU (X:Cx) (N:List Str) (sc:acR) (cl:List (Str×ß)) (C:ß) (s:Â) (H:Hp) (ex:List ß) (pn:List (ß×Obj)):Cx where
 prog:=X.prog
 w:=X.w
 K:=X.K
 mg:=X.mg
 base:=X.base
 A:=X.A
 N:=N
 c9:=s
 mr:=H
 env:=compEnvC sc cl C X.env
 outer:=X.stack
 stack:=X.stack
 ex:=ex
 fn:=λ_=>ύ
 calm:=X.calm
 pn:=pn
 xe:=λ_ _=>False
structure v9 (X:Cx) (sc:acR) (N:List Str) (nt:Nat) (cap:List Nat):Prop where
 kind:sc.kind=.function
 wa:∀x∈sc.names,x.2≠.cell
 names:∀x∈sc.names,x.2=.local->sc.names.lookup x.1=ϊ .local
 frees:∀x∈sc.names,x.2=.free->sc.names.lookup x.1=ϊ .free/\(X.env.scope.names.lookup x.1=ϊ .cell\/X.env.scope.names.lookup x.1=ϊ .free)
 len:N.length=nt+cap.length
 EY:∀(k:Nat) j,cap[k]?=ϊ j->∃x,X.N[j]?=ϊ x/\N[nt+k]?=ϊ x/\(x,î)∈sc.names
def l9 (nt:Nat) (cap:List Nat) (σ:St):St:=Ö nt ϋ++cap.map λj=>(σ[j]?).getD ϋ
def PF (X:Cx) (tests:List ě) (t:TT):Prop :=
 ∀(Z:List (ß×Obj)) (s:Â) (σ:St) (H:Hp) (Q:Bool->Hp->Prop),Inv X Z σ H s->t σ H Q ->
  á (é X.prog X.w) X.A (forIn tests ό λc r=>if r=ό then do let ok <- isTrue c X.env (ķ c X.env);pure (Ň ok) else pure (Ň r)) (TP X Z σ Q) X.xe s
def ab2:TT:=λ_ H Q=>Q ό H
def YA:PF X [] ab2:=λ_ _ _ H _ I h=>wpAny_tests_nil ⟨H,I,h⟩
def YB (h:PT X c t):PF X [c] t:=λZ s σ H Q I hw=>wpAny_tests_one (h Z s σ H Q I hw)
def pw (g:TG) (nt:Nat):Prop:=∀(x:V) (o Z:St) (H:Hp) (R:St->Hp->Prop),o.length=nt->g x (o++Z) H R->g x (o++Z) H fun Y W=>(∃X:St,X.length=nt/\Y=X++Z)/\R Y W
def nD (cap:List Nat) (σ:St):St:=cap.map λj=>(σ[j]?).getD ϋ
def Pk (mk:ß->List V->HO) (lM:List V->Prop) (J:It) (nt:Nat) (caps:St) (g:TG) (tf:TT) (te:TE) (H:Hp) (Q:VK):Prop:=∃W:Nat->Nat->List V->Hp->Prop,(∃m,W 0 m [] H) /\
 ∀i m Z Y,W i m Z Y->(J.stop i Y/\lM Z/\∀D,Y D=ϋ->Q (.ref D) (upd Y D (mk D Z))) \/
  (J.go i Y/\lM Z/\∃N:List V->Hp->Prop,(∀X U,N X U->∃T,T < m/\W (i+1) T X U) /\
   ∀o x S,o.length=nt->J.uE i Y x S->g x (o++caps) S fun R O=>tf R O λb P=>if b=ό then te R P λv M=>N (Z++[v]) M else N Z P)
def CW (J:It) (nt:Nat) (caps:St) (g:TG) (tf:TT) (te:TE) (H:Hp) (Q:VK):Prop:=Pk (λ_ Z=>.lst Z) (λZ=>Z.length<=Õ) J nt caps g tf te H Q
def wF (wi:TI) (nt:Nat) (cap:List Nat) (g:TG) (tf:TT) (te:TE):TE:=fun σ H Q=>wi σ H λJ Z=>CW J nt (nD cap σ) g tf te Z Q
section
variable {fs ex:List ß} {H H':Hp} {h h1 h2:ĺ} {P:å} {w:Ą}
def Un.adopt {D:ß} {o:HO} (u:Un fs ex H H' h h1) (hp:h.objs.size<=D) (hn:H' D=ϋ):Un fs ex H (upd H' D o) h h1 where
 keep:=u.keep
 slot:=u.slot
 free:=λb Y q n X=>by rw[bt (ã (Ê (Ð q) hp))];exact u.free b Y q n X
 there:=u.there
 gg:=λb Z q=>by rw[bt (dC (u.gg b Z q) hn)];exact u.gg b Z q
 fx:=λb Y Z q=>by rw[bt (dC (u.fx b Y Z q) hn)];exact u.fx b Y Z q
 gj:=λb W q=>by
  obtain⟨more,e⟩:=u.gj b W q;exact⟨more,by rw[bt (dC e hn)];exact e⟩
def Un.but {C:ß} (u:Un fs ex H H' h h1) (hp:h.objs.size<=C) (sb:Ĭ C h1 h2):Un fs ex H H' h h2:=by
 have ne:∀b Z,h.get? b=ϊ Z->b≠C:=λb Z q=>ã (Ê (Ð q) hp);refine⟨λb Z q n X Y=>(sb.2 b (ne b Z q)).trans (u.keep b Z q n X Y),λb Z q n X Y=>?_,u.free,λb Z q Y=>?_,u.gg,u.fx,u.gj⟩
 ·obtain⟨sl,e⟩:=u.slot b Z q n X Y
  exact⟨sl,(sb.2 b (ne b Z q)).trans e⟩
 ·obtain⟨W,e⟩:=u.there b Z q Y
  exact⟨W,(sb.2 b (ne b Z q)).trans e⟩
def cM.but (x:cM P w H h1) (hn:H C=ϋ) (sb:Ĭ C h1 h2):cM P w H h2:=λa o e =>
 (x a o e).iE (λb u Z q=>(sb.2 b (by
  rintro rfl
  rcases Z with z|z
  ·subst z;rw[hn] at e;cases e
  ·rw[hn] at z;cases z)).trans q) (λ_ q=>q) λ_ _ q=>q
def cM.adopt (x:cM P w H h) (hn:H D=ϋ) (new:eO P w (upd H D o) h D o):cM P w (upd H D o) h:=λb u e=>by
 by_cases Z:b=D
 ·subst Z;rw[cO] at e;cases e;exact new
 ·rw[bt Z] at e
  exact(x b u e).iE (λc v _ q=>q) (λc q=>by rw[bt (dC q hn)];exact q) λc Y q=>by rw[bt (dC q hn)];exact q
end
section
variable {X:Cx} {sc:acR} {N:List Str} {nt:Nat} {cap:List Nat} {cl:List (Str×ß)} {s:Â} {h1:ĺ} {H:Hp} {σ:St} {π:List (ß×Obj)} {fp:List ß} {C:ß} {t':Nat}
def Inv.block (I:Inv X π σ H s) (S:v9 X sc N nt cap) (dh:∀n c,cl.lookup n=ϊ c↔((n,î)∈sc.names/\X.env.cells.lookup n=ϊ c)) (hf:∀b∈fp,gk X π H b) (gH:∀b∈fp,b<s.heap.objs.size)
  (hk:∀b o,s.heap.get? b=ϊ o->h1.get? b=ϊ o) (hC:s.heap.objs.size<=C) (pA:∃m,h1.Ns C m):Inv (eU X N sc cl C s H fp (X.pn++π)) [] (l9 nt cap σ) H { s with heap:=h1,toks:=t' }:=by
 have Q:∀b∈cK X.stack,b∈X.env.locals::X.fs:=I.kX;have L:C∉cK X.stack:=λz=>by
  rcases Û.mp (I.kX C z) with e|e
  ·exact absurd (Ê I.lt hC) (by rw[e];exact ñ _)
  ·exact I.xi hC e
 have K:∀x,(relabel sc X.env).names.lookup x=ϊ .cell\/(relabel sc X.env).names.lookup x=ϊ .free->(x,î)∈sc.names:=λx Z=>by
  rw[yB] at Z
  cases e:sc.names.lookup x with
  |none=>rw[e] at Z;rcases Z with z|z<;>cases z
  |some k =>
   have Y:(x,k)∈sc.names:=by
    obtain⟨l1,l2,e1,_⟩:=List.lookup_eq_some_iff.mp e;rw[e1];simp
   rw[e] at Z
   cases k with
   |free=>exact Y
   |cell=>exact absurd rfl (S.wa _ Y)
   |_=>exfalso;revert Z;simp
 have J:∀x,(x,î)∈sc.names->∃c,X.env.cells.lookup x=ϊ c:=λx Z=>I.ok.has x (S.frees _ Z rfl).2;have ok:Cx.Ok (eU X N sc cl C s H fp (X.pn++π)):=by
  refine⟨I.ok.mod,?_,I.ok.glob,I.ok.blt,hC,?_,?_,?_,I.ok.hd,I.ok.frames,.inl rfl,?_,I.bs,Ý I.ok.iW I.sz,?_,?_,I.stack,I.vN⟩
  ·exact S.kind
  ·intro x y c Z G
   exact I.ok.inj x y c ((dh x c).mp Z).2 ((dh y c).mp G).2
  ·intro x Z
   have Y:=K x Z;obtain⟨c,e⟩:=J x Y;exact⟨c,(dh x c).mpr ⟨Y,e⟩⟩
  ·intro x c Z
   cases Z
  ·intro b W
   refine⟨ã (Ê (gH b W) hC),λx c e=>?_⟩;exact(hf b W).2.2.2.2.1 x c ((dh x c).mp e).2
  ·intro b o e W
   rcases(hf b W).2.2.2.1 with z|z
   ·exact I.ok.oQ b o e z
   ·exact absurd (Ê (Ð e) (Ý I.ok.iW z)) (ñ _)
  ·intro b W z
   rcases Û.mp (Q b z) with e|e
   ·exact(hf b W).2.1 e
   ·exact(hf b W).2.2.1 e
 obtain⟨m,Y⟩:=pA;obtain⟨mX,F,E⟩:=I.loc;refine⟨ok,rfl,I.bare,Un.kept hk,⟨m,Y,λi x v e1 e2 e3=>?_⟩,λx c e=>?_,I.aI.fresh hC,λx c e=>I.jd x c ((dh x c).mp e).2,λp D=>?_,I.aI.kept hk,?_⟩
 ·
  have P:nt<=i:=by
   apply δ;intro O;have:(l9 nt cap σ)[i]?=ϊ ϋ:=by
    delta l9;rw[ç (by simpa using O),ı,Ñ O]
   rw[this] at e2;cases e2
  have V:(cap.map λj=>(σ[j]?).getD ϋ)[i-nt]?=ϊ (ϊ v):=by
   have e:=e2;delta l9 at e;rw[ð (by simpa using P)] at e;simpa using e
  rw[ê] at V
  cases U:cap[i-nt]? with
  |none=>rw[U] at V;cases V
  |some j =>
   rw[U] at V;have ev:(σ[j]?).getD ϋ=ϊ v:=aeE V;have B:σ[j]?=ϊ (ϊ v):=by
    cases q:σ[j]? with
    |none=>rw[q] at ev;cases ev
    |some z=>rw[q] at ev;exact Ń ϊ ev
   obtain⟨y,f1,f2,M⟩:=S.EY _ _ U;rw[Nat.add_sub_cancel' P] at f2;have A:y=x:=aeE (f2.symm.trans e1);subst A;obtain⟨g1,g2⟩:=S.frees _ M rfl;have w:qU X.env.scope y:=.inr g2;obtain⟨u,r,l⟩:=E j y v f1 B w;refine⟨u,r,.inr ⟨?_,?_⟩⟩
   ·show (relabel sc X.env).names.lookup y=ϊ .cell\/(relabel sc X.env).names.lookup y=ϊ .free
    rw[yB,g1];erw[abI];split
    ·exact .inl rfl
    ·exact .inr rfl
   ·rcases l with ⟨k,_⟩ | ⟨_,c,t,h⟩
    ·exfalso
     have g:X.env.scope.names.lookup y=ϊ .local:=k;dsimp only at g2;rw[g] at g2
     rcases g2 with z|z<;>cases z
    ·obtain⟨T,R,hd⟩:=h
     exact⟨c,(dh y c).mpr ⟨M,t⟩,T,hk _ _ R,hd⟩
 ·obtain⟨v,T,R,hd⟩:=I.cell x c ((dh x c).mp e).2
  exact⟨v,T,hk _ _ R,hd⟩
 ·have f:p∈X.pn++π:=by simpa using D
  obtain⟨e,n,ne,a,d⟩:=I.pin p f;refine⟨hk _ _ e,n,ã (Ê (Ð e) hC),λz=>?_,d⟩
  rcases Û.mp (Q p.1 z) with q|q
  ·exact ne q
  ·exact a q
 ·delta l9
  rw[ä,ω,É];exact S.len.symm
end
inductive Kn where
 |au|bl|int|str|tup|lst|cy
 deriving DecidableEq
def uJ (K:đ) (H:Hp):V->Kn->Prop
 | .au,.au=>True
 | .bl _,.bl=>True
 | .int _,.int=>True
 | .str _,.str=>True
 | .ref a,.tup=>∃Z,bV K H a Z
 | .ref a,.lst=>∃Z,bY K H a Z
 | .ref a,.cy=>∃Y,H a=ϊ (.dK Y)
 |_,_=>False
def tY:Kn->String->Bool
 | .int,"int"=>ό
 | .bl,"int"=>ό
 | .bl,"bool"=>ό
 | .str,"str"=>ό
 | .tup,"tuple"=>ό
 | .lst,"list"=>ό
 |_,_=>ύ
section
variable {X:Cx}
def Inv.wb {π:List (ß×Obj)} {σ:St} {H:Hp} {s:Â} {a:ß} {xs:List V} (I:Inv X π σ H s) (h:bV X.K H a xs):∃o,s.heap.get? a=ϊ o/\o.cls=.type "tuple":=by
 obtain⟨its,r,⟨o,e,c,_⟩,_⟩:=I.tuple h;exact⟨o,e,c⟩
def Inv.wc {π:List (ß×Obj)} {σ:St} {H:Hp} {s:Â} {a:ß} {xs:List V} (I:Inv X π σ H s) (h:bY X.K H a xs):∃o,s.heap.get? a=ϊ o/\o.cls=.type "list":=by
 obtain⟨its,r,⟨o,n,e,c,_⟩,_⟩:=I.list h;exact⟨o,e,c⟩
def Inv.we {π:List (ß×Obj)} {σ:St} {H:Hp} {s:Â} {a:ß} {aX:List (Key×V)} (I:Inv X π σ H s) (h:H a=ϊ (.dK aX)):∃o,s.heap.get? a=ϊ o/\o.cls=.type "dict":=by
 obtain⟨_,_,W,_,p⟩:=(show eO X.prog X.w H s.heap a (.dK aX) from I.aI a _ h);obtain⟨o,U,T,Z,Y,_⟩:=p;exact⟨o,Z,Y.1⟩
def QS:cT X (.builtin "isinstance") (λxs H Q=>∃x k,xs=[x,.ty "int"]/\uJ X.K H x k/\Q (.bl (tY k "int")) H):=by
 intro T s σ H xs S Q I r h;obtain⟨x,k,rfl,Z,q⟩:=h;obtain⟨u,c,rfl,Y,rc⟩:=vals2 r;cases rc
 cases k with
 |au =>
  cases x with
  |au =>
   cases Y;exact IsiPair.NoneType_int ⟨.bl ύ,H,I.tok _,rfl,q⟩
  |_=>exact Z.elim
 |bl =>
  cases x with
  |bl b =>
   cases Y;exact IsiPair.bool_int ⟨.bl ό,H,I,rfl,q⟩
  |_=>exact Z.elim
 |int =>
  cases x with
  |int i =>
   obtain⟨t,rfl⟩:=Y;exact IsiPair.int_int ⟨.bl ό,H,I,rfl,q⟩
  |_=>exact Z.elim
 |str =>
  cases x with
  |str y =>
   obtain⟨t,rfl⟩:=Y;exact IsiPair.str_int ⟨.bl ύ,H,I.tok _,rfl,q⟩
  |_=>exact Z.elim
 |tup =>
  cases x with
  |ref a =>
   cases Y;obtain⟨z,W⟩:=Z;obtain⟨o,V,U⟩:=I.wb W;exact IsiPair.tuple_int V U ⟨.bl ύ,H,I.tok _,rfl,q⟩
  |_=>exact Z.elim
 |lst =>
  cases x with
  |ref a =>
   cases Y;obtain⟨z,W⟩:=Z;obtain⟨o,V,U⟩:=I.wc W;exact IsiPair.list_int V U ⟨.bl ύ,H,I.tok _,rfl,q⟩
  |_=>exact Z.elim
 |cy =>
  cases x with
  |ref a =>
   cases Y;obtain⟨z,W⟩:=Z;obtain⟨o,V,U⟩:=I.we W;exact IsiPair.dict_int V U ⟨.bl ύ,H,I.tok _,rfl,q⟩
  |_=>exact Z.elim
def Qt:cT X (.builtin "isinstance") (λxs H Q=>∃x k,xs=[x,.ty "bool"]/\uJ X.K H x k/\Q (.bl (tY k "bool")) H):=by
 intro T s σ H xs S Q I r h;obtain⟨x,k,rfl,Z,q⟩:=h;obtain⟨u,c,rfl,Y,rc⟩:=vals2 r;cases rc
 cases k with
 |au =>
  cases x with
  |au =>
   cases Y;exact IsiPair.NoneType_bool ⟨.bl ύ,H,I.tok _,rfl,q⟩
  |_=>exact Z.elim
 |bl =>
  cases x with
  |bl b =>
   cases Y;exact IsiPair.bool_bool ⟨.bl ό,H,I,rfl,q⟩
  |_=>exact Z.elim
 |int =>
  cases x with
  |int i =>
   obtain⟨t,rfl⟩:=Y;exact IsiPair.int_bool ⟨.bl ύ,H,I.tok _,rfl,q⟩
  |_=>exact Z.elim
 |str =>
  cases x with
  |str y =>
   obtain⟨t,rfl⟩:=Y;exact IsiPair.str_bool ⟨.bl ύ,H,I.tok _,rfl,q⟩
  |_=>exact Z.elim
 |tup =>
  cases x with
  |ref a =>
   cases Y;obtain⟨z,W⟩:=Z;obtain⟨o,V,U⟩:=I.wb W;exact IsiPair.tuple_bool V U ⟨.bl ύ,H,I.tok _,rfl,q⟩
  |_=>exact Z.elim
 |lst =>
  cases x with
  |ref a =>
   cases Y;obtain⟨z,W⟩:=Z;obtain⟨o,V,U⟩:=I.wc W;exact IsiPair.list_bool V U ⟨.bl ύ,H,I.tok _,rfl,q⟩
  |_=>exact Z.elim
 |cy =>
  cases x with
  |ref a =>
   cases Y;obtain⟨z,W⟩:=Z;obtain⟨o,V,U⟩:=I.we W;exact IsiPair.dict_bool V U ⟨.bl ύ,H,I.tok _,rfl,q⟩
  |_=>exact Z.elim
def QT:cT X (.builtin "isinstance") (λxs H Q=>∃x k,xs=[x,.ty "str"]/\uJ X.K H x k/\Q (.bl (tY k "str")) H):=by
 intro T s σ H xs S Q I r h;obtain⟨x,k,rfl,Z,q⟩:=h;obtain⟨u,c,rfl,Y,rc⟩:=vals2 r;cases rc
 cases k with
 |au =>
  cases x with
  |au =>
   cases Y;exact IsiPair.NoneType_str ⟨.bl ύ,H,I.tok _,rfl,q⟩
  |_=>exact Z.elim
 |bl =>
  cases x with
  |bl b =>
   cases Y;exact IsiPair.bool_str ⟨.bl ύ,H,I.tok _,rfl,q⟩
  |_=>exact Z.elim
 |int =>
  cases x with
  |int i =>
   obtain⟨t,rfl⟩:=Y;exact IsiPair.int_str ⟨.bl ύ,H,I.tok _,rfl,q⟩
  |_=>exact Z.elim
 |str =>
  cases x with
  |str y =>
   obtain⟨t,rfl⟩:=Y;exact IsiPair.str_str ⟨.bl ό,H,I,rfl,q⟩
  |_=>exact Z.elim
 |tup =>
  cases x with
  |ref a =>
   cases Y;obtain⟨z,W⟩:=Z;obtain⟨o,V,U⟩:=I.wb W;exact IsiPair.tuple_str V U ⟨.bl ύ,H,I.tok _,rfl,q⟩
  |_=>exact Z.elim
 |lst =>
  cases x with
  |ref a =>
   cases Y;obtain⟨z,W⟩:=Z;obtain⟨o,V,U⟩:=I.wc W;exact IsiPair.list_str V U ⟨.bl ύ,H,I.tok _,rfl,q⟩
  |_=>exact Z.elim
 |cy =>
  cases x with
  |ref a =>
   cases Y;obtain⟨z,W⟩:=Z;obtain⟨o,V,U⟩:=I.we W;exact IsiPair.dict_str V U ⟨.bl ύ,H,I.tok _,rfl,q⟩
  |_=>exact Z.elim
def Qj:cT X (.builtin "isinstance") (λxs H Q=>∃x k,xs=[x,.ty "tuple"]/\uJ X.K H x k/\Q (.bl (tY k "tuple")) H):=by
 intro T s σ H xs S Q I r h;obtain⟨x,k,rfl,Z,q⟩:=h;obtain⟨u,c,rfl,Y,rc⟩:=vals2 r;cases rc
 cases k with
 |au =>
  cases x with
  |au =>
   cases Y;exact IsiPair.NoneType_tuple ⟨.bl ύ,H,I.tok _,rfl,q⟩
  |_=>exact Z.elim
 |bl =>
  cases x with
  |bl b =>
   cases Y;exact IsiPair.bool_tuple ⟨.bl ύ,H,I.tok _,rfl,q⟩
  |_=>exact Z.elim
 |int =>
  cases x with
  |int i =>
   obtain⟨t,rfl⟩:=Y;exact IsiPair.int_tuple ⟨.bl ύ,H,I.tok _,rfl,q⟩
  |_=>exact Z.elim
 |str =>
  cases x with
  |str y =>
   obtain⟨t,rfl⟩:=Y;exact IsiPair.str_tuple ⟨.bl ύ,H,I.tok _,rfl,q⟩
  |_=>exact Z.elim
 |tup =>
  cases x with
  |ref a =>
   cases Y;obtain⟨z,W⟩:=Z;obtain⟨o,V,U⟩:=I.wb W;exact IsiPair.tuple_tuple V U ⟨.bl ό,H,I,rfl,q⟩
  |_=>exact Z.elim
 |lst =>
  cases x with
  |ref a =>
   cases Y;obtain⟨z,W⟩:=Z;obtain⟨o,V,U⟩:=I.wc W;exact IsiPair.list_tuple V U ⟨.bl ύ,H,I.tok _,rfl,q⟩
  |_=>exact Z.elim
 |cy =>
  cases x with
  |ref a =>
   cases Y;obtain⟨z,W⟩:=Z;obtain⟨o,V,U⟩:=I.we W;exact IsiPair.dict_tuple V U ⟨.bl ύ,H,I.tok _,rfl,q⟩
  |_=>exact Z.elim
def Qu:cT X (.builtin "isinstance") (λxs H Q=>∃x k,xs=[x,.ty "list"]/\uJ X.K H x k/\Q (.bl (tY k "list")) H):=by
 intro T s σ H xs S Q I r h;obtain⟨x,k,rfl,Z,q⟩:=h;obtain⟨u,c,rfl,Y,rc⟩:=vals2 r;cases rc
 cases k with
 |au =>
  cases x with
  |au =>
   cases Y;exact IsiPair.NoneType_list ⟨.bl ύ,H,I.tok _,rfl,q⟩
  |_=>exact Z.elim
 |bl =>
  cases x with
  |bl b =>
   cases Y;exact IsiPair.bool_list ⟨.bl ύ,H,I.tok _,rfl,q⟩
  |_=>exact Z.elim
 |int =>
  cases x with
  |int i =>
   obtain⟨t,rfl⟩:=Y;exact IsiPair.int_list ⟨.bl ύ,H,I.tok _,rfl,q⟩
  |_=>exact Z.elim
 |str =>
  cases x with
  |str y =>
   obtain⟨t,rfl⟩:=Y;exact IsiPair.str_list ⟨.bl ύ,H,I.tok _,rfl,q⟩
  |_=>exact Z.elim
 |tup =>
  cases x with
  |ref a =>
   cases Y;obtain⟨z,W⟩:=Z;obtain⟨o,V,U⟩:=I.wb W;exact IsiPair.tuple_list V U ⟨.bl ύ,H,I.tok _,rfl,q⟩
  |_=>exact Z.elim
 |lst =>
  cases x with
  |ref a =>
   cases Y;obtain⟨z,W⟩:=Z;obtain⟨o,V,U⟩:=I.wc W;exact IsiPair.list_list V U ⟨.bl ό,H,I,rfl,q⟩
  |_=>exact Z.elim
 |cy =>
  cases x with
  |ref a =>
   cases Y;obtain⟨z,W⟩:=Z;obtain⟨o,V,U⟩:=I.we W;exact IsiPair.dict_list V U ⟨.bl ύ,H,I.tok _,rfl,q⟩
  |_=>exact Z.elim
end
section
variable {X:Cx} {es:List ě} {t:TA} {pos:Pos}
def KC {bs:List Bool} (r:Vals (bs.map V.bl) its):TruthOf X.prog X.w A (λi v=>its.toArray[i]?=ϊ v) (λi=>bs.getD i ύ):=by
 intro i v s Q E T S;have Z:its[i]?=ϊ v:=by simpa using T
 have O:i<its.length:=(Ô.mp Z).1;have Y:i<bs.length:=by
  have e:=r.length;rw[É] at e;omega
 have R:(bs.map V.bl)[i]?=ϊ (.bl (bs[i])):=by rw[ê,Ø Y];rfl
 obtain⟨u,W,P⟩:=Vals.get r R;rw[Z] at W;cases W;cases P;have e:bs.getD i ύ=bs[i]:=by simp[Ŷ,Ø Y]
 have U:Q (bs.getD i ύ) s:=S;rw[e] at U;exact Ŝ U
def range_all (bs:List Bool):(è bs.length).all (λi=>bs.getD i ύ)=bs.all id:=by
 rw[ĭ,ô,ô];constructor
 ·intro h b Y
  obtain⟨i,Z,e⟩:=adk Y;have:=h i (Ċ.mpr Z);simpa [Ŷ,Ø Z,e] using this
 ·intro h i Z
  have Z:=Ċ.mp Z;have:=h _ (ad5 Z);simpa [Ŷ,Ø Z] using this
def range_any (bs:List Bool):(è bs.length).any (λi=>bs.getD i ύ)=bs.any id:=by
 rw[ĭ,List.any_eq_true,List.any_eq_true];constructor
 ·rintro ⟨i,Z,h⟩
  have Z:=Ċ.mp Z;exact⟨bs[i],ad5 Z,by simpa [Ŷ,Ø Z] using h⟩
 ·rintro ⟨b,Y,h⟩
  obtain⟨i,Z,e⟩:=adk Y;exact⟨i,Ċ.mpr Z,by simpa [Ŷ,Ø Z,e] using h⟩
def UN (hc:X.calm=ό):cT X (.builtin "all") (λxs H Q=>∃(p:ß) (bs:List Bool),xs=[.ref p]/\bY X.K H p (bs.map V.bl)/\Q (.bl (bs.all id)) H):=by
 intro O s σ H xs N Q I r h;obtain⟨p,bs,rfl,W,q⟩:=h;obtain⟨u,rfl,U⟩:=vals1 r;cases U;obtain⟨its,Y,Z,M⟩:=I.list W;have T:its.toArray.size=bs.length:=by
  have e:=Y.length;rw[É] at e;simpa using e.symm
 have S:X.A.in1.handled=ϋ:=I.ok.hd hc;refine call_all_walk (ŵ Z.isList ?_);have old:p≠s.heap.objs.size:=ã (by obtain⟨o,n,e,_⟩:=Z;exact Ð e);refine⟨s.heap.objs.size,[s.heap.objs.size,p],[s.heap.objs.size],its.toArray.size,_,_,λi=>bs.getD i ύ,rfl,Walks.list S s.heap.objs.size p old its.toArray,⟨⟨_,Î _ rfl,rfl,rfl⟩,Z.isList.at λo e=>Á _ e⟩,KC Y,λL R P=>?_⟩;rw[T,range_all];exact⟨.bl _,H,I.kept (t':=R) λb o e=>P b o (by simpa using ã (Ð e)) (Á _ e),rfl,q⟩
def UO (hc:X.calm=ό):cT X (.builtin "any") (λxs H Q=>∃(p:ß) (bs:List Bool),xs=[.ref p]/\bY X.K H p (bs.map V.bl)/\Q (.bl (bs.any id)) H):=by
 intro O s σ H xs N Q I r h;obtain⟨p,bs,rfl,W,q⟩:=h;obtain⟨u,rfl,U⟩:=vals1 r;cases U;obtain⟨its,Y,Z,M⟩:=I.list W;have T:its.toArray.size=bs.length:=by
  have e:=Y.length;rw[É] at e;simpa using e.symm
 have S:X.A.in1.handled=ϋ:=I.ok.hd hc;refine call_any_walk (ŵ Z.isList ?_);have old:p≠s.heap.objs.size:=ã (by obtain⟨o,n,e,_⟩:=Z;exact Ð e);refine⟨s.heap.objs.size,[s.heap.objs.size,p],[s.heap.objs.size],its.toArray.size,_,_,λi=>bs.getD i ύ,rfl,Walks.list S s.heap.objs.size p old its.toArray,⟨⟨_,Î _ rfl,rfl,rfl⟩,Z.isList.at λo e=>Á _ e⟩,KC Y,λL R P=>?_⟩;rw[T,range_any];exact⟨.bl _,H,I.kept (t':=R) λb o e=>P b o (by simpa using ã (Ð e)) (Á _ e),rfl,q⟩
end
def xn:Key->PyData
 | .inl i=>.int i
 | .inr x=>.str x
mutual
def DV (K:đ) (Z:ß->Prop) (H:Hp):PyData->V->Prop
 | .none,v=>v=.au
 | .bool b,v=>v=.bl b
 | .int i,v=>v=.int i
 | .str x,v=>v=.str x
 | .tuple X,v=>∃a Y,v=.ref a/\bV K H a Y/\ar K Z H X Y
 | .list X,v=>∃a Y,v=.ref a/\¬ Z a/\H a=ϊ (.lst Y)/\ar K Z H X Y
 | .dict U,v=>∃a W,v=.ref a/\¬ Z a/\H a=ϊ (.dK W)/\∃l:List (Key×Int),W=l.map (λp=>(p.1,V.int p.2))/\U=l.map λp=>(xn p.1,PyData.int p.2)
def ar (K:đ) (Z:ß->Prop) (H:Hp):List PyData->List V->Prop
 | [],Y=>Y=[]
 |d::X,Y=>∃v r,Y=v::r/\DV K Z H d v/\ar K Z H X r
end
section
variable {X:Cx} {π:List (ß×Obj)} {σ:St} {H:Hp} {s:Â} {Z:ß->Prop}
theorem Jh:∀{l:List (Key×Int)} {vs:List (Key×Ç)} {es:List DictEntry},KV (l.map λp=>(p.1,V.int p.2)) vs->Pairs (zd P w) es vs ->
  ReadsAll h (es.map (·.key)) ((l.map λp=>(xn p.1,PyData.int p.2)).map (·.1)) []/\ReadsAll h (es.map (·.val)) ((l.map λp=>(xn p.1,PyData.int p.2)).map (·.2)) []
 | [],_,_,.nil,.nil=>⟨.nil,.nil⟩
 |(k,i)::l,_,_,.cons (b:=q) r t,.cons (e:=e) U T S=>by
  obtain⟨a1,a2⟩:=Jh (h:=h) t S;obtain⟨Z,X,Y⟩:=r;have Z:k=q.1:=Z;have Y:q.2=ad9 i X:=Y;refine⟨?_,?_⟩
  ·have W:DR q.1 e.key=ό:=U
   rw[<- Z] at W;have:Reads h e.key (xn k) []:=by
    rcases lZ W with ⟨j,u,e1,e2⟩ | ⟨x,u,e1,e2⟩
    ·rw[e1,e2];exact .int j u
    ·rw[e1,e2];exact .str x u
   exact ReadsAll.cons (as:=[]) (bs:=[]) this a1
  ·have:Reads h e.val (.int i) []:=by rw[T,Y];exact .int i X
   exact ReadsAll.cons (as:=[]) (bs:=[]) this a2
mutual
theorem DV.reads (I:Inv X π σ H s):∀{d:PyData} {v:V} {u:Ç},DV X.K Z H d v->RelV v u->∃as,Reads s.heap u d as
 | .none,v,u,h,r=>by
  have e:v=.au:=h;subst e;cases r;exact⟨[],.none⟩
 | .bool b,v,u,h,r=>by
  have e:v=.bl b:=h;subst e;cases r;exact⟨[],.bool b⟩
 | .int i,v,u,h,r=>by
  have e:v=.int i:=h;subst e;obtain⟨t,rfl⟩:=r;exact⟨[],.int i t⟩
 | .str x,v,u,h,r=>by
  have e:v=.str x:=h;subst e;obtain⟨t,rfl⟩:=r;exact⟨[],.str x t⟩
 | .tuple R,v,u,h,r=>by
  erw[DV] at h;obtain⟨a,Q,e,Y,W⟩:=h;subst e;cases r;obtain⟨its,U,⟨o,e,c,n,T⟩,_⟩:=I.tuple Y;obtain⟨as,S⟩:=ar.reads I W U;exact⟨as,.tuple e c T (by simpa using S)⟩
 | .list R,v,u,h,r=>by
  erw[DV] at h;obtain⟨a,Q,e,_,Y,W⟩:=h;subst e;cases r;obtain⟨its,U,⟨o,n,e,c,_,T⟩,_⟩:=I.list (bY.of Y);obtain⟨as,S⟩:=ar.reads I W U;exact⟨a::as,.list e c T (by simpa using S)⟩
 | .dict L,v,u,h,r=>by
  erw[DV] at h;obtain⟨a,J,e,_,Y,l,e1,e2⟩:=h;subst e e1 e2;cases r;obtain⟨_,_,G,P,o,F,E,g1,g2,g3,_,O,_⟩:=(show eO X.prog X.w H s.heap a (.dK _) from I.aI a _ Y);obtain⟨N,M⟩:=Jh (h:=s.heap) P O;exact⟨a::[]++[],.dict g1 g2.1 g3 N M⟩
theorem ar.reads (I:Inv X π σ H s):∀{ds:List PyData} {vs:List V} {us:List Ç},ar X.K Z H ds vs->Vals vs us->∃as,ReadsAll s.heap us ds as
 | [],vs,us,h,r=>by
  have e:vs=[]:=h;subst e;cases r;exact⟨[],.nil⟩
 |d::ds,vs,us,h,r=>by
  obtain⟨v,S,e,Y,W⟩:=h;subst e
  cases r with
  |cons U T =>
   obtain⟨as,a1⟩:=DV.reads I Y U;obtain⟨bs,a2⟩:=ar.reads I W T;exact⟨as++bs,.cons a1 a2⟩
end
def OG (K:đ) (neg:Bool):R2:=λx y H Q=>∃(d e:PyData) (Z:ß->Prop),DV K Z H d x/\DV K Z H e y/\d.canLay0=ό/\e.canLay0=ό/\min d.depth e.depth<=100/\Q (.bl (if neg then !PyData.eqv d e else ĩ d e)) H
def YC (hr:bK k X.A):bM X (ĕ .Eq) (OG X.K ύ):=by
 intro O s σ H x y v u Q I Y W h;obtain⟨d,e,Z,V,U,T,S,N,q⟩:=h;obtain⟨as,R⟩:=V.reads I Y;obtain⟨bs,P⟩:=U.reads I W;exact SeqAt.eqOverData _ _ _ _ _ _ _ _ _ _ _ _ R P T S (by have:=hr.un;omega) ⟨.bl _,H,I,rfl,q⟩
def YD (hr:bK k X.A):bM X (ĕ .NotEq) (OG X.K ό):=by
 intro O s σ H x y v u Q I Y W h;obtain⟨d,e,Z,V,U,T,S,N,q⟩:=h;obtain⟨as,R⟩:=V.reads I Y;obtain⟨bs,P⟩:=U.reads I W;exact SeqAt.neOverData _ _ _ _ _ _ _ _ _ _ _ _ R P T S (by have:=hr.un;omega) ⟨.bl _,H,I,rfl,q⟩
end
end L2
namespace HT
open PySem PySem.Spec PyProof.Rows
section
variable {prog:å} {w:Ą} {A:í} {E:Ç->Â->Prop} {s:Â}
def J2 (ht:IsTup s.heap t items) (h:Q ό s):á (é prog w) A (acX (.ref t)) Q E s:=by
 delta acX;exact À (adq ht.typeIs (Ã h))
def Qk {lo hi:Option Int} {Q:Ç->Â->Prop} (ht:IsTup s.heap t items) (hs:s.heap.IsSliceOf sl vl vu .none) (pl:IsPart vl lo) (pu:IsPart vu hi)
 (hw:bp items.size 0 lo=0/\bp items.size items.size hi=items.size) (h:Q (.ref t) s):á (é prog w) A (getItem (.ref t) (.ref sl)) Q E s:=by
 obtain⟨os,Z,Y,U⟩:=id hs;have X:s.TypeIs (.ref sl) "slice":=⟨os,Z,Y⟩;delta getItem
 try with_reducible refine ą ?_
 first|refine À (Ã ?_)|skip
 refine À (wpAny_sequenceKey ht.typeIs (by decide) ?_);refine À (ĉ (name:=Ĉ "__getitem__") ht.typeIs Ę
  (Ď Ę ht.typeIs entry_tuple_getitem ?_ (args_tuple_getitem _ _)))
 show á _ _ (acW (.ref t) >>= _) _ _ s;refine À (tupleItemsOf_ ht ?_);refine À (adq X ?_);rw[Ñ (by decide)];refine À (Iu hs pl pu ?_);obtain⟨W,V⟩:=hw
 show á _ _ (if (((bp items.size 0 lo:Nat):Int)==0&&(1:Int)==1&&(bp items.size items.size hi-bp items.size 0 lo)==items.size)=ό then _ else _) _ _ s
 rw[W,V,Ñ ∅]
 first
  |exact À (J2 ht (by erw[ò];exact À (Ŵ (Ã ⟨_,rfl,Ã h⟩))))
  |exact À (J2 ht (by erw[ò];exact À (Ŵ (À (Ã (Ã ⟨_,rfl,Ã h⟩))))))
end
end HT
namespace L2
open PySem PySem.Spec PyProof.Rows
def lp.sqT {K:đ} {H H':Hp} {a:ß} {xs:List V} (e:lp H H') (h:bV K H a xs):bV K H' a xs:=by
 rcases h with (h | ⟨o,h⟩)|h
 ·exact .inl (.inl (e _ _ h))
 ·exact .inl (.inr ⟨o,e _ _ h⟩)
 ·exact .inr h
theorem lp.upd (hn:H p=ϋ):lp H (upd H p o):=λb u e=>by rw[bt (dC e hn)];exact e
def oR (K:đ) (H:Hp) (ys:List V) (Q:VK):Prop:=∀a Z,lp H Z->bV K Z a ys->Q (.ref a) Z
def oR.here {K:đ} {H:Hp} {ys:List V} {Q:VK} {a:ß} (h:oR K H ys Q) (hs:bV K H a ys):Q (.ref a) H:=h a H (lp.refl H) hs
def oR.new {K:đ} {H:Hp} {ys:List V} {Q:VK} {p:ß} (h:oR K H ys Q) (hn:H p=ϋ):Q (.ref p) (L2.upd H p (.tup ys)):=h p _ (lp.upd hn) (bV.of cO)
section
variable {X:Cx} {e:ě} {te:TE} {pos p2 p3 p4:Pos}
def UP {lo hi:Option Int} (h:HT.bp xs.length 0 lo=0/\HT.bp xs.length xs.length hi=xs.length):lg xs lo hi=xs:=by
 delta lg;rw[h.1,h.2];simp
def ab3 (K:đ):V->Option Int->Option Int->Hp->VK->Prop:=λx lo Y H Q=>∃a Z,x=.ref a/\bV K H a Z/\oR K H (lg Z lo Y) Q
def WH:qZ X (ab3 X.K):=by
 intro P s σ H x v O N lo V sl Q I U T S pu h;obtain⟨a,Z,rfl,W,q⟩:=h;by_cases hw:HT.bp Z.length 0 lo=0/\HT.bp Z.length Z.length V=Z.length
 ·cases U
  obtain⟨its,r,R,L⟩:=I.tuple W;have Y:its.toArray.size=Z.length:=by rw[Ü];exact r.length.symm
  rw[UP hw] at q;exact⟨"tuple",_,Ę.lookup,R.typeIs,HT.Qk R T S pu (by rw[Y];exact hw) ⟨.ref a,H,I,rfl,q.here W⟩⟩
 ·exact zu P s σ H _ v O N lo V sl Q I U T S pu ⟨a,Z,rfl,W,hw,λp M=>q.new M⟩
def aap (K:đ):R2:=λx y H Q=>∃a b Z Y,x=.ref a/\y=.ref b/\bV K H a Z/\bV K H b Y/\Z.length+Y.length<=Õ/\oR K H (Z++Y) Q
def WI:bM X (ņ .Add) (aap X.K):=by
 intro M s σ H x y v u Q I W V h;obtain⟨a,b,U,L,rfl,rfl,Z,Y,J,q⟩:=h;by_cases T:U=[]
 ·subst T
  cases W;cases V;obtain⟨its,G,F,_⟩:=I.tuple Z;obtain⟨E,w,p2,_⟩:=I.tuple Y;cases G;obtain⟨⟨cls,D,data,sl⟩,S,R,n,P⟩:=id F;obtain⟨⟨t,C,data2,B⟩,O,N,A,hd2⟩:=id p2;simp only at R P N hd2;subst R P N hd2;exact concat_meets ⟨_,S,rfl⟩ ⟨_,O,rfl⟩ noFill_tuple_add seq_tuple_add adH adz (adp _ _)
   (tuple_addW0 a b _ E.toArray n A D C sl B ∅) ⟨S,O,⟨.ref b,H,I,rfl,q.here Y⟩⟩
 ·refine WD M s σ H _ _ v u Q I W V ⟨a,b,U,L,rfl,rfl,Z,Y,T,J,λe=>?_,λ_ p z=>q.new z⟩
  subst e;rw[ĥ] at q;exact q.here Z
end
end L2
namespace HZ
open PySem PySem.Spec PyProof.Rows
structure lO (P:å) (w:Ą) (A:í) (i l:ß) (tn:Nat->ĺ->Prop) (val:Nat->Option Ç):Prop where
 keep:∀k h h',tn k h->(∀o,h.get? i=ϊ o->h'.get? i=ϊ o)->(∀o,h.get? l=ϊ o->h'.get? l=ϊ o)->tn k h'
 item:∀k (s:Â) (Q:Ç->Â->Prop) (E:Ç->Â->Prop) x,tn k s.heap->val k=ϊ x->(∀h',tn (k+1) h'->Ĭ i s.heap h'->Q x { s with heap:=h' })->á (é P w) A (ā (.ref i)) Q E s
 stop:∀k (s:Â) (Q:Ç->Â->Prop) (E:Ç->Â->Prop),tn k s.heap->val k=ϋ->(∀h' e,adl i s.heap h'->(∃o,h'.get? e=ϊ o/\o.cls=.type "StopIteration")->E (.ref e) { s with heap:=h' })->á (é P w) A (ā (.ref i)) Q E s
 obj:∀k h,tn k h->∃o,h.get? i=ϊ o/\∀v,o.data≠.cell v
section
variable {P:å} {w:Ą} {A:í} {E:Ç->Â->Prop} {s:Â}
def RY (g:s.heap.IsTupleIter it t k) (gt:s.heap.IsTuple t its) (gx:its[k]?=ϊ x)
 (q:∀h',h'.IsTupleIter it t (k+1)->Ĭ it s.heap h'->Q x { s with heap:=h' }):á (é P w) A (ā (.ref it)) Q E s:=by
 obtain⟨o,go,Y,Z⟩:=id g;obtain⟨ol,X,_,nl,W⟩:=gt;delta ā;refine À (ĉ (name:=Ĉ "__next__") g.typeIs ţ
  (Ď ţ g.typeIs F.entry_tuple_iterator_next ?_ (F.args_tuple_iterator_next_1 _)))
 show á _ _ (field (.ref it) 0 >>= _) _ _ _;refine À (Į go Z (x:=.ref t) rfl ?_)
 show á _ _ (if (Ō t==Value.none)=ό then _ else _) _ _ _
 rw[Ú (λz:(Ō t==Value.none)=ό=>Ä z)];show á _ _ (field (.ref it) 1 >>= _) _ _ _;refine À (Į go Z (x:=.int k 0) rfl ?_);show á _ _ (seqItems? (.ref t) >>= _) _ _ _;refine À (ń X W ?_);erw[ĳ,gx];refine À (θ go Z ∅ (Ã ⟨x,rfl,Ã (q _ ?_ (Ģ ..))⟩));exact⟨_,Ğ _ go (œ (ď Z _)),(adN ..).trans Y,by rw[ď Z];simp[ĸ]⟩
def Ql (gh:A.handled=ϋ) (g:s.heap.IsTupleIter it t k) (gt:s.heap.IsTuple t its) (gx:its[k]?=ϋ)
 (q:∀h' e,adl it s.heap h'->(∃o,h'.get? e=ϊ o/\o.cls=.type "StopIteration")->E (.ref e) { s with heap:=h' }):á (é P w) A (ā (.ref it)) Q E s:=by
 obtain⟨o,go,W,Z⟩:=id g;obtain⟨ol,Y,_,nl,X⟩:=gt;delta ā;refine À (ĉ (name:=Ĉ "__next__") g.typeIs ţ
  (Ď ţ g.typeIs F.entry_tuple_iterator_next ?_ (F.args_tuple_iterator_next_1 _)))
 show á _ _ (field (.ref it) 0 >>= _) _ _ _;refine À (Į go Z (x:=.ref t) rfl ?_)
 show á _ _ (if (Ō t==Value.none)=ό then _ else _) _ _ _
 rw[Ú (λz:(Ō t==Value.none)=ό=>Ä z)];show á _ _ (field (.ref it) 1 >>= _) _ _ _;refine À (Į go Z (x:=.int k 0) rfl ?_);show á _ _ (seqItems? (.ref t) >>= _) _ _ _;refine À (ń Y X ?_);erw[ĳ,gx];refine À (Ŵ (À (θ go Z ∅ ?_)));show á _ _ (newExc (.type "StopIteration") [] >>= _) _ _ (_:Â);refine À ?_;erw[newExc,newTuple];refine À (û ?_ (by size_fits))
 refine À (m:=firstArgMember _ _) (abL (a:=Value.none) (by first|rfl | (delta firstArgMember;rfl)) ?_)
 refine û ?_ (by size_fits);erw[raiseNew];refine À (wpAny_handled ?_)
 first|rw[gh]|rw[show A.in1.handled=ϋ from gh]
 refine À (Ã (wpAny_throw ?_));exact q _ _ (((Ģ ..).extBut.push _).push _) ⟨_,Î _ rfl,rfl⟩
def WJ (gh:A.handled=ϋ) (i l:ß) (its:Array Ç):lO P w A i l (λk h=>h.IsTupleIter i l k/\h.IsTuple l its) (λk=>its[k]?) where
 keep:=λk h Y Z U T=>⟨Z.1.at U,by obtain⟨o,e,r⟩:=Z.2;exact⟨o,T o e,r⟩⟩
 item:=λk s Q E x Z e q=>RY Z.1 Z.2 e λY g X=>by
  by_cases W:l=i
  ·exfalso
   subst W;obtain⟨o,e1,S,_⟩:=Z.1;obtain⟨R,e2,V,_⟩:=Z.2;rw[e1] at e2;cases e2;rw[S] at V;simp at V
  ·obtain⟨o,e2,r⟩:=Z.2
   exact q Y ⟨g,o,(X.2 l W).trans e2,r⟩ X
 stop:=λk s Q E Z e q=>Ql gh Z.1 Z.2 e q
 obj:=λk h Z=>by
  obtain⟨o,e,_,d⟩:=Z.1;exact⟨o,e,λv z=>by rw[d] at z;cases z⟩
def WK (gh:A.handled=ϋ) (i l:ß) (its:Array Ç):lO P w A i l (λk h=>h.IsListIter i l k/\h.IsList l its) (λk=>its[k]?) where
 keep:=λk h Y Z U T=>⟨Z.1.at U,Z.2.at T⟩
 item:=λk s Q E x Z e q=>wpAny_nextOf_list_item Z.1 Z.2 e λY g X=>by
  by_cases W:l=i
  ·exfalso
   subst W;obtain⟨o,e1,S,_⟩:=Z.1;obtain⟨R,e2,V,_⟩:=Z.2;rw[e1] at e2;cases e2;rw[S] at V;simp at V
  ·exact q Y ⟨g,Z.2.at λo e2=>(X.2 l W).trans e2⟩ X
 stop:=λk s Q E Z e q=>wpAny_nextOf_list_end gh Z.1 Z.2 e q
 obj:=λk h Z=>by
  obtain⟨o,e,_,d⟩:=Z.1;exact⟨o,e,λv z=>by rw[d] at z;cases z⟩
structure Apart (z ti to j1 j2 m1 m2:ß):Prop where
 a1:ti≠z
 a2:to≠z
 a3:j1≠z
 a4:j2≠z
 a5:ti≠to
 a6:ti≠j1
 a7:ti≠j2
 a8:to≠j1
 a9:to≠j2
 b0:j1≠j2
 b1:m1≠z
 b2:m1≠to
 b3:m1≠j1
 b4:m1≠j2
 b5:m2≠z
 b6:m2≠to
 b7:m2≠j1
 b8:m2≠j2
def UQ {t1 t2:Nat->ĺ->Prop} {v1 v2:Nat->Option Ç} {k:Nat} {Q:Ç->Â->Prop} (D:Apart z ti to j1 j2 m1 m2) (S1:lO P w A j1 m1 t1 v1) (S2:lO P w A j2 m2 t2 v2)
 (gz:IsZip s.heap z ti to .none) (gi:ac5 s.heap ti (.ref j1) (.ref j2)) (go:ac5 s.heap to a b) (h1:t1 k s.heap) (h2:t2 k s.heap) (hx:v1 k=ϊ x) (hy:v2 k=ϊ y)
 (q:∀h',IsZip h' z ti to (ĸ s.heap.objs.size)->ac5 h' to x y->t1 (k+1) h'->t2 (k+1) h'->ac5 h' s.heap.objs.size x y->h'.objs.size=s.heap.objs.size+1 ->
 (∀c o,c≠z->c≠to->c≠j1->c≠j2->s.heap.get? c=ϊ o->h'.get? c=ϊ o)->Q (.ref s.heap.objs.size) { s with heap:=h' }) :
  á (é P w) A (ŗ.«zip.__next__» ⟨[.ref z],[]⟩) (λfin s'=>∃v,fin=.done (.ret v)/\Q v s') E s:=by
 show á _ _ (field (.ref z) 2 >>= _) _ _ (_:Â);refine À (Į gz rfl (x:=.bool ύ) rfl ?_);show á _ _ (field (.ref z) 3 >>= _) _ _ (_:Â);refine À (Į gz rfl (x:=.ref ti) rfl ?_);refine À (ń gi rfl ?_);show á _ _ (ľ (.ref z) >>= _) _ _ (_:Â);refine À ?_;delta ľ;refine À (Į gz rfl (x:=.none) rfl (Ã ?_));erw[ò];refine À (Ŵ ?_);refine À (Į gz rfl (x:=.ref to) rfl ?_);refine À (Ū gz ∅ λl N Y=>?_)
 replace N:IsZip l z ti to .ellipsis:=N
 refine À ?_;erw[List.zipIdx_cons,List.zipIdx_nil,adA,List.forIn_nil];refine À (À (wpAny_onRaise ?_));show á _ _ (ā (.ref j1) >>= _) _ _ (_:Â);refine À (S1.item k _ _ _ x (S1.keep k _ _ h1 (λo e=>Y.extBut _ _ D.a3 e) (λo e=>Y.extBut _ _ D.b1 e)) hx λj i V=>Ã ?_);have B:ac5 j to a b:=V.extBut _ _ D.a8 (Y.extBut _ _ D.a2 go);refine À (ń B rfl ?_);refine À (wpAny_updateSeq_pair B λh M X=>?_)
 replace M:ac5 h to x b:=M
 refine À (wpAny_letGo (Ã ?_));refine À (À (wpAny_onRaise ?_));show á _ _ (ā (.ref j2) >>= _) _ _ (_:Â);refine À (S2.item k _ _ _ y (S2.keep k _ _ h2 (λo e=>X.extBut _ _ D.a9.symm (V.extBut _ _ D.b0.symm (Y.extBut _ _ D.a4 e))) (λo e=>X.extBut _ _ D.b6 (V.extBut _ _ D.b7 (Y.extBut _ _ D.b5 e)))) hy λg L U=>Ã ?_);have u:ac5 g to x b:=U.extBut _ _ D.a9 M;refine À (ń u rfl ?_);refine À (wpAny_updateSeq_pair u λZ S s5=>?_)
 replace S:ac5 Z to x y:=S
 refine À (wpAny_letGo (Ã (Ã ?_)));refine À (ń S rfl ?_);refine À (wpAny_newTuple ?_);have t:Z.objs.size=s.heap.objs.size:=by rw[s5.1,U.1,X.1,V.1,Y.1]
 have r:IsZip Z z ti to .ellipsis:=s5.extBut _ _ D.a2.symm (U.extBut _ _ D.a4.symm (X.extBut _ _ D.a2.symm (V.extBut _ _ D.a3.symm N)));have f:∀c o,c≠z->c≠to->c≠j1->c≠j2->s.heap.get? c=ϊ o->Z.get? c=ϊ o:=λc o W R K J e=>s5.extBut _ _ R (U.extBut _ _ J (X.extBut _ _ R (V.extBut _ _ K (Y.extBut _ _ W e))));have I:t1 (k+1) Z:=S1.keep _ _ _ i (λo e=>s5.extBut _ _ D.a8.symm (U.extBut _ _ D.b0 (X.extBut _ _ D.a8.symm e))) (λo e=>s5.extBut _ _ D.b2 (U.extBut _ _ D.b4 (X.extBut _ _ D.b2 e)));have H:t2 (k+1) Z:=S2.keep _ _ _ L (λo e=>s5.extBut _ _ D.a9.symm e) (λo e=>s5.extBut _ _ D.b6 e);have p:z<Z.objs.size:=Ð r;show á _ _ (ac6 (.ref z) (.ref Z.objs.size) >>= _) _ _ (_:Â);refine À ?_;delta ac6;have d:IsZip (Z.push { cls:=.type "tuple",data:=.seq #[x,y] }) z ti to .ellipsis:=Á _ r;refine À (Ū d ∅ λp7 G F=>?_)
 replace G:IsZip p7 z ti to (ĸ Z.objs.size):=G
 refine Ū G ∅ λT O C=>?_
 replace O:IsZip T z ti to (ĸ Z.objs.size):=O
 have up:∀c o,c≠z->Z.get? c=ϊ o->T.get? c=ϊ o:=λc o W e=>C.extBut _ _ W (F.extBut _ _ W (Á _ e));have n:ac5 T Z.objs.size x y:=C.extBut _ _ (Ũ p) (F.extBut _ _ (Ũ p) (Î _ rfl));have m:T.objs.size=Z.objs.size+1:=by rw[C.1,F.1,Ā]
 rw[t] at O n m;refine Ã ⟨_,rfl,?_⟩;show Q (.ref Z.objs.size) _;rw[t];exact q T O (up _ _ D.a2 S) (S1.keep _ _ _ I (λo e=>up _ o D.a3 e) (λo e=>up _ o D.b1 e)) (S2.keep _ _ _ H (λo e=>up _ o D.a4 e) (λo e=>up _ o D.b5 e)) n m λc o W R K J e=>up c o W (f c o W R K J e)
def WL (D:Apart z ti to j1 j2 m1 m2) (S1:lO P w A j1 m1 t1 v1) (S2:lO P w A j2 m2 t2 v2)
 (gz:IsZip s.heap z ti to .none) (gi:ac5 s.heap ti (.ref j1) (.ref j2)) (go:ac5 s.heap to a b) (h1:t1 k s.heap) (h2:t2 k s.heap) (EZ:v1 k=ϋ\/v2 k=ϋ)
 (q:∀h' e,(∀c o,c≠z->c≠to->c≠j1->c≠j2->s.heap.get? c=ϊ o->h'.get? c=ϊ o)->(∃o,h'.get? e=ϊ o/\o.cls=.type "StopIteration")->E (.ref e) { s with heap:=h' }) :
  á (é P w) A (ŗ.«zip.__next__» ⟨[.ref z],[]⟩) Q E s:=by
 show á _ _ (field (.ref z) 2 >>= _) _ _ (_:Â);refine À (Į gz rfl (x:=.bool ύ) rfl ?_);show á _ _ (field (.ref z) 3 >>= _) _ _ (_:Â);refine À (Į gz rfl (x:=.ref ti) rfl ?_);refine À (ń gi rfl ?_);show á _ _ (ľ (.ref z) >>= _) _ _ (_:Â);refine À ?_;delta ľ;refine À (Į gz rfl (x:=.none) rfl (Ã ?_));erw[ò];refine À (Ŵ ?_);refine À (Į gz rfl (x:=.ref to) rfl ?_);refine À (Ū gz ∅ λN V Y=>?_)
 replace V:IsZip N z ti to .ellipsis:=V
 refine À ?_;erw[List.zipIdx_cons,List.zipIdx_nil,adA,List.forIn_nil];refine À (À (wpAny_onRaise ?_));show á _ _ (ā (.ref j1) >>= _) _ _ (_:Â);have M:t1 k N:=S1.keep k _ _ h1 (λo e=>Y.extBut _ _ D.a3 e) (λo e=>Y.extBut _ _ D.b1 e)
 cases U:v1 k with
 |none =>
  refine À (S1.stop k _ _ _ M U λT e Z S=>?_);obtain⟨R,g1,g2⟩:=S;have L:IsZip T z ti to .ellipsis:=Z _ _ D.a3.symm V;have ne:e≠z:=λu=>by subst u;rw[L] at g1;cases g1;simp at g2
  refine Ū L ∅ λK _ X=>q K e (λc o W _ O _ u=>X.extBut _ _ W (Z _ _ O (Y.extBut _ _ W u))) ⟨R,X.extBut _ _ ne g1,g2⟩
 |some x =>
  have G:v2 k=ϋ:=by
   rcases EZ with h|h
   ·rw[U] at h;cases h
   ·exact h
  refine À (S1.item k _ _ _ x M U λT v Z=>Ã ?_);have J:ac5 T to a b:=Z.extBut _ _ D.a8 (Y.extBut _ _ D.a2 go);refine À (ń J rfl ?_);refine À (wpAny_updateSeq_pair J λK t X=>?_);refine À (wpAny_letGo (Ã ?_));refine À (À (wpAny_onRaise ?_));show á _ _ (ā (.ref j2) >>= _) _ _ (_:Â);refine À (S2.stop k _ _ _ (S2.keep k _ _ h2 (λo e=>X.extBut _ _ D.a9.symm (Z.extBut _ _ D.b0.symm (Y.extBut _ _ D.a4 e))) (λo e=>X.extBut _ _ D.b6 (Z.extBut _ _ D.b7 (Y.extBut _ _ D.b5 e)))) G λF e I S=>?_);obtain⟨R,g1,g2⟩:=S;have H:IsZip F z ti to .ellipsis:=I _ _ D.a4.symm (X.extBut _ _ D.a2.symm (Z.extBut _ _ D.a3.symm V));have ne:e≠z:=λu=>by subst u;rw[H] at g1;cases g1;simp at g2
  refine Ū H ∅ λC _ s5=>q C e (λc o W B O y u=>s5.extBut _ _ W (I _ _ y (X.extBut _ _ B (Z.extBut _ _ O (Y.extBut _ _ W u))))) ⟨R,s5.extBut _ _ ne g1,g2⟩
def next_item (D:Apart z ti to j1 j2 m1 m2) (S1:lO P w A.in1 j1 m1 t1 v1) (S2:lO P w A.in1 j2 m2 t2 v2)
 (gz:IsZip s.heap z ti to .none) (gi:ac5 s.heap ti (.ref j1) (.ref j2)) (go:ac5 s.heap to a b) (h1:t1 k s.heap) (h2:t2 k s.heap) (hx:v1 k=ϊ x) (hy:v2 k=ϊ y)
 (q:∀h',IsZip h' z ti to (ĸ s.heap.objs.size)->ac5 h' to x y->t1 (k+1) h'->t2 (k+1) h'->ac5 h' s.heap.objs.size x y->h'.objs.size=s.heap.objs.size+1 ->
 (∀c o,c≠z->c≠to->c≠j1->c≠j2->s.heap.get? c=ϊ o->h'.get? c=ϊ o)->Q (ϊ (.ref s.heap.objs.size)) { s with heap:=h' }):á (é P w) A (ac0 (.ref z)) Q E s:=by
 have Z:s.TypeIs (.ref z) "zip":=⟨_,gz,rfl⟩;delta ac0;exact À (Ž (ĉ (name:=Ĉ "__next__") Z aee
  (Ď aee Z F.entry_zip_next (UQ D S1 S2 gz gi go h1 h2 hx hy λh' a1 a2 Y X W V U=>Ã (q h' a1 a2 Y X W V U)) (F.args_zip_next_1 _))))
def next_end (D:Apart z ti to j1 j2 m1 m2) (S1:lO P w A.in1 j1 m1 t1 v1) (S2:lO P w A.in1 j2 m2 t2 v2)
 (gz:IsZip s.heap z ti to .none) (gi:ac5 s.heap ti (.ref j1) (.ref j2)) (go:ac5 s.heap to a b) (h1:t1 k s.heap) (h2:t2 k s.heap) (EZ:v1 k=ϋ\/v2 k=ϋ)
 (q:∀h',(∀c o,c≠z->c≠to->c≠j1->c≠j2->s.heap.get? c=ϊ o->h'.get? c=ϊ o)->Q ϋ { s with heap:=h' }):á (é P w) A (ac0 (.ref z)) Q E s:=by
 have Z:s.TypeIs (.ref z) "zip":=⟨_,gz,rfl⟩;delta ac0;refine À (Ž (ĉ (name:=Ĉ "__next__") Z aee
  (Ď aee Z F.entry_zip_next (WL D S1 S2 gz gi go h1 h2 EZ λh' e Y X=>?_) (F.args_zip_next_1 _))))
 obtain⟨o,W,V⟩:=X;exact À (wpAny_isInstance (T:="StopIteration") (b:=ό) ⟨o,W,V⟩ isSubtype_stop (Ã (q _ Y)))
end
end HZ
namespace L2
open PySem PySem.Spec PyProof.Rows
def YE {X:Cx} {π:List (ß×Obj)} {σ:St} {H:Hp} {s:Â} {a b:ß} {xs:List V} (I:Inv X π σ H s) (h:bV X.K H a xs) (f:gk X π H b):a≠b:=by
 rintro rfl;obtain⟨f0,_,_,Y,_⟩:=f
 rcases h with (h | ⟨o,h⟩) | ⟨o,its,n,W,_⟩
 ·rw[f0] at h;cases h
 ·rw[f0] at h;cases h
 ·have Z:=I.mod.kC a o W
  rcases Y with z|z
  ·exact I.ok.oQ a o Z z
  ·exact absurd (Ê (Ð Z) (Ý I.ok.iW z)) (ñ _)
def YF {X:Cx} {π:List (ß×Obj)} {σ:St} {H:Hp} {s:Â} {a b:ß} {xs:List V} (I:Inv X π σ H s) (h:bY X.K H a xs) (f:gk X π H b):a≠b:=by
 rintro rfl;obtain⟨f0,_,_,Y,_⟩:=f
 rcases h with (h | ⟨o,h⟩) | ⟨o,its,n,W,_⟩
 ·rw[f0] at h;cases h
 ·rw[f0] at h;cases h
 ·have Z:=I.mod.kC a o W
  rcases Y with z|z
  ·exact I.ok.oQ a o Z z
  ·exact absurd (Ê (Ð Z) (Ý I.ok.iW z)) (ñ _)
def Inv.J3 {X:Cx} {π:List (ß×Obj)} {σ:St} {H:Hp} {s:Â} {h':ĺ} {t':Nat} {ch:List ß} (I:Inv X π σ H s) (k:∀b o,b∉ch->s.heap.get? b=ϊ o->h'.get? b=ϊ o) (hf:∀b∈ch,gk X π H b) :
  Inv X π σ H { s with heap:=h',toks:=t' }:=by
 have Y:∀b u,H b=ϊ u->b∉ch:=λb u e z=>by rw[(hf b z).1] at e;cases e
 refine I.step (g':=s.gens) (d':=s.drawn) (ch:=ch) (λb W=>?_) (λb o _ _ Z e _=>k b o Z e) (λb o _ _ Z e _=>⟨o.slots,k b o Z e⟩) (λ_ _ _ _ n=>n) (λb o Z e=>⟨o,k b o Z e⟩) (λ_ _ e=>e) (λ_ _ _ e=>e)
  (λb P e=>⟨#[],by rw[e];simp⟩) (λm V=>?_) (λb u e=>?_) I.bare
 ·obtain⟨_,f1,_,U,f4,T⟩:=hf b W
  exact⟨U,f1,f4,T⟩
 ·obtain⟨o,S,R,Q,r⟩:=V
  exact⟨o,S,R,k _ o (λz=>(hf _ z).2.1 rfl) Q,r⟩
 ·refine(I.aI b u e).iE (λc v Z q=>k c v ?_ q) (λ_ q=>q) λ_ _ q=>q
  rcases Z with z|z
  ·rw[z];exact Y b u e
  ·exact Y c _ z
def Inv.Tc {X:Cx} {π:List (ß×Obj)} {σ:St} {H:Hp} {s:Â} {h':ĺ} {t':Nat} {ch:List ß} {p:ß} {u:HO} (I:Inv X π σ H s) (k:∀b o,b∉ch->s.heap.get? b=ϊ o->h'.get? b=ϊ o) (hf:∀b∈ch,gk X π H b)
  (hp:s.heap.objs.size<=p) (new:eO X.prog X.w (upd H p u) h' p u):Inv X π σ (upd H p u) { s with heap:=h',toks:=t' }:=by
 have Y:H p=ϋ:=I.aI.fresh hp;have aI:cM X.prog X.w (upd H p u) h':=(I.J3 (t':=t') k hf).aI.adopt Y new;refine I.step (g':=s.gens) (d':=s.drawn) (ch:=ch) (λb W=>?_) (λb o _ _ Z e _=>k b o Z e) (λb o _ _ Z e _=>⟨o.slots,k b o Z e⟩) (λb o _ e n=>?_) (λb o Z e=>⟨o,k b o Z e⟩) (λc P e=>by rw[bt (dC e Y)];exact e) (λc o v e=>by rw[bt (dC e Y)];exact e)
  (λc O e=>⟨#[],by rw[bt (dC e Y),e];simp⟩) (λm V=>?_) aI I.bare
 ·obtain⟨_,f1,_,U,f4,T⟩:=hf b W
  exact⟨U,f1,f4,T⟩
 ·rw[bt (ã (Ê (Ð e) hp))]
  exact n
 ·obtain⟨o,S,R,Q,r⟩:=V
  exact⟨o,S,R,k _ o (λz=>(hf _ z).2.1 rfl) Q,r⟩
@[reducible] def jV:Bool->đ->Hp->ß->List V->Prop
 |true=>bV
 |false=>bY
@[reducible] def lP:Bool->ĺ->ß->Array Ç->Prop
 |true=>Heap.IsTuple
 |false=>Heap.IsList
@[reducible] def nU:Bool->ĺ->ß->ß->Nat->Prop
 |true=>Heap.IsTupleIter
 |false=>Heap.IsListIter
def Inv.tZ {X:Cx} {π:List (ß×Obj)} {σ:St} {H:Hp} {s:Â} {a:ß} {xs:List V} (I:Inv X π σ H s):∀{k},jV k X.K H a xs->∃its,Vals xs its/\lP k s.heap a its.toArray
 |true,h=>by obtain⟨i,r,p,_⟩:=I.tuple h;exact⟨i,r,p⟩
 |false,h=>by obtain⟨i,r,p,_⟩:=I.list h;exact⟨i,r,p.isList⟩
def Inv.KD {X:Cx} {π:List (ß×Obj)} {σ:St} {H:Hp} {s:Â} {a:ß} {xs ys:List V} (I:Inv X π σ H s):∀{k},jV k X.K H a xs->jV k X.K H a ys->xs=ys
 |true,h,g=>I.JU h g
 |false,h,g=>I.Ku h g
def zw {X:Cx} {π:List (ß×Obj)} {σ:St} {H:Hp} {s:Â} {a b:ß} {xs:List V} (I:Inv X π σ H s):∀{k},jV k X.K H a xs->gk X π H b->a≠b
 |true,h,f=>YE I h f
 |false,h,f=>YF I h f
def Al (gh:A.handled=ϋ) (i l:ß) (its:Array Ç):∀k,HZ.lO P w A i l (λn h=>nU k h i l n/\lP k h l its) (λn=>its[n]?)
 |true=>HZ.WJ gh i l its
 |false=>HZ.WK gh i l its
def zx (k:∀o,h.get? i=ϊ o->h'.get? i=ϊ o):∀{b},nU b h i l n->nU b h' i l n
 |true,x=>x.at k
 |false,x=>x.at k
def ze:∀{b},nU b h i l n->∃o,h.get? i=ϊ o/\∀v,o.data≠.cell v
 |true,x=>by obtain⟨o,e,_,d⟩:=x;exact⟨o,e,λv q=>by rw[d] at q;cases q⟩
 |false,x=>by obtain⟨o,e,_,d⟩:=x;exact⟨o,e,λv q=>by rw[d] at q;cases q⟩
def Am (k l:Bool) (K:đ) (a b:ß):It :=
 ⟨λi H=>∃Z Y x y,jV k K H a Z/\jV l K H b Y/\Z[i]?=ϊ x/\Y[i]?=ϊ y,λi H v X=>∃p x y,H p=ϋ/\v=.ref p/\X=upd H p (.tup [x,y])/\∀Z Y,jV k K H a Z->jV l K H b Y->Z[i]?=ϊ x/\Y[i]?=ϊ y,
  λi H=>∃Z Y,jV k K H a Z/\jV l K H b Y/\(Z.length<=i\/Y.length<=i)⟩
abbrev ab4:=Am ό ό
structure aaq (it:Nat->ĺ->Prop) (jt:Nat->ĺ->Prop) (z ti to j1 j2:ß) (i:Nat) (h:ĺ):Prop where
 z:IsZip h z ti to .none
 ti:ac5 h ti (.ref j1) (.ref j2)
 to:∃u v,ac5 h to u v
 h1:it i h
 h2:jt i h
structure OH (z ti to j1 j2:ß):Prop where
 a1:ti≠z
 a2:to≠z
 a3:j1≠z
 a4:j2≠z
 a5:ti≠to
 a6:ti≠j1
 a7:ti≠j2
 a8:to≠j1
 a9:to≠j2
 b0:j1≠j2
def Td {k1 k2:Bool} {P:å} {w:Ą} {K:đ} {elts:List ě} {kk:Nat} {pos:Pos} (a b z ti to j1 j2:ß) (F:OH z ti to j1 j2) :
  Turn P w K (.Tuple elts kk pos) (Am k1 k2 K a b) [z,ti,to,j1,j2] z (aaq (λi h=>nU k1 h j1 a i) (λi h=>nU k2 h j2 b i) z ti to j1 j2) where
 mem:=by simp
 obj:=λi h Z c S=>by
  have M:c=z\/c=ti\/c=to\/c=j1\/c=j2:=by simpa using S
  rcases M with rfl|rfl|rfl|rfl|rfl
  ·exact⟨_,Z.z,λv q=>nomatch q⟩
  ·exact⟨_,Z.ti,λv q=>nomatch q⟩
  ·obtain⟨u,v,q⟩:=Z.to;exact⟨_,q,λv q=>nomatch q⟩
  ·exact ze Z.h1
  ·exact ze Z.h2
 keep:=λi h j Z k=>⟨k z ∅ _ Z.z,k ti ∅ _ Z.ti,by obtain⟨u,v,q⟩:=Z.to;exact⟨u,v,k to ∅ _ q⟩,zx (λo e=>k j1 ∅ o e) Z.h1,zx (λo e=>k j2 ∅ o e) Z.h2⟩
 item:=by
  intro X L hw J S i g s σ H E I Y Z G;subst L hw J;obtain⟨d,ys,x,y,V,U,ex,f⟩:=G;obtain⟨C,B,t⟩:=I.tZ V;obtain⟨r,p,n⟩:=I.tZ U;obtain⟨u,eu,ru⟩:=B.get ex;obtain⟨v,ev,rv⟩:=p.get f;have ne:∀c∈[z,ti,to,j1,j2],a≠c/\b≠c:=λc W=>⟨zw I V (Y c W),zw I U (Y c W)⟩;have D:HZ.Apart z ti to j1 j2 a b:=⟨F.a1,F.a2,F.a3,F.a4,F.a5,F.a6,F.a7,F.a8,F.a9,F.b0,(ne z ∅).1,(ne to ∅).1,(ne j1 ∅).1,(ne j2 ∅).1,(ne z ∅).2,(ne to ∅).2,(ne j1 ∅).2,(ne j2 ∅).2⟩;obtain⟨w1,w2,O⟩:=Z.to;have R:X.A.in1.handled=ϋ:=I.ok.hd S;refine HZ.next_item D (Al R j1 a C.toArray k1) (Al R j2 b r.toArray k2) Z.z Z.ti O ⟨Z.h1,t⟩ ⟨Z.h2,n⟩ (by simpa using eu) (by simpa using ev) λj c1 c2 c3 c4 c5 c6 N=>⟨_,rfl,?_⟩;refine wpAny_letOwnedTupleGo_zip c1 λh2 d1 T=>?_;have hn:H s.heap.objs.size=ϋ:=I.aI.fresh (aeD _);have m:z<s.heap.objs.size:=Ð Z.z;have xo:IsTup h2 s.heap.objs.size #[u,v]:=⟨_,T.extBut _ _ (Ũ m) c5,rfl,_,rfl⟩
  have I2:Inv X g σ (upd H s.heap.objs.size (.tup [x,y])) { s with heap:=h2,toks:=s.toks }:=I.Tc (ch:=[z,ti,to,j1,j2]) (λc o l e=>by
   have q:c≠z/\c≠ti/\c≠to/\c≠j1/\c≠j2:=by simpa using l
   exact T.extBut c o q.1 (N c o q.1 q.2.2.1 q.2.2.2.1 q.2.2.2.2 e)) Y (aeD _) ⟨by show 2<=Õ;decide,[u,v],.cons ru (.cons rv .nil),xo⟩
  refine⟨.ref s.heap.objs.size,_,I2,rfl,⟨_,x,y,hn,rfl,rfl,λxs' ys' q1 q2=>?_⟩,?_,λc W=>?_⟩
  ·rw[I.KD q1 V,I.KD q2 U];exact⟨ex,f⟩
  ·refine⟨d1,T.extBut _ _ F.a1 (N _ _ F.a1 F.a5 F.a6 F.a7 Z.ti),⟨_,_,T.extBut _ _ F.a2 c2⟩,zx (λo e=>T.extBut _ _ F.a3 e) c3.1,zx (λo e=>T.extBut _ _ F.a4 e) c4.1⟩
  ·rw[bt]
   ·exact(Y c W).1
   ·intro e
    obtain⟨o,eo⟩:∃o,s.heap.get? c=ϊ o:=by
     have M:c=z\/c=ti\/c=to\/c=j1\/c=j2:=by simpa using W
     rcases M with q|q|q|q|q
     ·rw[q];exact⟨_,Z.z⟩
     ·rw[q];exact⟨_,Z.ti⟩
     ·rw[q];exact⟨_,O⟩
     ·rw[q];obtain⟨o,e,_⟩:=ze Z.h1;exact⟨o,e⟩
     ·rw[q];obtain⟨o,e,_⟩:=ze Z.h2;exact⟨o,e⟩
    exact absurd (Ð eo) (by rw[e];exact ñ _)
 done:=by
  intro X L hw J S i g s σ H E I Y Z G;subst L hw J;obtain⟨d,ys,V,U,hle⟩:=G;obtain⟨C,B,t⟩:=I.tZ V;obtain⟨r,p,n⟩:=I.tZ U;have ne:∀c∈[z,ti,to,j1,j2],a≠c/\b≠c:=λc W=>⟨zw I V (Y c W),zw I U (Y c W)⟩;have D:HZ.Apart z ti to j1 j2 a b:=⟨F.a1,F.a2,F.a3,F.a4,F.a5,F.a6,F.a7,F.a8,F.a9,F.b0,(ne z ∅).1,(ne to ∅).1,(ne j1 ∅).1,(ne j2 ∅).1,(ne z ∅).2,(ne to ∅).2,(ne j1 ∅).2,(ne j2 ∅).2⟩;obtain⟨w1,w2,O⟩:=Z.to;have R:X.A.in1.handled=ϋ:=I.ok.hd S;have l1:=B.length;have l2:=p.length;refine HZ.next_end D (Al R j1 a C.toArray k1) (Al R j2 b r.toArray k2) Z.z Z.ti O ⟨Z.h1,t⟩ ⟨Z.h2,n⟩ ?_ λj N=>⟨rfl,I.J3 (t':=s.toks) (ch:=[z,ti,to,j1,j2]) (λc o l e=>by
   have q:c≠z/\c≠ti/\c≠to/\c≠j1/\c≠j2:=by simpa using l
   exact N c o q.1 q.2.2.1 q.2.2.2.1 q.2.2.2.2 e) Y⟩
  rcases hle with q|q
  ·left;simp;omega
  ·right;simp;omega
 self:=λA i s Q E Z h=>wpAny_pyIter_zip Z.z h
end L2
namespace HZ
open PySem PySem.Spec PyProof.Rows L2
@[reducible] noncomputable def x8:Bool->String
 |true=>"tuple_iterator"
 |false=>"list_iterator"
abbrev y1 (k:Bool) (h:ĺ) (m1:ß):ĺ:=h.push { cls:=.type (x8 k),data:=.fields #[.ref m1,.int 0 0] }
abbrev y2 (k l:Bool) (h:ĺ) (m1 m2:ß):ĺ:=(y1 k h m1).push { cls:=.type (x8 l),data:=.fields #[.ref m2,.int 0 0] }
abbrev y3 (k l:Bool) (h:ĺ) (m1 m2:ß):ĺ:=(y2 k l h m1 m2).push { cls:=.type "tuple",data:=.seq #[.ref h.objs.size,.ref (y1 k h m1).objs.size] }
abbrev y4 (k l:Bool) (h:ĺ) (m1 m2:ß):ĺ:=(y3 k l h m1 m2).push { cls:=.type "tuple",data:=.seq #[.none,.none] }
abbrev y5 (k l:Bool) (h:ĺ) (m1 m2:ß):ĺ:=(y4 k l h m1 m2).push { cls:=.type "zip",data:=.fields #[.none,.bool ύ,.bool ύ,.ref (y2 k l h m1 m2).objs.size,.ref (y3 k l h m1 m2).objs.size] }
def Nz:∀{k},lP k s.heap m xs->Q (.ref s.heap.objs.size) { s with heap:=s.heap.push { cls:=.type (x8 k),data:=.fields #[.ref m,.int 0 0] } }->á (é P w) A (pyIter (.ref m)) Q E s
 |true,h,q=>wpAny_pyIter_tuple h q
 |false,h,q=>ŵ h q
def UR (o:Obj):∀{k},lP k h m xs->lP k (h.push o) m xs
 |true,x=>Heap.IsTuple.push x o
 |false,x=>Heap.IsList.push x o
def WM (k l:Bool) (m1 m2:ß) (xs ys:Array Ç) :
  Meets (ŗ.«zip.__new__» ⟨[.type "zip",.ref m1,.ref m2],[]⟩) (λ_ R s=>lP k s.heap m1 xs/\lP l s.heap m2 ys/\R (.ok (.ret (.ref (y4 k l s.heap m1 m2).objs.size))) { s with heap:=y5 k l s.heap m1 m2 }) :=
 .of_wp λprog w A R s h=>by
  obtain⟨Z,g,d,Y,os⟩:=s;obtain⟨X,W,h⟩:=h;have V:=sub_zip;have U:lP k (Shared.heap ⟨Z,g,d,Y,os⟩) m1 xs:=X;have L2:lP l (Shared.heap ⟨Z.push { cls:=.type (x8 k),data:=.fields #[.ref m1,.int 0 0] },g,d,Y,os⟩) m2 ys:=UR _ W
  wp_walk using Nz U,Nz L2
  exact⟨_,rfl,h⟩
section
variable {P:å} {w:Ą} {A:í} {E:Ç->Â->Prop} {s:Â}
def Lx:∀{k},h.get? i=ϊ { cls:=.type (x8 k),data:=.fields #[.ref m,.int 0 0] }->nU k h i m 0
 |true,e=>⟨_,e,rfl,rfl⟩
 |false,e=>⟨_,e,rfl,rfl⟩
def Te (h1:lP k s.heap m1 xs) (h2:lP l s.heap m2 ys)
 (h:∀h',IsZip h' (s.heap.objs.size+4) (s.heap.objs.size+2) (s.heap.objs.size+3) .none->ac5 h' (s.heap.objs.size+2) (.ref s.heap.objs.size) (.ref (s.heap.objs.size+1)) ->
   ac5 h' (s.heap.objs.size+3) .none .none->nU k h' s.heap.objs.size m1 0->nU l h' (s.heap.objs.size+1) m2 0->h'.objs.size=s.heap.objs.size+5 ->
 (∀c o,s.heap.get? c=ϊ o->h'.get? c=ϊ o)->Q (.ref (s.heap.objs.size+4)) { s with heap:=h' }):á (é P w) A (call (.type "zip") [.ref m1,.ref m2]) Q E s:=by
 refine callType_new F.called_zip (by decide) (F.typeCall_zip_2 _ _) (F.newCall_zip_2 _ _) (λobj=>F.args_object_init_3 obj _ _) F.entry_zip_new (WM k l m1 m2 xs ys) ⟨h1,h2,?_⟩;have e1:(y1 k s.heap m1).objs.size=s.heap.objs.size+1:=Ā ..;have e2:(y2 k l s.heap m1 m2).objs.size=s.heap.objs.size+2:=by rw[Ā,e1]
 have Z:(y3 k l s.heap m1 m2).objs.size=s.heap.objs.size+3:=by rw[Ā,e2]
 have Y:(y4 k l s.heap m1 m2).objs.size=s.heap.objs.size+4:=by rw[Ā,Z]
 have V:(y5 k l s.heap m1 m2).objs.size=s.heap.objs.size+5:=by rw[Ā,Y]
 have X:(y5 k l s.heap m1 m2).get? (y4 k l s.heap m1 m2).objs.size=ϊ _:=Î _ rfl;have W:(y5 k l s.heap m1 m2).get? (y3 k l s.heap m1 m2).objs.size=ϊ _:=Á _ (Î _ rfl);have g3:(y5 k l s.heap m1 m2).get? (y2 k l s.heap m1 m2).objs.size=ϊ _:=Á _ (Á _ (Î _ rfl));have g2:(y5 k l s.heap m1 m2).get? (y1 k s.heap m1).objs.size=ϊ _:=Á _ (Á _ (Á _ (Î _ rfl)));have g1:(y5 k l s.heap m1 m2).get? s.heap.objs.size=ϊ _:=Á _ (Á _ (Á _ (Á _ (Î _ rfl))));show _/\_;rw[e2,Z,Y] at X;rw[e1,e2] at g3;rw[Z] at W;rw[e1] at g2;rw[Y];exact⟨⟨_,X,rfl⟩,h _ X g3 W (Lx g1) (Lx g2) V λc o q=>Á _ (Á _ (Á _ (Á _ (Á _ q))))⟩
end
end HZ
namespace L2
open PySem PySem.Spec PyProof.Rows
def US (n:Nat):OH (n+4) (n+2) (n+3) n (n+1):=by constructor<;>(show (_:Nat)≠_)<;>omega
section
variable {X:Cx} {elts:List ě} {kk:Nat} {tp:Pos}
def NA (k l:Bool) (K:đ) (ta:TA):TI:=fun σ H R=>ta σ H λY Z=>∃a b X W,Y=[.ref a,.ref b]/\jV k K Z a X/\jV l K Z b W/\R (Am k l K a b) Z
abbrev aar:=NA ό ό
def Tf:ü "zip"=ϊ (.type "zip"):=nofun
def YG {π:List (ß×Obj)} {σ:St} {H:Hp} {s:Â} (I:Inv X π σ H s):∀b∈[s.heap.objs.size+4,s.heap.objs.size+2,s.heap.objs.size+3,s.heap.objs.size,s.heap.objs.size+1],gk X π H b:=λb Y=>by
 have Z:s.heap.objs.size<=b:=by
  have q:b=s.heap.objs.size+4\/b=s.heap.objs.size+2\/b=s.heap.objs.size+3\/b=s.heap.objs.size\/b=s.heap.objs.size+1:=by simpa using Y
  omega
 exact I.tU Z (I.aI.fresh Z)
def WN {k l:Bool} {a b:ě} {ta:TA} {p pos:Pos} (hg:Gl X "zip") (hm:X.mg "zip"=ϋ) (ha:PA X [a,b] ta) (hs:Í [a,b] X.env=[(ύ,ķ a X.env),(ύ,ķ b X.env)]:=by rfl) (fg:Í [b] X.env=[(ύ,ķ b X.env)]:=by rfl) :
  PI X (.Tuple elts kk tp) (.Call (.Name "zip" p) [a,b] [] pos) (NA k l X.K ta):=by
 intro V s σ H R I h;refine Call_ (qh I hg hm Tf (Ņ (aO (ha pos V s σ H _ I h) λz Z ⟨y,U,Y,T,S⟩=>?_) (by rw[hs,fg]) (by rw[fg];rfl)));obtain⟨a,b,xs,ys,e,Q,P,q⟩:=S;subst e;obtain⟨u,v,rfl,O,N⟩:=vals2 T;cases O;cases N;obtain⟨M,_,L⟩:=Y.tZ Q;obtain⟨J,_,G⟩:=Y.tZ P;refine HZ.Te (xs:=M.toArray) (ys:=J.toArray) L G λF W E D C B x A=>?_
 refine wpAny_pyIter_zip (s:={ Z with heap:=F }) W ?_
 exact⟨_,[Z.heap.objs.size+4,Z.heap.objs.size+2,Z.heap.objs.size+3,Z.heap.objs.size,Z.heap.objs.size+1],_,_,U,rfl,Y.kept (t':=Z.toks) A,Td a b _ _ _ _ _ (US _),⟨W,E,⟨_,_,D⟩,C,B⟩,YG Y,q⟩
def WO {a b:ě} {ta:TA} {p pos:Pos} (hg:Gl X "zip") (hm:X.mg "zip"=ϋ) (ha:PA X [a,b] ta) (hs:Í [a,b] X.env=[(ύ,ķ a X.env),(ύ,ķ b X.env)]:=by rfl) (fg:Í [b] X.env=[(ύ,ķ b X.env)]:=by rfl) :
  PI X (.Tuple elts kk tp) (.Call (.Name "zip" p) [a,b] [] pos) (aar X.K ta):=WN hg hm ha hs fg
end
end L2
namespace PySem
end PySem
namespace L2
open PySem PySem.Spec PyProof.Rows
def map_getD (ns:List Int):(è ns.length).map (λi=>ns.getD i 0)=ns:=by
 apply acU;intro i;rw[ê];by_cases h:i<ns.length
 ·rw[Ŀ h,Ø h]
  simp[Ŷ,Ø h]
 ·rw[ğ (by simpa using h),ğ ⋯]
  rfl
section
variable {κ:Type} [DecidableEq κ]
def putK (aX:List (κ×V)) (k:κ) (v:V):List (κ×V) :=
 if (aX.any λZ=>ώ (Z.1=k))=ό then aX.map (λZ=>if Z.1=k then (Z.1,v) else Z) else aX++[(k,v)]
end
section
variable {X:Cx} {π:List (ß×Obj)} {σ:St} {H:Hp} {s:Â} {a:ß} {y v:V} {u r:Ç} {o:Option V} {A:í} {E:Ç->Â->Prop}
def Inv.big (I:Inv X π σ H s):sysModules<s.heap.objs.size:=by
 have h:Ò<s.heap.objs.size:=(I.mod.glob.keeps I.bk).lt;exact Nat.lt_trans (by decide) h
end
def UT (h:ĺ) (hb:sysModules<h.objs.size):eO P w H (h.push { cls:=.type "dict",data:=.dict #[] }) h.objs.size (.dK []) :=
 ⟨Ē _,beq_eq_false_iff_ne.mpr (ź (ã hb)),[],.nil,Heap.DictOf.new h⟩
def YH:TE:=λ_ H Q=>∀p,H p=ϋ->Q (.ref p) (upd H p (.dK []))
section
variable {X:Cx} {pos:Pos}
def UU:PE X (.Dict [] [] pos) YH:=λZ s σ H Q I h =>
 wpAny_Dict_empty ⟨.ref s.heap.objs.size,_,I.laid (a:=s.heap.objs.size) (o:=.dK []) (t':=s.toks) (λ_ _ q=>Á _ q) (aeD _) (UT s.heap I.big),rfl,h _ (I.aI.fresh (aeD _))⟩
end
structure M1 (X:Cx) (o:ě) (m:Str) (apos:Pos) (e:ě) (ba:Pos):Prop where
 base:İ o m X.env (ķ o X.env)=ķ o X.env
 mK:((ī ba (Í [e] X.env)).all (λx=>!x.1)&&(ada ba (Ŗ [] X.env)).all (λx=>x.1.isSome)
  && ώ (([e]:List ě).length+([]:List acZ).length+(if ([]:List acZ).isEmpty then 0 else 1)<30))=ό
 line:(apos.endLine==ba.line)=ό
 trees:ī ba (Í [e] X.env)=[(ύ,ķ e X.env)]
structure M2 (X:Cx) (o:ě) (m:Str) (apos:Pos) (e f:ě) (ba:Pos):Prop where
 base:İ o m X.env (ķ o X.env)=ķ o X.env
 mK:((ī ba (Í [e,f] X.env)).all (λx=>!x.1)&&(ada ba (Ŗ [] X.env)).all (λx=>x.1.isSome)
  && ώ (([e,f]:List ě).length+([]:List acZ).length+(if ([]:List acZ).isEmpty then 0 else 1)<30))=ό
 line:(apos.endLine==ba.line)=ό
 trees:ī ba (Í [e,f] X.env)=[(ύ,ķ e X.env),(ύ,ķ f X.env)]
def My (sc:acR) (on:List (Str×Ű)) (oN N:List Str) (nt:Nat) (cap:List Nat):Bool :=
 ώ (sc.kind=.function)&&sc.names.all (λx=>ώ (x.2≠.cell))&&sc.names.all (λx=>ώ (x.2=.local->sc.names.lookup x.1=ϊ .local)) &&
 sc.names.all (λx=>ώ (x.2=.free->sc.names.lookup x.1=ϊ .free/\(on.lookup x.1=ϊ .cell\/on.lookup x.1=ϊ .free)))&&ώ (N.length=nt+cap.length) &&
 (è cap.length).all (λk=>match cap[k]? with
  |some j=>match oN[j]? with
   |some x=>ώ (N[nt+k]?=ϊ x)&&ώ ((x,î)∈sc.names)
   |none=>ύ
  |none=>ό)
def DY (h:My sc X.env.scope.names X.N N nt cap=ό):v9 X sc N nt cap:=by
 delta My at h;erw[Å,ô,Ë] at h;obtain⟨⟨⟨⟨⟨Z,Y⟩,W⟩,V⟩,U⟩,T⟩:=h;refine⟨Z,Y,W,λx S e=>V x S e,U,λk j e=>?_⟩;have R:k<cap.length:=(Ô.mp e).1;have:=T k (Ċ.mpr R);rw[e] at this;dsimp only at this
 cases ex:X.N[j]? with
 |none=>rw[ex] at this;cases this
 |some x =>
  rw[ex] at this;erw[Å,Ë] at this;exact⟨x,rfl,this.1,this.2⟩
end L2
namespace TS
open PySem
abbrev lq (l:List Nat):Prop:=l.Pairwise (· < ·)
def UW (xs:Array Nat) (k d:Nat):xs.getD k d=xs.toList.getD k d:=by
 cases xs with
 |mk l =>
  by_cases h:k<l.length
  ·simp[aes,Ŷ,h]
  ·simp[aes,Ŷ,h]
def zf (h:lq l) (ju:a<b) (hb:b<l.length):l.getD a 0<l.getD b 0:=by
 have:=List.pairwise_iff_getElem.mp h a b ⋯ hb ju;simpa [Ŷ,Ø hb,Ø (show a<l.length by omega)] using this
def UX (l:List Nat) (hk:k<l.length) (d e:Nat):l.getD k d=l.getD k e:=by
 simp[Ŷ,Ø hk]
theorem Cw (xs:Array Nat) (j:Nat) (hr:lq xs.toList):∀(fuel lo hi:Nat),hi-lo<=fuel->lo<=hi->hi<=xs.toList.length->(∀k,k<lo->xs.toList.getD k 0<j)->(∀k,hi<=k->k<xs.toList.length->j<=xs.toList.getD k 0) ->
  adO xs j fuel lo hi<=xs.toList.length/\(∀k,k<adO xs j fuel lo hi->xs.toList.getD k 0<j)/\(∀k,adO xs j fuel lo hi<=k->k<xs.toList.length->j<=xs.toList.getD k 0)
 |0,lo,hi,S,R,Z,Y,X=>by
  have e:lo=hi:=by omega
  subst e;exact⟨Z,Y,X⟩
 |fuel+1,lo,hi,S,R,Z,Y,X=>by
  delta adO;by_cases U:lo<hi
  ·rw[Ñ U]
   dsimp only;have T:(lo+hi) / 2<xs.toList.length:=by omega
   rw[UW,UX _ T j 0];by_cases W:xs.toList.getD ((lo+hi) / 2) 0<j
   ·rw[Ñ W]
    refine Cw xs j hr fuel _ _ ⋯ ⋯ Z (λk Q=>?_) X;by_cases V:k=(lo+hi) / 2
    ·rw[V];exact W
    ·exact Nat.lt_trans (zf hr ⋯ T) W
   ·rw[Ú W]
    refine Cw xs j hr fuel _ _ ⋯ ⋯ ⋯ Y (λk Q V=>?_);by_cases P:k=(lo+hi) / 2
    ·rw[P];omega
    ·have:=zf hr (show (lo+hi) / 2<k by omega) V
     omega
  ·rw[Ú U]
   have e:lo=hi:=by omega
   subst e;exact⟨Z,Y,X⟩
def JB (xs:Array Nat) (j:Nat) (hr:lq xs.toList):ċ xs j<=xs.toList.length/\(∀k,k<ċ xs j->xs.toList.getD k 0<j)/\(∀k,ċ xs j<=k->k<xs.toList.length->j<=xs.toList.getD k 0):=by
 delta ċ;exact Cw xs j hr xs.size 0 xs.size ⋯ (Ē _) ∅ (λk Z=>by omega) (λk Z Y=>by simp at Y;omega)
def Rn {l:List Nat} {p j:Nat} (h:∀k,k<p->l.getD k 0<j):∀x∈l.take p,x<j:=by
 intro x Y;obtain⟨k,X,e⟩:=adk Y;have Z:k<p/\k<l.length:=by rw[ad4] at X;omega
 have:=h k Z.1;rw[List.getElem_take] at e;rw[<- e];simpa [Ŷ,Ø Z.2] using this
def Ro {l:List Nat} {p j:Nat} (h:∀k,p<=k->k<l.length->j<=l.getD k 0):∀x∈l.drop p,j<=x:=by
 intro x Y;obtain⟨k,X,e⟩:=adk Y;have Z:p+k<l.length:=by rw[List.length_drop] at X;omega
 have:=h (p+k) ⋯ Z;rw[List.getElem_drop] at e;rw[<- e];simpa [Ŷ,Ø Z] using this
def UY {xs:Array Nat} {j:Nat} (hr:lq xs.toList) (hn:xs[ċ xs j]?≠ϊ j):lq (SetTable.insertAt xs (ċ xs j) j).toList:=by
 obtain⟨T,V,U⟩:=JB xs j hr;rw[SetTable.toList_insertAt];have a1:=Rn V;have a2:∀x∈xs.toList.drop (ċ xs j),j<x:=by
  intro x hx;have Y:=Ro U;have X:lq (xs.toList.drop (ċ xs j)):=adX (List.drop_sublist _ _) hr
  cases Z:xs.toList.drop (ċ xs j) with
  |nil=>rw[Z] at hx;cases hx
  |cons y r =>
   rw[Z] at X hx Y;have hy:j≠y:=by
    intro e;apply hn;have:(xs.toList.drop (ċ xs j))[0]?=ϊ y:=by rw[Z];rfl
    rw[List.getElem?_drop] at this;have e2:xs.toList[ċ xs j]?=ϊ y:=by simpa using this
    rw[<- į,e2,e]
   have W:j<y:=Nat.lt_of_le_of_ne (Y y Þ) hy
   rcases Û.mp hx with e|hx
   ·rw[e];exact W
   ·exact Nat.lt_trans W ((ø.mp X).1 x hx)
 first
  |(refine List.pairwise_append.mpr ⟨adX (List.take_sublist _ _) hr,ø.mpr ⟨a2,adX (List.drop_sublist _ _) hr⟩,λx hx y hy=>?_⟩
    rcases Û.mp hy with e|hy
    ·rw[e];exact a1 x hx
    ·exact Nat.lt_trans (a1 x hx) (a2 y hy))
  |trace_state
theorem Cy (t:SetTable) (h:Int):∀(fuel:Nat) (p:SetTable.Probe) (j:Nat) (dm:Option Nat),(∀d,p.dummy=ϊ d->t.slot d=.dummy)->aet t (λ_=>h+1) h fuel p=ϊ (.empty j dm)->t.slot j=.empty/\∀d,dm=ϊ d->t.slot d=.dummy
 |0,p,j,dm,X,e=>by simp[aet] at e
 |fuel+1,p,j,dm,X,e=>by
  delta aet at e
  cases Y:t.slot p.j with
  |empty =>
   rw[Y] at e;simp at e;rw[<- e.1,<- e.2];exact⟨Y,X⟩
  |dummy =>
   rw[Y] at e;refine Cy t h fuel _ j dm (λd Z=>?_) e;delta SetTable.advance at Z;split at Z
   ·simp at Z;rw[<- Z];exact Y
   ·simp at Z;rw[<- Z];exact Y
  |live i =>
   rw[Y] at e;have W:(h+1==h)=ύ:=by simp;omega
   erw[W,Æ,ï] at e;refine Cy t h fuel _ j dm (λd Z=>?_) e;delta SetTable.advance at Z;split at Z
   ·exact X d Z
   ·exact X d Z
def J4 {t:SetTable} {j:Nat} (h:t.slot j=.empty\/t.slot j=.dummy):t.place[ċ t.place j]?≠ϊ j:=by
 intro e;have:t.slot j=.live (ċ t.place j):=by
  delta SetTable.slot;simp[e]
 rw[this] at h
 rcases h with h|h<;>cases h
def Ti {t:SetTable} {h:Int} {j:Nat} {b:Bool} (e:t.freeSlot h=ϊ (j,b)):t.place[ċ t.place j]?≠ϊ j:=by
 delta SetTable.freeSlot SetTable.probe at e;split at e
 ·rename_i Y Z X
  have k:=Cy t h _ _ Y Z (λd W=>by simp[SetTable.probeStart] at W) X;simp at e;rw[<- e.1]
  cases Z with
  |none=>exact J4 (.inl k.1)
  |some d=>exact J4 (.inr (k.2 d rfl))
 ·cases e
structure je (led:Bool) (t:SetTable):Prop where
 led:t.led=led
 rise:t.plain=ό->lq t.place.toList
def yG (h:je led t) (n:Nat):je led (t.standIn n):=⟨h.led,λz=>by simp[SetTable.standIn] at z⟩
def RZ {led:Bool} {t:SetTable} (h:je led t) (es:Array (Int×Ç)) (hs:Int) (x:Ç):je led (layNew t es hs x).2.1:=by
 delta layNew;split
 ·rename_i slot Y e
  dsimp only;delta SetTable.orStandIn;have Z:je led (t.put slot).1:=⟨h.led,λz=>UY (h.rise z) (Ti e)⟩;split
  ·exact Z
  ·exact yG Z _
 ·exact yG h _
def UZ {mask finger moves:Nat} {led plain:Bool} {hs:Array Int} {o:Array Nat} (e:SetTable.laid mask finger moves led plain hs=ϊ (t,o)):je led t/\t.plain=plain:=by
 delta SetTable.laid at e
 cases X:SetTable.layClean mask hs with
 |none=>rw[X] at e;simp at e
 |some owner =>
  rw[X] at e;simp at e;obtain⟨e1,e2⟩:=e;subst e1;refine⟨⟨rfl,λ_=>?_⟩,rfl⟩;show lq (adY _).toList;erw[List.map_filterMap];refine List.pairwise_filterMap.mpr ?_;refine List.Pairwise.imp (R:=(· < ·)) ?_ (List.pairwise_lt_range);intro a b U x Z y Y
  cases W:(owner[a]?.getD ϋ) with
  |none=>rw[W] at Z;simp at Z
  |some q =>
   cases V:(owner[b]?.getD ϋ) with
   |none=>rw[V] at Y;simp at Y
   |some r =>
    rw[W] at Z;rw[V] at Y;simp at Z Y;omega
def Tj (h:je led t) (es:Array (Int×Ç)) (n:Nat):je led (relayAll t es n).2.1:=by
 delta relayAll;split
 ·rename_i Z o e
  dsimp only;split
  ·delta SetTable.relaid at e
   have k:=UZ e;exact⟨k.1.led.trans h.led,k.1.rise⟩
  ·exact yG h _
 ·exact yG h _
def Tn (led:Bool):je led (.fresh 0 0 led):=⟨rfl,λ_=>List.Pairwise.nil⟩
open PySem.Spec PyProof.Rows
section
variable {P:å} {w:Ą} {A:í} {E:Ç->Â->Prop} {s:Â} {led:Bool}
def ib (P:å) (w:Ą) (led:Bool) (h:ĺ) (a:ß) (S:Int->Bool) (n:Nat):Prop :=
 ∃o Z Y t,h.get? a=ϊ o/\o.ExactSet/\o.data=.set Z Y t/\ElemsOf (Ţ P w) Z.toList/\(∀k,S k=ό↔∃e∈Z.toList,(Ţ P w).is k e.2=ό)/\Z.size<ac7/\t.fits Z.size=ό/\Z.size=n/\je led t
def ib.at (x:ib P w led h a S n) (k:∀o,h.get? a=ϊ o->h'.get? a=ϊ o):ib P w led h' a S n:=by
 obtain⟨o,Z,Y,t,X,r⟩:=x;exact⟨o,Z,Y,t,k o X,r⟩
def ib.congr (x:ib P w led h a S n) (e:∀k,S k=S' k) (en:n=n'):ib P w led h a S' n':=by
 obtain rfl:S=S':=funext e;subst en;exact x
def Cz {a:ß} {u:Obj} {es jq:Array (Int×Ç)} {ep:Nat} {t t':SetTable} {h:ĺ} (hu:h.get? a=ϊ u) (hx:u.ExactSet) (hd:u.data=.set es ep t) {S:Int->Bool}
  (c1:ElemsOf (Ţ P w) jq.toList) (c2:∀k,S k=ό↔∃e∈jq.toList,(Ţ P w).is k e.2=ό) (c3:jq.size<ac7) (c4:t'.fits jq.size=ό) (c5:je led t') :
  (h.update a (Obj.putSet jq t')).get? a=ϊ { u with data:=.set jq (ep+1) t' }/\ib P w led (h.update a (Obj.putSet jq t')) a S jq.size:=by
 have g:=(SetOf_store (knd:=Ţ P w) hu hx hd c1 c2 c3 c4).1;exact⟨g,_,jq,ep+1,t',g,hx,rfl,c1,c2,c3,c4,rfl,c5⟩
def WQ {a:ß} {S:Int->Bool} {n:Nat} {k:Int} {tk:Tok} {Q:Bool->Â->Prop} (hS:ib P w led s.heap a S n) (aas:n+1<ac7)
  (h:∀h',Ĭ a s.heap h'->ib P w led h' a (λj=>S j||ώ (j=k)) (if S k then n else n+1)->Q (!S k) { s with heap:=h' }) :
  á (é P w) A (setAddHashed a (.int k tk) ((Ţ P w).hash k)) Q E s:=by
 obtain⟨u,W,c,t,R,H,O,G,F,i,B,y,g⟩:=hS;have ky:(Ţ P w).is k (.int k tk)=ό:=intKind_is _ _ _ _;have sc:(ad9 k tk).scannable=ό:=rfl;have FQ:W.size+1<ac7:=by rw[y];exact aas
 delta setAddHashed setAddHashedIn;refine ą ?_;refine À (ŷ R O B ?_);dsimp only;rw[byScan_of sc i G,Ñ rfl];delta setAddByScan;refine À (À (Ŵ ?_));refine À (wpAny_setScan_of ky R O B G ?_)
 cases f:W.toList.findIdx? (λe=>(Ţ P w).is k e.2) with
 |some j =>
  dsimp only;obtain⟨hj,pj,_⟩:=List.findIdx?_eq_some_iff_getElem.mp f;have K:S k=ό:=(F k).mpr ⟨W.toList[j],ad5 hj,pj⟩;have q:=h s.heap (Heap.SameBut.refl a s.heap) ⟨u,W,c,t,R,H,O,G,λj'=>by
   rw[aef,Ë,<- F j'];exact⟨λz=>z.elim id λe=>by rw[e];exact K,ο⟩,i,B,by rw[K];exact y,g⟩
  rw[K] at q;exact Ã (Ã q)
 |none =>
  dsimp only;have K:S k=ύ:=by
   rw[<- adb,F k];rintro ⟨e,X,pe⟩;have z:=List.findIdx?_eq_none_iff.mp f e X;rw[pe] at z;cases z
  have way:∀(b:Bool) {x:Â} {v:Unit->Â->Prop},v () x->á (é P w) A (match b with|true=>rule "set.scan.the-table-gave-way"|false=>pure ()) v E x :=
   λb x v q=>by cases b<;>first|exact Ã q|exact Ŵ q
  have pm:=layNew_perm t W ((Ţ P w).hash k) (.int k tk);have r:=layNew_fits t W ((Ţ P w).hash k) (.int k tk);have D:=RZ g W ((Ţ P w).hash k) (.int k tk);generalize layNew t W ((Ţ P w).hash k) (.int k tk)=L at pm r D |-;obtain⟨Z,t1,afj,afn⟩:=L;dsimp only at pm r D |-;rw[adP] at pm;have p:ElemsOf (Ţ P w) Z.toList:=(G.push ky sc).perm pm;have o:∀j,(S j||ώ (j=k))=ό↔∃e∈Z.toList,(Ţ P w).is j e.2=ό:=mem_push_iff ky F pm;have z1:Z.size=n+1:=by
   have l:=pm.length_eq;rw[ä,ö,ö,y] at l;exact l
  have V:Z.size<ac7:=by omega
  refine À (way _ ?_);obtain⟨g1,d⟩:=Cz (S:=λj=>S j||ώ (j=k)) R H O p o V r D;have C:=Ģ s.heap a (Obj.putSet Z t1)
  have fin:∀h',Ĭ a s.heap h'->ib P w led h' a (λj=>S j||ώ (j=k)) Z.size->Q ό { s with heap:=h' }:=λh' sb T=>by
   have q:=h h' sb;rw[K] at q;rw[z1] at T;exact q T
  have Y:=relayAll_perm t1 Z (adV Z.size);have N:=relayAll_fits t1 Z (adV Z.size);have M:=Tj D Z (adV Z.size);have hv:hashByValue 8 (ad9 k tk)=pure ό:=rfl;split
  ·refine À ?_
   rw[hv];refine Ã ?_;erw[ò];refine À (adQ R O ?_ (acV V));split
   ·generalize relayAll t1 Z (adV Z.size)=L2 at Y N M |-
    obtain⟨J,t2,m⟩:=L2;dsimp only at Y N M |-;have U:J.size=Z.size:=by
     have l:=Y.length_eq;rwa [ö,ö] at l
    have f2:∀j,(S j||ώ (j=k))=ό↔∃e∈J.toList,(Ţ P w).is j e.2=ό:=λj=>(o j).trans ⟨λ⟨e,X,q⟩=>⟨e,Y.mem_iff.mpr X,q⟩,λ⟨e,X,q⟩=>⟨e,Y.mem_iff.mp X,q⟩⟩;refine À (way _ ?_);refine À (adQ g1 rfl ?_ (acV (by rw[U];exact V)));obtain⟨g2,I⟩:=Cz (S:=λj=>S j||ώ (j=k)) (led:=led) g1 H rfl (p.perm Y) f2 (by rw[U];exact V) N M;rw[U] at I;exact Ã (Ã (fin _ (C.trans (Ģ _ a _)) I))
   ·exact Ã (Ã (fin _ C d))
  ·refine À (Ã ?_)
   erw[ò];refine À (adQ R O ?_ (acV V));split
   ·generalize relayAll t1 Z (adV Z.size)=L2 at Y N M |-
    obtain⟨J,t2,m⟩:=L2;dsimp only at Y N M |-;have U:J.size=Z.size:=by
     have l:=Y.length_eq;rwa [ö,ö] at l
    have f2:∀j,(S j||ώ (j=k))=ό↔∃e∈J.toList,(Ţ P w).is j e.2=ό:=λj=>(o j).trans ⟨λ⟨e,X,q⟩=>⟨e,Y.mem_iff.mpr X,q⟩,λ⟨e,X,q⟩=>⟨e,Y.mem_iff.mp X,q⟩⟩;refine À (way _ ?_);refine À (adQ g1 rfl ?_ (acV (by rw[U];exact V)));obtain⟨g2,I⟩:=Cz (S:=λj=>S j||ώ (j=k)) (led:=led) g1 H rfl (p.perm Y) f2 (by rw[U];exact V) N M;rw[U] at I;exact Ã (Ã (fin _ (C.trans (Ģ _ a _)) I))
   ·exact Ã (Ã (fin _ C d))
end
def Qm:entryFor table "set.__iter__"=ϊ ŗ.«frozenset.__iter__»:=entryFor_alias (id':="frozenset.__iter__") (by kernel_rfl) rfl nofun (by kernel_rfl)
def kN:Slot "set_iterator" "__next__" "set_iterator.__next__" :=
 .of (owner:="set_iterator") (n:="__next__") (by rw[typeLookup_type,adZ];kernel_rfl) nofun nofun nofun
  (by first|exact .inl nofun|exact .inr nofun) (by rw[isSubtype_type];kernel_rfl)
def yy:entryFor table "set_iterator.__next__"=ϊ ŗ.«set_iterator.__next__»:=entryFor_of_tree (by kernel_rfl)
def yC (a:Ç):argsOk "set_iterator.__next__" ⟨[a],[]⟩:=by delta argsOk;kernel_rfl
def IP:Slot "set_iterator" "__iter__" "set_iterator.__iter__" :=
 .of (owner:="set_iterator") (n:="__iter__") (by rw[typeLookup_type,adZ];kernel_rfl) nofun nofun nofun
  (by first|exact .inl nofun|exact .inr nofun) (by rw[isSubtype_type];kernel_rfl)
def jM (h:ĺ) (I a:ß) (first:Ç) (i n ep:Nat):Prop:=∃o,h.get? I=ϊ o/\o.cls=.type "set_iterator"/\o.data=.fields #[first,.int i 0,.ref a,.int n 0,.int ep 0]
section
variable {P:å} {w:Ą} {A:í} {E:Ç->Â->Prop} {s:Â}
def Ly {slot i n ep nx:Nat} {es:Array (Int×Ç)} {Q:Option Ç->Â->Prop} (hit:jM s.heap I a (.int slot 0) i n ep)
 (hu:s.heap.get? a=ϊ u) (hd:u.data=.set es ep t) (hf:t.fits es.size=ό) (hn:es.size=n)
 (hs:∀(A':í) (Q':Option (Ç×Nat)->Â->Prop) (E':Ç->Â->Prop),Q' (ϊ (x,nx)) s->á (é P w) A' (setNext a slot i ep) Q' E' s)
 (hQ:∀h',jM h' I a (.int nx 0) (i+1) n ep->Ĭ I s.heap h'->Q (ϊ x) { s with heap:=h' }):á (é P w) A (ac0 (.ref I)) Q E s:=by
 obtain⟨o,Y,X,Z⟩:=id hit;have W:s.TypeIs (.ref I) "set_iterator":=⟨o,Y,X⟩;delta ac0;refine À (Ž (ĉ (name:=Ĉ "__next__") W kN
  (Ď kN W yy ?_ (yC _))))
 delta ŗ.«set_iterator.__next__» slotArgs;simp only[ade,ý,Æ,↓reduceIte,bind_assoc,ă,Ĕ];refine À (Ã ?_);refine À (wpAny_fieldsOf Y Z ?_);dsimp only;refine À (ž hu hd hf ?_);rw[hn];simp only[Ĕ,Æ,↓reduceIte,ĳ];refine À (hs _ _ _ ?_);dsimp only;refine À (θ Y Z ∅ ?_);refine À (θ (Ğ _ Y (œ (ď Z _))) (ď Z _) ∅ ?_);refine Ã ⟨x,rfl,Ã (hQ _ ⟨_,Ğ _ (Ğ _ Y (œ (ď Z _))) (œ (ď (ď Z _) _)),(adN ..).trans ((adN ..).trans X),?_⟩ ((Ģ ..).trans (Ģ ..)))⟩;rw[ď (ď Z _)];simp[ĸ]
def R0 (hm:m≠0) (h:Q (w.draws src (s.drawn.get src) % m) { s with drawn:=s.drawn.bump src }):á (é P w) A (choose src m) Q E s:=fun Y p Z=>by
 delta choose;rw[Sem.wp_choose];exact⟨hm,h⟩
def J5 (hh:A.handled=ϋ) (ho:s.heap.get? I=ϊ o) (fj:o.data=.fields vs) (h2:2<vs.size)
 (hQ:∀h',adl I s.heap h'->Q ϋ { s with heap:=h' }) :
  á (é P w) A.in1 (setField (.ref I) 2 .none >>= λ_=>newExc (.type "StopIteration") [] >>= λe=>(raiseNew e:Sem Fin)) (λfin s'=>∃v,fin=Fin.done (Flow.ret v)/\á (é P w) A (pure (ϊ v)) Q E s')
   (λe s'=>á (é P w) A (isInstance e (Ť "StopIteration") >>= λb=>if b=ό then pure ϋ else throw e) Q E s') s:=by
 refine À (θ ho fj h2 ?_);refine À ?_;erw[newExc,newTuple];refine À (û ?_ (by size_fits))
 refine À (m:=firstArgMember _ _) (abL (a:=Value.none) (by first|rfl | (erw[firstArgMember];rfl)) ?_)
 refine û ?_ (by size_fits);erw[raiseNew];refine À (wpAny_handled ?_)
 first|rw[show A.in1.handled=ϋ from hh]|rw[hh]
 refine À (Ã (wpAny_throw ?_));refine À (wpAny_isInstance (T:="StopIteration") (b:=ό) ⟨_,Î _ rfl,rfl⟩ isSubtype_stop ?_);exact Ã (hQ _ (((Ģ ..).extBut.push _).push _))
def Mz {slot i n ep:Nat} {es:Array (Int×Ç)} {Q:Option Ç->Â->Prop} (hh:A.handled=ϋ) (hit:jM s.heap I a (.int slot 0) i n ep)
 (hu:s.heap.get? a=ϊ u) (hd:u.data=.set es ep t) (hf:t.fits es.size=ό) (hn:es.size=n)
 (hs:∀(A':í) (Q':Option (Ç×Nat)->Â->Prop) (E':Ç->Â->Prop),Q' ϋ s->á (é P w) A' (setNext a slot i ep) Q' E' s)
 (hQ:∀h',adl I s.heap h'->Q ϋ { s with heap:=h' }):á (é P w) A (ac0 (.ref I)) Q E s:=by
 obtain⟨o,Z,W,Y⟩:=id hit;have X:s.TypeIs (.ref I) "set_iterator":=⟨o,Z,W⟩;delta ac0;refine À (Ž (ĉ (name:=Ĉ "__next__") X kN
  (Ď kN X yy ?_ (yC _))))
 delta ŗ.«set_iterator.__next__» slotArgs;simp only[ade,ý,Æ,↓reduceIte,bind_assoc,ă,Ĕ];refine À (Ã ?_);refine À (wpAny_fieldsOf Z Y ?_);dsimp only;refine À (ž hu hd hf ?_);rw[hn];simp only[Ĕ,Æ,↓reduceIte,ĳ];refine À (hs _ _ _ ?_);dsimp only;exact J5 hh Z Y ∅ hQ
def U0 {i n ep pl:Nat} {es:Array (Int×Ç)} {x:Int×Ç} {Q:Option Ç->Â->Prop} (hit:jM s.heap I a (.ref tp) i n ep)
 (hu:s.heap.get? a=ϊ u) (hd:u.data=.set es ep t) (hf:t.fits es.size=ό) (hn:es.size=n) (ya:s.heap.IsTuple tp places) (bN:places[i]?=ϊ (.int pl tk)) (hx:es[pl]?=ϊ x)
 (hQ:∀h',jM h' I a (.ref tp) (i+1) n ep->Ĭ I s.heap h'->Q (ϊ x.2) { s with heap:=h' }):á (é P w) A (ac0 (.ref I)) Q E s:=by
 obtain⟨o,Z,X,Y⟩:=id hit;obtain⟨op,V,U,np,T⟩:=ya;have W:s.TypeIs (.ref I) "set_iterator":=⟨o,Z,X⟩;delta ac0;refine À (Ž (ĉ (name:=Ĉ "__next__") W kN
  (Ď kN W yy ?_ (yC _))))
 delta ŗ.«set_iterator.__next__» slotArgs;simp only[ade,ý,Æ,↓reduceIte,bind_assoc,ă,Ĕ];refine À (Ã ?_);refine À (wpAny_fieldsOf Z Y ?_);dsimp only;refine À (ž hu hd hf ?_);rw[hn];simp only[Ĕ,Æ,↓reduceIte,ĳ];refine À (ń V T ?_);dsimp only;rw[bN];dsimp only;delta setNextDrawn;refine À (À (ŷ hu hd hf ?_));dsimp only;simp only[Ĕ,Æ,↓reduceIte,ĳ];rw[hx];dsimp only;refine Ã ?_;refine À (θ Z Y ∅ ?_);refine Ã ⟨x.2,rfl,Ã (hQ _ ⟨_,Ğ _ Z (œ (ď Y _)),(adN ..).trans X,?_⟩ (Ģ ..))⟩;rw[ď Y];simp[ĸ]
def WR (hh:A.handled=ϋ) (hit:jM s.heap I a (.ref tp) i n ep)
 (hu:s.heap.get? a=ϊ u) (hd:u.data=.set es ep t) (hf:t.fits es.size=ό) (hn:es.size=n) (ya:s.heap.IsTuple tp places) (bN:places[i]?=ϋ)
 (hQ:∀h',adl I s.heap h'->Q ϋ { s with heap:=h' }):á (é P w) A (ac0 (.ref I)) Q E s:=by
 obtain⟨o,Z,W,Y⟩:=id hit;obtain⟨op,V,U,np,T⟩:=ya;have X:s.TypeIs (.ref I) "set_iterator":=⟨o,Z,W⟩;delta ac0;refine À (Ž (ĉ (name:=Ĉ "__next__") X kN
  (Ď kN X yy ?_ (yC _))))
 delta ŗ.«set_iterator.__next__» slotArgs;simp only[ade,ý,Æ,↓reduceIte,bind_assoc,ă,Ĕ];refine À (Ã ?_);refine À (wpAny_fieldsOf Z Y ?_);dsimp only;refine À (ž hu hd hf ?_);rw[hn];simp only[Ĕ,Æ,↓reduceIte,ĳ];refine À (ń V T ?_);dsimp only;rw[bN];dsimp only;refine À (θ Z Y ∅ ?_)
 exact J5 (s:={ s with heap:=_ }) hh (Ğ _ Z (œ (ď Y _))) (ď Y _) ∅ λh' e=>hQ h' (Heap.ExtBut.trans (Ģ ..).extBut e)
end
def Qv:entryFor table "set_iterator.__iter__"=ϊ ŗ.«dict_keyiterator.__iter__»:=entryFor_alias (id':="dict_keyiterator.__iter__") (by kernel_rfl) rfl nofun (by kernel_rfl)
def QU (a:Ç):argsOk "set_iterator.__iter__" ⟨[a],[]⟩:=by delta argsOk;kernel_rfl
section
variable {P:å} {w:Ą} {A:í} {E:Ç->Â->Prop} {s:Â}
def CB (hit:jM s.heap I a f i n ep) (h:Q (.ref I) s):á (é P w) A (pyIter (.ref I)) Q E s:=by
 obtain⟨o,Y,X,W⟩:=id hit;have Z:s.TypeIs (.ref I) "set_iterator":=⟨o,Y,X⟩;refine wpAny_pyIter_slot Z IP (Ď IP Z Qv ?_ (QU _));show á _ _ (ret (.ref I)) _ _ s;exact Ã ⟨_,rfl,"set_iterator",_,Z,kN.lookup,h⟩
def jM.at (x:jM h I a f i n ep) (k:∀o,h.get? I=ϊ o->h'.get? I=ϊ o):jM h' I a f i n ep:=by
 obtain⟨o,Z,r⟩:=x;exact⟨o,k o Z,r⟩
def J6 (i5:w.params.followText "set-order"=ό) (hu:s.heap.get? a=ϊ u) (hd:u.data=.set es ep t) (hf:t.fits es.size=ό)
 (h:Q' (((ε (w.params.setOrder a ep) es)[i]?).map λe=>(e.2,slot)) s):á (é P w) A (setNext a slot i ep) Q' E s:=by
 delta setNext;refine À (ŷ hu hd hf ?_);dsimp only;delta setsByText;refine À (À (ť (Ã ?_)))
 show á _ _ (if w.params.followText "set-order"=ό then _ else _) _ _ _
 rw[Ñ i5];simp only[Ĕ,Æ,↓reduceIte];delta setWalk;refine À (À (ŷ hu hd hf ?_));dsimp only;delta setsByText;refine À (À (ť (Ã ?_)))
 show á _ _ (if w.params.followText "set-order"=ό then _ else _) _ _ _
 rw[Ñ i5];refine À (ť (Ã ?_));exact Ã h
def sj (hr:lq xs.toList) (hi:i<=xs.toList.length) (h1:∀k,k<i->xs.toList.getD k 0<slot) (h2:∀k,i<=k->k<xs.toList.length->slot<=xs.toList.getD k 0):ċ xs slot=i:=by
 obtain⟨V,a1,a2⟩:=JB xs slot hr;by_cases Y:ċ xs slot<i
 ·have X:=a2 _ (aeD _) ⋯
  have W:=h1 _ Y;omega
 ·by_cases Z:i<ċ xs slot
  ·have X:=a1 i Z
   have W:=h2 i (aeD _) ⋯;omega
  ·omega
def JC (i5:w.params.followText "set-order"=ύ) (hu:s.heap.get? a=ϊ u) (hd:u.data=.set es ep t) (hf:t.fits es.size=ό)
 (hl:t.led=ό) (hp:t.plain=ό\/es.size<=1) (hb:ċ t.place slot=i)
 (h:Q' (match es[i]?,t.place[i]? with|some (_,x),ϊ j=>ϊ (x,j+1) | _,_=>ϋ) s):á (é P w) A (setNext a slot i ep) Q' E s:=by
 delta setNext;refine À (ŷ hu hd hf ?_);dsimp only;delta setsByText;refine À (À (ť (Ã ?_)))
 show á _ _ (if w.params.followText "set-order"=ό then _ else _) _ _ _
 rw[Ú (by rw[i5];decide)];split
 ·rename_i Z
  have Y:(!t.plain&&ώ (es.size > 1))=ό:=Z
  rcases hp with hp|hp
  ·rw[hp] at Y;cases Y
  ·simp at Y;omega
 ·refine À ?_
  show á _ _ (if (!t.led&&!es.isEmpty)=ό then _ else _) _ _ _
  rw[hl];simp only[ý,Ŭ,Æ,↓reduceIte];refine Ã ?_;rw[hb];exact Ã h
def Bz (sb:Ĭ I s.heap h'):Moved [I] (λa b=>b=a) s { s with heap:=h' }:=⟨λb o Z e=>by rw[sb.2 b (λz=>Z (by simp[z]))];exact e,rfl,rfl,rfl,aeD _⟩
def BH (sb:adl I s.heap h'):Moved [I] (λa b=>b=a) s { s with heap:=h' }:=⟨λb o Z e=>sb b o (λz=>Z (by simp[z])) e,rfl,rfl,rfl,aeD _⟩
end
def R3 (hh:A.handled=ϋ) (gU:a≠I) (i5:w.params.followText "set-order"=ό) (hd:u.data=.set es ep t) (hf:t.fits es.size=ό) (hsz:(ε (w.params.setOrder a ep) es).size=es.size) :
  WalksS P w A I [I,a] [I] (λa b=>b=a) es.size (λi v=>((ε (w.params.setOrder a ep) es).map (·.2))[i]?=ϊ v) (λi s=>jM s.heap I a (.int 0 0) i es.size ep/\s.heap.get? a=ϊ u) where
 sub:=λb W=>by simp at W;simp[W]
 grefl:=λ_=>rfl
 gtrans:=λ_ _ _ T S=>S.trans T
 frame:=λi s V K Z _ U=>⟨Z.1.at λo e=>U I ∅ o e,U a ∅ _ Z.2⟩
 item:=λi s Q E R Z Y=>by
  have O:i<(ε (w.params.setOrder a ep) es).size:=by rw[hsz];exact R
  have ex:(ε (w.params.setOrder a ep) es)[i]?=ϊ (ε (w.params.setOrder a ep) es)[i]:=by simp[O]
  refine Ly (nx:=0) (x:=(ε (w.params.setOrder a ep) es)[i].2) (slot:=0) Z.1 Z.2 hd hf rfl (λN M L q=>J6 i5 Z.2 hd hf (by rw[ex];exact q)) λV it X=>?_;exact Y _ _ (by simp[ex]) ⟨it,by rw[X.2 a gU];exact Z.2⟩ (Bz X)
 done:=λs Q E Z Y=>by
  refine Mz (slot:=0) hh Z.1 Z.2 hd hf rfl (λN M L q=>J6 i5 Z.2 hd hf (by
   rw[show (ε (w.params.setOrder a ep) es)[es.size]?=ϋ by simp[hsz]];exact q)) λV X=>Y _ (BH X)
 self:=λi s Q E Z Y=>CB Z.1 Y
def Rp (hh:A.handled=ϋ) (gU:a≠I) (i5:w.params.followText "set-order"=ύ) (hd:u.data=.set es ep t) (hf:t.fits es.size=ό) (hl:t.led=ό) (hp:t.plain=ό\/es.size<=1) (hr:lq t.place.toList) :
  WalksS P w A I [I,a] [I] (λa b=>b=a) es.size (λi v=>(es.map (·.2))[i]?=ϊ v) (λi s=>∃slot:Nat,jM s.heap I a (.int slot 0) i es.size ep/\s.heap.get? a=ϊ u/\i<=es.size/\(∀k,k<i->t.place.toList.getD k 0<slot)/\∀k,i<=k->k<t.place.toList.length->slot<=t.place.toList.getD k 0) where
 sub:=λb M=>by simp at M;simp[M]
 grefl:=λ_=>rfl
 gtrans:=λ_ _ _ J H=>H.trans J
 frame:=λi s L z Y _ V=>by
  obtain⟨slot,X,Z,T⟩:=Y;exact⟨slot,X.at λo e=>V I ∅ o e,V a ∅ _ Z,T⟩
 item:=λi s Q E K Y W=>by
  obtain⟨slot,X,Z,T,S,R⟩:=Y;have G:t.place.toList.length=es.size:=by
   erw[SetTable.fits,Å,beq_iff_eq,Ë] at hf;simpa using hf.1
  have O:i<t.place.toList.length:=by omega
  have e1:es[i]?=ϊ es[i]:=by simp[K]
  have e2:t.place[i]?=ϊ (t.place.toList.getD i 0):=by
   rw[<- į,Ø O];simp[Ŷ,Ø O]
  refine Ly (nx:=t.place.toList.getD i 0+1) (x:=es[i].2) (slot:=slot) X Z hd hf rfl (λF D C q=>JC i5 Z hd hf hl hp (sj hr ⋯ S R) (by rw[e1,e2];exact q)) λL it U=>?_;refine W _ _ (by simp[e1]) ⟨_,it,by rw[U.2 a gU];exact Z,K,λk V=>?_,λk V B=>?_⟩ (Bz U)
  ·by_cases N:k=i
   ·rw[N];omega
   ·have:=zf hr (show k<i by omega) O
    omega
  ·have:=zf hr (show i<k by omega) B
   omega
 done:=λs Q E Y W=>by
  obtain⟨slot,X,Z,T,S,R⟩:=Y;have G:t.place.toList.length=es.size:=by
   erw[SetTable.fits,Å,beq_iff_eq,Ë] at hf;simpa using hf.1
  refine Mz (slot:=slot) hh X Z hd hf rfl (λF D C q=>JC i5 Z hd hf hl hp (sj hr ⋯ S R) (by
   rw[show es[es.size]?=ϋ by simp];exact q)) λL U=>W _ (BH U)
 self:=λi s Q E Y W=>by
  obtain⟨slot,X,_⟩:=Y;exact CB X W
def Rq (hh:A.handled=ϋ) (gU:a≠I) (hnt:tp≠I) (hd:u.data=.set es ep t) (hf:t.fits es.size=ό) (pl:List Nat) (bN:pl.length=es.size) (FU:∀x∈pl,x<es.size) :
  WalksS P w A I [I,a,tp] [I] (λa b=>b=a) es.size (λi v=>(pl.map λk=>(es.getD k (0,Value.none)).2)[i]?=ϊ v) (λi s=>jM s.heap I a (.ref tp) i es.size ep/\s.heap.get? a=ϊ u/\s.heap.IsTuple tp (pl.map λ(k:Nat)=>ĸ k).toArray) where
 sub:=λb U=>by simp at U;simp[U]
 grefl:=λ_=>rfl
 gtrans:=λ_ _ _ R O=>O.trans R
 frame:=λi s T tk Z _ Y=>⟨Z.1.at λo e=>Y I ∅ o e,Y a ∅ _ Z.2.1,let ⟨o,V,r⟩:=Z.2.2;⟨o,Y tp ∅ o V,r⟩⟩
 item:=λi s Q E N Z X=>by
  have S:i<pl.length:=by omega
  have e1:pl[i]?=ϊ pl[i]:=Ø S;have Y:=FU _ (ad5 S);refine U0 (pl:=pl[i]) (x:=es.getD pl[i] (0,Value.none)) (tk:=0) Z.1 Z.2.1 hd hf rfl Z.2.2 (by simp[e1,ĸ]) (by simp[Y,aes]) λT it W=>?_
  refine X _ _ (by simp[e1]) ⟨it,by rw[W.2 a gU];exact Z.2.1,let ⟨o,V,r⟩:=Z.2.2;⟨o,by rw[W.2 tp hnt];exact V,r⟩⟩ (Bz W)
 done:=λs Q E Z X=>WR hh Z.1 Z.2.1 hd hf rfl Z.2.2 (by simp[bN]) λT W=>X _ (BH W)
 self:=λi s Q E Z X=>CB Z.1 X
def fK (w:Ą):Bool:=!(w.params.followText "set-order")
section
variable {P:å} {w:Ą} {A:í} {E:Ç->Â->Prop} {s:Â}
def U1 (a:Ç)
 (hq:Q₁ (.ref s.heap.objs.size) { s with heap:=s.heap.push { cls:=.type "set",dict:=ϋ,data:=.set #[] 0 (.fresh 0 0 (fK w)) } }) :
  ż (é P w) A (.call (.builtin "set.__new__") ⟨[.type "set",a],[]⟩) (wants Q₁ E) s:=by
 refine aeg ?_;show á _ A.in1 (ad6 "set.__new__" ⟨[.type "set",a],[]⟩ >>= λ_=>again (.builtin "set.__new__" ⟨[.type "set",a],[]⟩)) _ _ s;refine À ?_;refine abL (F.newCall_set_1 a) ?_;refine Ã ⟨plainId_quiet F.plain_set_new _,ň F.entry_set_new ?_⟩;rw[Ų F.plain_set_new _];delta ŗ.«set.__new__» Builtin.Frozenset.newClass;have ss:=sub_set_self;obtain⟨Z,Y,X,W,V⟩:=s;dsimp only
 wp_walk
 refine ť (Ã ?_);dsimp only;erw[newObj];refine À (wpAny_alloc ?_);exact Ã (Ã hq)
end
section
variable {P:å} {w:Ą} {A:í} {R:Result->Â->Prop} {I:ß} {fp wr:List ß} {G:Array GenState->Array GenState->Prop} {n:Nat} {Pv:Nat->Ç->Prop} {St:Nat->Â->Prop} {led:Bool}
def U2 (val:Nat->Int) {i n:Nat} (h:i<=n):(Ř val i).length<=(Ř val n).length:=by
 induction h with
 |refl=>exact aeD _
 |step _ ih =>
  refine Ý ih ?_;rw[firstMet_succ,step_length]
  split<;>omega
def U3 (W:WalksS P w A.in1 I fp wr G n Pv St) (S:ß) (yb:S∉fp)
  (val:Nat->Int) (ab5:∀i v,Pv i v->∃t,v=.int (val i) t) (hb:(Ř val n).length+1<ac7) :
  ∀(k i:Nat) (s:Â),n-i=k->i<=n->St i s ->
   ib P w led s.heap S (λj=>(Ř val i).any (·==j)) (Ř val i).length ->
   (∀s',Moved (S::wr) G s s'->ib P w led s'.heap S (λj=>(Ř val n).any (·==j)) (Ř val n).length->R (.ok (.ret .none)) s') ->
   ż (é P w) A (.builtin "set.update.loop" ⟨[.ref S,.ref I],[]⟩) R s:=by
 have nw:S∉wr:=λz=>yb (W.sub _ z);have sw:∀b∈wr,b∈S::wr:=λb z=>Ï _ z;intro k
 induction k with
 |zero =>
  intro i s N Q Z T Y;obtain rfl:i=n:=by omega
  refine ň F.entry_set_update_loop ?_;rw[Ų adB _];show á _ A.in1 (ac0 (.ref I) >>= _) _ _ s;refine À (W.done s _ _ Z λs' m=>?_);show á _ A.in1 (ret Value.none) _ _ s';exact Ã (Y s' (m.mono sw) (T.at λo e=>m.heap S o nw e))
 |succ k ih =>
  intro i s N Q Z T Y;have lt:i<n:=by omega
  refine ň F.entry_set_update_loop ?_;rw[Ų adB _];show á _ A.in1 (ac0 (.ref I) >>= _) _ _ s;refine À (W.item i s _ _ lt Z λv s' pv M m=>?_);obtain⟨t,rfl⟩:=ab5 i v pv;have L:=T.at (h':=s'.heap) λo e=>m.heap S o nw e;show á _ A.in1 (acY [ad9 (val i) t] (setAdd S (.int (val i) t)) >>= _) _ _ s';refine À (ą ?_);delta setAdd;refine ą ?_;refine À ((Ţ P w).pyHash (k:=val i) (intKind_is _ _ _ _) ?_);have room:(Ř val i).length+1<ac7:=by have:=U2 val Q;omega
  refine WQ (s:={ s' with toks:=s'.toks+1 }) L room λh' O K=>?_
  have J:ib P w led h' S (λj=>(Ř val (i+1)).any (·==j)) (Ř val (i+1)).length:=K.congr (λj=>by rw[firstMet_succ,step_any]) (by rw[firstMet_succ,step_length]);refine Ã ⟨plainId_quiet adB _,ih (i+1) _ ⋯ lt (W.frame _ s' _ _ M (adj _) λb X o e=>?_) J λH V U=>?_⟩
  ·rw[O.2 b λz:b=S=>yb (z ▸ X)];exact e
  ·refine Y H (Moved.trans W.gtrans ((m.mono sw).then_heap (adj _) λb o X e=>?_) V) U
   rw[O.2 b λz:b=S=>X (by rw[z];exact Þ)];exact e
end
section
variable {P:å} {w:Ą} {A:í} {E:Ç->Â->Prop} {s:Â}
def R4   
 (hh:A.handled=ϋ) (hl:s.heap.IsList l its) (hi:aec its.toList ns) (hb:(Ř (λi=>ns.getD i 0) its.size).length+1<ac7)
 (h:∀(h':ĺ) (tk:Nat),ib P w (fK w) h' s.heap.objs.size (λk'=>(Ř (λi=>ns.getD i 0) its.size).any (·==k')) (Ř (λi=>ns.getD i 0) its.size).length ->
 (∀b o,b<s.heap.objs.size->s.heap.get? b=ϊ o->h'.get? b=ϊ o)->Q (.ref s.heap.objs.size) { s with heap:=h',toks:=tk }) :
  á (é P w) A (call (.type "set") [.ref l]) Q E s:=by
 obtain⟨c,tl,ur⟩:=acO.mro;have um:=acO.made;have ub:=acO.sub;refine adn (aeg ?_);show á _ _ (callAny (.type "set") _) _ _ _;refine Ã ⟨adC _ nofun,ň F.entry_type_call ?_⟩;rw[Around.under_plain (weight_type_call_type "set" [.ref l] []) rfl];have h1:=acO.notType;have h2:=acO.canCreate;have I:=F.typeCall_set_1 (.ref l)
 repeat (any_goals (first|assumption|wp_step))
 refine Ŋ (U1 (.ref l) (E:=E) (Q₁:=λobj O=>obj=.ref s.heap.objs.size/\O={ s with heap:=s.heap.push { cls:=.type "set",dict:=ϋ,data:=.set #[] 0 (.fresh 0 0 (fK w)) } }) ⟨rfl,rfl⟩) λr O Y=>?_
 cases r with
 |error e=>exact Y
 |ok H =>
  cases H with
  |ret obj =>
   obtain⟨rfl,rfl⟩:=Y;have v:(s.heap.push { cls:=.type "set",dict:=ϋ,data:=.set #[] 0 (.fresh 0 0 (fK w)) }).get? s.heap.objs.size=ϊ { cls:=.type "set",dict:=ϋ,data:=.set #[] 0 (.fresh 0 0 (fK w)) }:=Î _ rfl
   have G:Shared.TypeIs { s with heap:=s.heap.push { cls:=.type "set",dict:=ϋ,data:=.set #[] 0 (.fresh 0 0 (fK w)) } } (.ref s.heap.objs.size) "set":=⟨_,v,rfl⟩
   have vl:=acO.init.lookup;have vb:=acO.init.bind (.ref s.heap.objs.size)
   repeat (any_goals (first|assumption|wp_step))
   refine Ŋ (ų (R:=wants (λr N=>r=.none/\∃h' tk,N={ s with heap:=h',toks:=tk } /\
     ib P w (fK w) h' s.heap.objs.size (λk'=>(Ř (λi=>ns.getD i 0) its.size).any (·==k')) (Ř (λi=>ns.getD i 0) its.size).length /\
     (∀b o,b<s.heap.objs.size->s.heap.get? b=ϊ o->h'.get? b=ϊ o)) E) acO.init.plain F.entry_set_init (check_set_init_1 G ?_)) λX N W=>?_
   ·obtain⟨ol,M,L,nn,K⟩:=hl
    obtain⟨oc,D,oa,V⟩:=ol;simp only at L K;subst L;subst K;have U:(s.heap.push { cls:=.type "set",dict:=ϋ,data:=.set #[] 0 (.fresh 0 0 (fK w)) }).get? l=ϊ { cls:=.type "list",dict:=D,data:=.seq its nn,slots:=V }:=Á _ M;have u1:=F.sub_list_set;have u2:=F.sub_list_frozenset;have gU:(Ť "list"==Ť "dict")=ύ:=by decide
    have ul:(s.heap.push { cls:=.type "set",dict:=ϋ,data:=.set #[] 0 (.fresh 0 0 (fK w)) }).IsList l its:=⟨_,U,rfl,nn,rfl⟩;delta ŗ.«set.__init__» noKeywords Builtin.Frozenset.updateFrom;generalize C:pyIter=PI
    wp_walk
    subst C;refine ŵ ul ?_;refine À (wpAny_runValue ?_);have J:l<s.heap.objs.size:=Ð M;have B:A.in1.in1.in1.handled=ϋ:=by simp[hh]
    have z:l≠(s.heap.push { cls:=.type "set",dict:=ϋ,data:=.set #[] 0 (.fresh 0 0 (fK w)) }).objs.size:=by
     rw[Ā];exact ã (Ĵ J)
    have y:s.heap.objs.size∉[(s.heap.push { cls:=.type "set",dict:=ϋ,data:=.set #[] 0 (.fresh 0 0 (fK w)) }).objs.size,l]:=by
     rw[Ā];erw[Û,Đ,ć,or_false,not_or];exact⟨ã (ŕ _),Ũ J⟩
    have x:∀(i:Nat) (v:Ç),its[i]?=ϊ v->∃t,v=.int ((λi=>ns.getD i 0) i) t:=λi v u =>
     IntsAre.int_at hi i v (by rw[į];exact u)
    refine U3 (led:=fK w) ((Walks.list B _ l z its).toS) s.heap.objs.size
     y (λi=>ns.getD i 0) x hb (its.size-0) 0 _ ⋯ (Ē _)
     ⟨⟨_,Î _ rfl,rfl,rfl⟩,(ul.push _)⟩ ?v0 ?vR
    case v0 =>
     have q:((s.heap.push { cls:=.type "set",dict:=ϋ,data:=.set #[] 0 (.fresh 0 0 (fK w)) }).push { cls:=.type "list_iterator",data:=.fields #[.ref l,.int 0 0] }).get? s.heap.objs.size
       = ϊ { cls:=.type "set",dict:=ϋ,data:=.set #[] 0 (.fresh 0 0 (fK w)) }:=Á _ v
     exact⟨_,#[],0,_,q,⟨rfl,rfl,rfl⟩,rfl,λe p=>by simp at p,λk=>by simp[firstMet_zero],by delta ac7;simp,by rfl,rfl,Tn _⟩
    case vR =>
     intro n Z T;obtain⟨h',m,j,g,f⟩:=n;have d:m=s.gens:=Z.gens;have a:j=s.drawn:=Z.drawn;have eo:f=s.os:=Z.os;subst d;subst a;subst eo;show á _ _ _ _ _ _;refine Ã ?_;show á _ _ (ret Value.none) _ _ _;refine Ã ⟨rfl,h',g,rfl,T,λb o hb e=>?_⟩;have v1:b≠s.heap.objs.size:=ã hb;have v2:b≠(s.heap.push { cls:=.type "set",dict:=ϋ,data:=.set #[] 0 (.fresh 0 0 (fK w)) }).objs.size:=by
      rw[Ā];exact ã (Ĵ hb)
     exact Z.heap b o (by erw[Û,Đ,ć,or_false,not_or];exact⟨v1,v2⟩) (Á _ (Á _ e))
   ·cases X with
    |error e=>exact W
    |ok S =>
     cases S with
     |ret r =>
      obtain⟨rfl,h',tk,rfl,T,vk⟩:=W
      repeat (any_goals (first|assumption|wp_step))
      exact h _ _ T vk
     |_=>exact W.elim
  |_=>exact Y.elim
end
theorem BA {α:Type}:∀{l:List α} {i:Nat} {x:α},l[i]?=ϊ x->(x::l.eraseIdx i).Perm l
 | [],i,x,h=>by simp at h
 |y::l,0,x,h=>by
  have:y=x:=by simpa using h
  subst this;exact List.Perm.refl _
 |y::l,i+1,x,h=>by
  have ih:=BA (l:=l) (i:=i) (x:=x) (by simpa using h);rw[List.eraseIdx_cons_succ];exact(List.Perm.swap y x _).trans (List.Perm.cons y ih)
theorem Lz {α:Type} (next:Nat->Nat):∀(fuel k:Nat) (left:List α) (out:Array α),left.length=fuel->(pickOrder.go next fuel k left out).toList.Perm (out.toList++left)
 |0,k,left,out,h=>by
  have:left=[]:=adD.mp h;subst this;delta pickOrder.go;simp
 |fuel+1,k,left,out,h=>by
  delta pickOrder.go
  have Z:next k % left.length<left.length:=Nat.mod_lt _ ⋯
  rw[Ø Z];dsimp only;have Y:=BA (Ø Z)
  have ih:=Lz next fuel (k+1) (left.eraseIdx (next k % left.length)) (out.push left[next k % left.length]) (by rw[List.length_eraseIdx_of_lt Z];omega)
  refine ih.trans ?_;rw[adP,Ĳ];exact List.Perm.append_left _ Y
def J8 {α:Type} (next:Nat->Nat) (xs:Array α):(ε next xs).toList.Perm xs.toList:=by
 delta ε
 have:=Lz next xs.size 0 xs.toList #[] ∅
 simpa using this
section
variable {P:å} {w:Ą} {A:í} {E:Ç->Â->Prop}
def R5 {α:Type} (n:Nat):∀(xs:List α) (s:Â) (Q:List α->Â->Prop),xs.length=n->(∀ys d,ys.Perm xs->Q ys { s with drawn:=d })->á (é P w) A (drawOrder n xs) Q E s:=by
 induction n with
 |zero =>
  intro xs s Q h Z;have:xs=[]:=adD.mp h;subst this;delta drawOrder;exact Ã (Z [] s.drawn (List.Perm.refl _))
 |succ n ih =>
  intro xs s Q h Z
  cases xs with
  |nil=>simp at h
  |cons x xs =>
   delta drawOrder;refine À (R0 ∅ ?_);have Y:w.draws .order (s.drawn.get .order) % (x::xs).length<(x::xs).length:=Nat.mod_lt _ ∅;rw[Ø Y];dsimp only;refine À (ih _ _ _ (by rw[List.length_eraseIdx_of_lt Y];omega) λys d X=>?_);refine Ã (Z _ d ?_);exact(List.Perm.cons _ X).trans (BA (Ø Y))
def U4 {s:Â} {a:ß} {u:Obj} {es:Array (Int×Ç)} {ep:Nat} {t:SetTable} {Q:Ç->Â->Prop} (hu:s.heap.get? a=ϊ u) (hx:u.ExactSet) (hd:u.data=.set es ep t) (hf:t.fits es.size=ό) (ht:je (fK w) t)
  (hsz:es.size<=Õ)
  (hQ:∀(h':ĺ) (d':Drawn) (I:ß) (fp:List ß) (St:Nat->Â->Prop) (order:List Ç),(∀b o,s.heap.get? b=ϊ o->h'.get? b=ϊ o)->(∀b∈fp,b<h'.objs.size)->(∀b∈fp,b=a\/s.heap.objs.size<=b)->I∈fp->s.heap.objs.size<=I->order.Perm (es.toList.map (·.2)) ->
   (∀A':í,A'.handled=ϋ->WalksS P w A' I fp [I] (λa b=>b=a) es.size (λi v=>order[i]?=ϊ v) St)->St 0 { s with heap:=h',drawn:=d' }->Q (.ref I) { s with heap:=h',drawn:=d' }) :
  á (é P w) A (pyIter (.ref a)) Q E s:=by
 have N:s.TypeIs (.ref a) "set":=⟨u,hu,hx.1⟩;have X:a<s.heap.objs.size:=Ð hu;refine wpAny_pyIter_slot N F.slot_set_iter (Ď F.slot_set_iter N Qm ?_ (F.args_set_iter_1 _));delta ŗ.«frozenset.__iter__» Builtin.Frozenset.slot0 slotArgs;simp only[ade,ý,Æ,↓reduceIte,bind_assoc,ă,Ĕ];delta Builtin.Frozenset.addrOf Builtin.Frozenset.sizeOf;refine À (Ã ?_)
 try dsimp only
 refine À (Ã ?_);refine À (À (ž hu hd hf (Ã ?_)));delta setDrawn;refine À (À (ŷ hu hd hf ?_));dsimp only;delta setsByText;refine À (À (ť (Ã ?_)));refine Ã ?_
 show á _ _ (if (!(w.params.followText "set-order")&&(!t.plain&&ώ (es.size > 1)))=ό then _ else _) _ _ _
 have G:∀(W:Obj) b o,s.heap.get? b=ϊ o->(s.heap.push W).get? b=ϊ o:=λW b o e=>Á _ e;by_cases V:(!w.params.followText "set-order"&&(!t.plain&&ώ (es.size > 1)))=ό
 ·rw[Ñ V]
  refine À (R5 _ _ _ _ ∅ λU d hp=>?_);refine À ?_;erw[newTuple];refine û ?_ (by have:=hp.length_eq;rw[List.length_range] at this;show (adY _).size<=Õ;rw[Ü,É,this];exact hsz);have L:∀x∈U,x<es.size:=λx hx=>by simpa using hp.mem_iff.mp hx
  have O:U.length=es.size:=by simpa using hp.length_eq
  refine À (wpAny_setEpoch_of (Á _ hu) hd hf ?_);refine À (û ?_);refine Ã ⟨_,rfl,"set_iterator",_,⟨_,Î _ rfl,rfl⟩,kN.lookup,?_⟩;have Y:(s.heap.push { cls:=.type "tuple",data:=.seq (U.map λ(i:Nat)=>ĸ i).toArray }).objs.size=s.heap.objs.size+1:=by simp[Ā]
  refine hQ _ d _ [_,a,s.heap.objs.size] _ (U.map λk=>(es.getD k (0,Value.none)).2) (λb o e=>Á _ (Á _ e)) ?_ ?_ ∅ (by rw[Y];exact adj _) ?_ (λA' T=>Rq (u:=u) (t:=t) (ep:=ep) T (I:=_) (a:=a) (tp:=s.heap.objs.size) (by rw[Y];exact ã (Ĵ X)) (by rw[Y];exact ã (ŕ _)) hd hf U O L) ⟨⟨_,Î _ rfl,rfl,rfl⟩,Á _ (Á _ hu),⟨_,Á _ (Î _ rfl),rfl,_,rfl⟩⟩
  ·intro b Z
   erw[Û,ć,or_false] at Z;rw[Ā]
   rcases Z with e|e|e
   ·rw[e];exact ŕ _
   ·rw[e,Y];exact Ĵ (Ĵ X)
   ·rw[e,Y];exact Ĵ (ŕ _)
  ·intro b Z
   erw[Û,ć,or_false] at Z
   rcases Z with e|e|e
   ·right;rw[e,Y];exact adj _
   ·exact .inl e
   ·right;rw[e];exact aeD _
  ·refine(List.Perm.map _ hp).trans ?_
   have:(è es.size).map (λk=>(es.getD k (0,Value.none)).2)=es.toList.map (·.2):=by
    apply acU;intro i;rw[ê,ê];by_cases S:i<es.size
    ·rw[Ŀ S,į]
     simp[aes,S]
    ·rw[ğ (by simpa using S),ğ (by simpa using S)]
     rfl
   rw[this]
 ·rw[Ú V]
  refine À (Ã ?_);refine À (wpAny_setEpoch_of hu hd hf ?_);refine À (û ?_);refine Ã ⟨_,rfl,"set_iterator",_,⟨_,Î _ rfl,rfl⟩,kN.lookup,?_⟩;have ai:∀(W:Obj),∀b∈[s.heap.objs.size,a],b<(s.heap.push W).objs.size:=λW b Z=>by
   erw[Û,ć,or_false] at Z;rw[Ā]
   rcases Z with e|e
   ·rw[e];exact ŕ _
   ·rw[e];exact Ĵ X
  have M:∀b∈[s.heap.objs.size,a],b=a\/s.heap.objs.size<=b:=λb Z=>by
   erw[Û,ć,or_false] at Z
   rcases Z with e|e
   ·right;rw[e];exact aeD _
   ·exact .inl e
  cases R:w.params.followText "set-order" with
  |true =>
   have K:(ε (w.params.setOrder a ep) es).size=es.size:=by
    have:=(J8 (w.params.setOrder a ep) es).length_eq;simpa using this
   have hw:∀A':í,A'.handled=ϋ->WalksS P w A' s.heap.objs.size [s.heap.objs.size,a] [s.heap.objs.size] (λa b=>b=a) es.size (λi v=>((ε (w.params.setOrder a ep) es).toList.map (·.2))[i]?=ϊ v) _:=λA' T=>by
    have:=R3 (P:=P) (u:=u) (t:=t) T (I:=s.heap.objs.size) (a:=a) (ã X) R hd hf K;simpa using this
   exact hQ _ s.drawn _ [_,a] _ ((ε (w.params.setOrder a ep) es).toList.map (·.2)) (λb o e=>Á _ e) (ai _) M ∅ (aeD _) (List.Perm.map _ (J8 _ _)) hw ⟨⟨_,Î _ rfl,rfl,rfl⟩,Á _ hu⟩
  |false =>
   have hp:t.plain=ό\/es.size<=1:=by
    rw[R] at V;simp at V
    cases J:t.plain with
    |true=>exact .inl rfl
    |false=>exact .inr (V J)
   have O:t.led=ό:=by rw[ht.led];delta fK;rw[R];rfl
   have H:lq t.place.toList:=by
    rcases hp with hp|hp
    ·exact ht.rise hp
    ·erw[SetTable.fits,Å,beq_iff_eq,Ë] at hf
     have hle:t.place.toList.length<=1:=by simp[hf.1];exact hp
     match t.place.toList,hle with
     | [],_=>exact List.Pairwise.nil
     | [x],_=>exact List.pairwise_singleton _ _
   have hw:∀A':í,A'.handled=ϋ->WalksS P w A' s.heap.objs.size [s.heap.objs.size,a] [s.heap.objs.size] (λa b=>b=a) es.size (λi v=>(es.toList.map (·.2))[i]?=ϊ v) _:=λA' T=>by
    have:=Rp (P:=P) (u:=u) (t:=t) (ep:=ep) T (I:=s.heap.objs.size) (a:=a) (ã X) R hd hf O hp H;simpa using this
   exact hQ _ s.drawn _ [_,a] _ (es.toList.map (·.2)) (λb o e=>Á _ e) (ai _) M ∅ (aeD _) (List.Perm.refl _) hw ⟨0,⟨_,Î _ rfl,rfl,rfl⟩,Á _ hu,Ē _,λk D=>by omega,λk _ _=>Ē _⟩
end
section
variable {P:å} {w:Ą} {A:í} {E:Ç->Â->Prop} {s:Â}
def split_len:splitId "set.__len__"=ϊ ("set","__len__"):=nofun
def ints_of (h:ElemsOf (Ţ P w) es) (hp:vs.Perm (es.map (·.2))):∃ns,aec vs ns:=by
 have Z:∀v∈vs,∃k t,v=.int k t:=λv Z=>by
  obtain⟨e,W,rfl⟩:=Č.mp (hp.mem_iff.mp Z);obtain⟨⟨k,X,_⟩,_⟩:=h e W
  cases Y:e.2 with
  |int i t=>exact⟨i,t,rfl⟩
  |_=>rw[Y] at X;simp[Ţ,Value.isInt] at X
 clear hp
 induction vs with
 |nil=>exact⟨[],.nil⟩
 |cons v vs ih =>
  obtain⟨k,t,rfl⟩:=Z v Þ;obtain⟨ns,V⟩:=ih λx Y=>Z x (Ï _ Y);exact⟨k::ns,.cons k t V⟩
def MA {α:Type} {c:Bool} {x y:Sem α} {Q:α->Â->Prop} (hc:c=ό) (h:á (é P w) A x Q E s):á (é P w) A (if c=ό then x else y) Q E s:=by
 rw[Ñ hc];exact h
def Rr {a:ß} {u:Obj} {es:Array (Int×Ç)} {ep:Nat} {t:SetTable} {Q:List Ç->Â->Prop} (hh:A.handled=ϋ) (hu:s.heap.get? a=ϊ u) (hx:u.ExactSet) (hd:u.data=.set es ep t) (hf:t.fits es.size=ό) (ht:je (fK w) t) (hsz:es.size<ac7)
  (hQ:∀(h':ĺ) (d':Drawn) (tk:Nat) (vs:List Ç),s.heap.objs.size<=h'.objs.size->(∀b o,s.heap.get? b=ϊ o->h'.get? b=ϊ o)->vs.Perm (es.toList.map (·.2))->Q vs { s with heap:=h',drawn:=d',toks:=tk }):á (é P w) A (collect (.ref a)) Q E s:=by
 have K:es.size<=Õ:=acV hsz;have J:a<s.heap.objs.size:=Ð hu;delta collect;refine À (wpAny_runValue (ň F.entry_proto_collect ?_));rw[Ų F.plain_proto_collect _];show á _ A.in1 (newList [] >>= λl=>again (.builtin "list.__iadd__" ⟨[l,.ref a],[]⟩)) _ _ s;refine À (û ?_);refine Ã ⟨plainId_quiet F.plain_list_iadd _,ň F.entry_list_iadd ?_⟩;rw[Ų F.plain_list_iadd _];show á _ A.in1 (Š (.ref s.heap.objs.size) (.ref a) (.ref s.heap.objs.size)) _ _ _
 generalize U:({ s with heap:=s.heap.push { cls:=.type "list",data:=.seq ([]:List Ç).toArray } }:Â)=Y
 have H:Y.heap.objs.size=s.heap.objs.size+1:=by rw[<- U];simp[Ā]
 have i:∀b o,s.heap.get? b=ϊ o->Y.heap.get? b=ϊ o:=λb o e=>by rw[<- U];exact Á _ e
 have T:Y.heap.get? a=ϊ u:=by rw[<- U];exact Á _ hu
 have h:Y.TypeIs (.ref a) "set":=⟨u,T,hx.1⟩;have S:Y.heap.get? s.heap.objs.size=ϊ { cls:=.type "list",data:=.seq ([]:List Ç).toArray }:=by rw[<- U];exact Î _ rfl
 delta Š;refine À (adq h ?_);have g:Builtin.List.listSameRef (.ref s.heap.objs.size) (.ref a)=ύ:=by
  simp[Builtin.List.listSameRef];exact Ũ J
 have f:(Ť "set"==Ť "list")=ύ:=by decide
 have d:(Ť "set"==Ť "tuple")=ύ:=by decide
 erw[g,f,d,Bool.or_false,Æ,ï];refine À (U4 T hx hd hf ht K λh' d' I fp St order R k2 k6 k3 G D W st=>?_)
 have O:Shared.TypeIs { Y with heap:=h',drawn:=d' } (.ref a) "set":=⟨u,R _ _ T,hx.1⟩
 have C:=R _ _ S;refine À (ą ?_);delta Builtin.List.listLengthHint;refine À (wpAny_specialOf O F.slot_set_len.lookup ?_);dsimp only;rw[split_len];dsimp only;refine À (wpAny_isInstance O sub_set_self ?_);rw[Ú (by decide)];refine MA nofun ?_;refine À (adq O ?_);dsimp only;refine Ã ?_;refine MA nofun ?_
 ··refine À (Ŵ ?_)
   refine À ?_;show á _ A.in1 (updateSeq s.heap.objs.size (·.push .none) >>= λ_=>updateSeq s.heap.objs.size (·.pop)) _ _ _;refine À (wpAny_updateSeq C rfl ?_);have B:=Ğ (ŝ (·.push Value.none)) C rfl;refine wpAny_updateSeq B rfl ?_;have N:=Ğ (ŝ (·.pop)) B rfl;have y:s.heap.objs.size∉fp:=λhm=>by
    rcases k6 _ hm with e|e
    ·exact Ũ J e
    ·rw[H] at e;exact Nat.not_succ_le_self _ e
   have x:∀b o,b≠s.heap.objs.size->h'.get? b=ϊ o->((h'.update s.heap.objs.size (ŝ (·.push Value.none))).update s.heap.objs.size (ŝ (·.pop))).get? b=ϊ o :=
    λb o X e=>(ν _ _ (ź X)).trans ((ν _ _ (ź X)).trans e)
   refine Ã ⟨plainId_quiet F.plain_extend_loop _,codeAny_extend_loopS (W A.in1 (by simp[hh])) K _ y _ es.size 0 _ _ _ rfl (Ē _) ((W A.in1 (by simp[hh])).frame 0 ({ Y with heap:=h',drawn:=d' }:Â) _ Y.toks st (aeD _) λb X o e=>x b o (λz=>y (z ▸ X)) e) N (ItemsOf.nil _) λv Z c m r p=>?_⟩
   show á _ A (load s.heap.objs.size >>= _) _ _ v;refine À (wpAny_load r ?_);refine Ã ?_;have M:order.length=es.size:=by simpa using D.length_eq
   have L:Z.toList=order:=by
    apply acU;intro j;by_cases n:j<Z.size
    ·have e1:Z[j]?=ϊ Z[j]:=by simp[n]
     rw[į,e1,p.2 j _ e1]
    ·rw[ğ (by simpa using n),ğ (by rw[M,<- p.1];omega)]
   obtain⟨h2,g2,k,t2,o2⟩:=v;have eg:g2=Y.gens:=m.gens;have ed:k=d':=m.drawn;have eo:o2=Y.os:=m.os;subst eg ed eo;have q:=hQ h2 k t2 Z.toList (Nat.le_of_lt (Ð r)) (λb o e=>m.heap b o (λX=>by
    erw[Û,ć,or_false] at X;have V:=Ð e
    rcases X with z|z
    ·rw[z] at V;exact ñ _ V
    ·rw[H] at G;rw[z] at V;exact ñ _ (Ê V (Nat.le_of_succ_le G))) (x b o (λz=>by
     have V:=Ð e;rw[z] at V;exact ñ _ V) (R b o (i b o e)))) (by rw[L];exact D)
   rw[<- U];exact q
def R6 (hh:A.handled=ϋ) (hu:s.heap.get? a=ϊ u) (hx:u.ExactSet) (hd:u.data=.set es ep t) (hf:t.fits es.size=ό) (ht:je (fK w) t) (FZ:ElemsOf (Ţ P w) es.toList) (h64:es.size<64)
 (h:∀(h':ĺ) (d':Drawn) (tk:Nat) (p:ß) (vs:List Ç) (ns:List Int) (out:List Ç) (ms:List Int) (e:Nat),(∀b o,s.heap.get? b=ϊ o->h'.get? b=ϊ o)->s.heap.objs.size<=p->vs.Perm (es.toList.map (·.2))->aec vs ns->h'.get? p=ϊ { cls:=.type "list",data:=.seq out.toArray e }->aec out ms->ms.Perm ns->ms.Pairwise (·<=·)->Q (.ref p) { s with heap:=h',drawn:=d',toks:=tk }) :
  á (é P w) A (call (.builtin "sorted") [.ref a]) Q E s:=by
 refine Calls.call_function_entry kind_sorted plain_sorted entry_sorted (args_sorted1 _) ?_;delta ŗ.«sorted»;refine À (m:=checkCount "sorted" 1 1 _) (Ã ?_);refine À (Rr (by simp[hh]) hu hx hd hf ht (by delta ac7;omega) λh' d' tk vs U T Z=>?_);obtain⟨ns,X⟩:=ints_of FZ Z;have S:vs.length<64:=by have:=Z.length_eq;simp at this;omega
 refine À (wpAny_newList ?_);have Y:(h'.push (adI "list" vs.toArray 0)).get? h'.objs.size=ϊ (adI "list" vs.toArray 0):=Î _ rfl;refine À (ą (Ď slot_list_sort ⟨_,Y,rfl⟩ entry_list_sort (list_sort_tree Y X S λout ms a1 a2 R=>⟨_,rfl,?_⟩) (args_list_sort _)));obtain⟨e,O⟩:=sortedHeap_at (out:=out) Y;refine Ã ⟨_,rfl,h _ d' tk h'.objs.size vs ns out.toList ms e (λb o N=>?_) ?_ Z X (by simpa [adI] using O) a1 a2 R⟩
 ·have W:=T b o N
  have V:=Ð W;rw[sortedHeap_old (ã V) (by rw[size_push'];exact Ĵ V)];exact Á _ W
 ·exact U
end
end TS
namespace L2
open PySem PySem.Spec PyProof.Rows
def mv (P:å) (w:Ą) (p:ß) (ns:List Int):ĺ->Prop:=λh=>∃(S:Int->Bool) (n:Nat),TS.ib P w (TS.fK w) h p S n/\(∀k,S k=ό↔k∈ns)/\n<=ns.length/\n=(ns.foldl step_dedup []).length
section
variable {X:Cx}
def zg (l:List Int) (k:Int):(l.any (·==k))=ό↔k∈l:=by
 rw[List.any_eq_true];exact⟨λ⟨x,Z,Y⟩=>by rw[<- beq_iff_eq.mp Y];exact Z,λh=>⟨k,h,by simp⟩⟩
def WS (hm:m=ns.length) (hS:TS.ib X.prog X.w (TS.fK X.w) h p (λk'=>(Ř (λi=>ns.getD i 0) m).any (·==k')) (Ř (λi=>ns.getD i 0) m).length):mv X.prog X.w p ns h:=by
 subst hm;refine⟨_,_,hS,λk=>?_,firstMet_length_le _ _,?_⟩
 ·rw[firstMet_any,map_getD]
  exact zg ns k
 ·delta Ř
  rw[map_getD]
def WT (hx:mv X.prog X.w p ns h):eO X.prog X.w (upd H p (.ext (mv X.prog X.w p ns))) h p (.ext (mv X.prog X.w p ns)):=by
 refine⟨hx,?_,λY W q k=>?_⟩
 ·obtain⟨_,_,⟨o,_,_,_,Z,_⟩,_⟩:=hx
  exact⟨o,Z⟩
 ·obtain⟨S,n,T,r⟩:=q
  exact⟨S,n,T.at k,r⟩
def R7 (hc:X.calm=ό):cT X (.type "set") (λxs H Q=>∃(a:ß) (ns:List Int),xs=[.ref a]/\bY X.K H a (ns.map V.int)/\(ns.foldl step_dedup []).length<4000/\∀p,H p=ϋ->Q (.ref p) (upd H p (.ext (mv X.prog X.w p ns)))):=by
 intro P s σ H xs O Q I r h;obtain⟨a,ns,rfl,W,N,q⟩:=h;obtain⟨u,rfl,U⟩:=vals1 r;cases U;obtain⟨its,Z,p,_⟩:=I.list W;have Y:its.toArray.size=ns.length:=by
  have e:=Z.length;rw[É] at e;simpa using e.symm
 refine TS.R4 (its:=its.toArray) (ns:=ns) (I.ok.hd hc) p.isList (by simpa using intsAre_of Z) (by rw[Y];delta Ř;rw[map_getD];show _ + 1<4096;omega) λM T S R=>?_;exact⟨.ref _,_,I.laid (t':=T) (λb o e=>R b o (Ð e) e) (aeD _) (WT (WS Y S)),rfl,q _ (I.aI.fresh (aeD _))⟩
theorem IQ:∀{out:List Ç} {ms:List Int},aec out ms->Vals (ms.map V.int) out
 |_,_,.nil=>.nil
 |_,_,.cons n t h=>.cons ⟨t,rfl⟩ (IQ h)
theorem Bu:∀(ns acc:List Int),acc.Nodup->(ns.foldl step_dedup acc).Nodup
 | [],acc,h=>h
 |n::ns,acc,h=>by
  refine Bu ns _ ?_;delta step_dedup;split
  ·exact h
  ·rename_i Z
   rw[adb] at Z;refine adR.mpr ⟨h,by simp,λa Y b X=>?_⟩;have:b=n:=by simpa using X
   subst this;intro e;subst e;rw[(zg acc a).mpr Y] at Z;cases Z
theorem KG:∀{vs:List Ç} {ns:List Int},aec vs ns->∀k,k∈ns↔∃t,ad9 k t∈vs
 |_,_,.nil,k=>by simp
 |_,_,.cons n t h,k=>by
  rw[Û,KG h k];constructor
  ·rintro (e | ⟨Z,h'⟩)
   ·subst e;exact⟨t,Þ⟩
   ·exact⟨Z,Ï _ h'⟩
  ·rintro ⟨Z,h'⟩
   rcases Û.mp h' with e|h'
   ·injection e with e _;exact .inl e
   ·exact .inr ⟨Z,h'⟩
theorem sub_len:∀{m l:List Int},m.Nodup->(∀k,k∈m->k∈l)->m.length<=l.length
 | [],l,_,_=>Ē _
 |x::m,l,h,Z=>by
  obtain⟨W,V⟩:=ψ.mp h;have Y:=Z x Þ;have ih:=sub_len (m:=m) (l:=l.erase x) V λk X=>(List.mem_erase_of_ne (λ(e:k=x)=>W (by rw[<- e];exact X))).mpr (Z k (Ï _ X));rw[List.length_erase_of_mem Y] at ih;have:=List.length_pos_of_mem Y;rw[â];omega
theorem IS:∀{l m:List Int},m.Nodup->(∀k,k∈m↔k∈l)->l.length<=m.length->l.Nodup
 | [],m,_,_,_=>List.nodup_nil
 |a::r,m,Z,Y,W=>by
  have V:a∉r:=λh=>by
   have:=sub_len Z λk U=>(Û.mp ((Y k).mp U)).elim (λe=>e ▸ h) id;rw[â] at W;omega
  have X:a∈m:=(Y a).mpr Þ;refine ψ.mpr ⟨V,IS (m:=m.erase a) (Z.erase a) (λk=>?_) ?_⟩
  ·rw[Z.mem_erase_iff,Y k,Û]
   constructor
   ·rintro ⟨T,h2|h2⟩
    ·exact absurd h2 T
    ·exact h2
   ·intro h
    exact⟨λe=>V (e ▸ h),.inr h⟩
  ·rw[List.length_erase_of_mem X]
   rw[â] at W;omega
def J9 (ns:List Int) (k:Int):k∈ns.foldl step_dedup []↔k∈ns:=by
 have:=firstMet_any (λi=>ns.getD i 0) ns.length k;delta Ř at this;rw[map_getD] at this;rw[<- zg,<- zg,this]
def QV (hc:X.calm=ό):cT X (.builtin "sorted") (λxs H Q=>∃(p:ß) (ns:List Int),xs=[.ref p]/\H p=ϊ (.ext (mv X.prog X.w p ns))/\(ns.foldl step_dedup []).length<64 /\
  ∀(l:ß) (ms:List Int),H l=ϋ->ms.Pairwise (· < ·)->(∀k,k∈ms↔k∈ns)->Q (.ref l) (upd H l (.lst (ms.map V.int)))):=by
 intro π s σ H xs us Q I r h;obtain⟨p,ns,rfl,F,hl,q⟩:=h;obtain⟨v,rfl,E⟩:=vals1 r;cases E;obtain⟨⟨S,n,⟨u,es,ep,t,D,C,hd,B,W,N,A,z,y⟩,m,F0,j⟩,_⟩:=I.aI p _ F;refine TS.R6 (I.ok.hd hc) D C hd A y B ⋯ λg f M l vs ks out ms e d L Y U c k6 T k8=>?_;have K:∀k,k∈ms↔k∈ns:=λk=>by
  rw[T.mem_iff,KG U k,<- m k,W k];constructor
  ·rintro ⟨t',F2⟩
   obtain⟨x,R,Z⟩:=Č.mp (Y.mem_iff.mp F2);exact⟨x,R,by rw[Z];exact intKind_is _ _ _ _⟩
  ·rintro ⟨x,R,Z⟩
   obtain⟨i,t',G⟩:∃i t',x.2=.int i t':=by
    cases hv:x.2 with
    |int i t'=>exact⟨i,t',rfl⟩
    |_=>rw[hv] at Z;simp[Ţ,Value.isInt] at Z
   have rg:k=i:=(Ţ X.prog X.w).inj (.int i t') k i (by rw[<- G];exact Z) (intKind_is _ _ _ _);subst rg;exact⟨t',Y.mem_iff.mpr (Č.mpr ⟨x,R,G⟩)⟩
 have P:ms.Nodup:=by
  have kI:=Bu ns [] List.nodup_nil;refine IS kI (λk=>?_) ?_
  ·rw[K k,J9]
  ·rw[<- j,<- z]
   have e1:=T.length_eq;have e2:=U.length;have O:=Y.length_eq;simp at O;omega
 have bE:ms.Pairwise (· < ·):=by
  have:=List.pairwise_and_iff.mpr ⟨k8,P⟩;exact this.imp λ⟨a,b⟩=>by omega
 have J:=I.laid (t':=M) (a:=l) (o:=.lst (ms.map V.int)) d L ⟨by
  rw[É,ŭ];have e1:=T.length_eq;have e2:=U.length;have O:=Y.length_eq;simp at O;omega,out,e,IQ k6,c⟩
 exact⟨.ref l,_,J.wB (s':={ s with heap:=g,drawn:=f,toks:=M }) (ch:=[]) rfl Un.refl J.aI J.bare (λb N=>by cases N),rfl,q l ms (I.aI.fresh L) bE K⟩
end
end L2
namespace HZ
open PySem PySem.Spec PyProof.Rows
open AutoSeq1 (wpAny_loadPart')
end HZ
namespace L2
open PySem PySem.Spec PyProof.Rows
end L2
namespace HZ
open PySem PySem.Spec PyProof.Rows
def Qb:fillsNumberSlot (.type "tuple") "mul"=pure ύ:=by
 first|rfl | (delta fillsNumberSlot;kernel_rfl)|kernel_rfl
def QW:seqRepeat? (.type "tuple")=pure (ϊ (.builtin "tuple.__mul__")):=by
 first|rfl|kernel_rfl
def R8 (a:Int) (t:Tok) (l:ß) (items:Array Ç) (n:Nat) (d:Option ß) (sl:Array (Option Ç)) :
  Meets (ŗ.«int.__rmul__» ⟨[.int a t,.ref l],[]⟩) (λ_ R s=>s.heap.get? l=ϊ { cls:=.type "tuple",dict:=d,data:=.seq items n,slots:=sl }/\R (.ok (.ret Value.notImplemented)) s) :=
 .of_wp λprog w A R s h=>by
  obtain⟨Z,Y,X,W,V⟩:=s;obtain⟨U,h⟩:=h;wp_walk;exact⟨_,rfl,h⟩
section
variable {P:å} {w:Ą} {A:í} {E:Ç->Â->Prop} {s:Â}
def WU (ht:IsTup s.heap t vs.toArray) (hv:vs≠[]) (hk:1<=k) (hz:vs.length*k.toNat<=Õ)
 (h1:k=1->Q (.ref t) s) (h2:k≠1->Q (.ref s.heap.objs.size) { s with heap:=s.heap.push { cls:=.type "tuple",data:=.seq (Ö k.toNat vs).flatten.toArray } }) :
  á (é P w) A (ņ .Mult (.ref t) (.int k tk)) Q E s:=by
 obtain⟨⟨cls,V,data,sl⟩,Z,Y,n,X⟩:=id ht;simp only at Y X;subst Y X;have L:k<=16777216:=by
  have S:1<=vs.length:=by
   cases vs with
   |nil=>exact absurd rfl hv
   |cons a r=>simp
  have K:vs.length*k.toNat<=16777216:=by rw[<- ŭ];exact hz
  have:1*k.toNat<=vs.length*k.toNat:=ad7 _ S;omega
 refine wpAny_binaryOp_repeat_ref (T:="tuple") (U:="int") (by decide) ⟨_,Z,rfl⟩ (λR=>typeIs_int R k tk) Qb F.fills_int_mul aed QW F.slot_int_index.lookup
  (η aed (typeIs_int s k tk) F.entry_int_rmul (F.args_int_rmul_2 _ _) (R8 k tk t vs.toArray n V sl) ⟨Z,rfl,⟨_,Z,rfl⟩,?_⟩)
 refine Ď F.slot_tuple_mul ⟨_,Z,rfl⟩ F.entry_tuple_mul ?_ (F.args_tuple_mul_2 _ _);show á _ _ (asIndex (.int k tk) >>= _) _ _ _;refine À ?_
 refine abL (a:=k) (by first|rfl | (delta asIndex;rfl)) ?_
 dsimp only;rw[Ú (by simp;omega)];delta acW;refine À (À (ń Z rfl ?_));refine Ã ?_;have ne:vs.toArray.isEmpty=ύ:=by
  cases vs with
  |nil=>exact absurd rfl hv
  |cons a r=>simp
 by_cases h:k=1
 ·rw[Ñ (by rw[h];simp)]
  delta acX;refine À (À (adq (T:="tuple") ⟨_,Z,rfl⟩ (Ã ?_)));rw[Ñ (by decide)];exact À (Ŵ (Ã ⟨_,rfl,h1 h⟩))
 ·rw[Ú (by rw[ne];simp[h])]
  rw[Ú (by rw[ne];simp;omega)];have W:(vs.toArray.size:Int)*k=((vs.length*k.toNat:Nat):Int):=by
   rw[Ü,Int.natCast_mul];congr 1;omega
  have O:vs.length*k.toNat<=16777216:=by rw[<- ŭ];exact hz
  rw[Ú (by rw[W];omega)];rw[Ú (by
   delta Builtin.Tuple.tupleTooMany;rw[W,ŭ,Ë];generalize vs.length*k.toNat=q at O;omega)]
  delta Ŕ;have e:List.foldl (λN M=>N++M) #[] (Ö k.toNat vs.toArray)=(Ö k.toNat vs).flatten.toArray:=by
   have:=L2.foldl_rep vs k.toNat [];rw[Ļ] at this;exact this
  rw[e];refine À (û ?_ (by
   show (adY _).size<=Õ;rw[Ü,L2.len_rep,Nat.mul_comm];exact hz))
  exact Ã ⟨_,rfl,h2 h⟩
end
end HZ
namespace L2
open PySem PySem.Spec PyProof.Rows
section
variable {X:Cx}
def aav (K:đ):R2:=λx y H Q=>∃a Z k,x=.ref a/\y=.int k/\bV K H a Z/\Z≠[]/\1<=k/\Z.length*k.toNat<=Õ/\oR K H (Ö k.toNat Z).flatten Q
def WV:bM X (ņ .Mult) (aav X.K):=by
 intro O s σ H x y v u Q I U T h;obtain⟨a,Z,k,rfl,rfl,W,S,R,V,q⟩:=h;cases U;obtain⟨t,rfl⟩:=T;obtain⟨its,r,p,z⟩:=I.tuple W;have Y:=r.length;refine HZ.WU p (λe=>S (by rw[e] at Y;exact adD.mp Y)) R (by rw[<- Y];exact V) (λe=>?_) (λ_=>?_)
 ·have e1:(Ö k.toNat Z).flatten=Z:=by rw[e];simp
  rw[e1] at q;exact⟨.ref a,H,I,rfl,q.here W⟩
 ·have P:(Ö k.toNat Z).flatten.length<=Õ:=by rw[len_rep,Nat.mul_comm];exact V
  exact⟨.ref _,_,I.laid (t':=s.toks) (o:=.tup (Ö k.toNat Z).flatten) (λb o e=>Á _ e) (aeD _) ⟨P,_,r.rep k.toNat,⟨_,Î _ rfl,rfl,_,rfl⟩⟩,rfl,q.new (I.aI.fresh (aeD _))⟩
end
end L2
namespace HZ
open PySem PySem.Spec PyProof.Rows
def LA:mroOf (.type "reversed")=pure [.type "reversed",.type "object"]:=by rw[mroOf_type];kernel_rfl
def Qn:typeLookup (.type "reversed") "__new__"=pure (ϊ (.builtin "reversed.__new__")):=by rw[typeLookup_type,adZ];kernel_rfl
def U5:Bind.madeBy (.type "reversed")=pure (ϊ "reversed.__new__"):=madeBy_type LA Qn nofun
def Qw:entryFor table "reversed.__new__"=ϊ ŗ.«reversed.__new__»:=entryFor_of_tree (by kernel_rfl)
def Qx:plainId "reversed.__new__"=ό:=nofun
def QX (a:Ç):checkTypeCall "reversed" ⟨[a],[]⟩=pure ():=by kernel_rfl
def Rt (a:Ç):ad6 "reversed.__new__" ⟨[.type "reversed",a],[]⟩=pure ():=by kernel_rfl
def WW:isSubtype (.type "reversed") (.type "reversed")=pure ό:=by rw[isSubtype_type];kernel_rfl
def R9:isSubtype (.type "range_iterator") (.type "reversed")=pure ύ:=by rw[isSubtype_type];kernel_rfl
def QY:(Ť "reversed"==Ť "type")=ύ:=nofun
def WX:((Manifest.find? "reversed").bind (·.mro.findSome? λt=>(Manifest.find? t).bind λb=>if b.noNew then ϊ ό else if b.attrs.any (·.1=="__new__") then ϊ ύ else ϋ)).getD ύ=ύ:=nofun
section
variable {P:å} {w:Ą} {A:í} {E:Ç->Â->Prop} {s:Â}
def QZ (hr:s.heap.get? r=ϊ { cls:=.type "range",data:=.fields #[.int a t1,.int b t2,.int c t3] }) (h:Q (a,b,c) s):á (é P w) A (aen (.ref r)) Q E s:=by
 delta aen;refine À (Į hr rfl (x:=.int a t1) rfl ?_);refine À (abL (a:=ϊ a) (by rfl) ?_);refine À (Į hr rfl (x:=.int b t2) rfl ?_);refine À (abL (a:=ϊ b) (by rfl) ?_);refine À (Į hr rfl (x:=.int c t3) rfl ?_);refine À (abL (a:=ϊ c) (by rfl) ?_);exact Ã h
def WY {n:Nat} {Q:Ç->Â->Prop} (hr:s.heap.get? r=ϊ { cls:=.type "range",data:=.fields #[.int 0 t1,.int n t2,.int 1 t3] }) (hn:n<2 ^ 62)
 (h:Q (.ref s.heap.objs.size) { s with heap:=s.heap.push { cls:=.type "range_iterator",data:=.fields #[ĸ (n-1),ĸ n,ĸ (-1)] } }) :
  á (é P w) A (ŗ.«reversed.__new__» ⟨[.type "reversed",.ref r],[]⟩) (λfin s'=>∃v,fin=.done (.ret v)/\Q v s') E s:=by
 have X:s.TypeIs (.ref r) "range":=⟨_,hr,rfl⟩;have ss:=WW;delta ŗ.«reversed.__new__» Builtin.SmallTypes.newClass Builtin.SmallTypes.refuseKeywords;have V:=acP.lookup;have U:=acP.bind (.ref r)
 wp_walk
 refine Ŋ (ų (R:=wants (λv s'=>v=.ref s.heap.objs.size/\s'={ s with heap:=s.heap.push { cls:=.type "range_iterator",data:=.fields #[ĸ (n-1),ĸ n,ĸ (-1)] } }) E) acP.plain F.entry_range_reversed (acP.check _ _ _ _ _ _ _ _ X (F.args_range_reversed_1 _) ?_)) λW T Z=>?_
 ·delta ŗ.«range.__reversed__»
  refine À (abL (a:=.ref r) (by rfl) ?_);refine À (QZ hr ?_);dsimp only;have sz:adu 0 n 1=n:=by
   delta adu;rw[Ñ (by decide)]
   split<;>omega
  rw[sz];have Y:(ę 0&&ę n&&ę 1&&ę (-1)&&ę (0-1)&&ę n)=ό:=by
   have S:(n:Int)<2 ^ 62:=by omega
   delta ę;erw[Å,Ë];refine⟨⟨⟨⟨⟨⟨by decide,by decide⟩,by omega,by omega⟩,by decide,by decide⟩,by decide,by decide⟩,by decide,by decide⟩,by omega,by omega⟩
  rw[Y];rw[Ú (by decide)];refine À (û ?_);refine Ã ?_;refine⟨rfl,?_⟩;have e:(0:Int)+((n:Int)-1)*1=n-1:=by omega
  simp[ĸ]
 ·cases W with
  |error e=>exact Z
  |ok Y =>
   cases Y with
   |ret v =>
    obtain⟨rfl,rfl⟩:=Z;exact Ã ⟨_,rfl,h⟩
   |_=>exact Z
def U6 {n:Nat} {Q:Ç->Â->Prop} (hr:s.heap.get? r=ϊ { cls:=.type "range",data:=.fields #[.int 0 t1,.int n t2,.int 1 t3] }) (hn:n<2 ^ 62)
 (h:Q (.ref s.heap.objs.size) { s with heap:=s.heap.push { cls:=.type "range_iterator",data:=.fields #[ĸ (n-1),ĸ n,ĸ (-1)] } }):á (é P w) A (call (.type "reversed") [.ref r]) Q E s:=by
 have T:=LA;have S:=U5;have O:=R9;have m4:=QY;have N:=WX;have M:=QX (.ref r);refine adn (aeg ?_);show á _ _ (callAny (.type "reversed") _) _ _ _;refine Ã ⟨adC _ nofun,ň F.entry_type_call ?_⟩;rw[Around.under_plain (weight_type_call_type "reversed" [.ref r] []) rfl]
 repeat (any_goals (first|assumption|wp_step))
 refine Ŋ (ų (R:=wants (λv Z=>v=.ref s.heap.objs.size/\Z={ s with heap:=s.heap.push { cls:=.type "range_iterator",data:=.fields #[ĸ (n-1),ĸ n,ĸ (-1)] } }) E) Qx Qw (abL (Rt _) ?_)) λX L Y=>?_
 ·refine ė (WY (Q:=λv Z=>v=.ref s.heap.objs.size/\Z={ s with heap:=s.heap.push { cls:=.type "range_iterator",data:=.fields #[ĸ (n-1),ĸ n,ĸ (-1)] } }) hr hn ⟨rfl,rfl⟩) (λf Z W=>?_) λ_ _ e=>e
  obtain⟨v,rfl,V⟩:=W;exact V
 ·cases X with
  |error e=>exact Y
  |ok U =>
   cases U with
   |ret v =>
    obtain⟨rfl,rfl⟩:=Y
    have K:Shared.TypeIs { s with heap:=s.heap.push { cls:=.type "range_iterator",data:=.fields #[ĸ (n-1),ĸ n,ĸ (-1)] } } (.ref s.heap.objs.size) "range_iterator":=⟨_,Î _ rfl,rfl⟩
    repeat (any_goals (first|assumption|wp_step))
   |_=>exact Y.elim
end
end HZ
namespace L2
open PySem PySem.Spec PyProof.Rows
def E2 (n:Nat):It:=⟨λi _=>i<n,λi H x Z=>Z=H/\x=.int ((n:Int)-1-i),λi _=>n<=i⟩
def U7 {P:å} {w:Ą} {K:đ} {tg:ě} (it:ß) (n:Nat):Turn P w K tg (E2 n) [it] it (λi h=>IsRangeIter h it (((n:Int)-1)+(i:Nat)*(-1)) ((n:Int)-(i:Nat)) (-1)) where
 mem:=by simp
 obj:=λi h Z b Y=>by
  have e:b=it:=by simpa using Y
  subst e;exact⟨_,Z,λv z=>by
   have G:Data.fields _=Data.cell v:=z;cases G⟩
 keep:=λi h V Z k=>k it ∅ _ Z
 item:=by
  intro X T hw S R i M s σ H E I U Z Q;subst T hw S;obtain⟨f0,f1,f2,O,f4,N⟩:=U it ∅;have W:=Walks.range (prog:=X.prog) (w:=X.w) (I.ok.hd R) it ((n:Int)-1) (-1) n;refine W.item i s _ _ Q Z λv V L F J D=>?_;obtain⟨t,rfl⟩:=F
  have C:Inv X M σ H { s with heap:=V,toks:=L }:=I.turned (λb o Y e=>D b o (by simpa using Y) e) f0 f1 O f4 N
  refine⟨_,rfl,wC (s:={ s with heap:=V,toks:=L }) (n:="range_iterator") J rfl rfl (by decide) ⟨.int ((n:Int)-1-i),H,C,⟨t,?_⟩,⟨rfl,rfl⟩,J,λb Y=>(U b Y).1⟩⟩
  rw[Int.mul_neg_one];rfl
 done:=by
  intro X T hw S R i M s σ H E I U Z Q;subst T hw S;obtain⟨f0,f1,f2,O,f4,N⟩:=U it ∅;exact wpAny_pyNext_range_end (I.ok.hd R) Z (by have:n<=i:=Q;omega) λV B=>⟨rfl,I.turned (t':=s.toks) (λb o Y e=>B b o Y e) f0 f1 O f4 N⟩
 self:=λ_ _ _ _ _ Z h=>adG Z h
section
variable {X:Cx} {tg:ě}
def U8:ü "reversed"=ϊ (.type "reversed"):=nofun
def Ru:cT X (.type "range") (λxs H Q=>∃j:Int,xs=[.int j]/\∀p,H p=ϋ->Q (.ref p) (upd H p (.df 0 j))):=by
 intro Y s σ H xs W Q I r h;obtain⟨j,rfl,q⟩:=h;obtain⟨u,rfl,Z⟩:=vals1 r;obtain⟨t,rfl⟩:=Z;exact call_range_1 ⟨.ref _,_,I.laid (o:=.df 0 j) (t':=s.toks+1+1) (λb o e=>Á _ e) (aeD _) ⟨_,_,_,Î _ rfl⟩,rfl,q _ (I.aI.fresh (aeD _))⟩
def aca (ta:TA):TI:=fun σ H R=>ta σ H λY Z=>∃(p:ß) (n:Nat),Y=[.ref p]/\Z p=ϊ (.df 0 n)/\n<2 ^ 62/\R (E2 n) Z
def YI {a:ě} {ta:TA} {p pos:Pos} (hg:Gl X "reversed") (hm:X.mg "reversed"=ϋ) (ha:PA X [a] ta) (hs:Í [a] X.env=[(ύ,ķ a X.env)]:=by rfl):PI X tg (.Call (.Name "reversed" p) [a] [] pos) (aca ta):=by
 intro V s σ H R I h;refine Call_ (qh I hg hm U8 (Ņ (aO (ha pos V s σ H _ I h) λL Z ⟨K,U,Y,T,S⟩=>?_) hs rfl));obtain⟨c,n,e,Q,P,q⟩:=S;subst e;obtain⟨u,rfl,O⟩:=vals1 T;cases O;obtain⟨t1,J,t3,N⟩:=Y.aI c _ Q;refine HZ.U6 N P ?_;have W:IsRangeIter (Z.heap.push { cls:=.type "range_iterator",data:=.fields #[ĸ ((n:Int)-1),ĸ n,ĸ (-1)] }) Z.heap.objs.size (((n:Int)-1)+((0:Nat):Int)*(-1)) ((n:Int)-((0:Nat):Int)) (-1):=by
  have e1:((n:Int)-1)+((0:Nat):Int)*(-1)=n-1:=by simp
  have e2:(n:Int)-((0:Nat):Int)=n:=by simp
  rw[e1,e2];exact Î _ rfl
 refine adG (s:={ Z with heap:=_ }) W ?_
 refine⟨Z.heap.objs.size,[Z.heap.objs.size],_,_,U,rfl,Y.kept (t':=Z.toks) λb o e=>Á _ e,U7 _ n,W,λb M=>?_,q⟩;have e:b=Z.heap.objs.size:=by simpa using M
 subst e;exact Y.tU (aeD _) (Y.aI.fresh (aeD _))
end
end L2
namespace HZ
open PySem PySem.Spec PyProof.Rows
end HZ
namespace L2
open PySem PySem.Spec PyProof.Rows
end L2
namespace DI
open PySem L2
set_option genInjectivity true in
inductive D where
 |au|bl (b:Bool)|int (i:Int)|str (x:Str)|tup (ds:List D)|lst (ds:List D)|cy (aX:List (Key×Int))|aj (k:Nat)|ty (n:String)|bO (ns:List Int)|exc (c:Str) (m:Option Int)|dj (a:ß) (vs:List V) (ds:List D)
set_option genInjectivity true in
inductive Cell where
 |dead|lst (ds:List D)|dK (aX:List (Key×D))|dT (aX:List (D×Int))|tb (x:Str)|ins (c:Str) (fs:List (Str×D))
abbrev ae:=List Cell
abbrev Env:=List (Option D)
structure bg where
 c:Str
 many:Option Int
abbrev Res (α:Type):=Option (Except bg α×ae)
abbrev aez (α:Type):=Env->ae->Res α
abbrev ok {α:Type} (a:α) (s:ae):Res α:=ϊ (.ok a,s)
def ai {α β:Type} (r:Res α) (k:α->ae->Res β):Res β:=match r with
 |some (.ok a,s)=>k a s
 |some (.error x,s)=>ϊ (.error x,s)
 |none=>ϋ
@[simp] theorem bU {α β:Type} {a:α} {s:ae} {k:α->ae->Res β}:ai (ϊ (.ok a,s)) k=k a s:=rfl
structure Wd where
 ρ:List ß
 aJ:ae
 H:Hp
def Wd.Z (w:Wd) (a:ß):Prop:=∃(k:Nat) (c:Cell),w.ρ[k]?=ϊ a/\w.aJ[k]?=ϊ c/\c≠.dead
def LstAt (w:Wd) (a:ß) (xs:List V):Prop:=¬ w.Z a/\w.H a=ϊ (.lst xs)
def LstAt.sq (h:LstAt w a xs):bY K w.H a xs:=bY.of h.2
def wH (K:đ) (w:Wd) (a:ß) (xs:List V):Prop:=(¬ w.Z a/\Rd w.H a (.lst xs)) \/
 ∃(o:Obj) (its:Array Ç) (n:Nat),K.lookup a=ϊ o/\o.cls=.type "list"/\o.dict=ϋ/\o.data=.seq its n/\its.size<=Õ/\Vals xs its.toList
def wH.sq (h:wH K w a xs):bY K w.H a xs:=by
 rcases h with ⟨_,h⟩|h
 ·exact .inl h
 ·exact .inr h
mutual
def DV (K:đ) (w:Wd):D->V->Prop
 | .au,v=>v=.au
 | .bl b,v=>v=.bl b
 | .int i,v=>v=.int i
 | .str x,v=>v=.str x
 | .tup Y,v=>∃a X,v=.ref a/\bV K w.H a X/\ar K w Y X
 | .lst Y,v=>∃a X,v=.ref a/\LstAt w a X/\ar K w Y X
 | .cy S,v=>∃a,v=.ref a/\¬ w.Z a/\w.H a=ϊ (.dK (S.map λp=>(p.1,V.int p.2)))
 | .aj k,v=>∃a,w.ρ[k]?=ϊ a/\v=.ref a
 | .ty n,v=>v=.ty n
 | .bO R,v=>∃a,v=.ref a/\wH K w a (R.map V.int)
 | .exc c m,v=>∃a o C,v=.ref a/\(¬ w.Z a/\w.H a=ϊ (.bo o (.own a)))/\(o.cls=.ref C/\ì K Ò c=ϊ (ϊ (.ref C)))/\∀i,m=ϊ i->PySem.W.notCls o=ό/\∃U T t,o.dict=ϊ U/\(¬ w.Z U/\w.H U=ϊ (.bo T (.own U)))/\ac1 "many" T=ϊ (ϊ (.int i t))
 | .dj a Q Y,v=>v=.ref a/\ar K w Y Q
def ar (K:đ) (w:Wd):List D->List V->Prop
 | [],Z=>Z=[]
 |d::Y,Z=>∃v r,Z=v::r/\DV K w d v/\ar K w Y r
end
structure Fw (K:đ) (w w':Wd):Prop where
 F6:∀(k:Nat) a,w.ρ[k]?=ϊ a->w'.ρ[k]?=ϊ a
 tup:∀a xs,bV K w.H a xs->bV K w'.H a xs
 lst:∀a xs,¬ w.Z a->w.H a=ϊ (.lst xs)->¬ w'.Z a/\w'.H a=ϊ (.lst xs)
 bo:∀a o u,¬ w.Z a->w.H a=ϊ (.bo o u)->¬ w'.Z a/\w'.H a=ϊ (.bo o u)
 cy:∀a es,¬ w.Z a->w.H a=ϊ (.dK es)->¬ w'.Z a/\w'.H a=ϊ (.dK es)
def Fw.NC (S:Fw K w w') (h:LstAt w a xs):LstAt w' a xs:=S.lst a xs h.1 h.2
def Fw.aaw (S:Fw K w w') (h:wH K w a xs):wH K w' a xs:=by
 rcases h with ⟨Y,Z | ⟨o,Z⟩⟩|h
 ·have q:=S.lst a xs Y Z
  exact .inl ⟨q.1,.inl q.2⟩
 ·have q:=S.bo a o _ Y Z
  exact .inl ⟨q.1,.inr ⟨o,q.2⟩⟩
 ·exact .inr h
mutual
theorem DV.fw (S:Fw K w w'):∀{d:D} {v:V},DV K w d v->DV K w' d v
 | .au,_,h=>h
 | .bl _,_,h=>h
 | .int _,_,h=>h
 | .str _,_,h=>h
 | .tup X,v,h=>by
  erw[DV] at h |-;obtain⟨a,Y,e,Z,r⟩:=h;exact⟨a,Y,e,S.tup a Y Z,ar.fw S r⟩
 | .lst X,v,h=>by
  erw[DV] at h |-;obtain⟨a,Y,e,Z,r⟩:=h;exact⟨a,Y,e,S.NC Z,ar.fw S r⟩
 | .cy J,v,h=>by
  erw[DV] at h |-;obtain⟨a,e,R,Z⟩:=h;obtain⟨Q,P⟩:=S.cy a _ R Z;exact⟨a,e,Q,P⟩
 | .aj k,v,h=>by
  erw[DV] at h |-;obtain⟨a,e,e2⟩:=h;exact⟨a,S.F6 k a e,e2⟩
 | .ty _,_,h=>h
 | .bO I,v,h=>by
  erw[DV] at h |-;obtain⟨a,e,Z⟩:=h;exact⟨a,e,S.aaw Z⟩
 | .exc c m,v,h=>by
  erw[DV] at h |-;obtain⟨a,o,C,e,Z,r,k⟩:=h;refine⟨a,o,C,e,S.bo a o _ Z.1 Z.2,r,λi O=>?_⟩;obtain⟨N,W,U,t,M,T,L⟩:=k i O;exact⟨N,W,U,t,M,S.bo W U _ T.1 T.2,L⟩
 | .dj a H X,v,h=>by
  erw[DV] at h |-;exact⟨h.1,ar.fw S h.2⟩
theorem ar.fw (S:Fw K w w'):∀{ds:List D} {vs:List V},ar K w ds vs->ar K w' ds vs
 | [],_,h=>h
 |d::ds,vs,h=>by
  erw[ar] at h |-;obtain⟨v,r,e,Z,Y⟩:=h;exact⟨v,r,e,DV.fw S Z,ar.fw S Y⟩
end
structure Le (K:đ) (w w':Wd):Prop where
 dv:∀d v,DV K w d v->DV K w' d v
 lst:∀a xs,LstAt w a xs->LstAt w' a xs
 tup:∀a xs,bV K w.H a xs->bV K w'.H a xs
 bo:∀a o u,¬ w.Z a->w.H a=ϊ (.bo o u)->¬ w'.Z a/\w'.H a=ϊ (.bo o u)
instance {K:đ} {w w':Wd}:CoeFun (Le K w w') (λ_=>∀d v,DV K w d v->DV K w' d v):=⟨Le.dv⟩
def Le.refl (w:Wd):Le K w w:=⟨λ_ _ h=>h,λ_ _ h=>h,λ_ _ h=>h,λ_ _ _ h g=>⟨h,g⟩⟩
def Le.trans (h:Le K a b) (g:Le K b c):Le K a c:=⟨λd v x=>g.dv d v (h.dv d v x),λp Z x=>g.lst p Z (h.lst p Z x),λp Z x=>g.tup p Z (h.tup p Z x),λp o u z x=>let q:=h.bo p o u z x;g.bo p o u q.1 q.2⟩
def Fw.le (S:Fw K w w'):Le K w w':=⟨λ_ _ h=>h.fw S,λ_ _ h=>S.NC h,S.tup,S.bo⟩
theorem Le.all (h:Le K w w'):∀{ds:List D} {vs:List V},ar K w ds vs->ar K w' ds vs
 | [],_,x=>x
 |d::ds,vs,x=>by
  erw[ar] at x |-;obtain⟨v,r,e,Z,Y⟩:=x;exact⟨v,r,e,h d v Z,Le.all h Y⟩
theorem ar.length:∀{ds:List D} {vs:List V},ar K w ds vs->ds.length=vs.length
 | [],vs,h=>by
  have e:vs=[]:=h;subst e;rfl
 |d::ds,vs,h=>by
  obtain⟨v,r,e,_,Z⟩:=h;subst e;simp[ar.length Z]
theorem ar.get':∀{ds:List D} {vs:List V},ar K w ds vs->∀(i:Nat) d,ds[i]?=ϊ d->∃v,vs[i]?=ϊ v/\DV K w d v
 | [],vs,h,i,d,e=>by simp at e
 |d::ds,vs,h,i,Z,e=>by
  obtain⟨u,r,Y,X,W⟩:=h;subst Y
  cases i with
  |zero =>
   have:d=Z:=by simpa using e
   subst this;exact⟨u,rfl,X⟩
  |succ i=>exact ar.get' W i Z (by simpa using e)
theorem ar.append:∀{ds es:List D} {vs ws:List V},ar K w ds vs->ar K w es ws->ar K w (ds++es) (vs++ws)
 | [],es,vs,ws,h,Z=>by
  have e:vs=[]:=h;subst e;exact Z
 |d::ds,es,vs,ws,h,Z=>by
  obtain⟨v,r,e,Y,X⟩:=h;subst e;exact⟨v,r++ws,rfl,Y,ar.append X Z⟩
theorem ar.take:∀{ds:List D} {vs:List V} (n:Nat),ar K w ds vs->ar K w (ds.take n) (vs.take n)
 | [],vs,n,h=>by
  have e:vs=[]:=h;subst e;simp[ar]
 |d::ds,vs,0,h=>by simp[ar]
 |d::ds,vs,n+1,h=>by
  obtain⟨v,r,e,Z,Y⟩:=h;subst e;exact⟨v,r.take n,rfl,Z,ar.take n Y⟩
theorem ar.drop:∀{ds:List D} {vs:List V} (n:Nat),ar K w ds vs->ar K w (ds.drop n) (vs.drop n)
 | [],vs,n,h=>by
  have e:vs=[]:=h;subst e;simp[ar]
 |d::ds,vs,0,h=>h
 |d::ds,vs,n+1,h=>by
  obtain⟨v,r,e,Y,Z⟩:=h;subst e;exact ar.drop n Z
theorem ar.set (hd:DV K w d v):∀{ds:List D} {vs:List V} (i:Nat),ar K w ds vs->ar K w (ds.set i d) (vs.set i v)
 | [],vs,i,h=>by
  have e:vs=[]:=h;subst e;simp[ar]
 |d'::ds,vs,0,h=>by
  obtain⟨u,r,e,Y,Z⟩:=h;subst e;exact⟨v,r,rfl,hd,Z⟩
 |d'::ds,vs,i+1,h=>by
  obtain⟨u,r,e,Y,Z⟩:=h;subst e;exact⟨u,r.set i v,rfl,Y,ar.set hd i Z⟩
def ar.one (h:DV K w d v):ar K w [d] [v]:=⟨v,[],rfl,h,rfl⟩
def ar.two (h:DV K w d v) (h':DV K w d' v'):ar K w [d,d'] [v,v']:=⟨v,_,rfl,h,ar.one h'⟩
theorem ar.ints:∀(ns:List Int),ar K w (ns.map D.int) (ns.map V.int)
 | []=>rfl
 |n::ns=>⟨.int n,_,rfl,rfl,ar.ints ns⟩
theorem ar.KH:∀{ns:List Int} {vs:List V},ar K w (ns.map D.int) vs->vs=ns.map V.int
 | [],_,h=>h
 |n::ns,vs,h=>by
  obtain⟨v,r,e,Z,Y⟩:=h;have e1:v=.int n:=Z;rw[e,e1,ar.KH Y];rfl
theorem ar.vQ:∀{bs:List Bool} {vs:List V},ar K w (bs.map D.bl) vs->vs=bs.map V.bl
 | [],_,h=>h
 |n::X,vs,h=>by
  obtain⟨v,r,e,Z,Y⟩:=h;have e1:v=.bl n:=Z;rw[e,e1,ar.vQ Y];rfl
def DX (a:ß) (es:List (Int×ß)) (h:ĺ):Prop:=(a==sysModules)=ύ/\∃(o:Obj) (Z:Array DictEntry) (Y:Nat),h.get? a=ϊ o/\o.ExactDict/\o.data=.dict Z Y/\Z.toList=es.map λp=>(⟨p.1,.ref p.2,.bool ό⟩:DictEntry)
def aax (w:Wd) (q:Str) (cv:Ç):Prop:=∃Y X W t,cv=.ref Y/\(¬ w.Z Y/\w.H Y=ϊ (.bo X (.own Y)))/\X.data=.fields W/\W[1]?=ϊ (.str q t)
def acb (K:đ) (w:Wd) (a:ß) (x:Str):Prop:=∃c Z,aev K x=ϊ (c,a)/\w.H a=ϊ (.ef Z)/\PySem.TriplesOk Z.toList/\∀pos Y,PySem.codeAmong pos Z.toList=ϊ Y->aax w (x++".<locals>."++"<lambda>") Y
def sM (K:đ) (w:Wd) (a:ß):Cell->Prop
 | .dead=>True
 | .lst U=>∃W,w.H a=ϊ (.lst W)/\ar K w U W
 | .dK Z=>∃Y:List (Key×V),w.H a=ϊ (.dK Y)/\Y.map (·.1)=Z.map (·.1)/\ar K w (Z.map (·.2)) (Y.map (·.2))
 | .dT Z=>∃as:List ß,w.H a=ϊ (.ext (DX a ((Z.map (·.2)).zip as)))/\ar K w (Z.map (·.1)) (as.map V.ref)/\(Z.map (·.1)).Nodup
 | .tb x=>acb K w a x
 | .ins c fs=>∃(C T:ß) (X:List (Str×V)),ì K Ò c=ϊ (ϊ (.ref C))/\w.H a=ϊ (.ins C T X)/\X.map (·.1)=fs.map (·.1)/\ar K w (fs.map (·.2)) (X.map (·.2))
structure aT (K:đ) (w:Wd):Prop where
 len:w.ρ.length=w.aJ.length
 nd:w.ρ.Nodup
 there:∀(k:Nat) a,w.ρ[k]?=ϊ a->w.H a≠ϋ
 cell:∀(k:Nat) a c,w.ρ[k]?=ϊ a->w.aJ[k]?=ϊ c->sM K w a c
theorem sM.le (h:sM K w a c) (le:Le K w w') (e:c≠.dead->w'.H a=w.H a):sM K w' a c:=by
 cases c with
 |dead=>trivial
 |lst I =>
  obtain⟨R,Z,Y⟩:=h;exact⟨R,(e (by intro z;cases z)).trans Z,le.all Y⟩
 |dK Q =>
  obtain⟨P,Z,Y,X⟩:=h;exact⟨P,(e (by intro z;cases z)).trans Z,Y,le.all X⟩
 |dT Q =>
  obtain⟨as,Z,Y,X⟩:=h;exact⟨as,(e (by intro z;cases z)).trans Z,le.all Y,X⟩
 |tb x =>
  obtain⟨c,O,Z,Y,X,W⟩:=h
  exact⟨c,O,Z,(e (by intro z;cases z)).trans Y,X,λpos N q=>let ⟨U,T,V,t,M,S,L⟩:=W pos N q;⟨U,T,V,t,M,le.bo U T _ S.1 S.2,L⟩⟩
 |ins c fs =>
  obtain⟨C,J,V,Z,Y,X,W⟩:=h;exact⟨C,J,V,Z,(e (by intro z;cases z)).trans Y,X,le.all W⟩
section
variable {K:đ} {w:Wd}
def Wd.grow (w:Wd) (p:ß) (o:HO):Wd:={ w with H:=upd w.H p o }
def Rd.grow (hp:H p=ϋ) (h:Rd H a u):Rd (upd H p o) a u:=by
 rcases h with h | ⟨Z,h⟩
 ·exact .inl (by rw[bt (dC h hp)];exact h)
 ·exact .inr ⟨Z,by rw[bt (dC h hp)];exact h⟩
theorem bV.grow (hp:H p=ϋ) (h:bV K H a xs):bV K (upd H p o) a xs:=by
 rcases h with h|h
 ·exact .inl (Rd.grow hp h)
 ·exact .inr h
theorem Fw.grow (hp:w.H p=ϋ):Fw K w (w.grow p o) where
 F6:=λ_ _ e=>e
 tup:=λa Y h=>bV.grow hp h
 lst:=λa Y Z h=>⟨Z,by show upd w.H p o a=_;rw[bt (dC h hp)];exact h⟩
 bo:=λa X Y Z h=>⟨Z,by show upd w.H p o a=_;rw[bt (dC h hp)];exact h⟩
 cy:=λa W Z h=>⟨Z,by show upd w.H p o a=_;rw[bt (dC h hp)];exact h⟩
theorem aT.grow (S:aT K w) (hp:w.H p=ϋ):aT K (w.grow p o) where
 len:=S.len
 nd:=S.nd
 there:=λk a e=>by
  have h:=S.there k a e;show upd w.H p o a≠ϋ;delta upd;split
  ·intro z;cases z
  ·exact h
 cell:=λk a c e1 e2=>(S.cell k a c e1 e2).le (Fw.grow hp).le λ_=>by
  have h:=S.there k a e1;show upd w.H p o a=w.H a;rw[bt];intro z;rw[z] at h;exact h hp
def Wd.cell (w:Wd) (p:ß) (o:HO) (c:Cell):Wd:=⟨w.ρ++[p],w.aJ++[c],upd w.H p o⟩
def Wd.De (S:aT K w) (h:(w.cell p o c).Z a):w.Z a\/a=p:=by
 obtain⟨k,Y,e1,e2,V⟩:=h;have e1:(w.ρ++[p])[k]?=ϊ a:=e1;have e2:(w.aJ++[c])[k]?=ϊ Y:=e2;by_cases X:k<w.ρ.length
 ·rw[ç X] at e1
  rw[ç (by rw[<- S.len];exact X)] at e2;exact .inl ⟨k,Y,e1,e2,V⟩
 ·rw[ð ⋯] at e1
  right
  cases W:k-w.ρ.length with
  |zero=>rw[W] at e1;exact(aeE e1).symm
  |succ j=>rw[W] at e1;cases e1
theorem Fw.cell (S:aT K w) (hp:w.H p=ϋ):Fw K w (w.cell p o c) where
 F6:=λk a e=>by
  show (w.ρ++[p])[k]?=ϊ a;rw[ç (Ô.mp e).1];exact e
 tup:=λa Y h=>bV.grow hp h
 lst:=λa Y Z h=>⟨λz=>(Wd.De S z).elim Z (λe=>by (subst e;rw[hp] at h;cases h)),by show upd w.H p o a=_;rw[bt (dC h hp)];exact h⟩
 bo:=λa X Y Z h=>⟨λz=>(Wd.De S z).elim Z (λe=>by (subst e;rw[hp] at h;cases h)),by show upd w.H p o a=_;rw[bt (dC h hp)];exact h⟩
 cy:=λa W Z h=>⟨λz=>(Wd.De S z).elim Z (λe=>by (subst e;rw[hp] at h;cases h)),by show upd w.H p o a=_;rw[bt (dC h hp)];exact h⟩
def aT.ND (S:aT K w) (hp:w.H p=ϋ) (hc:sM K (w.cell p o c) p c):aT K (w.cell p o c) where
 len:=by show (w.ρ++[p]).length=(w.aJ++[c]).length;simp[S.len]
 nd:=by
  show (w.ρ++[p]).Nodup;rw[adR];refine⟨S.nd,by simp,λa W b V=>?_⟩;obtain⟨k,e⟩:=List.getElem?_of_mem W;have h:=S.there k a e;have U:b=p:=by simpa using V
  rw[U];intro z;rw[z] at h;exact h hp
 there:=λk a e=>by
  have e:(w.ρ++[p])[k]?=ϊ a:=e;show upd w.H p o a≠ϋ;delta upd;split
  ·intro z;cases z
  ·rename_i T
   by_cases Y:k<w.ρ.length
   ·rw[ç Y] at e
    exact S.there k a e
   ·rw[ð ⋯] at e
    cases Z:k-w.ρ.length with
    |zero=>rw[Z] at e;exact absurd (aeE e).symm T
    |succ j=>rw[Z] at e;cases e
 cell:=λk a X e1 e2=>by
  have e1:(w.ρ++[p])[k]?=ϊ a:=e1;have e2:(w.aJ++[c])[k]?=ϊ X:=e2;by_cases Y:k<w.ρ.length
  ·rw[ç Y] at e1
   rw[ç (by rw[<- S.len];exact Y)] at e2;refine(S.cell k a X e1 e2).le (Fw.cell S hp).le λ_=>?_;have h:=S.there k a e1;show upd w.H p o a=w.H a;rw[bt];intro z;rw[z] at h;exact h hp
  ·rw[ð ⋯] at e1
   rw[ð (by rw[<- S.len];omega)] at e2;rw[<- S.len] at e2
   cases Z:k-w.ρ.length with
   |zero =>
    rw[Z] at e1 e2;have e1:p=a:=aeE e1;have e2:c=X:=aeE e2;subst e1 e2;exact hc
   |succ j=>rw[Z] at e1;cases e1
def Wd.same (w:Wd) (H':Hp):Wd:={ w with H:=H' }
theorem Fw.same (e:lp w.H H'):Fw K w (w.same H') :=
 ⟨λ_ _ e=>e,λa Y h=>e.sqT h,λa Y Z h=>⟨Z,e _ _ h⟩,λa o Y Z h=>⟨Z,e _ _ h⟩,λa X Z h=>⟨Z,e _ _ h⟩⟩
theorem aT.same (S:aT K w) (e:lp w.H H'):aT K (w.same H') where
 len:=S.len
 nd:=S.nd
 there:=λk a q=>by
  have h:=S.there k a q;show H' a≠ϋ
  cases Z:w.H a with
  |none=>exact absurd Z h
  |some o=>rw[e _ _ Z];intro z;cases z
 cell:=λk a c e1 e2=>(S.cell k a c e1 e2).le (Fw.same e).le λ_=>by
  have h:=S.there k a e1;show H' a=w.H a
  cases Z:w.H a with
  |none=>exact absurd Z h
  |some o=>exact e _ _ Z
def Wd.put (w:Wd) (k:Nat) (a:ß) (o:HO) (c:Cell):Wd:=⟨w.ρ,w.aJ.set k c,upd w.H a o⟩
def IT {α:Type} {l:List α} (nd:l.Nodup) {i j:Nat} {a:α} (h1:l[i]?=ϊ a) (h2:l[j]?=ϊ a):i=j:=by
 exact(List.getElem?_inj (Ô.mp h1).1 nd).mp (h1.trans h2.symm)
def Wd.DZ (h0:w.ρ[k]?=ϊ a) (h1:w.aJ[k]?=ϊ c0) (h2:c0≠.dead) (h:(w.put k a o c).Z b):w.Z b:=by
 obtain⟨j,Y,e1,e2,W⟩:=h;have e1:w.ρ[j]?=ϊ b:=e1;have e2:(w.aJ.set k c)[j]?=ϊ Y:=e2;by_cases X:k=j
 ·subst X
  exact⟨k,c0,e1,h1,h2⟩
 ·rw[õ X] at e2
  exact⟨j,Y,e1,e2,W⟩
theorem Fw.put (S:aT K w) (h0:w.ρ[k]?=ϊ a) (h1:w.aJ[k]?=ϊ c0) (h2:c0≠.dead):Fw K w (w.put k a o c):=by
 have W:w.Z a:=⟨k,c0,h0,h1,h2⟩;have T:∀X,¬ Rd w.H a (.tup X):=λX h=>by
  have q:=S.cell k a c0 h0 h1
  cases c0 with
  |dead=>exact h2 rfl
  |lst Q=>obtain⟨V,e,_⟩:=q;rcases h with h | ⟨_,h⟩<;>(rw[e] at h;cases h)
  |dK R=>obtain⟨V,e,_⟩:=q;rcases h with h | ⟨_,h⟩<;>(rw[e] at h;cases h)
  |dT R=>obtain⟨V,e,_⟩:=q;rcases h with h | ⟨_,h⟩<;>(rw[e] at h;cases h)
  |tb x=>obtain⟨_,V,_,e,_⟩:=q;rcases h with h | ⟨_,h⟩<;>(rw[e] at h;cases h)
  |ins c fs=>obtain⟨_,_,_,_,e,_⟩:=q;rcases h with h | ⟨_,h⟩<;>(rw[e] at h;cases h)
 refine⟨λ_ _ e=>e,λb X h=>?_,λb X Y h=>⟨λz=>Y (Wd.DZ h0 h1 h2 z),?_⟩,λb U X Y h=>⟨λz=>Y (Wd.DZ h0 h1 h2 z),?_⟩,λb P Y h=>⟨λz=>Y (Wd.DZ h0 h1 h2 z),?_⟩⟩
 ·rcases h with h|h
  ·have ne:b≠a:=λe=>by subst e;exact T X h
   refine .inl ?_
   rcases h with h | ⟨U,h⟩
   ·exact .inl (by show upd w.H a o b=_;rw[bt ne];exact h)
   ·exact .inr ⟨U,by show upd w.H a o b=_;rw[bt ne];exact h⟩
  ·exact .inr h
 ·have ne:b≠a:=λe=>by subst e;exact Y W
  show upd w.H a o b=_;rw[bt ne];exact h
 ·have ne:b≠a:=λe=>by subst e;exact Y W
  show upd w.H a o b=_;rw[bt ne];exact h
 ·have ne:b≠a:=λe=>by subst e;exact Y W
  show upd w.H a o b=_;rw[bt ne];exact h
def aT.xp {k:Nat} {a:ß} {o:HO} {c c0:Cell} (S:aT K w) (h0:w.ρ[k]?=ϊ a) (h1:w.aJ[k]?=ϊ c0) (h2:c0≠.dead) (hc:sM K (w.put k a o c) a c):aT K (w.put k a o c) where
 len:=by show w.ρ.length=(w.aJ.set k c).length;rw[Ă];exact S.len
 nd:=S.nd
 there:=λj b e=>by
  show upd w.H a o b≠ϋ;delta upd;split
  ·intro z;cases z
  ·exact S.there j b e
 cell:=λj b Z e1 e2=>by
  have e1:w.ρ[j]?=ϊ b:=e1;have e2:(w.aJ.set k c)[j]?=ϊ Z:=e2;by_cases Y:k=j
  ·subst Y
   rw[h0] at e1;have e1:a=b:=aeE e1;rw[ù (Ô.mp h1).1] at e2;have e2:c=Z:=aeE e2;subst e1 e2;exact hc
  ·rw[õ Y] at e2
   refine(S.cell j b Z e1 e2).le (Fw.put S h0 h1 h2).le λ_=>?_;show upd w.H a o b=w.H b;rw[bt];intro z;subst z;exact Y (IT S.nd h0 e1)
def Wd.freeze (w:Wd) (k:Nat):Wd:={ w with aJ:=w.aJ.set k .dead }
def Wd.BX (h:(w.freeze k).Z b):w.Z b:=by
 obtain⟨j,Y,e1,e2,X⟩:=h;have e2:(w.aJ.set k .dead)[j]?=ϊ Y:=e2;by_cases W:k=j
 ·subst W
  have V:=(Ô.mp e2).1;rw[Ă] at V;rw[ù V] at e2;exact absurd (aeE e2).symm X
 ·rw[õ W] at e2
  exact⟨j,Y,e1,e2,X⟩
theorem Fw.freeze:Fw K w (w.freeze k) :=
 ⟨λ_ _ e=>e,λ_ _ h=>h,λ_ _ Z h=>⟨λz=>Z (Wd.BX z),h⟩,λ_ _ _ Z h=>⟨λz=>Z (Wd.BX z),h⟩,λ_ _ Z h=>⟨λz=>Z (Wd.BX z),h⟩⟩
theorem aT.freeze (S:aT K w):aT K (w.freeze k) where
 len:=by show w.ρ.length=(w.aJ.set k .dead).length;rw[Ă];exact S.len
 nd:=S.nd
 there:=S.there
 cell:=λj b Z e1 e2=>by
  have e2:(w.aJ.set k .dead)[j]?=ϊ Z:=e2;by_cases Y:k=j
  ·subst Y
   have X:=(Ô.mp e2).1;rw[Ă] at X;rw[ù X] at e2;rw[<- aeE e2];trivial
  ·rw[õ Y] at e2
   exact(S.cell j b Z e1 e2).le Fw.freeze.le λ_=>rfl
def Wd.To {k:Nat} {a:ß} (S:aT K w) (h:w.ρ[k]?=ϊ a):¬ (w.freeze k).Z a:=by
 intro zzz;obtain⟨j,X,e1,e2,W⟩:=zzz;have e1:w.ρ[j]?=ϊ a:=e1;have e2:(w.aJ.set k .dead)[j]?=ϊ X:=e2;have V:=IT S.nd h e1;subst V;have Y:=(Ô.mp e2).1;rw[Ă] at Y;rw[ù Y] at e2;exact W (aeE e2).symm
end
structure bX (K:đ) (w:Wd) (env:Env) (σ:St):Prop where
 len:env.length=σ.length
 val:∀(i:Nat) d,env[i]?=ϊ (ϊ d)->∃v,σ[i]?=ϊ (ϊ v)/\DV K w d v
theorem bX.le (h:bX K w env σ) (le:Le K w w'):bX K w' env σ :=
 ⟨h.len,λi d e=>by obtain⟨v,e1,e2⟩:=h.val i d e;exact⟨v,e1,le d v e2⟩⟩
theorem bX.set (h:bX K w env σ) (hd:DV K w d v) (i:Nat):bX K w (env.set i (ϊ d)) (σ.set i (ϊ v)):=by
 refine⟨by rw[Ă,Ă];exact h.len,λj X e=>?_⟩;by_cases Z:i=j
 ·subst Z
  have Y:=(Ô.mp e).1;rw[Ă] at Y;rw[ù Y] at e;have e:d=X:=aeE (aeE e);subst e;exact⟨v,by rw[ù (by rw[<- h.len];exact Y)],hd⟩
 ·rw[õ Z] at e
  rw[õ Z];exact h.val j X e
def Out (K:đ) (Ξ:Wd->bg->Prop) (w:Wd) {α:Type} (r:Res α) (k:Wd->α->Prop):Prop:=match r with
 |none=>False
 |some (.ok a,s)=>∀Z,Le K w Z->aT K Z->Z.aJ=s->k Z a
 |some (.error x,s)=>∀Z,Le K w Z->aT K Z->Z.aJ=s->Ξ Z x
section
variable {K:đ} {Ξ:Wd->bg->Prop} {w w':Wd} {α β:Type} {r:Res α} {k k':Wd->α->Prop}
def Out.from (h:Out K Ξ w r k) (le:Le K w w'):Out K Ξ w' r k:=by
 delta Out at h |-
 split<;>simp only at h
 ·exact λZ Y X e2=>h Z (le.trans Y) X e2
 ·exact λZ Y X e2=>h Z (le.trans Y) X e2
def Out.mono (h:Out K Ξ w r k) (hk:∀w2 a,Le K w w2->aT K w2->k w2 a->k' w2 a):Out K Ξ w r k':=by
 delta Out at h |-
 split<;>simp only at h
 ·exact λw2 Z Y e2=>hk w2 _ Z Y (h w2 Z Y e2)
 ·exact h
theorem Out.ai {q:Wd->β->Prop} (h:Out K Ξ w (DI.ai r g) q):Out K Ξ w r (λw2 a=>Out K Ξ w2 (g a w2.aJ) q):=by
 match r,h with
 |some (.ok a,s),h =>
  intro w2 Z Y e2;rw[e2];exact Out.from h Z
 |some (.error x,s),h=>exact h
end
end DI
namespace DI
open PySem L2
def tE (K:đ) (Ξ:Wd->bg->Prop) (f:aez D):TE:=fun σ H Q=>∃w env,w.H=H/\aT K w/\bX K w env σ/\Out K Ξ w (f env w.aJ) λZ d=>∀v,DV K Z d v->Q v Z.H
def tT (K:đ) (Ξ:Wd->bg->Prop) (f:aez Bool):TT:=fun σ H Q=>∃w env,w.H=H/\aT K w/\bX K w env σ/\Out K Ξ w (f env w.aJ) λZ b=>Q b Z.H
def tA (K:đ) (Ξ:Wd->bg->Prop) (f:aez (List D)):TA:=fun σ H Q=>∃w env,w.H=H/\aT K w/\bX K w env σ/\Out K Ξ w (f env w.aJ) λZ X=>∀Y,ar K Z X Y->Q Y Z.H
def rO (K:đ) (Ξ:Wd->bg->Prop) (o:D->D->ae->Res D):R2:=λx y H Q=>∃w Z Y,w.H=H/\aT K w/\DV K w Z x/\DV K w Y y/\Out K Ξ w (o Z Y w.aJ) λX d=>∀v,DV K X d v->Q v X.H
def rU (K:đ) (Ξ:Wd->bg->Prop) (o:D->ae->Res D):V->Hp->VK->Prop:=λx H Q=>∃w Z,w.H=H/\aT K w/\DV K w Z x/\Out K Ξ w (o Z w.aJ) λY d=>∀v,DV K Y d v->Q v Y.H
def rC (K:đ) (Ξ:Wd->bg->Prop) (o:List D->ae->Res D):List V->Hp->VK->Prop:=λX H Q=>∃w Z,w.H=H/\aT K w/\ar K w Z X/\Out K Ξ w (o Z w.aJ) λY d=>∀v,DV K Y d v->Q v Y.H
def aa (i:Nat):aez D:=λenv s=>match env[i]? with
 |some (ϊ d)=>ok d s
 |_=>ϋ
def eC (d:D):aez D:=λ_ s=>ok d s
def e1 (o:D->ae->Res D) (f:aez D):aez D:=λenv s=>ai (f env s) λx s=>o x s
def e2 (o:D->D->ae->Res D) (f g:aez D):aez D:=λenv s=>ai (f env s) λx s=>ai (g env s) λy s=>o x y s
def ah:aez (List D):=λ_ s=>ok [] s
def af (f:aez D) (g:aez (List D)):aez (List D):=λenv s=>ai (f env s) λx s=>ai (g env s) λZ s=>ok (x::Z) s
def eB (o:List D->ae->Res D) (f:aez (List D)):aez D:=λenv s=>ai (f env s) λZ s=>o Z s
def jf {α:Type} (ds:List D) (r:Res α):Res α:=if ds.length<=Õ then r else ϋ
def cY (f:aez (List D)):aez D:=λenv s=>ai (f env s) λZ s=>jf Z (ok (.tup Z) s)
def fc (f:aez (List D)):aez D:=λenv s=>ai (f env s) λZ s=>jf Z (ok (.lst Z) s)
def eNew (f:aez (List D)):aez D:=λenv s=>ai (f env s) λZ s=>jf Z (ok (.aj s.length) (s++[.lst Z]))
def bo:D->ae->Res D:=λd s=>match d with
 | .aj k=>match s[k]? with
  |some (.lst Z)=>ok (.lst Z) (s.set k .dead)
  |_=>ϋ
 |_=>ϋ
def oS (f:aez D):aez D:=λenv s=>ai (f env s) bo
def iT (d:D) (s:ae):Res Bool:=match d with
 | .bl b=>ok b s
 |_=>ϋ
def aV (f:aez D):aez Bool:=λenv s=>ai (f env s) iT
def truth (d:D) (s:ae):Res Bool:=match d with
 | .au=>ok ύ s
 | .bl b=>ok b s
 | .int i=>ok (i != 0) s
 | .str x=>if x.length<=Õ then ok ((x.length:Int) != 0) s else ϋ
 | .tup Z=>ok (!Z.isEmpty) s
 | .lst Z=>ok (!Z.isEmpty) s
 | .cy Y=>ok (!Y.isEmpty) s
 | .aj k=>match s[k]? with
  |some (.lst Z)=>ok (!Z.isEmpty) s
  |some (.dK Y)=>ok (!Y.isEmpty) s
  |_=>ϋ
 | .ty _=>ϋ
 | .bO _=>ϋ
 | .exc _ _=>ϋ
 | .dj _ _ _=>ϋ
def cq (f:aez D):aez Bool:=λenv s=>ai (f env s) truth
def jg (f g:aez Bool):aez Bool:=λenv s=>ai (f env s) λb s=>if b=ό then g env s else ok ύ s
def eT (f g:aez Bool):aez Bool:=λenv s=>ai (f env s) λb s=>if b=ό then ok ό s else g env s
def cU (f:aez Bool):aez Bool:=λenv s=>ai (f env s) λb s=>ok (!b) s
def cN (f g:aez D):aez D:=λenv s=>ai (f env s) λx s=>ai (iT x s) λb s=>if b=ό then g env s else ok (.bl ύ) s
def lR (f g:aez D):aez D:=λenv s=>ai (f env s) λx s=>ai (iT x s) λb s=>if b=ό then ok (.bl ό) s else g env s
def t6 (f:aez D):aez D:=λenv s=>ai (f env s) λx s=>ai (iT x s) λb s=>ok (.bl (!b)) s
def uQ (c:aez Bool) (f g:aez D):aez D:=λenv s=>ai (c env s) λb s=>if b=ό then f env s else g env s
def pH (o o':D->D->ae->Res D) (f g h:aez D):aez D:=λenv s=>ai (f env s) λx s=>ai (g env s) λy s=>ai (o x y s) λz s=>ai (iT z s) λb s =>
 if b=ό then ai (h env s) λu s=>o' y u s else ok (.bl ύ) s
section
variable {X:Cx} {Ξ:Wd->bg->Prop} {e a b c:ě} {es rest:List ě} {pos:Pos} {f g h:aez D} {fa:aez (List D)} {ft gt:aez Bool}
def cm {t t':TE} (h:PE X e t) (i:∀ σ H Q,t' σ H Q->t σ H Q):PE X e t':=λZ s σ H Q I Y=>h Z s σ H Q I (i σ H Q Y)
def Dg {t t':TT} (h:PT X e t) (i:∀ σ H Q,t' σ H Q->t σ H Q):PT X e t':=λZ s σ H Q I Y=>h Z s σ H Q I (i σ H Q Y)
def MB {t t':TT} (h:PW X e t) (i:∀ σ H Q,t' σ H Q->t σ H Q):PW X e t':=λZ Y s σ H Q I W=>h Z Y s σ H Q I (i σ H Q W)
def MC {t t':TA} (h:PA X es t) (i:∀ σ H Q,t' σ H Q->t σ H Q):PA X es t':=λp Z s σ H Q I Y=>h p Z s σ H Q I (i σ H Q Y)
def kY (h:PS X st t) (i:∀D σ H,t' D σ H->t D σ H):PS X st t':=λZ s σ H D I Y=>h Z s σ H D I (i D σ H Y)
def LB (h:dg X st t) (i:∀D σ H,t' D σ H->t D σ H):dg X st t':=λZ s σ H D I Y=>h Z s σ H D I (i D σ H Y)
def aB {α:Type} {K:đ} {w:Wd} {a:α} {k:Wd->α->Prop} (S:aT K w) (h:Out K Ξ w (ok a w.aJ) k):k w a:=h w (Le.refl w) S rfl
def ag (i:Nat) {x:Str} (hN:X.N[i]?=ϊ x:=by rfl) (hv:qU X.env.scope x:=by first|exact ο rfl|exact Or.inr (ο rfl)|exact Or.inr (Or.inr rfl)) (hd:(x==("__debug__":Str))=ύ:=by decide)
  (eh:(x==("__classdict__":Str))=ύ:=by decide):PE X (.Name x pos) (tE X.K Ξ (aa i)):=cm (Mo hN hv hd eh) fun σ H Q Z=>by
 obtain⟨w,env,Y,S,W,h⟩:=Z;delta aa at h;split at h
 ·rename_i d V
  obtain⟨v,e1,e2⟩:=W.val i d V;subst Y;exact⟨v,e1,aB S h v e2⟩
 ·exact h.elim
def qv {d:D} {v:V} (h:PE X e (tC v)) (hd:∀w,DV X.K w d v):PE X e (tE X.K Ξ (eC d)):=cm h fun σ H Q Z=>by
 obtain⟨w,env,Y,S,W,h⟩:=Z;subst Y;exact aB S h v (hd w)
def az {i j}:PE X (.Constant (.int i) j pos) (tE X.K Ξ (eC (.int i))):=qv Mp λ_=>rfl
def gE {b j}:PE X (.Constant (.bool b) j pos) (tE X.K Ξ (eC (.bl b))):=qv DT λ_=>rfl
def D1 {j}:PE X (.Constant .none j pos) (tE X.K Ξ (eC .au)):=qv X7 λ_=>rfl
def aF {x j}:PE X (.Constant (.str x) j pos) (tE X.K Ξ (eC (.str x))):=qv X8 λ_=>rfl
def zh (σ:St) (H:Hp) (Q:VK):tE K Ξ (e2 o f g) σ H Q->xU (rO K Ξ o) (tE K Ξ f) (tE K Ξ g) σ H Q:=by
 intro zzz;obtain⟨w,env,rfl,S,Z,h⟩:=zzz;exact⟨w,env,rfl,S,Z,(Out.ai h).mono λY x X W V v1 U=>⟨Y,env,rfl,W,Z.le X,(Out.ai V).mono λT y R P O v2 N=>⟨T,x,y,rfl,P,R _ _ U,N,O⟩⟩⟩
def bu (ho:bM X (ņ op) (rO X.K Ξ o)) (ha:PE X a (tE X.K Ξ f)) (hb:PE X b (tE X.K Ξ g)):PE X (.BinOp a op b pos) (tE X.K Ξ (e2 o f g)):=cm (aaa ho ha hb) zh
def dw (ho:bM X (ĕ op) (rO X.K Ξ o)) (ha:PE X a (tE X.K Ξ f)) (hb:PE X b (tE X.K Ξ g)) (hm:adw op b=ύ):PE X (.Compare a [op] [b] pos) (tE X.K Ξ (e2 o f g)):=cm (Wv ho ha hb hm) zh
def YJ {K:đ} (σ:St) (H:Hp) (Q:Bool->Hp->Prop):tT K Ξ (aV f) σ H Q->zS (tE K Ξ f) σ H Q:=by
 intro zzz;obtain⟨w,env,rfl,S,Y,h⟩:=zzz;refine⟨w,env,rfl,S,Y,(Out.ai h).mono λV x U X Z v1 W=>?_⟩
 cases x with
 |bl b =>
  have e:v1=.bl b:=W;exact⟨b,e,aB X Z⟩
 |_=>exact Z.elim
def Sa (i:∀ σ H Q,t' σ H Q->t σ H Q) (σ:St) (H:Hp) (Q:Bool->Hp->Prop):zS t' σ H Q->zS t σ H Q:=λh=>i _ _ _ h
def bC (ho:bM X (ĕ op) (rO X.K Ξ o)) (ha:PE X a (tE X.K Ξ f)) (hb:PE X b (tE X.K Ξ g)) (hm:adw op b=ύ):PT X (.Compare a [op] [b] pos) (tT X.K Ξ (aV (e2 o f g))) :=
 Dg (Ww ho ha hb hm) fun σ H Q h=>Sa zh σ H Q (YJ σ H Q h)
def YK {K:đ} {o o':D->D->ae->Res D} (σ:St) (H:Hp) (Q:VK):tE K Ξ (pH o o' f g h) σ H Q->Mt (rO K Ξ o) (rO K Ξ o') (tE K Ξ f) (tE K Ξ g) (tE K Ξ h) σ H Q:=by
 intro zzz;obtain⟨w,env,rfl,S,Y,h⟩:=zzz;refine⟨w,env,rfl,S,Y,(Out.ai h).mono λP x W O N v1 M=>⟨P,env,rfl,O,Y.le W,(Out.ai N).mono λL y V J I v2 U=>⟨L,x,y,rfl,J,V _ _ M,U,(Out.ai I).mono λG z T X F E C=>?_⟩⟩⟩;have R:=Out.ai F
 cases z with
 |bl b =>
  have e:E=.bl b:=C;have Z:=aB X R;refine⟨b,e,?_⟩
  cases b with
  |true =>
   rw[Ñ rfl] at Z |-;exact⟨G,env,rfl,X,Y.le (W.trans (V.trans T)),(Out.ai Z).mono λB u A v t v4 s=>⟨B,y,u,rfl,v,(T.trans A) _ _ U,s,t⟩⟩
  |false =>
   rw[Ú Ä] at Z |-;exact aB X Z _ rfl
 |_=>exact R.elim
def CC (ho:bM X (ĕ op) (rO X.K Ξ o)) (ip:bM X (ĕ uF) (rO X.K Ξ o')) (ha:PE X a (tE X.K Ξ f)) (hb:PE X b (tE X.K Ξ g)) (hc:PE X c (tE X.K Ξ h))
 (hm:lastMarks [op,uF] [b,c]=ύ:=by with_unfolding_all rfl):PE X (.Compare a [op,uF] [b,c] pos) (tE X.K Ξ (pH o o' f g h)):=cm (UC ho ip ha hb hc hm) YK
def Ao (ho:xT X (unaryOp op) (rU X.K Ξ o)) (ha:PE X a (tE X.K Ξ f)):PE X (.UnaryOp op a pos) (tE X.K Ξ (e1 o f)):=cm (Nw ho ha) fun σ H Q Z=>by
 obtain⟨w,env,Y,S,W,h⟩:=Z;subst Y;exact⟨w,env,rfl,S,W,(Out.ai h).mono λV x P U T v1 R=>⟨V,x,rfl,U,R,T⟩⟩
def dS:PA X [] (tA X.K Ξ ah):=MC l8 fun σ H Q Z=>by
 obtain⟨w,env,Y,S,W,h⟩:=Z;subst Y;exact aB S h _ rfl
def bB (ha:PE X e (tE X.K Ξ f)) (hr:PA X es (tA X.K Ξ fa)) (hs:Í (e::es) X.env=(ύ,ķ e X.env)::Í es X.env:=by rfl):PA X (e::es) (tA X.K Ξ (af f fa)):=MC (kP ha hr hs) fun σ H Q Y=>by
 obtain⟨w,env,W,S,Z,h⟩:=Y;subst W;exact⟨w,env,rfl,S,Z,(Out.ai h).mono λV x U T R v1 P=>⟨V,env,rfl,T,Z.le U,(Out.ai R).mono λI G O N M L J=>aB N M _ ⟨v1,L,rfl,O _ _ P,J⟩⟩⟩
def vG {α:Type} {K:đ} {w:Wd} {ds:List D} {r:Res α} {k:Wd->α->Prop} (h:Out K Ξ w (jf ds r) k):ds.length<=Õ/\Out K Ξ w r k:=by
 delta jf at h;split at h
 ·exact⟨by assumption,h⟩
 ·exact h.elim
def eQ {x1} (ha:PA X es (tA X.K Ξ fa)):PE X (.Tuple es x1 pos) (tE X.K Ξ (cY fa)):=cm (Ys ha) fun σ H Q V=>by
 obtain⟨w,env,U,S,T,h⟩:=V;subst U;refine⟨w,env,rfl,S,T,(Out.ai h).mono λR L J P O Y W=>?_⟩;obtain⟨N,M⟩:=vG O;refine⟨by rw[<- W.length];exact N,λp Z=>?_⟩;exact M (R.grow p (.tup Y)) (Fw.grow Z).le (P.grow Z) rfl (.ref p) ⟨p,Y,rfl,bV.of cO,(Fw.grow Z).le.all W⟩
def ma {K:đ} {w:Wd} {p:ß} (S:aT K w) (hp:w.H p=ϋ):¬ w.Z p:=λ⟨k,c,e1,_,_⟩=>S.there k p e1 hp
def hX (ha:PA X es (tA X.K Ξ fa)):PE X (.List es pos) (tE X.K Ξ (fc fa)):=cm (Mu ha) fun σ H Q R=>by
 obtain⟨w,env,P,S,O,h⟩:=R;subst P;refine⟨w,env,rfl,S,O,(Out.ai h).mono λW J I V N U T=>?_⟩;obtain⟨M,L⟩:=vG N;refine⟨by rw[<- T.length];exact M,λp Y=>?_⟩;exact L (W.grow p (.lst U)) (Fw.grow Y).le (V.grow Y) rfl (.ref p) ⟨p,U,rfl,⟨(show ¬ W.Z p from ma V Y),cO⟩,(Fw.grow Y).le.all T⟩
def tw (ha:PA X es (tA X.K Ξ fa)):PE X (.List es pos) (tE X.K Ξ (eNew fa)):=cm (Mu ha) fun σ H Q R=>by
 obtain⟨w,env,P,S,O,h⟩:=R;subst P;refine⟨w,env,rfl,S,O,(Out.ai h).mono λZ V J Y N W U=>?_⟩;obtain⟨M,L⟩:=vG N;refine⟨by rw[<- U.length];exact M,λp T=>?_⟩;have le:=(Fw.cell (o:=.lst W) (c:=.lst V) Y T).le;refine L (Z.cell p (.lst W) (.lst V)) le (Y.ND T ⟨W,cO,le.all U⟩) rfl (.ref p) ⟨p,?_,rfl⟩;show (Z.ρ++[p])[Z.aJ.length]?=ϊ p;rw[<- Y.len];simp
def D2 (ha:PE X a (tE X.K Ξ f)):PE X a (tE X.K Ξ (oS f)):=cm ha fun σ H Q W=>by
 obtain⟨w,env,V,S,U,h⟩:=W;subst V;refine⟨w,env,rfl,S,U,(Out.ai h).mono λT x L Y Z v1 R=>?_⟩;delta bo at Z;split at Z
 ·rename_i k
  split at Z
  ·rename_i J P
   obtain⟨p,e1,e2⟩:=R;obtain⟨O,N,M⟩:=Y.cell k p _ e1 P;exact Z (T.freeze k) Fw.freeze.le Y.freeze rfl v1 ⟨p,O,e2,⟨Wd.To Y e1,N⟩,Fw.freeze.le.all M⟩
  ·exact Z.elim
 ·exact Z.elim
theorem qK.of {K:đ} {w:Wd} {d:D} {v:V} {k:Wd->Bool->Prop} (S:aT K w) (hd:DV K w d v) (h:Out K Ξ w (truth d w.aJ) k):∃b,qK K v w.H b/\k w b:=by
 cases d with
 |au=>have e:v=.au:=hd;subst e;exact⟨_,rfl,aB S h⟩
 |bl b=>have e:v=.bl b:=hd;subst e;exact⟨_,rfl,aB S h⟩
 |int i=>have e:v=.int i:=hd;subst e;exact⟨_,rfl,aB S h⟩
 |str x =>
  have e:v=.str x:=hd;subst e;delta truth at h
  split at h<;>first|contradiction|skip
  all_goals (rename_i e;cases e)
  split at h
  ·exact⟨_,⟨by assumption,rfl⟩,aB S h⟩
  ·exact h.elim
 |tup Y =>
  erw[DV] at hd;obtain⟨a,Z,rfl,X,r⟩:=hd;refine⟨_,.inr (.inl ⟨Z,X,?_⟩),aB S h⟩;have e:=r.length
  cases Y<;>cases Z<;>first|rfl|cases e
 |lst Y =>
  erw[DV] at hd;obtain⟨a,Z,rfl,X,r⟩:=hd;refine⟨_,.inl ⟨Z,X.sq,?_⟩,aB S h⟩;have e:=r.length
  cases Y<;>cases Z<;>first|rfl|cases e
 |cy W =>
  erw[DV] at hd;obtain⟨a,rfl,_,X⟩:=hd;refine⟨_,.inr (.inr ⟨_,X,?_⟩),aB S h⟩
  cases W<;>rfl
 |aj j =>
  erw[DV] at hd;obtain⟨a,e1,rfl⟩:=hd;erw[truth] at h;split at h
  ·rename_i Y U
   obtain⟨Z,T,R⟩:=S.cell j a _ e1 U;refine⟨_,.inl ⟨Z,bY.of T,?_⟩,aB S h⟩;have e:=R.length
   cases Y<;>cases Z<;>first|rfl|cases e
  ·rename_i W U
   obtain⟨es,T,R,Q⟩:=S.cell j a _ e1 U;refine⟨_,.inr (.inr ⟨es,T,?_⟩),aB S h⟩;have e:=Ń List.length R
   cases W<;>cases es<;>first|rfl|simp at e
  ·exact h.elim
 |ty n=>exact h.elim
 |bO P=>exact h.elim
 |exc o _=>exact h.elim
 |dj o _ _=>exact h.elim
def dU (ha:PE X a (tE X.K Ξ f)) (he:∀whole,isTrue a X.env whole=(do let v <- whole;adh a.pos;acY [v] (truthy v)):=by intro _;rfl):PT X a (tT X.K Ξ (cq f)):=Dg (UD ha he) fun σ H Q Z=>by
 obtain⟨w,env,Y,S,W,h⟩:=Z;subst Y;exact⟨w,env,rfl,S,W,(Out.ai h).mono λR x P V U v1 T=>qK.of V T U⟩
def gO (ha:PT X a (tT X.K Ξ ft)):PT X (.UnaryOp .Not a pos) (tT X.K Ξ (cU ft)):=Dg (Yb ha) fun σ H Q Z=>by
 obtain⟨w,env,Y,S,W,h⟩:=Z;subst Y;exact⟨w,env,rfl,S,W,(Out.ai h).mono λT b R V U=>aB V U⟩
def sO (ha:PT X a (tT X.K Ξ ft)):PW X (.BoolOp .And [a] pos) (tT X.K Ξ ft):=Wo ha
def jH (ha:PT X a (tT X.K Ξ ft)):PW X (.BoolOp .Or [a] pos) (tT X.K Ξ ft):=X9 ha
def w_and (ha:PT X a (tT X.K Ξ ft)) (hb:PW X (.BoolOp .And (b::rest) pos) (tT X.K Ξ gt)):PW X (.BoolOp .And (a::b::rest) pos) (tT X.K Ξ (jg ft gt)):=MB (Ya ha hb) fun σ H Q V=>by
 obtain⟨w,env,U,S,Z,h⟩:=V;subst U;refine⟨w,env,rfl,S,Z,(Out.ai h).mono λT b R Y W=>?_⟩
 cases b with
 |true=>exact⟨T,env,rfl,Y,Z.le R,W⟩
 |false=>exact aB Y W
def w_or (ha:PT X a (tT X.K Ξ ft)) (hb:PW X (.BoolOp .Or (b::rest) pos) (tT X.K Ξ gt)):PW X (.BoolOp .Or (a::b::rest) pos) (tT X.K Ξ (eT ft gt)):=MB (Z1 ha hb) fun σ H Q V=>by
 obtain⟨w,env,U,S,Z,h⟩:=V;subst U;refine⟨w,env,rfl,S,Z,(Out.ai h).mono λT b R Y W=>?_⟩
 cases b with
 |false=>exact⟨T,env,rfl,Y,Z.le R,W⟩
 |true=>exact aB Y W
def cZ {op} (ha:PE X a (tE X.K Ξ f)):PE X (.BoolOp op [a] pos) (tE X.K Ξ f):=Yc ha
def CD {K:đ} {w:Wd} {d:D} {v:V} {k:Wd->Bool->Prop} (S:aT K w) (hd:DV K w d v) (h:Out K Ξ w (iT d w.aJ) k):∃b,v=.bl b/\k w b:=by
 cases d with
 |bl b=>exact⟨b,hd,aB S h⟩
 |_=>exact h.elim
def dM (ha:PE X a (tE X.K Ξ f)) (hb:PE X (.BoolOp .And (b::rest) pos) (tE X.K Ξ g)):PE X (.BoolOp .And (a::b::rest) pos) (tE X.K Ξ (cN f g)):=cm (Yd ha hb) fun σ H Q V=>by
 obtain⟨w,env,U,S,Y,h⟩:=V;subst U;refine⟨w,env,rfl,S,Y,(Out.ai h).mono λT x R Z P v1 O=>?_⟩;obtain⟨b,e,W⟩:=CD Z O (Out.ai P);refine⟨b,e,?_⟩
 cases b with
 |true=>exact⟨T,env,rfl,Z,Y.le R,W⟩
 |false=>exact aB Z W _ rfl
def ua (ha:PE X a (tE X.K Ξ f)) (hb:PE X (.BoolOp .Or (b::rest) pos) (tE X.K Ξ g)):PE X (.BoolOp .Or (a::b::rest) pos) (tE X.K Ξ (lR f g)):=cm (Z4 ha hb) fun σ H Q V=>by
 obtain⟨w,env,U,S,Y,h⟩:=V;subst U;refine⟨w,env,rfl,S,Y,(Out.ai h).mono λT x R Z P v1 O=>?_⟩;obtain⟨b,e,W⟩:=CD Z O (Out.ai P);refine⟨b,e,?_⟩
 cases b with
 |false=>exact⟨T,env,rfl,Z,Y.le R,W⟩
 |true=>exact aB Z W _ rfl
def D3 (ha:PE X a (tE X.K Ξ f)):PE X (.UnaryOp .Not a pos) (tE X.K Ξ (t6 f)):=cm (Ye ha) fun σ H Q Y=>by
 obtain⟨w,env,W,S,V,h⟩:=Y;subst W;refine⟨w,env,rfl,S,V,(Out.ai h).mono λP x O Z U v1 T=>?_⟩;obtain⟨b,e,R⟩:=CD Z T (Out.ai U);exact⟨b,e,aB Z R _ rfl⟩
def E3 (hc:PT X c (tT X.K Ξ ft)) (ha:PE X a (tE X.K Ξ f)) (hb:PE X b (tE X.K Ξ g)):PE X (.IfExp c a b pos) (tE X.K Ξ (uQ ft f g)):=cm (UA hc ha hb) fun σ H Q T=>by
 obtain⟨w,env,R,S,Z,h⟩:=T;subst R;refine⟨w,env,rfl,S,Z,(Out.ai h).mono λY b W V U=>?_⟩
 cases b with
 |true=>exact⟨Y,env,rfl,V,Z.le W,U⟩
 |false=>exact⟨Y,env,rfl,V,Z.le W,U⟩
def MD (σ:St) (H:Hp) (Q:VK):tE K Ξ (eB o fa) σ H Q->FD (rC K Ξ o) (tA K Ξ fa) σ H Q:=by
 intro zzz;obtain⟨w,env,rfl,S,Z,h⟩:=zzz;exact⟨w,env,rfl,S,Z,(Out.ai h).mono λY X T W V R U=>⟨Y,X,rfl,W,U,V⟩⟩
def cA {x:Str} {p:Pos} {id:String} {o:List D->ae->Res D} (hc:cT X (.builtin id) (rC X.K Ξ o)) (hg:Gl X x) (hm:X.mg x=ϋ) (hv:ü x=ϊ (.builtin id)) (ha:PA X (e::es) (tA X.K Ξ fa)) (hn:x≠"__name__":=by decide) (dQ:(x==("__debug__":Str))=ύ:=by decide)
  (he:Í (e::es) X.env=(ύ,ķ e X.env)::Í es X.env:=by rfl) (bN:(ī pos (Í es X.env)).any (·.1)=ύ:=by rfl):PE X (.Call (.Name x p) (e::es) [] pos) (tE X.K Ξ (eB o fa)):=cm (BV hc hg hm hv ha hn dQ he bN) MD
def j4 {x:Str} {p:Pos} {T:String} {o:List D->ae->Res D} (hc:cT X (.type T) (rC X.K Ξ o)) (hg:Gl X x) (hm:X.mg x=ϋ) (hv:ü x=ϊ (.type T)) (ha:PA X (e::es) (tA X.K Ξ fa)) (hn:x≠"__name__":=by decide) (dQ:(x==("__debug__":Str))=ύ:=by decide)
  (he:Í (e::es) X.env=(ύ,ķ e X.env)::Í es X.env:=by rfl) (bN:(ī pos (Í es X.env)).any (·.1)=ύ:=by rfl):PE X (.Call (.Name x p) (e::es) [] pos) (tE X.K Ξ (eB o fa)):=cm (BG hc hg hm hv ha hn dQ he bN) MD
end
set_option genInjectivity true in
inductive Fl where
 |nx (env:Env)|rt (d:D)|bk (env:Env)|ct (env:Env)
def Ap (K:đ) (D:Ends) (w:Wd):Fl->Prop
 | .nx env=>∀ σ,bX K w env σ->D.nx σ w.H
 | .rt d=>∀v,DV K w d v->D.rt v w.H
 | .bk env=>∀ σ,bX K w env σ->D.bk σ w.H
 | .ct env=>∀ σ,bX K w env σ->D.ct σ w.H
def tS (K:đ) (Ξ:Wd->bg->Prop) (f:aez Fl):TS:=λD σ H=>∃w env,w.H=H/\aT K w/\bX K w env σ/\Out K Ξ w (f env w.aJ) (Ap K D)
def bH:aez Fl:=λenv s=>ok (.nx env) s
def aq (f g:aez Fl):aez Fl:=λenv s=>ai (f env s) λfl s=>match fl with
 | .nx env=>g env s
 |fl=>ok fl s
def aA (f:aez D):aez Fl:=λenv s=>ai (f env s) λd s=>ok (.rt d) s
def cE (f:aez D):aez Fl:=λenv s=>ai (f env s) λ_ s=>ok (.nx env) s
def aM (c:aez Bool) (f g:aez Fl):aez Fl:=λenv s=>ai (c env s) λb s=>if b=ό then f env s else g env s
def NF:aez Fl:=λenv s=>ok (.ct env) s
def bc (f:aez D) (g:D->Env->Option Env):aez Fl:=λenv s=>ai (f env s) λd s=>match g d env with
 |some Z=>ok (.nx Z) s
 |none=>ϋ
def gN (i:Nat):D->Env->Option Env:=λd env=>ϊ (env.set i (ϊ d))
def gQ:List (D->Env->Option Env)->List D->Env->Option Env
 | [],[],env=>ϊ env
 |g::Y,d::X,env=>match g d env with
  |some Z=>gQ Y X Z
  |none=>ϋ
 |_,_,_=>ϋ
def gT (gs:List (D->Env->Option Env)):D->Env->Option Env:=λd env=>match d with
 | .tup Z=>gQ gs Z env
 |_=>ϋ
def ml (g:D->Env->Option Env) (b:aez Fl):List D->aez Fl
 | [],env,s=>ok (.nx env) s
 |d::Y,env,s=>match g d env with
  |none=>ϋ
  |some Z=>ai (b Z s) λX s=>match X with
   | .nx e=>ml g b Y e s
   | .ct e=>ml g b Y e s
   | .bk e=>ok (.nx e) s
   | .rt d=>ok (.rt d) s
def lr (it:aez (List D)) (g:D->Env->Option Env) (b:aez Fl):aez Fl:=λenv s=>ai (it env s) λZ s=>ml g b Z env s
def ne {α:Type} (r:Res α):Res α:=match r with
 |some (.ok a,s)=>ϊ (.ok a,s)
 |_=>ϋ
@[simp] theorem qw {α:Type} {a:α} {s:ae}:ne (ϊ (.ok a,s))=ϊ (.ok a,s):=rfl
def iO (cap:List Nat) (env:Env):Env:=cap.map λj=>(env[j]?).getD ϋ
def iC (nt:Nat) (caps:Env) (g:D->Env->Option Env) (t:aez Bool) (f:aez D):List D->ae->Res (List D)
 | [],s=>ok [] s
 |d::Z,s=>match g d (Ö nt ϋ++caps) with
  |none=>ϋ
  |some env=>ai (ne (t env s)) λb s=>if b=ό then ai (ne (f env s)) λx s=>ai (iC nt caps g t f Z s) λY s=>ok (x::Y) s
   else iC nt caps g t f Z s
def cL (nt:Nat) (cap:List Nat) (it:aez (List D)) (g:D->Env->Option Env) (t:aez Bool) (f:aez D):aez D:=λenv s =>
 ai (it env s) λZ s=>jf Z (ai (iC nt (iO cap env) g t f Z s) λY s=>ok (.lst Y) s)
def cS:aez Bool:=λ_ s=>ok ό s
def aD (np ns:Nat) (b:aez Fl):List D->ae->Res D:=λZ s=>if Z.length=np then ai (b (Z.map ϊ++Ö (ns-np) ϋ) s) λY s=>match Y with
 | .rt d=>ok d s
 | .nx _=>ok .au s
 |_=>ϋ else ϋ
abbrev cF:Wd->bg->Prop:=λ_ _=>False
def lS (K:đ) (f:List D->ae->Res D):Sp:=λX H Q _=>∃w Z,w.H=H/\aT K w/\ar K w Z X/\Out K cF w (f Z w.aJ) λY d=>∀v,DV K Y d v->Q v Y.H
section
variable {X:Cx} {Ξ:Wd->bg->Prop} {e a b c tg:ě} {es rest:List ě} {pos:Pos} {f g h:aez D} {fa:aez (List D)} {ft gt:aez Bool} {st:ad2} {rh E4:List ad2} {fs gs:aez Fl}
def bR:dg X [] (tS X.K Ξ bH):=LB Wq λD σ H Z=>by
 obtain⟨w,env,Y,S,W,h⟩:=Z;subst Y;exact aB S h σ W
def aH (h1:PS X st (tS X.K Ξ fs)) (h2:dg X rh (tS X.K Ξ gs)):dg X (st::rh) (tS X.K Ξ (aq fs gs)):=LB (UB h1 h2) λD σ H W=>by
 obtain⟨w,env,V,S,U,h⟩:=W;subst V;refine⟨w,env,rfl,S,U,(Out.ai h).mono λT R P Y h1=>?_⟩
 cases R with
 |nx Z=>exact fun O Q=>⟨T,Z,rfl,Y,Q,h1⟩
 |rt d=>have q:=aB Y h1;exact q
 |bk Z=>have q:=aB Y h1;exact q
 |ct Z=>have q:=aB Y h1;exact q
def ax (h1:PS X st (tS X.K Ξ fs)):dg X [st] (tS X.K Ξ fs):=Wr h1
def aQ (he:PE X e (tE X.K Ξ f)):PS X (.Return (ϊ e) pos) (tS X.K Ξ (aA f)):=kY (Yf he) λD σ H Z=>by
 obtain⟨w,env,Y,S,W,h⟩:=Z;subst Y;exact⟨w,env,rfl,S,W,(Out.ai h).mono λT d R V U=>aB V U⟩
def gv (he:PE X e (tE X.K Ξ f)) (hs:swapsWith e ϋ pos.line X.env=pure ύ:=by rfl):PS X (.Expr e pos) (tS X.K Ξ (cE f)):=kY (Ws he hs) λD σ H Y=>by
 obtain⟨w,env,W,S,Z,h⟩:=Y;subst W;exact⟨w,env,rfl,S,Z,(Out.ai h).mono λR d V U T _ _=>aB U T σ (Z.le V)⟩
def bL (hc:PT X c (tT X.K Ξ ft)) (ha:dg X rh (tS X.K Ξ fs)) (hb:dg X E4 (tS X.K Ξ gs)):PS X (.If c rh E4 pos) (tS X.K Ξ (aM ft fs gs)):=kY (Z7 hc ha hb) λD σ H T=>by
 obtain⟨w,env,R,S,Z,h⟩:=T;subst R;refine⟨w,env,rfl,S,Z,(Out.ai h).mono λY b W V U=>?_⟩
 cases b with
 |true=>exact⟨Y,env,rfl,V,Z.le W,U⟩
 |false=>exact⟨Y,env,rfl,V,Z.le W,U⟩
def gD (K:đ) (g:D->Env->Option Env):TG:=λv σ H Q=>∃w env d Z,w.H=H/\aT K w/\bX K w env σ/\DV K w d v/\g d env=ϊ Z/\∀ Y,bX K w Z Y->Q Y H
def uR (K:đ) (g:List D->Env->Option Env):jR:=λW σ H Q=>∃w env Y Z,w.H=H/\aT K w/\bX K w env σ/\ar K w Y W/\g Y env=ϊ Z/\∀ X,bX K w Z X->Q X H
def Dh {t t':TG} (h:PG X e t) (i:∀v σ H Q,t' v σ H Q->t v σ H Q):PG X e t':=λZ s σ H v u Q I r Y=>h Z s σ H v u Q I r (i v σ H Q Y)
def LC {t t':jR} (h:kE X es t) (i:∀v σ H Q,t' v σ H Q->t v σ H Q):kE X es t':=λZ s σ H v u Q I r Y=>h Z s σ H v u Q I r (i v σ H Q Y)
def cP (i:Nat) {x:Str} (hN:X.N.Nodup) (hi:X.N[i]?=ϊ x:=by rfl) (hx:Loc X.env.scope x:=by first|exact ο rfl|exact Or.inr rfl) (hf:X.fn x=ό\/X.env.scope.names.lookup x=ϊ .local:=by first|exact .inl rfl|exact .inr rfl):PG X (.Name x pos) (gD X.K (gN i)) :=
 Dh (iB hN hi hx hf) λv σ H Q Y=>by
  obtain⟨w,env,d,Z,T,S,W,V,U,k⟩:=Y;have e:env.set i (ϊ d)=Z:=aeE U;subst e;exact k _ (W.set V i)
def ny:kE X [] (uR X.K (gQ [])):=LC vO λR σ H Q V=>by
 obtain⟨w,env,Y,Z,P,S,U,T,W,k⟩:=V
 cases Y with
 |nil =>
  have e:env=Z:=aeE W;subst e;exact⟨T,k _ U⟩
 |cons d Y=>cases W
def dR {g:D->Env->Option Env} {gl:List (D->Env->Option Env)} (h1:PG X e (gD X.K g)) (h2:kE X es (uR X.K (gQ gl)))
  (hs:(ō (e::es) X.env).map (·.2)=aex e X.env::(ō es X.env).map (·.2):=by rfl):kE X (e::es) (uR X.K (gQ (g::gl))):=LC (l7 h1 h2 hs) λJ σ H Q R=>by
 obtain⟨w,env,W,Y,U,S,P,O,Z,k⟩:=R
 cases W with
 |nil=>cases Z
 |cons d W =>
  obtain⟨v,r,rfl,N,M⟩:=O;erw[gQ] at Z
  cases V:g d env with
  |none=>rw[V] at Z;cases Z
  |some T =>
   rw[V] at Z;refine⟨v,r,rfl,w,env,d,T,U,S,P,N,V,fun I L=>⟨w,T,W,Y,U,S,L,M,Z,k⟩⟩
theorem yS:∀{gl:List (D->Env->Option Env)} {ds:List D} {env env':Env},gQ gl ds env=ϊ env'->ds.length=gl.length
 | [],[],_,_,_=>rfl
 |g::gl,d::ds,env,env',h=>by
  erw[gQ] at h
  cases Z:g d env with
  |none=>rw[Z] at h;cases h
  |some e1=>rw[Z] at h;simp[yS h]
 | [],_::_,_,_,h=>by cases h
 |_::_,[],_,_,h=>by cases h
def tB {gl:List (D->Env->Option Env)} {k:Nat} (hc:X.calm=ό) (h:kE X es (uR X.K (gQ gl))) (hn:(ō es X.env).length=gl.length:=by rfl) (jS:(ō es X.env).findIdx? (·.1)=ϋ:=by rfl):PG X (.Tuple es k pos) (gD X.K (gT gl)) :=
 Dh (v8 hc h hn jS) λv σ H Q U=>by
  obtain⟨w,env,d,Z,T,S,R,W,Y,k⟩:=U
  cases d with
  |tup P =>
   erw[DV] at W;obtain⟨p,O,e1,N,V⟩:=W;subst T;exact⟨p,O,e1,N,by rw[<- V.length];exact yS Y,w,env,P,Z,rfl,S,R,V,Y,k⟩
  |_=>cases Y
def LD {K:đ} {g:D->Env->Option Env} (D:Ends) (σ:St) (H:Hp):tS K Ξ (bc f g) D σ H->xk (tE K Ξ f) (gD K g) D σ H:=by
 intro zzz;obtain⟨w,env,rfl,S,W,h⟩:=zzz;refine⟨w,env,rfl,S,W,(Out.ai h).mono λU d T V Y v R=>?_⟩
 cases X:g d env with
 |none=>rw[X] at Y;exact Y.elim
 |some Z =>
  rw[X] at Y;exact⟨U,env,d,Z,rfl,V,W.le T,R,X,aB V Y⟩
def nE {g:D->Env->Option Env} (he:PE X e (tE X.K Ξ f)) (hg:PG X tg (gD X.K g)) (hs:acS [tg] e pos.line X.env=pure ύ:=by rfl) (hw:acT [tg] e X.env=pure ϋ:=by rfl)
  (h1:(ō [tg] X.env).map (·.2)=[aex tg X.env]:=by rfl):PS X (.Assign [tg] e pos) (tS X.K Ξ (bc f g)):=kY (Mq he hg hs hw h1) LD
def Tp {K:đ} {te:TE} {i:Nat} (D:Ends) (σ:St) (H:Hp):xk (tE K Ξ f) (gD K (gN i)) D σ H->xk (tE K Ξ f) (qu i) D σ H:=by
 intro zzz;obtain⟨w,env,rfl,S,Y,h⟩:=zzz;refine⟨w,env,rfl,S,Y,h.mono λP d O N X v W=>?_⟩;obtain⟨M,V,U,Z,L,J,T,R,Q,k⟩:=X v W;have e:V.set i (ϊ U)=Z:=aeE Q;subst e;exact k _ (T.set R i)
def ck (i:Nat) {x:Str} {pos':Pos} (hN:X.N.Nodup) (he:PE X e (tE X.K Ξ f)) (hi:X.N[i]?=ϊ x:=by rfl) (hx:Loc X.env.scope x:=by first|exact ο rfl|exact Or.inr rfl) (hs:swapsWith e (ϊ (.Name x pos')) pos.line X.env=pure ύ:=by rfl) (hf:X.fn x=ό\/X.env.scope.names.lookup x=ϊ .local:=by first|exact .inl rfl|exact .inr rfl) :
  PS X (.Assign [.Name x pos'] e pos) (tS X.K Ξ (bc f (gN i))):=kY (Yh hN hi hx he hs hf) λD σ H h=>Tp (te:=tE X.K Ξ f) D σ H (LD D σ H h)
def pJ (K:đ) (w:Wd) (J:It) (ds:List D):Prop:=∀Z,Le K w Z->aT K Z->∀i,
 (∀d,ds[i]?=ϊ d->J.go i Z.H/\∀x X,J.uE i Z.H x X->∃Y,Y.H=X/\Le K Z Y/\aT K Y/\Y.aJ=Z.aJ/\DV K Y d x)/\(ds.length<=i->J.stop i Z.H)
def fO (K:đ) (Ξ:Wd->bg->Prop) (f:aez (List D)):TI:=fun σ H R=>∃w env,w.H=H/\aT K w/\bX K w env σ/\Out K Ξ w (f env w.aJ) λZ Y=>∀J,pJ K Z J Y->R J Z.H
def sP {t t':TI} (h:PI X tg e t) (i:∀ σ H R,t' σ H R->t σ H R):PI X tg e t':=λZ s σ H R I Y=>h Z s σ H R I (i σ H R Y)
def WZ {K:đ} {it:aez (List D)} {g:D->Env->Option Env} (D0:Ends) (σ:St) (H:Hp):tS K Ξ (lr it g fs) D0 σ H->OB (fO K Ξ it) (gD K g) (tS K Ξ fs) D0 σ H:=by
 intro zzz;obtain⟨w,env,rfl,S,B,h⟩:=zzz;refine⟨w,env,rfl,S,B,(Out.ai h).mono λM X p o n J A=>?_⟩;refine⟨λi m L z=>m=X.length-i/\i<=X.length/\∃W Z,W.H=z/\Le K M W/\aT K W/\bX K W Z L/\Out K Ξ W (ml g fs (X.drop i) Z W.aJ) (Ap K D0),
  ⟨X.length,rfl,Ē _,M,env,rfl,Le.refl _,o,B.le p,n⟩,?_⟩
 intro i m L z zzz;obtain⟨rfl,a,W,Z,rfl,U,I,v,V⟩:=zzz;by_cases G:i<X.length
 ·right
  obtain⟨l,k⟩:=(A W U I i).1 _ (Ø G);rw[ů G] at V;erw[ml] at V
  cases F:g X[i] Z with
  |none=>rw[F] at V;exact V.elim
  |some u =>
   rw[F] at V;refine⟨l,fun E T=>∃Y R,Y.H=T/\Le K M Y/\aT K Y/\bX K Y R E/\Out K Ξ Y (ml g fs (X.drop (i+1)) R Y.aJ) (Ap K D0),fun E T ⟨Y,R,q⟩=>⟨X.length-(i+1),by omega,rfl,G,Y,R,q⟩,λx T y=>?_⟩;obtain⟨Y,rfl,Q,t,es,j⟩:=k x T y;refine⟨Y,Z,X[i],u,rfl,t,v.le Q,j,F,fun E f=>⟨Y,u,rfl,t,f,?_⟩⟩;rw[<- es] at V;refine(Out.ai (V.from Q)).mono λs c r P O=>?_
   cases c with
   |nx N=>exact fun b C=>⟨s,N,rfl,U.trans (Q.trans r),P,C,O⟩
   |ct N=>exact fun b C=>⟨s,N,rfl,U.trans (Q.trans r),P,C,O⟩
   |bk N=>have q:=aB P O;exact q
   |rt d=>have q:=aB P O;exact q
 ·left
  have e:i=X.length:=by omega
  subst e;rw[List.drop_length] at V;exact⟨(A W U I _).2 (aeD _),aB I V L v⟩
def qx {iter:ě} {it:aez (List D)} {g:D->Env->Option Env} (hp:PassesOwn (é X.prog X.w) X.A X.env X.xe) (hc:X.calm=ό) (hi:PI X tg iter (fO X.K Ξ it)) (hg:PG X tg (gD X.K g)) (hb:dg X rh (tS X.K Ξ fs))
  (hs:∀x,Ć iter X.env x=pure x:=by intro _;rfl):PS X (.For tg iter rh [] pos) (tS X.K Ξ (lr it g fs)):=kY (Yk hp hc hi hg hb hs) WZ
theorem Out.ne {α:Type} {K:đ} {w:Wd} {r:Res α} {k:Wd->α->Prop} (h:Out K Ξ w (DI.ne r) k):Out K cF w r k:=by
 match r,h with
 |some (.ok a,s),h=>exact h
def bX.block {K:đ} {w:Wd} {env:Env} {σ:St} (h:bX K w env σ) (nt:Nat) (cap:List Nat) (o:St) (ho:o.length=nt):bX K w (Ö nt ϋ++iO cap env) (o++nD cap σ):=by
 refine⟨by simp[iO,nD,ho],λi d e=>?_⟩;by_cases Z:i<nt
 ·rw[ç (by simpa using Z),ı,Ñ Z] at e
  cases e
 ·rw[ð (by simpa using δ Z)] at e
  rw[ð ⋯,ho];erw[ω] at e;delta iO at e;delta nD;rw[ê] at e |-
  cases Y:cap[i-nt]? with
  |none=>rw[Y] at e;cases e
  |some j =>
   rw[Y] at e;have ev:(env[j]?).getD ϋ=ϊ d:=aeE e;have X:env[j]?=ϊ (ϊ d):=by
    cases q:env[j]? with
    |none=>rw[q] at ev;cases ev
    |some z=>rw[q] at ev;exact Ń ϊ ev
   obtain⟨v,e1,e2⟩:=h.val j d X;exact⟨v,by rw[abI,e1];rfl,e2⟩
def Tq {K:đ} {nt:Nat} {cap:List Nat} {it:aez (List D)} {g:D->Env->Option Env} {fin:List D->ae->Res D} (σ:St) (H:Hp) (Q:VK)
  (E5:∀(w2:Wd) (xs:List D) (vs:List V),aT K w2->ar K w2 xs vs->Out K Ξ w2 (fin xs w2.aJ) (λw' d=>∀v,DV K w' d v->Q v w'.H)->∀p,w2.H p=ϋ->Q (.ref p) (upd w2.H p (.lst vs))) :
  tE K Ξ (λenv s=>ai (it env s) λds s=>jf ds (ai (iC nt (iO cap env) g ft f ds s) fin)) σ H Q->wF (fO K Ξ it) nt cap (gD K g) (tT K cF ft) (tE K cF f) σ H Q:=by
 intro zzz;obtain⟨w,env,rfl,S,A,h⟩:=zzz;refine⟨w,env,rfl,S,A,(Out.ai h).mono λN ds c a M J z=>?_⟩;obtain⟨hz,M⟩:=vG M;refine⟨λi m Y u=>m=ds.length-i/\i<=ds.length/\Y.length<=i/\∃w' Z,w'.H=u/\Le K N w'/\aT K w'/\ar K w' Z Y/\Out K Ξ w' (iC nt (iO cap env) g ft f (ds.drop i) w'.aJ) λw2 xs=>∀vs,ar K w2 (Z++xs) vs->∀p,w2.H p=ϋ->Q (.ref p) (upd w2.H p (.lst vs)),
  ⟨ds.length,rfl,Ē _,Ē _,N,[],rfl,Le.refl _,a,rfl,(Out.ai M).mono λw2 xs W P h2 vs O p U=>?_⟩,?_⟩
 ·exact E5 w2 xs vs P O h2 p U
 intro i m Y u zzz;obtain⟨rfl,hi,ha,w',Z,rfl,T,L,I,X⟩:=zzz;by_cases G:i<ds.length
 ·right
  obtain⟨i6,hy⟩:=(z w' T L i).1 _ (Ø G);rw[ů G] at X;erw[iC] at X
  cases F:g ds[i] (Ö nt ϋ++iO cap env) with
  |none=>rw[F] at X;exact X.elim
  |some E =>
   rw[F] at X;refine⟨i6,by omega,λC t=>C.length<=i+1/\∃w' Z,w'.H=t/\Le K N w'/\aT K w'/\ar K w' Z C/\Out K Ξ w' (iC nt (iO cap env) g ft f (ds.drop (i+1)) w'.aJ) λw2 xs=>∀vs,ar K w2 (Z++xs) vs->∀p,w2.H p=ϋ->Q (.ref p) (upd w2.H p (.lst vs)),
    λC t ⟨B,q⟩=>⟨ds.length-(i+1),by omega,rfl,G,B,q⟩,λo x H3 ho y=>?_⟩
   obtain⟨w2,rfl,W,P,es,dv⟩:=hy x H3 y;refine⟨w2,_,ds[i],E,rfl,P,(A.le (c.trans (T.trans W))).block nt cap o ho,dv,F,fun nT r=>?_⟩;rw[<- es] at X;refine⟨w2,E,rfl,P,r,(Out.ai (X.from W)).ne.mono λn b R l k=>?_⟩
   cases b with
   |true =>
    refine⟨n,E,rfl,l,r.le R,(Out.ai k).ne.mono λw4 d j S4 h4 v F8=>⟨by rw[ä];simp;omega,w4,Z++[d],rfl,T.trans (W.trans (R.trans j)),S4,ar.append ((W.trans (R.trans j)).all I) (ar.one F8),(Out.ai h4).mono λw5 xs l5 S5 h5 vs O p U=>?_⟩⟩;exact aB S5 h5 vs (by rw[Ĳ] at O;exact O) p U
   |false =>
    exact⟨by omega,n,Z,rfl,T.trans (W.trans R),l,(W.trans R).all I,k⟩
 ·left
  have e:i=ds.length:=by omega
  subst e;rw[List.drop_length] at X;refine⟨(z w' T L _).2 (aeD _),by omega,λp U=>aB L X Y (by rw[ĥ];exact I) p U⟩
def U9 {K:đ} {nt:Nat} {cap:List Nat} {it:aez (List D)} {g:D->Env->Option Env} (σ:St) (H:Hp) (Q:VK) :
  tE K Ξ (cL nt cap it g ft f) σ H Q->wF (fO K Ξ it) nt cap (gD K g) (tT K cF ft) (tE K cF f) σ H Q :=
 Tq σ H Q λX S W V U T p Y=>T (X.grow p (.lst W)) (Fw.grow Y).le (V.grow Y) rfl (.ref p) ⟨p,W,rfl,⟨(show ¬ X.Z p from ma V Y),cO⟩,(Fw.grow Y).le.all U⟩
end
def LF {o caps:St} {v:V} {i nt:Nat} (ho:o.length=nt) (hi:i<nt):(o++caps).set i (ϊ v)=o.set i (ϊ v)++caps:=by
 rw[List.set_append_left _ _ ⋯]
def Tr {i nt:Nat} (hi:i<nt):pw (qu i) nt:=by
 intro x o Z H R Y h;exact⟨⟨o.set i (ϊ x),by rw[Ă];exact Y,LF Y hi⟩,h⟩
def xq (g:jR) (nt:Nat):Prop:=∀(Y:List V) (o Z:St) (H:Hp) (R:St->Hp->Prop),o.length=nt->g Y (o++Z) H R->g Y (o++Z) H fun X U=>(∃W:St,W.length=nt/\X=W++Z)/\R X U
def Va:xq ER nt:=λX o Z H R Y h=>⟨h.1,⟨o,Y,rfl⟩,h.2⟩
def Ts {i nt:Nat} {g:jR} (hi:i<nt) (hg:xq g nt):xq (DU (qu i) g) nt:=by
 intro X o Z H R Y zzz;obtain⟨v,r,e,h⟩:=zzz;refine⟨v,r,e,?_⟩;have h:g r ((o++Z).set i (ϊ v)) H R:=h;show g r ((o++Z).set i (ϊ v)) H _;rw[LF Y hi] at h |-;exact hg r _ Z H R (by rw[Ă];exact Y) h
def Vb (hg:xq g nt):pw (ES K n g) nt:=by
 intro x o Z H R X zzz;obtain⟨a,Y,e,W,V,h⟩:=zzz;exact⟨a,Y,e,W,V,hg Y o Z H R X h⟩
structure Tg (K:đ) (g0:TG) (g:D->Env->Option Env) (nt:Nat):Prop where
 nX:pw g0 nt
 imp:∀v σ H Q,gD K g v σ H Q->g0 v σ H Q
structure AR (K:đ) (g0:jR) (g:List (D->Env->Option Env)) (nt:Nat):Prop where
 nX:xq g0 nt
 imp:∀v σ H Q,uR K (gQ g) v σ H Q->g0 v σ H Q
def sD (i:Nat) (hi:i<nt:=by decide):Tg K (qu i) (gN i) nt:=⟨Tr hi,λv σ H Q Y=>by
 obtain⟨w,env,d,Z,U,S,X,W,V,k⟩:=Y;have e:env.set i (ϊ d)=Z:=aeE V;subst e;exact k _ (X.set W i)⟩
def zi:AR K ER [] nt:=⟨Va,λT σ H Q W=>by
 obtain⟨w,env,Y,Z,R,S,V,U,X,k⟩:=W
 cases Y with
 |nil =>
  have e:env=Z:=aeE X;subst e;exact⟨U,k _ V⟩
 |cons d Y=>cases X⟩
def ng (i:Nat) (h:AR K g0 gl nt) (hi:i<nt:=by decide):AR K (DU (qu i) g0) (gN i::gl) nt:=⟨Ts hi h.nX,λO σ H Q W=>by
 obtain⟨w,env,Y,Z,V,S,U,T,X,k⟩:=W
 cases Y with
 |nil=>cases X
 |cons d Y =>
  obtain⟨v,r,rfl,R,P⟩:=T;exact⟨v,r,rfl,h.imp _ _ _ _ ⟨w,_,Y,Z,V,S,U.set R i,P,X,k⟩⟩⟩
def zy (h:AR K g0 gl nt) (hn:gl.length=n:=by rfl):Tg K (ES K n g0) (gT gl) nt:=⟨Vb h.nX,λv σ H Q V=>by
 obtain⟨w,env,d,Z,U,S,T,X,Y,k⟩:=V
 cases d with
 |tup R =>
  erw[DV] at X;obtain⟨p,P,e1,O,W⟩:=X;subst U;exact⟨p,P,e1,O,by rw[<- W.length,yS Y];exact hn,h.imp _ _ _ _ ⟨w,env,R,Z,rfl,S,T,W,Y,k⟩⟩
 |_=>cases Y⟩
section
variable {X:Cx} {Ξ:Wd->bg->Prop} {e a b c tg el src:ě} {es rest tests:List ě} {pos:Pos} {f g h:aez D} {fa:aez (List D)} {ft gt:aez Bool} {st:ad2} {rh E4:List ad2} {fs gs:aez Fl}
def YL (h:PF X tests t) (i:∀ σ H Q,t' σ H Q->t σ H Q):PF X tests t':=λZ s σ H Q I Y=>h Z s σ H Q I (i σ H Q Y)
def eZ:PF X [] (tT K Ξ cS):=YL YA fun σ H Q Z=>by
 obtain⟨w,env,Y,S,W,h⟩:=Z;subst Y;exact aB S h
def tD (h:PT X c (tT K Ξ ft)):PF X [c] (tT K Ξ ft):=YB h
def Sb (i_:∀v σ H Q,g1 v σ H Q->g0 v σ H Q) (wm:∀R R':It->Hp->Prop,(∀J H',R J H'->R' J H')->wi σ H R->wi σ H R') (h:wF wi nt cap g1 tf te σ H Q):wF wi nt cap g0 tf te σ H Q:=by
 refine wm _ _ (λJ H' Y=>?_) h;obtain⟨W,X,step⟩:=Y;refine⟨W,X,λi m Z V hw=>?_⟩
 rcases step i m Z V hw with q | ⟨U,T,N,S,P⟩
 ·exact .inl q
 ·exact .inr ⟨U,T,N,S,λo x O M y=>i_ _ _ _ _ (P o x O M y)⟩
def Vc (R R':It->Hp->Prop) (i:∀J H',R J H'->R' J H') (h:fO K Ξ it σ H R):fO K Ξ it σ H R':=by
 obtain⟨w,env,Z,S,Y,h⟩:=h;exact⟨w,env,Z,S,Y,h.mono λV U _ _ X J W=>i J _ (X J W)⟩
def cH (f:aez D):aez (List D):=λenv s=>ai (f env s) λd s=>match d with
 | .lst Z=>ok Z s
 | .tup Z=>ok Z s
 |_=>ϋ
def Vd {K:đ} {w:Wd} {a:ß} {ds:List D} (h:DV K w (.lst ds) (.ref a)):pJ K w (Fz K a) ds:=λV U T i=>by
 have X:=U _ _ h;erw[DV] at X;obtain⟨p,Z,e,Y,W⟩:=X;cases e;refine⟨λd S=>?_,λR=>⟨Z,Y.sq,by rw[<- W.length];exact R⟩⟩;obtain⟨v,ev,Q⟩:=W.get' i d S;exact⟨⟨Z,v,Y.sq,ev⟩,λx P ⟨e1,e2⟩=>⟨V,e1.symm,Le.refl _,T,rfl,by
  have q:=e2 Z Y.sq;rw[ev] at q;cases q;exact Q⟩⟩
def W0 {K:đ} {w:Wd} {a:ß} {ds:List D} (h:DV K w (.tup ds) (.ref a)):pJ K w (FA K a) ds:=λV U T i=>by
 have X:=U _ _ h;erw[DV] at X;obtain⟨p,Z,e,Y,W⟩:=X;cases e;refine⟨λd S=>?_,λR=>⟨Z,Y,by rw[<- W.length];exact R⟩⟩;obtain⟨v,ev,Q⟩:=W.get' i d S;exact⟨⟨Z,v,Y,ev⟩,λx P ⟨e1,e2⟩=>⟨V,e1.symm,Le.refl _,T,rfl,by
  have q:=e2 Z Y;rw[ev] at q;cases q;exact Q⟩⟩
def gB (hl:PE X a (tE X.K Ξ f)):PI X tg a (fO X.K Ξ (cH f)):=by
 have both:PI X tg a (fun σ H R=>Nv X.K (tE X.K Ξ f) σ H R\/OA X.K (tE X.K Ξ f) σ H R):=λN s σ H R I h=>h.elim (Wt hl N s σ H R I) (Yj hl N s σ H R I);refine sP both fun σ H R ⟨w,env,M,S,W,h⟩=>?_;subst M;erw[cH] at h
 cases Y:f env w.aJ with
 |none=>rw[Y] at h;exact h.elim
 |some r =>
  obtain⟨r,s⟩:=r;rw[Y] at h
  cases r with
  |error x=>exact .inl ⟨w,env,rfl,S,W,by rw[Y];exact h⟩
  |ok d =>
   rw[bU] at h
   cases d with
   |lst L =>
    refine .inl ⟨w,env,rfl,S,W,?_⟩;rw[Y];intro V U T e1 v Z;have Q:=Z;erw[DV] at Z;obtain⟨p,P,rfl,O,J⟩:=Z;exact⟨p,rfl,⟨P,O.sq⟩,h V U T e1 _ (Vd Q)⟩
   |tup L =>
    refine .inr ⟨w,env,rfl,S,W,?_⟩;rw[Y];intro V U T e1 v Z;have Q:=Z;erw[DV] at Z;obtain⟨p,P,rfl,O,J⟩:=Z;exact⟨p,rfl,⟨P,O⟩,h V U T e1 _ (W0 Q)⟩
   |_=>exact h.elim
def df (lo:Int) (n:Nat):List D:=(è n).map λ(i:Nat)=>D.int (lo+(i:Int))
def sE:(df lo n)[i]?=if i<n then ϊ (.int (lo+i)) else ϋ:=by
 delta df;rw[ê];by_cases h:i<n
 ·rw[Ŀ h,Ñ h];rfl
 ·rw[ğ (by simp;omega),Ú h];rfl
def qc:(df lo n).length=n:=by simp[df]
def LG:pJ K w (xQ lo n) (df lo n):=λX V W i=>by
 refine⟨λd Z=>?_,λY=>by rw[qc] at Y;exact Y⟩;rw[sE] at Z;split at Z
 ·cases Z
  exact⟨by assumption,λx U ⟨e1,e2⟩=>⟨X,e1.symm,Le.refl _,W,rfl,e2⟩⟩
 ·cases Z
def kh (j:Int):Bool:=ώ (-(2 ^ 62)<=j)&&ώ (j<2 ^ 62)
def iI (fa:aez (List D)):aez (List D):=λenv s=>ai (fa env s) λZ s=>match Z with
 | [.int j]=>if kh j=ό then ok (df 0 j.toNat) s else ϋ
 |_=>ϋ
def AS (fa:aez (List D)):aez (List D):=λenv s=>ai (fa env s) λZ s=>match Z with
 | [.int i,.int j]=>if (kh i&&kh j)=ό then ok (df i (j-i).toNat) s else ϋ
 |_=>ϋ
def kZ (hg:Gl X "range") (hm:X.mg "range"=ϋ) (ha:PA X [a] (tA X.K Ξ fa)) (hs:Í [a] X.env=[(ύ,ķ a X.env)]:=by rfl):PI X tg (.Call (.Name "range" p) [a] [] pos) (fO X.K Ξ (iI fa)) :=
 sP (SV hg hm ha hs) fun σ H R W=>by
  obtain⟨w,env,V,S,U,h⟩:=W;subst V;refine⟨w,env,rfl,S,U,(Out.ai h).mono λN M L T Z J Q=>?_⟩;split at Z
  ·rename_i j
   split at Z
   ·rename_i Y
    erw[kh,Å,Ë] at Y;obtain⟨v,r,rfl,P,O⟩:=Q;have e1:v=.int j:=P;have e2:r=[]:=O;subst e1 e2;exact⟨j,rfl,Y.1,Y.2,aB T Z _ LG⟩
   ·exact Z.elim
  ·exact Z.elim
def YM {p:Pos} (hg:Gl X "range") (hm:X.mg "range"=ϋ) (ha:PA X [a,b] (tA X.K Ξ fa)) (hs:Í [a,b] X.env=[(ύ,ķ a X.env),(ύ,ķ b X.env)]:=by rfl) (fg:Í [b] X.env=[(ύ,ķ b X.env)]:=by rfl):PI X tg (.Call (.Name "range" p) [a,b] [] pos) (fO X.K Ξ (AS fa)) :=
 sP (SW hg hm ha hs fg) fun σ H R W=>by
  obtain⟨w,env,V,S,U,h⟩:=W;subst V;refine⟨w,env,rfl,S,U,(Out.ai h).mono λJ I G T Z F Q=>?_⟩;split at Z
  ·rename_i i j
   split at Z
   ·rename_i Y
    erw[kh,Å,Ë] at Y;obtain⟨v,r,rfl,P,v2,O,rfl,N,M⟩:=Q;have e1:v=.int i:=P;have e2:v2=.int j:=N;have L:O=[]:=M;subst e1 e2 L;exact⟨i,j,rfl,⟨Y.1.1,Y.1.2,Y.2.1,Y.2.2⟩,aB T Z _ LG⟩
   ·exact Z.elim
  ·exact Z.elim
def jh (xs ys:List D):List D:=(xs.zip ys).map λp=>.tup [p.1,p.2]
def Ve {i:Nat} (h:(jh xs ys)[i]?=ϊ d):∃x y,xs[i]?=ϊ x/\ys[i]?=ϊ y/\d=.tup [x,y]:=by
 delta jh at h;rw[ê] at h
 cases Z:(xs.zip ys)[i]? with
 |none=>rw[Z] at h;cases h
 |some p =>
  rw[Z] at h;obtain⟨Y,X⟩:=List.getElem?_zip_eq_some.mp Z;exact⟨p.1,p.2,Y,X,(aeE h).symm⟩
def BY:(jh xs ys).length=min xs.length ys.length:=by simp[jh]
def Tt (S':aT K w') (hp:w'.H p=ϋ) (h1:DV K w' d x) (h2:DV K w' d2 y) :
  ∃w2,w2.H=upd w'.H p (.tup [x,y])/\Le K w' w2/\aT K w2/\w2.aJ=w'.aJ/\DV K w2 (.tup [d,d2]) (.ref p) :=
 ⟨w'.grow p (.tup [x,y]),rfl,(Fw.grow hp).le,S'.grow hp,rfl,p,[x,y],rfl,bV.of cO,(Fw.grow hp).le.all (ar.two h1 h2)⟩
@[reducible] noncomputable def Gb:Bool->List D->D
 |true=>.tup
 |false=>.lst
def NG {K:đ} {w:Wd} {a:ß} {ds:List D}:∀{k},DV K w (Gb k ds) (.ref a)->∃xs,jV k K w.H a xs/\ar K w ds xs
 |true,h=>by
  erw[DV] at h;obtain⟨p,xs,e,Z,Y⟩:=h;cases e;exact⟨xs,Z,Y⟩
 |false,h=>by
  erw[DV] at h;obtain⟨p,xs,e,Z,Y⟩:=h;cases e;exact⟨xs,Z.sq,Y⟩
def Vf {k l:Bool} {K:đ} {w:Wd} {a b:ß} {ds es:List D} (h:DV K w (Gb k ds) (.ref a)) (g:DV K w (Gb l es) (.ref b)):pJ K w (Am k l K a b) (jh ds es):=λF U O i=>by
 obtain⟨Z,Y,T⟩:=NG (U _ _ h);obtain⟨X,W,S⟩:=NG (U _ _ g);refine⟨λd N=>?_,λM=>⟨Z,X,Y,W,?_⟩⟩
 ·obtain⟨x,y,e1,e2,rfl⟩:=Ve N
  obtain⟨v,ev,L⟩:=T.get' i x e1;obtain⟨u,R,J⟩:=S.get' i y e2;refine⟨⟨Z,X,v,u,Y,W,ev,R⟩,λz E ⟨r,C,y1,I,H,G,V⟩=>?_⟩;obtain⟨Q,P⟩:=V Z X Y W;rw[ev] at Q;rw[R] at P;cases Q;cases P;subst H G;exact Tt O I L J
 ·rw[BY] at M
  have:=T.length;have:=S.length;omega
def Vg {K:đ} {w:Wd} {a b:ß} {ds es:List D} (h:DV K w (.tup ds) (.ref a)) (g:DV K w (.tup es) (.ref b)):pJ K w (ab4 K a b) (jh ds es):=Vf (k:=ό) (l:=ό) h g
def ue (fa:aez (List D)):aez (List D):=λenv s=>ai (fa env s) λZ s=>match Z with
 | [.tup Y,.tup X]=>ok (jh Y X) s
 |_=>ϋ
def aay {p:Pos} {elts:List ě} {kk:Nat} {xl:Pos} (hg:Gl X "zip") (hm:X.mg "zip"=ϋ) (ha:PA X [a,b] (tA X.K Ξ fa)) (hs:Í [a,b] X.env=[(ύ,ķ a X.env),(ύ,ķ b X.env)]:=by rfl) (fg:Í [b] X.env=[(ύ,ķ b X.env)]:=by rfl) :
  PI X (.Tuple elts kk xl) (.Call (.Name "zip" p) [a,b] [] pos) (fO X.K Ξ (ue fa)):=by
 refine sP (WO hg hm ha hs fg) fun σ H R U=>?_;obtain⟨w,env,T,S,Q,h⟩:=U;subst T;refine⟨w,env,rfl,S,Q,(Out.ai h).mono λE D C P h B O=>?_⟩;split at h
 ·obtain⟨v,r,rfl,Z,v2,N,rfl,Y,M⟩:=O
  have L:N=[]:=M;subst L;have W:=Z;have V:=Y;erw[DV] at W V;obtain⟨p,J,rfl,I,_⟩:=W;obtain⟨q,G,rfl,F,_⟩:=V;exact⟨p,q,J,G,rfl,I,F,aB P h _ (Vg Z Y)⟩
 ·exact h.elim
def aG (fn:List D->ae->Res D) (fa:aez (List D)):aez D:=λenv s=>ai (fa env s) λZ s=>ne (fn Z s)
def YN {k:Nat} {fA:ß} {fd:Ĩ} {yc:List Str} {fn:List D->ae->Res D} {x:Str} {p:Pos} (F:cV X.prog X.w X.K X.mg X.base eD k fA fd yc (lS X.K fn)) (hr:bK k X.A) (hg:Gl X x) (hm:X.mg x=ϊ (.ref fA)) (hk:ő X.K (.ref fA)=ό) (hb:Binds X.K fd yc [])
  (ha:PA X (e::es) (tA X.K Ξ fa)) (dQ:(x==("__debug__":Str))=ύ:=by decide) (he:Í (e::es) X.env=(ύ,ķ e X.env)::Í es X.env:=by rfl) (bN:(ī pos (Í es X.env)).any (·.1)=ύ:=by rfl) :
  PE X (.Call (.Name x p) (e::es) [] pos) (tE X.K Ξ (aG fn fa)):=cm (Lp F hr hg hm hk hb .nil aao ha dQ he bN) fun σ H Q Y=>by
 obtain⟨w,env,W,S,V,h⟩:=Y;subst W;refine⟨w,env,rfl,S,V,(Out.ai h).mono λZ U N T R P O=>?_⟩;show lS X.K fn (P++[]) Z.H Q E0;rw[ĥ];exact⟨Z,U,rfl,T,O,R.ne⟩
def ar.env (h:ar K w ds vs) (n:Nat):bX K w (ds.map ϊ++Ö (n-ds.length) ϋ) (vs.map ϊ++Ö (n-vs.length) ϋ):=by
 have X:=h.length;refine⟨by simp[X],λi d e=>?_⟩;by_cases Y:i<ds.length
 ·rw[ç (by simpa using Y),ê] at e
  rw[ç (by simp;omega),ê]
  cases Z:ds[i]? with
  |none=>rw[Z] at e;cases e
  |some V =>
   rw[Z] at e;cases e;obtain⟨v,ev,W⟩:=h.get' i d Z;exact⟨v,by rw[ev];rfl,W⟩
 ·rw[ð (by simpa using δ Y),ı] at e
  split at e<;>cases e
end
def aaz (F:pq K x qual st f fd) (S:sC N ps (cz st))
 (hb:∀(aY:Ç) (A:í) (outer:List PySem.Env) (s:Â) (H:Hp) (E:XK),bK k (A.deeper (ŀ qual (cz st) s.heap.objs.size f aY))->dg (ia eD P w K mg base N qual (cz st) f aY A outer s H E).nS (gr st) (tS K cF b)) :
  cV P w K mg base eD (k+1) f fd ps (lS K (aD ps.length N.length b)):=by
 refine F.ok S (λW H Q E h=>?_) (λaY A outer s H W Q E V h=>?_)
 ·obtain⟨w,U,rfl,S,Y,h⟩:=h
  rw[<- Y.length];delta aD at h;split at h
  ·assumption
  ·exact h.elim
 ·obtain⟨w,U,rfl,S,Y,h⟩:=h
  refine⟨_,hb aY A outer s w.H E V,?_⟩;delta aD at h;split at h
  ·rename_i T
   rw[<- T] at h;refine⟨w,_,rfl,S,Y.env N.length,(Out.ai h).mono λO R M X Z=>?_⟩
   cases R with
   |nx env=>intro L _;exact aB X Z _ rfl
   |rt d=>have q:=aB X Z;exact q
   |bk env=>exact Z.elim
   |ct env=>exact Z.elim
  ·exact h.elim
mutual
noncomputable def py:D->PyData
 | .au=>.none
 | .bl b=>.bool b
 | .int i=>.int i
 | .str x=>.str x
 | .tup Z=>.tuple (fP Z)
 | .lst Z=>.list (fP Z)
 | .cy Y=>.dict (Y.map λp=>(xn p.1,PyData.int p.2))
 | .aj _=>.none
 | .ty _=>.none
 | .bO _=>.none
 | .exc _ _=>.none
 | .dj _ _ _=>.none
noncomputable def fP:List D->List PyData
 | []=>[]
 |d::Z=>py d::fP Z
end
mutual
noncomputable def plain:D->Bool
 | .au=>ό
 | .bl _=>ό
 | .int _=>ό
 | .str _=>ό
 | .tup Z=>qj Z
 | .lst Z=>qj Z
 | .cy _=>ό
 | .aj _=>ύ
 | .ty _=>ύ
 | .bO _=>ύ
 | .exc _ _=>ύ
 | .dj _ _ _=>ύ
noncomputable def qj:List D->Bool
 | []=>ό
 |d::Z=>plain d&&qj Z
end
mutual
noncomputable def lay:D->Bool
 | .au=>ό
 | .bl _=>ό
 | .int _=>ό
 | .str x=>Ó x
 | .tup Z=>cQ Z
 | .lst Z=>cQ Z
 | .cy _=>ύ
 | .aj _=>ύ
 | .ty _=>ύ
 | .bO _=>ύ
 | .exc _ _=>ύ
 | .dj _ _ _=>ύ
noncomputable def cQ:List D->Bool
 | []=>ό
 |d::Z=>lay d&&cQ Z
end
mutual
noncomputable def dep:D->Nat
 | .tup Z=>fL Z+1
 | .lst Z=>fL Z+1
 | .cy Y=>1
 | .au=>0
 | .bl _=>0
 | .int _=>0
 | .str _=>0
 | .aj _=>0
 | .ty _=>0
 | .bO _=>0
 | .exc _ _=>0
 | .dj _ _ _=>0
noncomputable def fL:List D->Nat
 | []=>0
 |d::Z=>max (dep d) (fL Z)
end
mutual
noncomputable def beq:D->D->Bool
 | .au,.au=>ό
 | .bl a,.bl b=>a==b
 | .bl a,.int j=>(if a then 1 else 0)==j
 | .int i,.bl b=>i==(if b then 1 else 0)
 | .int i,.int j=>i==j
 | .str x,.str y=>x==y
 | .tup Z,.tup Y=>oT Z Y
 | .lst Z,.lst Y=>oT Z Y
 |_,_=>ύ
noncomputable def oT:List D->List D->Bool
 | [],[]=>ό
 |x::Z,y::Y=>beq x y&&oT Z Y
 |_,_=>ύ
end
mutual
theorem pU:∀(d:D),lay d=ό->plain d=ό
 | .au,_=>rfl
 | .bl _,_=>rfl
 | .int _,_=>rfl
 | .str _,_=>rfl
 | .tup Z,h=>by erw[lay,plain] at h |-;exact pP Z h
 | .lst Z,h=>by erw[lay,plain] at h |-;exact pP Z h
 | .cy _,h=>by simp[lay] at h
 | .aj _,h=>by simp[lay] at h
 | .ty _,h=>by simp[lay] at h
 | .bO _,h=>by simp[lay] at h
 | .exc _ _,h=>by simp[lay] at h
 | .dj _ _ _,h=>by simp[lay] at h
theorem pP:∀(ds:List D),cQ ds=ό->qj ds=ό
 | [],_=>rfl
 |d::ds,h=>by
  erw[cQ,qj,Å] at h |-;exact⟨pU d h.1,pP ds h.2⟩
end
mutual
theorem nA:∀(d:D),lay d=ό->(py d).canLay0=ό/\(py d).depth=dep d
 | .au,_=>⟨rfl,by simp[py,dep,PyData.depth]⟩
 | .bl _,_=>⟨rfl,by simp[py,dep,PyData.depth]⟩
 | .int _,_=>⟨rfl,by simp[py,dep,PyData.depth]⟩
 | .str _,h=>⟨h,by simp[py,dep,PyData.depth]⟩
 | .tup Z,h=>by
  obtain⟨Y,X⟩:=vH Z (by simpa [lay] using h);erw[py,dep,PyData.depth,PyData.canLay0];exact⟨Y,by rw[X]⟩
 | .lst Z,h=>by
  obtain⟨Y,X⟩:=vH Z (by simpa [lay] using h);erw[py,dep,PyData.depth,PyData.canLay0];exact⟨Y,by rw[X]⟩
 | .cy _,h=>by simp[lay] at h
 | .aj _,h=>by simp[lay] at h
 | .ty _,h=>by simp[lay] at h
 | .bO _,h=>by simp[lay] at h
 | .exc _ _,h=>by simp[lay] at h
 | .dj _ _ _,h=>by simp[lay] at h
theorem vH:∀(ds:List D),cQ ds=ό->PyData.canLayAll0 (fP ds)=ό/\aeh (fP ds)=fL ds
 | [],_=>⟨rfl,rfl⟩
 |d::ds,h=>by
  erw[cQ,Å] at h;obtain⟨a1,a2⟩:=nA d h.1;obtain⟨Z,Y⟩:=vH ds h.2;erw[fP,fL,PyData.canLayAll0,aeh,a1,Z,a2,Y,ĵ,ģ]
end
mutual
theorem wg:∀(d e:D),lay d=ό->lay e=ό->ĩ (py d) (py e)=beq d e
 | .tup Z,.tup Y,h,g=>by
  erw[py,beq,ĩ];exact BZ Z Y (by simpa [lay] using h) (by simpa [lay] using g)
 | .lst Z,.lst Y,h,g=>by
  erw[py,beq,ĩ];exact BZ Z Y (by simpa [lay] using h) (by simpa [lay] using g)
 | .au,e,_,g=>by cases e<;>simp_all [py,beq,ĩ,lay]
 | .bl _,e,_,g=>by cases e<;>simp_all [py,beq,ĩ,lay]
 | .int _,e,_,g=>by cases e<;>simp_all [py,beq,ĩ,lay]
 | .str _,e,_,g=>by cases e<;>simp_all [py,beq,ĩ,lay]
 | .tup _,.au,_,_=>by simp[py,beq,ĩ]
 | .tup _,.bl _,_,_=>by simp[py,beq,ĩ]
 | .tup _,.int _,_,_=>by simp[py,beq,ĩ]
 | .tup _,.str _,_,_=>by simp[py,beq,ĩ]
 | .tup _,.lst _,_,_=>by simp[py,beq,ĩ]
 | .lst _,.au,_,_=>by simp[py,beq,ĩ]
 | .lst _,.bl _,_,_=>by simp[py,beq,ĩ]
 | .lst _,.int _,_,_=>by simp[py,beq,ĩ]
 | .lst _,.str _,_,_=>by simp[py,beq,ĩ]
 | .lst _,.tup _,_,_=>by simp[py,beq,ĩ]
 | .cy _,_,h,_=>by simp[lay] at h
 | .aj _,_,h,_=>by simp[lay] at h
 | .ty _,_,h,_=>by simp[lay] at h
 | .bO _,_,h,_=>by simp[lay] at h
 | .exc _ _,_,h,_=>by simp[lay] at h
 | .dj _ _ _,_,h,_=>by simp[lay] at h
 |_,.cy _,_,h=>by simp[lay] at h
 |_,.aj _,_,h=>by simp[lay] at h
 |_,.ty _,_,h=>by simp[lay] at h
 |_,.bO _,_,h=>by simp[lay] at h
 |_,.exc _ _,_,h=>by simp[lay] at h
 |_,.dj _ _ _,_,h=>by simp[lay] at h
theorem BZ:∀(ds es:List D),cQ ds=ό->cQ es=ό->PyData.eqvAll (fP ds) (fP es)=oT ds es
 | [],[],_,_=>rfl
 | [],_::_,_,_=>rfl
 |_::_,[],_,_=>rfl
 |d::ds,e::es,h,g=>by
  erw[cQ,Å] at h g;erw[fP,oT,PyData.eqvAll,wg d e h.1 g.1,BZ ds es h.2 g.2]
end
mutual
theorem DV.py:∀{d:D} {v:V},DV K w d v->plain d=ό->L2.DV K (λ_=>False) w.H (DI.py d) v
 | .au,_,h,_=>h
 | .bl _,_,h,_=>h
 | .int _,_,h,_=>h
 | .str _,_,h,_=>h
 | .tup X,v,h,p=>by
  erw[DV] at h;obtain⟨a,Y,e,Z,r⟩:=h;erw[DI.py,L2.DV];exact⟨a,Y,e,Z,ar.py r (by simpa [plain] using p)⟩
 | .lst X,v,h,p=>by
  erw[DV] at h;obtain⟨a,Y,e,Z,r⟩:=h;erw[DI.py,L2.DV];exact⟨a,Y,e,not_false,Z.2,ar.py r (by simpa [plain] using p)⟩
 | .cy W,v,h,p=>by
  erw[DV] at h;obtain⟨a,e,U,Z⟩:=h;erw[DI.py,L2.DV];exact⟨a,_,e,not_false,Z,W,rfl,rfl⟩
 | .aj _,_,_,p=>by simp[plain] at p
 | .ty _,_,_,p=>by simp[plain] at p
 | .bO _,_,_,p=>by simp[plain] at p
 | .exc _ _,_,_,p=>by simp[plain] at p
 | .dj _ _ _,_,_,p=>by simp[plain] at p
theorem ar.py:∀{ds:List D} {vs:List V},ar K w ds vs->qj ds=ό->L2.ar K (λ_=>False) w.H (DI.fP ds) vs
 | [],_,h,_=>h
 |d::ds,vs,h,p=>by
  erw[ar] at h;obtain⟨v,r,e,Z,Y⟩:=h;erw[qj,Å] at p;exact⟨v,r,e,DV.py Z p.1,ar.py Y p.2⟩
end
def res (d:D) (s:ae):D:=match d with
 | .aj k=>match s[k]? with
  |some (.lst Z)=>.lst Z
  |_=>d
 |_=>d
theorem DV.res (S:aT K w) (h:DV K w d v) (p:plain (DI.res d w.aJ)=ό):L2.DV K (λ_=>False) w.H (DI.py (DI.res d w.aJ)) v:=by
 cases d with
 |aj k =>
  delta DI.res at p |-;simp only at p |-
  split at p<;>rename_i Z
  ·rename_i V
   obtain⟨a,e1,rfl⟩:=h;obtain⟨Y,X,W⟩:=S.cell k a _ e1 Z;erw[DI.py,L2.DV];exact⟨a,Y,rfl,not_false,X,W.py (by simpa [plain] using p)⟩
  ·simp[plain] at p
 |_=>exact h.py p
def pK:D->Bool
 | .str _=>ό
 |_=>ύ
def YO (h:pK d=ό):∃x,d=.str x:=by cases d<;>first|exact⟨_,rfl⟩|cases h
def ki (x y:D):Option Bool:=if (pK x&&pK y)=ό then ϊ (beq x y) else if (lay x&&lay y&&ώ (min (dep x) (dep y)<=100))=ό then ϊ (beq x y) else ϋ
def aW (x y:D) (s:ae):Res D:=match ki (res x s) (res y s) with
 |some b=>ok (.bl b) s
 |none=>ϋ
def dZ (x y:D) (s:ae):Res D:=match ki (res x s) (res y s) with
 |some b=>ok (.bl (!b)) s
 |none=>ϋ
def LH (S:aT K w) (hx:DV K w x v) (hy:DV K w y u) (h:ki (res x w.aJ) (res y w.aJ)=ϊ b) :
  (EV v u=ό/\ώ (v=u)=b)\/∃(d e:PyData),L2.DV K (λ_=>False) w.H d v/\L2.DV K (λ_=>False) w.H e u/\d.canLay0=ό/\e.canLay0=ό/\min d.depth e.depth<=100/\ĩ d e=b:=by
 have str:∀{d:D} {v:V},pK (res d w.aJ)=ό->DV K w d v->∃x,res d w.aJ=.str x/\v=.str x:=λ{d v} Z U=>by
  obtain⟨x,e⟩:=YO Z
  cases d with
  |str y=>cases e;exact⟨x,rfl,U⟩
  |aj k =>
   delta res at e;simp only at e
   split at e<;>cases e
  |_=>cases e
 delta ki at h;split at h
 ·rename_i Z
  rw[Å] at Z;obtain⟨a,T,rfl⟩:=str Z.1 hx;obtain⟨c,R,rfl⟩:=str Z.2 hy;rw[T,R] at h;exact .inl ⟨rfl,by rw[<- aeE h];exact Cq⟩
 split at h
 ·rename_i W
  right;erw[Å,Ë] at W;obtain⟨⟨Y,X⟩,Q⟩:=W;obtain⟨P,O⟩:=nA _ Y;obtain⟨N,M⟩:=nA _ X;exact⟨_,_,hx.res S (pU _ Y),hy.res S (pU _ X),P,N,by rw[O,M];exact Q,by rw[wg _ _ Y X];exact aeE h⟩
 ·cases h
section
variable {X:Cx} {Ξ:Wd->bg->Prop}
def bQ (hr:bK k X.A):bM X (ĕ .Eq) (rO X.K Ξ aW):=by
 intro W s σ H x y v u Q I V U zzz;obtain⟨w,J,G,rfl,S,T,R,h⟩:=zzz;delta aW at h;split at h
 ·rename_i b P
  rcases LH S T R P with ⟨Z,Y⟩ | ⟨d,e,Z,Y,O,N,M,L⟩
  ·exact aab W s σ w.H x y v u Q I V U ⟨Z,by rw[Y];exact aB S h _ rfl⟩
  exact YC hr W s σ w.H x y v u Q I V U ⟨d,e,_,Z,Y,O,N,M,by erw[Æ,ï];rw[L];exact aB S h _ rfl⟩
 ·exact h.elim
def kA (hr:bK k X.A):bM X (ĕ .NotEq) (rO X.K Ξ dZ):=by
 intro W s σ H x y v u Q I V U zzz;obtain⟨w,J,G,rfl,S,T,R,h⟩:=zzz;delta dZ at h;split at h
 ·rename_i b P
  rcases LH S T R P with ⟨Z,Y⟩ | ⟨d,e,Z,Y,O,N,M,L⟩
  ·exact Nx W s σ w.H x y v u Q I V U ⟨Z,by rw[Y];exact aB S h _ rfl⟩
  exact YD hr W s σ w.H x y v u Q I V U ⟨d,e,_,Z,Y,O,N,M,by erw[ò];rw[L];exact aB S h _ rfl⟩
 ·exact h.elim
end
end DI
namespace DI
open PySem L2
def bS (r:Option D) (s:ae):Res D:=match r with
 |some d=>ok d s
 |none=>ϋ
def gu (h:Out K Ξ w (bS r w.aJ) k):∃d,r=ϊ d/\Out K Ξ w (ok d w.aJ) k:=by
 delta bS at h;split at h
 ·exact⟨_,rfl,h⟩
 ·exact h.elim
def oU (xs ys:List D):Bool:=ώ (xs.length+ys.length<=Õ)
def OJ:D->D->Option D
 | .int i,.int j=>ϊ (.int (i+j))
 | .tup Z,.tup Y=>if oU Z Y=ό then ϊ (.tup (Z++Y)) else ϋ
 | .lst Z,.lst Y=>if oU Z Y=ό then ϊ (.lst (Z++Y)) else ϋ
 | .str x,.str y=>if ώ (x.length+y.length<=Õ)=ό then ϊ (.str (x++y)) else ϋ
 |_,_=>ϋ
def bh (x y:D) (s:ae):Res D:=bS (OJ (res x s) (res y s)) s
def OK:D->D->Option D
 | .int i,.int j=>ϊ (.int (i-j))
 |_,_=>ϋ
def wI (x y:D) (s:ae):Res D:=bS (OK x y) s
def wJ (i j:Int):Bool:=(ώ (-(2 ^ 64)<i)&&ώ (i<2 ^ 64))||(ώ (-(2 ^ 64)<j)&&ώ (j<2 ^ 64))
def E6:D->D->Option D
 | .int i,.int j=>if wJ i j=ό then ϊ (.int (i*j)) else ϋ
 | .tup Z,.int k=>if (!Z.isEmpty&&ώ (1<=k)&&ώ (Z.length*k.toNat<=Õ))=ό then ϊ (.tup (Ö k.toNat Z).flatten) else ϋ
 | .lst Z,.int k=>if (ώ (-(2 ^ 63)<=k)&&ώ (k<2 ^ 63)&&ώ (Z.length*k.toNat<=Õ))=ό then ϊ (.lst (Ö k.toNat Z).flatten) else ϋ
 |_,_=>ϋ
def jI (x y:D) (s:ae):Res D:=bS (E6 x y) s
def E7:D->D->Option D
 | .int i,.int j=>if ώ (0<j)=ό then ϊ (.int (i % j)) else ϋ
 |_,_=>ϋ
def nF (x y:D) (s:ae):Res D:=bS (E7 x y) s
def E8:D->D->Option D
 | .int i,.int j=>if (ώ (0<j)&&ώ (j<1073741824))=ό then ϊ (.int (i / j)) else ϋ
 |_,_=>ϋ
def wK (x y:D) (s:ae):Res D:=bS (E8 x y) s
def E9:D->D->Option D
 | .int i,.int j=>if (ώ (0<=j)&&ώ (j<=1000000)&&ώ (i.natAbs<2 ^ 64))=ό then ϊ (.int (i ^ j.toNat)) else ϋ
 |_,_=>ϋ
def wL (x y:D) (s:ae):Res D:=bS (E9 x y) s
def OL:D->Option D
 | .int i=>ϊ (.int (-i))
 |_=>ϋ
def qy (x:D) (s:ae):Res D:=bS (OL x) s
theorem ar.flat (h:ar K w ds vs):∀n:Nat,ar K w (Ö n ds).flatten (Ö n vs).flatten
 |0=>rfl
 |n+1=>by
  rw[Ŏ,Ŏ,ŏ,ŏ];exact ar.append h (ar.flat h n)
def kR (S:aT K w) (h:DV K w d v) (e:res d w.aJ=.lst ds):∃a xs,v=.ref a/\w.H a=ϊ (.lst xs)/\ar K w ds xs:=by
 delta res at e;split at e
 ·rename_i k
  split at e
  ·rename_i V Z
   cases e;obtain⟨a,e1,rfl⟩:=h;obtain⟨xs,Y,X⟩:=S.cell k a _ e1 Z;exact⟨a,xs,rfl,Y,X⟩
  ·cases e
 ·subst e
  erw[DV] at h;obtain⟨a,xs,e,W,r⟩:=h;exact⟨a,xs,e,W.2,r⟩
def fG (h:res d s=e) (hl:∀ds,e≠.lst ds):d=e:=by
 delta res at h;split at h
 ·split at h
  ·exact absurd h.symm (hl _)
  ·exact h
 ·exact h
section
variable {X:Cx} {Ξ:Wd->bg->Prop}
def xo (S:aT K w) (ak:ar K w ds vs) (h:Out K Ξ w (ok (D.tup ds) w.aJ) λw' d=>∀v,DV K w' d v->Q v w'.H):oR K w.H vs Q:=λa Z e Y =>
 h (w.same Z) (Fw.same e).le (S.same e) rfl (.ref a) ⟨a,vs,rfl,Y,(Fw.same e).le.all ak⟩
def Au {K:đ} {w:Wd} {ds:List D} {vs:List V} {Q:VK} (S:aT K w) (ak:ar K w ds vs) (h:Out K Ξ w (ok (D.lst ds) w.aJ) λw' d=>∀v,DV K w' d v->Q v w'.H):∀p,w.H p=ϋ->Q (.ref p) (upd w.H p (.lst vs)):=λp Y =>
 h (w.grow p (.lst vs)) (Fw.grow Y).le (S.grow Y) rfl (.ref p) ⟨p,vs,rfl,⟨(show ¬ w.Z p from ma S Y),cO⟩,(Fw.grow Y).le.all ak⟩
def YQ {K:đ} {w:Wd} {ds:List D} {vs:List V} {Q:VK} (S:aT K w) (ak:ar K w ds vs) (h:Out K Ξ w (ok (D.tup ds) w.aJ) λw' d=>∀v,DV K w' d v->Q v w'.H):∀p,w.H p=ϋ->Q (.ref p) (upd w.H p (.tup vs)):=λp Z =>
 h (w.grow p (.tup vs)) (Fw.grow Z).le (S.grow Z) rfl (.ref p) ⟨p,vs,rfl,bV.of cO,(Fw.grow Z).le.all ak⟩
def cp:bM X (ņ .Add) (rO X.K Ξ bh):=by
 intro T s σ H x y v u Q I R P zzz;obtain⟨w,J,G,rfl,S,Z,Y,h⟩:=zzz;obtain⟨d,e,h⟩:=gu h;delta OJ at e;split at e
 ·rename_i i j e1 e2
  rw[fG e1 (by intro _ z;cases z)] at Z;rw[fG e2 (by intro _ z;cases z)] at Y;cases e;cases Z;cases Y;exact Yl T s σ w.H _ _ v u Q I R P ⟨i,j,rfl,rfl,aB S h _ rfl⟩
 ·rename_i M L e1 e2
  rw[fG e1 (by intro _ z;cases z)] at Z;rw[fG e2 (by intro _ z;cases z)] at Y;split at e
  ·rename_i W
   cases e;erw[DV] at Z Y;obtain⟨a,as,rfl,O,V⟩:=Z;obtain⟨b,bs,rfl,N,U⟩:=Y;exact WI T s σ w.H _ _ v u Q I R P ⟨a,b,as,bs,rfl,rfl,O,N,by rw[<- V.length,<- U.length];exact æ W,xo S (V.append U) h⟩
  ·cases e
 ·rename_i M L e1 e2
  split at e
  ·rename_i W
   cases e;obtain⟨a,as,rfl,O,V⟩:=kR S Z e1;obtain⟨b,bs,rfl,N,U⟩:=kR S Y e2;exact Yy T s σ w.H _ _ v u Q I R P ⟨a,b,as,bs,rfl,rfl,O,N,by rw[<- V.length,<- U.length];exact æ W,Au S (V.append U) h⟩
  ·cases e
 ·rename_i i j e1 e2
  rw[fG e1 (by intro _ z;cases z)] at Z;rw[fG e2 (by intro _ z;cases z)] at Y;split at e
  ·rename_i W
   cases e;cases Z;cases Y;exact RO T s σ w.H _ _ v u Q I R P ⟨i,j,rfl,rfl,æ W,aB S h _ rfl⟩
  ·cases e
 ·cases e
def NH:bM X (ņ .Sub) (rO X.K Ξ wI):=by
 intro Z s σ H x y v u Q I Y W zzz;obtain⟨w,T,R,rfl,S,V,U,h⟩:=zzz;obtain⟨d,e,h⟩:=gu h;delta OK at e;split at e
 ·rename_i i j
  cases e;cases V;cases U;exact Ym Z s σ w.H _ _ v u Q I Y W ⟨i,j,rfl,rfl,aB S h _ rfl⟩
 ·cases e
def wM:bM X (ņ .Mult) (rO X.K Ξ jI):=by
 intro V s σ H x y v u Q I U T zzz;obtain⟨w,M,L,rfl,S,Y,R,h⟩:=zzz;obtain⟨d,e,h⟩:=gu h;delta E6 at e;split at e
 ·rename_i i j
  split at e
  ·rename_i Z
   cases e;cases Y;cases R;refine Yn V s σ w.H _ _ v u Q I U T ⟨i,j,rfl,rfl,?_,aB S h _ rfl⟩;delta Aj;simpa [wJ] using Z
  ·cases e
 ·rename_i O k
  split at e
  ·rename_i Z
   cases e;cases R;erw[Å,Ë] at Z;erw[DV] at Y;obtain⟨a,as,rfl,P,W⟩:=Y;have N:=W.length;refine WV V s σ w.H _ _ v u Q I U T ⟨a,as,k,rfl,rfl,P,?_,Z.1.2,by rw[<- N];exact Z.2,xo S (W.flat _) h⟩;intro z;subst z
   cases O with
   |nil=>simp at Z
   |cons _ _=>cases N
  ·cases e
 ·rename_i O k
  split at e
  ·rename_i Z
   cases e;cases R;erw[Å,Ë] at Z;erw[DV] at Y;obtain⟨a,as,rfl,P,W⟩:=Y;exact Yz V s σ w.H _ _ v u Q I U T ⟨a,k,as,rfl,rfl,P.2,Z.1.1,Z.1.2,by rw[<- W.length];exact Z.2,Au S (W.flat _) h⟩
  ·cases e
 ·cases e
def tF:bM X (ņ .Mod) (rO X.K Ξ nF):=by
 intro Z s σ H x y v u Q I Y W zzz;obtain⟨w,R,P,rfl,S,V,U,h⟩:=zzz;obtain⟨d,e,h⟩:=gu h;delta E7 at e;split at e
 ·rename_i i j
  split at e
  ·rename_i T
   cases e;cases V;cases U;exact Yo Z s σ w.H _ _ v u Q I Y W ⟨i,j,rfl,rfl,æ T,aB S h _ rfl⟩
  ·cases e
 ·cases e
def NI:bM X (ņ .FloorDiv) (rO X.K Ξ wK):=by
 intro Y s σ H x y v u Q I W V zzz;obtain⟨w,R,P,rfl,S,U,T,h⟩:=zzz;obtain⟨d,e,h⟩:=gu h;delta E8 at e;split at e
 ·rename_i i j
  split at e
  ·rename_i Z
   erw[Å,Ë] at Z;cases e;cases U;cases T;exact Wu Y s σ w.H _ _ v u Q I W V ⟨i,j,rfl,rfl,Z,aB S h _ rfl⟩
  ·cases e
 ·cases e
def NJ:bM X (ņ .Pow) (rO X.K Ξ wL):=by
 intro Y s σ H x y v u Q I W V zzz;obtain⟨w,R,P,rfl,S,U,T,h⟩:=zzz;obtain⟨d,e,h⟩:=gu h;delta E9 at e;split at e
 ·rename_i i j
  split at e
  ·rename_i Z
   erw[Å,Ë] at Z;cases e;cases U;cases T;exact Yp Y s σ w.H _ _ v u Q I W V ⟨i,j,rfl,rfl,⟨Z.1.1,Z.1.2,Z.2⟩,aB S h _ rfl⟩
  ·cases e
 ·cases e
def zW:xT X (unaryOp .USub) (rU X.K Ξ qy):=by
 intro Z s σ H x v Q I Y zzz;obtain⟨w,V,rfl,S,W,h⟩:=zzz;obtain⟨d,e,h⟩:=gu h;delta OL at e;split at e
 ·rename_i i
  cases e;cases W;exact Mr Z s σ w.H _ v Q I Y ⟨i,rfl,aB S h _ rfl⟩
 ·cases e
def ug (p:Int->Int->Bool):D->D->Option D
 | .int i,.int j=>ϊ (.bl (p i j))
 |_,_=>ϋ
def lu (x y:D) (s:ae):Res D:=bS (ug (λi j=>ώ (i<=j)) x y) s
def Av (x y:D) (s:ae):Res D:=bS (ug (λi j=>ώ (j<i)) x y) s
def xr (x y:D) (s:ae):Res D:=bS (ug (λi j=>ώ (j<=i)) x y) s
def uh:bM X (ĕ .LtE) (rO X.K Ξ lu):=by
 intro Z s σ H x y v u Q I Y W zzz;obtain⟨w,T,R,rfl,S,V,U,h⟩:=zzz;obtain⟨d,e,h⟩:=gu h;delta ug at e;split at e
 ·rename_i i j
  cases e;cases V;cases U;exact aac Z s σ w.H _ _ v u Q I Y W ⟨i,j,rfl,rfl,aB S h _ rfl⟩
 ·cases e
def acd:bM X (ĕ .Gt) (rO X.K Ξ Av):=by
 intro Z s σ H x y v u Q I Y W zzz;obtain⟨w,T,R,rfl,S,V,U,h⟩:=zzz;obtain⟨d,e,h⟩:=gu h;delta ug at e;split at e
 ·rename_i i j
  cases e;cases V;cases U;exact aad Z s σ w.H _ _ v u Q I Y W ⟨i,j,rfl,rfl,aB S h _ rfl⟩
 ·cases e
def OM:bM X (ĕ .GtE) (rO X.K Ξ xr):=by
 intro Z s σ H x y v u Q I Y W zzz;obtain⟨w,T,R,rfl,S,V,U,h⟩:=zzz;obtain⟨d,e,h⟩:=gu h;delta ug at e;split at e
 ·rename_i i j
  cases e;cases V;cases U;exact aae Z s σ w.H _ _ v u Q I Y W ⟨i,j,rfl,rfl,aB S h _ rfl⟩
 ·cases e
def kJ (d i:D) (s:ae):Option D:=match res d s,i with
 | .lst Z,.int i=>cW Z i
 | .tup Z,.int i=>cW Z i
 | .bO Y,.int i=>(cW Y i).map D.int
 | .str x,.int i=>if ώ (x.length<=Õ)=ό then (cW x.cps.toList i).map λc=>.str ⟨#[c]⟩ else ϋ
 |_,_=>ϋ
def ay (x y:D) (s:ae):Res D:=bS (kJ x y s) s
theorem ar.at (h:ar K w ds vs) (e:cW ds i=ϊ d):∃v,cW vs i=ϊ v/\DV K w d v:=by
 delta cW at e |-;rw[h.length] at e
 cases Z:gG vs.length i with
 |none=>rw[Z] at e;cases e
 |some j =>
  rw[Z] at e;exact h.get' j d e
def ace:xW X (rO X.K Ξ ay):=by
 rintro value slice T s σ H x y v u Q I R P ⟨w,A,t,rfl,S,Z,O,h⟩ N;obtain⟨d,e,M⟩:=gu h;clear h;delta kJ at e;split at e
 ·rename_i C i e1
  cases O;obtain⟨a,L,rfl,W,J⟩:=kR S Z e1;obtain⟨z,G,F⟩:=J.at e;exact Lw value slice T s σ w.H _ _ v u Q I R P ⟨a,L,i,z,rfl,rfl,bY.of W,G,aB S M _ F⟩ N
 ·rename_i C i e1
  cases O;rw[fG e1 (by intro _ z;cases z)] at Z;erw[DV] at Z;obtain⟨a,L,rfl,W,J⟩:=Z;obtain⟨z,G,F⟩:=J.at e;exact Yv value slice T s σ w.H _ _ v u Q I R P ⟨a,L,i,z,rfl,rfl,W,G,aB S M _ F⟩ N
 ·rename_i U i e1
  cases O;rw[fG e1 (by intro _ z;cases z)] at Z;erw[DV] at Z;obtain⟨a,rfl,W⟩:=Z
  cases Y:cW U i with
  |none=>rw[Y] at e;cases e
  |some n =>
   rw[Y] at e;cases e;refine Lw value slice T s σ w.H _ _ v u Q I R P ⟨a,U.map V.int,i,.int n,rfl,rfl,W.sq,?_,aB S M _ rfl⟩ N;delta cW at Y |-;rw[É]
   cases D:gG U.length i with
   |none=>rw[D] at Y;cases Y
   |some j =>
    rw[D] at Y;show (U.map V.int)[j]?=ϊ (.int n);rw[ê,show U[j]?=ϊ n from Y];rfl
 ·rename_i z i e1
  cases O;rw[fG e1 (by intro _ z;cases z)] at Z;cases Z;split at e
  ·rename_i B
   cases E:cW z.cps.toList i with
   |none=>rw[E] at e;cases e
   |some c =>
    rw[E] at e;cases e;exact Dd value slice T s σ w.H _ _ v u Q I R P ⟨z,i,c,rfl,rfl,æ B,E,aB S M _ rfl⟩ N
  ·cases e
 ·cases e
def bw (ha:PE X a (tE X.K Ξ f)) (hb:PE X b (tE X.K Ξ g)) (hs:Lu b:=by intro _ _;rfl):PE X (.Subscript a b pos) (tE X.K Ξ (e2 ay f g)):=cm (aal ace ha hb hs) zh
def nN (d:D) (s:ae):Option D:=match res d s with
 | .lst Z=>ϊ (.int Z.length)
 | .tup Z=>ϊ (.int Z.length)
 | .bO Y=>ϊ (.int Y.length)
 | .str x=>if ώ (x.length<=Õ)=ό then ϊ (.int x.length) else ϋ
 |_=>ϋ
def cI (ds:List D) (s:ae):Res D:=match ds with
 | [d]=>bS (nN d s) s
 |_=>ϋ
def ou (h:ar K w [d] vs):∃v,vs=[v]/\DV K w d v:=by
 obtain⟨v,r,rfl,Z,Y⟩:=h;have e:r=[]:=Y;subst e;exact⟨v,rfl,Z⟩
def wj (h:ar K w [d,e] vs):∃v u,vs=[v,u]/\DV K w d v/\DV K w e u:=by
 obtain⟨v,r,rfl,Z,h⟩:=h;obtain⟨u,rfl,Y⟩:=ou h;exact⟨v,u,rfl,Z,Y⟩
def fX:cT X (.builtin "len") (rC X.K Ξ cI):=by
 intro U s σ H T R Q I r zzz;obtain⟨w,M,rfl,S,Y,h⟩:=zzz;delta cI at h;split at h
 ·obtain⟨v,rfl,Z⟩:=ou Y
  obtain⟨d,e,h⟩:=gu h;delta nN at e;split at e
  ·rename_i P e1
   cases e;obtain⟨a,T,rfl,W,Y⟩:=kR S Z e1;exact Bn U s σ w.H _ R Q I r ⟨a,T,rfl,.inl (bY.of W),by rw[<- Y.length];exact aB S h _ rfl⟩
  ·rename_i P e1
   cases e;rw[fG e1 (by intro _ z;cases z)] at Z;erw[DV] at Z;obtain⟨a,T,rfl,W,Y⟩:=Z;exact Bn U s σ w.H _ R Q I r ⟨a,T,rfl,.inr W,by rw[<- Y.length];exact aB S h _ rfl⟩
  ·rename_i O e1
   cases e;rw[fG e1 (by intro _ z;cases z)] at Z;erw[DV] at Z;obtain⟨a,rfl,W⟩:=Z;exact Bn U s σ w.H _ R Q I r ⟨a,O.map V.int,rfl,.inl W.sq,by rw[É];exact aB S h _ rfl⟩
  ·rename_i z e1
   rw[fG e1 (by intro _ z;cases z)] at Z;cases Z;split at e
   ·rename_i N
    cases e;exact QR U s σ w.H _ R Q I r ⟨z,rfl,æ N,aB S h _ rfl⟩
   ·cases e
  ·cases e
 ·exact h.elim
def iu:List D->Option (List Bool)
 | []=>ϊ []
 | .bl b::Z=>(iu Z).map λr=>b::r
 |_::_=>ϋ
theorem wk:∀{ds:List D} {bs:List Bool},iu ds=ϊ bs->ds=bs.map D.bl
 | [],bs,h=>by cases h;rfl
 | .bl b::ds,bs,h=>by
  erw[iu] at h
  cases Z:iu ds with
  |none=>rw[Z] at h;cases h
  |some r=>rw[Z] at h;cases h;rw[wk Z];rfl
 | .au::_,_,h=>by cases h
 | .int _::_,_,h=>by cases h
 | .str _::_,_,h=>by cases h
 | .tup _::_,_,h=>by cases h
 | .lst _::_,_,h=>by cases h
 | .cy _::_,_,h=>by cases h
 | .aj _::_,_,h=>by cases h
 | .ty _::_,_,h=>by cases h
 | .bO _::_,_,h=>by cases h
 | .exc _ _::_,_,h=>by cases h
 | .dj _ _ _::_,_,h=>by cases h
def W2:iu (bs.map D.bl)=ϊ bs:=by
 induction bs with
 |nil=>rfl
 |cons b bs ih=>erw[à,iu,ih,abI]
def mw (ds:List D) (s:ae):Res D:=match ds with
 | [d]=>match res d s with
  | .lst Z=>bS ((iu Z).map λbs=>.bl (bs.all id)) s
  |_=>ϋ
 |_=>ϋ
def ui (ds:List D) (s:ae):Res D:=match ds with
 | [d]=>match res d s with
  | .lst Z=>bS ((iu Z).map λbs=>.bl (bs.any id)) s
  |_=>ϋ
 |_=>ϋ
def tG (hc:X.calm=ό):cT X (.builtin "all") (rC X.K Ξ mw):=by
 intro V s σ H U T Q I r zzz;obtain⟨w,O,rfl,S,Z,h⟩:=zzz;delta mw at h;split at h
 ·obtain⟨v,rfl,R⟩:=ou Z
  split at h
  ·rename_i P e1
   obtain⟨d,e,h⟩:=gu h
   cases Y:iu P with
   |none=>rw[Y] at e;cases e
   |some bs =>
    rw[Y] at e;cases e;obtain⟨a,U,rfl,W,Z⟩:=kR S R e1;rw[wk Y] at Z;rw[Z.vQ] at W;exact UN hc V s σ w.H _ T Q I r ⟨a,bs,rfl,bY.of W,aB S h _ rfl⟩
  ·exact h.elim
 ·exact h.elim
def NK (hc:X.calm=ό):cT X (.builtin "any") (rC X.K Ξ ui):=by
 intro V s σ H U T Q I r zzz;obtain⟨w,O,rfl,S,Z,h⟩:=zzz;delta ui at h;split at h
 ·obtain⟨v,rfl,R⟩:=ou Z
  split at h
  ·rename_i P e1
   obtain⟨d,e,h⟩:=gu h
   cases Y:iu P with
   |none=>rw[Y] at e;cases e
   |some bs =>
    rw[Y] at e;cases e;obtain⟨a,U,rfl,W,Z⟩:=kR S R e1;rw[wk Y] at Z;rw[Z.vQ] at W;exact UO hc V s σ w.H _ T Q I r ⟨a,bs,rfl,bY.of W,aB S h _ rfl⟩
  ·exact h.elim
 ·exact h.elim
def wN (ds:List D) (s:ae):Res D:=match ds with
 | [.int i,.int j]=>ok (.int (if j > i then j else i)) s
 |_=>ϋ
def wO (ds:List D) (s:ae):Res D:=match ds with
 | [.int i,.int j]=>ok (.int (if j<i then j else i)) s
 |_=>ϋ
def YR (hc:X.calm=ό):cT X (.builtin "max") (rC X.K Ξ wN):=by
 intro Z s σ H T Y Q I r zzz;obtain⟨w,R,rfl,S,W,h⟩:=zzz;delta wN at h;split at h
 ·rename_i i j
  obtain⟨v,u,rfl,V,U⟩:=wj W;cases V;cases U;exact SY hc Z s σ w.H _ Y Q I r ⟨i,j,rfl,aB S h _ rfl⟩
 ·exact h.elim
def YS (hc:X.calm=ό):cT X (.builtin "min") (rC X.K Ξ wO):=by
 intro Z s σ H T Y Q I r zzz;obtain⟨w,R,rfl,S,W,h⟩:=zzz;delta wO at h;split at h
 ·rename_i i j
  obtain⟨v,u,rfl,V,U⟩:=wj W;cases V;cases U;exact S0 hc Z s σ w.H _ Y Q I r ⟨i,j,rfl,aB S h _ rfl⟩
 ·exact h.elim
def md (ds:List D) (s:ae):Res D:=match ds with
 | [d]=>match res d s with
  | .lst Z=>ok (.tup Z) s
  | .tup Z=>ok (.tup Z) s
  |_=>ϋ
 |_=>ϋ
def zj:cT X (.type "tuple") (rC X.K Ξ md):=by
 intro U s σ H Y T Q I r zzz;obtain⟨w,O,rfl,S,W,h⟩:=zzz;delta md at h;split at h
 ·obtain⟨v,rfl,Z⟩:=ou W
  split at h
  ·rename_i R e1
   obtain⟨a,Y,rfl,V,W⟩:=kR S Z e1;exact ID U s σ w.H _ T Q I r ⟨a,Y,rfl,.inl ⟨bY.of V,YQ S W h⟩⟩
  ·rename_i R e1
   rw[fG e1 (by intro _ z;cases z)] at Z;have P:=Z;erw[DV] at Z;obtain⟨a,Y,rfl,V,W⟩:=Z;exact ID U s σ w.H _ T Q I r ⟨a,Y,rfl,.inr ⟨V,aB S h _ P⟩⟩
  ·exact h.elim
 ·exact h.elim
end
def nG (n:Nat) (x:D) (ds:List D):Bool:=lay x&&cQ ds&&ώ (dep x<=n)
def inD (x:D) (ds:List D):Option Bool:=if nG 100 x ds=ό then ϊ (ds.any λy=>beq y x) else ϋ
def nH (d:D) (s:ae):Option (List D):=match res d s with
 | .lst Z=>ϊ Z
 | .tup Z=>ϊ Z
 |_=>ϋ
def fe (x y:D) (s:ae):Res D:=match nH y s with
 |some Z=>bS ((inD x Z).map D.bl) s
 |none=>ϋ
def fT (x y:D) (s:ae):Res D:=match nH y s with
 |some Z=>bS ((inD x Z).map λb=>D.bl (!b)) s
 |none=>ϋ
def KI (S:aT K w) (h:DV K w d v) (e:nH d w.aJ=ϊ ds):∃a xs,v=.ref a/\(w.H a=ϊ (.lst xs)\/bV K w.H a xs)/\ar K w ds xs:=by
 delta nH at e;split at e
 ·rename_i X e1
  cases e;obtain⟨a,xs,rfl,Z,Y⟩:=kR S h e1;exact⟨a,xs,rfl,.inl Z,Y⟩
 ·rename_i X e1
  cases e;rw[fG e1 (by intro _ z;cases z)] at h;erw[DV] at h;obtain⟨a,xs,rfl,Z,Y⟩:=h;exact⟨a,xs,rfl,.inr Z,Y⟩
 ·cases e
section
variable {X:Cx} {Ξ:Wd->bg->Prop} {π:List (ß×Obj)} {σ:St} {s:Â}
theorem Dj (lx:lay x=ό):∀{ds:List D},cQ ds=ό->((fP ds).any λy=>ĩ y (py x))=ds.any λy=>beq y x
 | [],_=>rfl
 |d::ds,h=>by
  erw[cQ,Å] at h;erw[fP,List.any_cons,wg d x h.1 lx,Dj lx h.2]
def ME (h:inD x ds=ϊ b):lay x=ό/\cQ ds=ό/\dep x<=100/\(ds.any λy=>beq y x)=b:=by
 delta inD nG at h;split at h
 ·rename_i Z
  erw[Å,Ë] at Z;exact⟨Z.1.1,Z.1.2,Z.2,aeE h⟩
 ·cases h
def lA (hr:bK k X.A):bM X (ĕ .In) (rO X.K Ξ fe):=by
 intro π s σ H x y v u Q I J T zzz;obtain⟨w,W,B,rfl,S,G,F,h⟩:=zzz;delta fe at h;split at h
 ·rename_i Z E
  obtain⟨d,e,h⟩:=gu h
  cases V:inD W Z with
  |none=>rw[V] at e;cases e
  |some b =>
   rw[V] at e;cases e;obtain⟨U,Y,z,D⟩:=ME V;obtain⟨R,C⟩:=nA _ U;obtain⟨P,t⟩:=vH _ Y;obtain⟨bs,O⟩:=(G.py (pU _ U)).reads I J;have N:X.A.units+1+min (aeh (fP Z)) (py W).depth<cLine:=by
    have:=hr.un;rw[C];omega
   obtain⟨a,M,rfl,ha,L⟩:=KI S F E;have fin:EP X π σ Q (.bool ((fP Z).any λy=>ĩ y (py W))) s:=⟨.bl b,w.H,I,by rw[Dj U Y,D];rfl,aB S h _ rfl⟩
   rcases ha with ha|ha
   ·obtain⟨cs,rc⟩:=(show L2.DV X.K (λ_=>False) w.H (.list (fP Z)) (.ref a) by erw[L2.DV];exact⟨a,M,rfl,not_false,ha,L.py (pP _ Y)⟩).reads I T
    exact SeqAt.in_list_reads rc O P R N fin
   ·obtain⟨cs,rc⟩:=(show L2.DV X.K (λ_=>False) w.H (.tuple (fP Z)) (.ref a) by erw[L2.DV];exact⟨a,M,rfl,ha,L.py (pP _ Y)⟩).reads I T
    exact SeqAt.in_tuple_reads rc O P R N fin
 ·exact h.elim
def vU (hr:bK k X.A):bM X (ĕ .NotIn) (rO X.K Ξ fT):=by
 intro π s σ H x y v u Q I J T zzz;obtain⟨w,W,B,rfl,S,G,F,h⟩:=zzz;delta fT at h;split at h
 ·rename_i Z E
  obtain⟨d,e,h⟩:=gu h
  cases V:inD W Z with
  |none=>rw[V] at e;cases e
  |some b =>
   rw[V] at e;cases e;obtain⟨U,Y,z,D⟩:=ME V;obtain⟨R,C⟩:=nA _ U;obtain⟨P,t⟩:=vH _ Y;obtain⟨bs,O⟩:=(G.py (pU _ U)).reads I J;have N:X.A.units+1+min (aeh (fP Z)) (py W).depth<cLine:=by
    have:=hr.un;rw[C];omega
   obtain⟨a,M,rfl,ha,L⟩:=KI S F E;have fin:EP X π σ Q (.bool (!(fP Z).any λy=>ĩ y (py W))) s:=⟨.bl (!b),w.H,I,by rw[Dj U Y,D];rfl,aB S h _ rfl⟩
   rcases ha with ha|ha
   ·obtain⟨cs,rc⟩:=(show L2.DV X.K (λ_=>False) w.H (.list (fP Z)) (.ref a) by erw[L2.DV];exact⟨a,M,rfl,not_false,ha,L.py (pP _ Y)⟩).reads I T
    exact SeqAt.notIn_list_reads rc O P R N fin
   ·obtain⟨cs,rc⟩:=(show L2.DV X.K (λ_=>False) w.H (.tuple (fP Z)) (.ref a) by erw[L2.DV];exact⟨a,M,rfl,ha,L.py (pP _ Y)⟩).reads I T
    exact SeqAt.notIn_tuple_reads rc O P R N fin
 ·exact h.elim
def tP (K:đ) (Ξ:Wd->bg->Prop) (f:aez (Option Int)):TO:=fun σ H Q=>∃w env,w.H=H/\aT K w/\bX K w env σ/\Out K Ξ w (f env w.aJ) λZ i=>Q i Z.H
def fk:aez (Option Int):=λ_ s=>ok ϋ s
def cJ (f:aez D):aez (Option Int):=λenv s=>ai (f env s) λd s=>match d with
 | .int i=>ok (ϊ i) s
 |_=>ϋ
variable {e a b:ě} {lo hi:Option ě} {pos p2 p3 p4:Pos} {f g:aez D}
def MF (h:PO X lo t) (i:∀ σ H Q,t' σ H Q->t σ H Q):PO X lo t':=λπ s σ H Q I Z=>h π s σ H Q I (i σ H Q Z)
def iF:PO X ϋ (tP X.K Ξ fk):=MF WB fun σ H Q Z=>by
 obtain⟨w,env,Y,S,W,h⟩:=Z;subst Y;exact aB S h
def fY (he:PE X e (tE X.K Ξ f)):PO X (ϊ e) (tP X.K Ξ (cJ f)):=MF (WC he) fun σ H Q Y=>by
 obtain⟨w,env,W,S,V,h⟩:=Y;subst W;refine⟨w,env,rfl,S,V,(Out.ai h).mono λR d P U Z v T=>?_⟩
 cases d with
 |int i=>exact⟨i,T,aB U Z⟩
 |_=>exact Z.elim
def cutD (xs:List D) (lo hi:Option Int):List D:=(xs.drop (HT.bp xs.length 0 lo)).take (HT.bp xs.length xs.length hi-HT.bp xs.length 0 lo)
def qk (d:D) (lo hi:Option Int) (s:ae):Res D:=match res d s with
 | .tup Z=>ok (.tup (cutD Z lo hi)) s
 | .lst Z=>ok (.lst (cutD Z lo hi)) s
 |_=>ϋ
def gn (f:aez D) (l h:aez (Option Int)):aez D:=λenv s=>ai (f env s) λd s=>ai (l env s) λlo s=>ai (h env s) λhi s=>qk d lo hi s
def rSl (K:đ) (Ξ:Wd->bg->Prop):V->Option Int->Option Int->Hp->VK->Prop:=λx lo hi H Q=>∃w Z,w.H=H/\aT K w/\DV K w Z x/\Out K Ξ w (qk Z lo hi w.aJ) λY d=>∀v,DV K Y d v->Q v Y.H
def YT:qZ X (rSl X.K Ξ):=by
 intro π s σ H x v U T lo hi sl Q I R P O pu zzz;obtain⟨w,M,rfl,S,Y,h⟩:=zzz;delta qk at h;split at h
 ·rename_i N e1
  rw[fG e1 (by intro _ z;cases z)] at Y;erw[DV] at Y;obtain⟨a,W,rfl,V,Z⟩:=Y;refine WH π s σ w.H _ v U T lo hi sl Q I R P O pu ⟨a,W,rfl,V,xo S ?_ h⟩;delta cutD lg;rw[Z.length];exact(Z.drop _).take _
 ·rename_i N e1
  obtain⟨a,W,rfl,V,Z⟩:=kR S Y e1;refine WE π s σ w.H _ v U T lo hi sl Q I R P O pu ⟨a,W,rfl,bY.of V,Au S ?_ h⟩;delta cutD lg;rw[Z.length];exact(Z.drop _).take _
 ·exact h.elim
def lB (he:PE X e (tE X.K Ξ f)) (hl:PO X lo (tP X.K Ξ fl)) (hu:PO X hi (tP X.K Ξ fh)):PE X (.Subscript e (.Slice lo hi ϋ p2) pos) (tE X.K Ξ (gn f fl fh)) :=
 cm (Ky YT he hl hu) fun σ H Q V=>by
  obtain⟨w,env,U,S,Z,h⟩:=V;subst U;exact⟨w,env,rfl,S,Z,(Out.ai h).mono λT d Y R P v O=>⟨T,env,rfl,R,Z.le Y,(Out.ai P).mono λN i W M L=>⟨N,env,rfl,M,Z.le (Y.trans W),(Out.ai L).mono λJ j I G F=>⟨J,d,rfl,G,(W.trans I) _ _ O,F⟩⟩⟩⟩
def lC (d x:D) (s:ae):Res D:=match d with
 | .aj k=>match s[k]? with
  |some (.lst Z)=>if ώ (Z.length<Õ)=ό then ok .au (s.set k (.lst (Z++[x]))) else ϋ
  |_=>ϋ
 |_=>ϋ
def lD (d:D) (s:ae):Bool:=match d with
 | .aj k=>match s[k]? with
  |some (.lst _)=>ό
  |_=>ύ
 |_=>ύ
def mx (f g:aez D):aez D:=λenv s=>ai (f env s) λd s=>if lD d s=ό then ai (g env s) λx s=>lC d x s else ϋ
def W3 (S:aT K w) (dv:DV K w d v) (h:lD d w.aJ=ό):∃k a ds xs,d=.aj k/\v=.ref a/\w.ρ[k]?=ϊ a/\w.aJ[k]?=ϊ (.lst ds)/\w.H a=ϊ (.lst xs)/\ar K w ds xs:=by
 delta lD at h;split at h
 ·rename_i k
  split at h
  ·rename_i ds Z
   obtain⟨a,e1,rfl⟩:=dv;obtain⟨xs,Y,X⟩:=S.cell k a _ e1 Z;exact⟨k,a,ds,xs,rfl,rfl,e1,Z,Y,X⟩
  ·cases h
 ·cases h
def YU (S:aT K w) (dv:DV K w d v) (du:DV K w y u) (h:Out K Ξ w (lC d y w.aJ) q):∃a xs,v=.ref a/\w.H a=ϊ (.lst xs)/\xs.length<Õ/\∃w',w'.H=upd w.H a (.lst (xs++[u]))/\q w' .au:=by
 delta lC at h;split at h
 ·rename_i k
  split at h
  ·rename_i Z Y
   split at h
   ·rename_i V
    obtain⟨a,e1,rfl⟩:=dv;obtain⟨xs,U,X⟩:=S.cell k a _ e1 Y;have W:(Cell.lst Z)≠.dead:=by intro z;cases z
    have le:=(Fw.put (K:=K) (o:=.lst (xs++[u])) (c:=.lst (Z++[y])) S e1 Y W).le;refine⟨a,xs,rfl,U,by rw[<- X.length];exact æ V,w.put k a (.lst (xs++[u])) (.lst (Z++[y])),rfl,?_⟩;exact h _ le (S.xp e1 Y W ⟨_,cO,le.all (X.append (ar.one du))⟩) rfl
   ·exact h.elim
  ·exact h.elim
 ·exact h.elim
def zX {o:ě} {apos ba:Pos} (ho:PE X o (tE X.K Ξ f)) (ha:PE X a (tE X.K Ξ g))
  (hV:İ o "append" X.env (ķ o X.env)=ķ o X.env:=by rfl)
  (lh:((ī ba (Í [a] X.env)).all (λx=>!x.1)&&(ada ba (Ŗ [] X.env)).all (λx=>x.1.isSome)
   && ώ (([a]:List ě).length+([]:List acZ).length+(if ([]:List acZ).isEmpty then 0 else 1)<30))=ό:=by rfl)
  (hW:(apos.endLine==ba.line)=ό:=by rfl) (hs:Í [a] X.env=(ύ,ķ a X.env)::Í [] X.env:=by rfl) (iN:(ī ba (Í [] X.env)).any (·.1)=ύ:=by rfl) :
  PE X (.Call (.Attribute o "append" apos) [a] [] ba) (tE X.K Ξ (mx f g)) :=
 cm (wD ſ PySem.F.slot_list_append PySem.F.type_list_append S9 ho (kP ha l8 hs) hV lh hW hs iN) fun σ H Q T=>by
  obtain⟨w,env,Z,S,W,h⟩:=T;subst Z;refine⟨w,env,rfl,S,W,(Out.ai h).mono λR d P V Y v U=>?_⟩;split at Y
  ·rename_i O
   obtain⟨k,p,t,N,rfl,rfl,e1,e2,M,s⟩:=W3 V U O;refine⟨.inl ⟨rfl,N,bY.of M⟩,R,env,rfl,V,W.le P,(Out.ai Y).mono λr y L J I u G=>?_⟩;obtain⟨E,D,C,B,A,q,Z,z⟩:=YU J (L _ _ U) G I;refine⟨E,D,u,C,rfl,B,A,?_⟩;rw[<- Z];exact z _ rfl
  ·exact Y.elim
def my (d i x:D) (s:ae):Option ae:=match d,i with
 | .aj k,.int n=>match s[k]? with
  |some (.lst Z)=>(gG Z.length n).map λj=>s.set k (.lst (Z.set j x))
  |_=>ϋ
 |_,_=>ϋ
def oV (f o i:aez D):aez Fl:=λenv s=>ai (f env s) λx s=>ai (o env s) λd s=>ai (i env s) λn s=>match my d n x s with
 |some Z=>ok (.nx env) Z
 |none=>ϋ
def YV (S:aT K w) (dv:DV K w d v) (dn:DV K w i n) (du:DV K w x u) (h:my d i x w.aJ=ϊ s'):∃a xs k j,v=.ref a/\n=.int k/\w.H a=ϊ (.lst xs)/\gG xs.length k=ϊ j/\∃w',w'.H=upd w.H a (.lst (xs.set j u))/\w'.aJ=s'/\Le K w w'/\aT K w':=by
 delta my at h;split at h
 ·rename_i k m
  split at h
  ·rename_i Z Y
   cases X:gG Z.length m with
   |none=>rw[X] at h;cases h
   |some j =>
    rw[X] at h;cases h;obtain⟨a,e1,rfl⟩:=dv;obtain⟨xs,U,W⟩:=S.cell k a _ e1 Y;have V:(Cell.lst Z)≠.dead:=by intro z;cases z
    have le:=(Fw.put (K:=K) (o:=.lst (xs.set j u)) (c:=.lst (Z.set j x)) S e1 Y V).le;exact⟨a,xs,m,j,rfl,dn,U,by rw[<- W.length];exact X,w.put k a (.lst (xs.set j u)) (.lst (Z.set j x)),rfl,rfl,le,S.xp e1 Y V ⟨_,cO,le.all (W.set du j)⟩⟩
  ·cases h
 ·cases h
def D4 (he:PE X e (tE X.K Ξ f)) (ho:PE X o (tE X.K Ξ fo)) (hi:PE X i (tE X.K Ξ fi))
 (ha:∀v,aex (.Subscript o i oW) X.env v=(do
   let ov <- acY [v] (ķ o X.env)
   let iv <- acY [v,ov] (ķ i X.env)
   adh oW
   acY [v,ov,iv] (setItem ov iv v)
   release [v,ov,iv] []):=by intro _;rfl)
 (hs:acS [.Subscript o i oW] e pos.line X.env=pure ύ:=by rfl) (hw:acT [.Subscript o i oW] e X.env=pure ϋ:=by rfl)
 (h1:(ō [.Subscript o i oW] X.env).map (·.2)=[aex (.Subscript o i oW) X.env]:=by rfl):PS X (.Assign [.Subscript o i oW] e pos) (tS X.K Ξ (oV f fo fi)) :=
 kY (Mq he (Yg ho hi set_list ha) hs hw h1) λt σ H Q=>by
  obtain⟨w,env,W,S,Z,h⟩:=Q;subst W;refine⟨w,env,rfl,S,Z,(Out.ai h).mono λP x V O h1 u N=>?_⟩;refine⟨P,env,rfl,O,Z.le V,(Out.ai h1).mono λM d U L J v I=>?_⟩;refine⟨M,env,rfl,L,Z.le (V.trans U),(Out.ai J).mono λG n T F Y m E=>?_⟩
  cases R:my d n x G.aJ with
  |none=>rw[R] at Y;exact Y.elim
  |some s =>
   rw[R] at Y;obtain⟨a,D,k,j,e1,e2,C,B,A,W,z,le,y⟩:=YV F (T _ _ I) E ((U.trans T) _ _ N) R;refine⟨a,D,k,j,e1,e2,C,B,?_⟩;rw[<- W];exact Y A le y z σ (Z.le (V.trans (U.trans (T.trans le))))
end
def kd (d:D) (s:ae):Option Kn:=match res d s with
 | .au=>ϊ .au
 | .bl _=>ϊ .bl
 | .int _=>ϊ .int
 | .str _=>ϊ .str
 | .tup _=>ϊ .tup
 | .lst _=>ϊ .lst
 | .cy _=>ϊ .cy
 |_=>ϋ
def aaA (S:aT K w) (h:DV K w d v) (e:kd d w.aJ=ϊ k):uJ K w.H v k:=by
 delta kd at e
 split at e<;>rename_i e1<;>first | (cases e;done) | (try cases e)
 ·rw[fG e1 (by intro _ z;cases z)] at h;cases h;trivial
 ·rw[fG e1 (by intro _ z;cases z)] at h;cases h;trivial
 ·rw[fG e1 (by intro _ z;cases z)] at h;cases h;trivial
 ·rw[fG e1 (by intro _ z;cases z)] at h;cases h;trivial
 ·rw[fG e1 (by intro _ z;cases z)] at h
  erw[DV] at h;obtain⟨a,Y,rfl,Z,_⟩:=h;exact⟨Y,Z⟩
 ·obtain⟨a,Y,rfl,Z,_⟩:=kR S h e1
  exact⟨Y,bY.of Z⟩
 ·rw[fG e1 (by intro _ z;cases z)] at h
  erw[DV] at h;obtain⟨a,rfl,_,Z⟩:=h;exact⟨_,Z⟩
def NL (T:String):Bool:=T=="int"||T=="bool"||T=="str"||T=="tuple"||T=="list"
def gR (ds:List D) (s:ae):Res D:=match ds with
 | [d,.ty T]=>if NL T=ό then bS ((kd d s).map λk=>.bl (tY k T)) s else ϋ
 |_=>ϋ
section
variable {X:Cx} {Ξ:Wd->bg->Prop} {e a b:ě} {es:List ě} {pos:Pos} {f g:aez D} {fa:aez (List D)}
def qz:cT X (.builtin "isinstance") (rC X.K Ξ gR):=by
 intro Z s σ H M Y Q I r zzz;obtain⟨w,L,rfl,S,R,h⟩:=zzz;delta gR at h;split at h
 ·rename_i d T
  obtain⟨v,u,rfl,P,O⟩:=wj R;have N:u=.ty T:=O;subst N;split at h
  ·rename_i U
   obtain⟨J,e,h⟩:=gu h
   cases V:kd d w.aJ with
   |none=>rw[V] at e;cases e
   |some k =>
    rw[V] at e;cases e;have W:=aaA S P V;erw[NL,aef,beq_iff_eq] at U
    rcases U with (((rfl|rfl)|rfl)|rfl)|rfl
    ·exact QS Z s σ w.H _ Y Q I r ⟨v,k,rfl,W,aB S h _ rfl⟩
    ·exact Qt Z s σ w.H _ Y Q I r ⟨v,k,rfl,W,aB S h _ rfl⟩
    ·exact QT Z s σ w.H _ Y Q I r ⟨v,k,rfl,W,aB S h _ rfl⟩
    ·exact Qj Z s σ w.H _ Y Q I r ⟨v,k,rfl,W,aB S h _ rfl⟩
    ·exact Qu Z s σ w.H _ Y Q I r ⟨v,k,rfl,W,aB S h _ rfl⟩
  ·exact h.elim
 ·exact h.elim
def qN (hv:ü x=ϊ (.type T)) (hg:Gl X x) (hm:X.mg x=ϋ) (hn:x≠"__name__":=by decide) (hd:(x==("__debug__":Str))=ύ:=by decide):PE X (.Name x pos) (tE X.K Ξ (eC (.ty T))):=qv (v:=.ty T) (Lm hg hm hv rfl hn hd) λ_=>rfl
def ff (g:∃t,X.mg x=ϊ (.int i t)) (hg:Gl X x) (hd:(x==("__debug__":Str))=ύ:=by decide):PE X (.Name x pos) (tE X.K Ξ (eC (.int i))):=by
 obtain⟨t,e⟩:=g;exact qv (v:=.int i) (Cp hg e ⟨t,rfl⟩ hd) λ_=>rfl
def qA:List D->Option (List Int)
 | []=>ϊ []
 | .int i::Z=>(qA Z).map λr=>i::r
 |_::_=>ϋ
theorem KJ:∀{ds:List D} {ns:List Int},qA ds=ϊ ns->ds=ns.map D.int
 | [],ns,h=>by cases h;rfl
 | .int b::ds,ns,h=>by
  erw[qA] at h
  cases Z:qA ds with
  |none=>rw[Z] at h;cases h
  |some r=>rw[Z] at h;cases h;rw[KJ Z];rfl
 | .au::_,_,h=>by cases h
 | .bl _::_,_,h=>by cases h
 | .str _::_,_,h=>by cases h
 | .tup _::_,_,h=>by cases h
 | .lst _::_,_,h=>by cases h
 | .cy _::_,_,h=>by cases h
 | .aj _::_,_,h=>by cases h
 | .ty _::_,_,h=>by cases h
 | .bO _::_,_,h=>by cases h
 | .exc _ _::_,_,h=>by cases h
 | .dj _ _ _::_,_,h=>by cases h
def Tu:qA (ns.map D.int)=ϊ ns:=by
 induction ns with
 |nil=>rfl
 |cons b bs ih=>erw[à,qA,ih,abI]
def mz (i:Int):List Int->List Int
 | []=>[i]
 |j::r=>if i<j then i::j::r else if i=j then j::r else j::mz i r
def gC:List Int->List Int
 | []=>[]
 |i::r=>mz i (gC r)
theorem B0:∀{l:List Int},k∈mz i l↔k=i\/k∈l
 | []=>by simp[mz]
 |j::r=>by
  delta mz;split
  ·simp
  ·split
   ·rename_i h;subst h;simp
   ·rw[Û,B0,Û]
    constructor
    ·rintro (h|h|h)
     ·exact .inr (.inl h)
     ·exact .inl h
     ·exact .inr (.inr h)
    ·rintro (h|h|h)
     ·exact .inr (.inl h)
     ·exact .inl h
     ·exact .inr (.inr h)
theorem Ji:∀{l:List Int},l.Pairwise (· < ·)->(mz i l).Pairwise (· < ·)
 | [],_=>by simp[mz]
 |j::r,h=>by
  obtain⟨Z,Y⟩:=ø.mp h;delta mz;split
  ·rename_i X
   refine ø.mpr ⟨λk hk=>?_,h⟩
   rcases Û.mp hk with rfl|hk
   ·exact X
   ·have:=Z k hk;omega
  ·split
   ·exact h
   ·refine ø.mpr ⟨λk hk=>?_,Ji Y⟩
    rcases B0.mp hk with rfl|hk
    ·omega
    ·exact Z k hk
theorem vC:∀{l:List Int},k∈gC l↔k∈l
 | []=>by simp[gC]
 |i::r=>by simp[gC,B0,vC]
theorem IU:∀(l:List Int),(gC l).Pairwise (· < ·)
 | []=>List.Pairwise.nil
 |i::r=>Ji (IU r)
theorem IE:∀{l m:List Int},l.Pairwise (· < ·)->m.Pairwise (· < ·)->(∀k,k∈l↔k∈m)->l=m
 | [],[],_,_,_=>rfl
 | [],j::m,_,_,h=>by have:=(h j).mpr Þ;cases this
 |i::l,[],_,_,h=>by have:=(h i).mp Þ;cases this
 |i::l,j::m,W,V,h=>by
  obtain⟨Y,U⟩:=ø.mp W;obtain⟨X,T⟩:=ø.mp V;have e:i=j:=by
   rcases Û.mp ((h i).mp Þ) with e|e
   ·exact e
   ·rcases Û.mp ((h j).mpr Þ) with e'|e'
    ·exact e'.symm
    ·have:=X i e;have:=Y j e';omega
  subst e;congr 1;refine IE U T λk=>?_;constructor
  ·intro Z
   rcases Û.mp ((h k).mp (Ï _ Z)) with e|e
   ·subst e;have:=Y k Z;omega
   ·exact e
  ·intro Z
   rcases Û.mp ((h k).mpr (Ï _ Z)) with e|e
   ·subst e;have:=X k Z;omega
   ·exact e
def BI (l:List Int):(gC l).length<=l.length:=by
 induction l with
 |nil=>exact aeD _
 |cons x l ih =>
  have:(gC (x::l)).length<=(gC l).length+1:=by
   show (mz x (gC l)).length<=_;generalize gC l=m
   induction m with
   |nil=>exact aeD _
   |cons y m Z =>
    delta mz;split
    ·simp
    ·split
     ·simp
     ·erw[â];omega
  erw[â];omega
def Vh (ns:List Int):(ns.foldl PyProof.Rows.step_dedup []).length<=(gC ns).length:=sub_len (Bu ns [] List.nodup_nil) λk Z=>vC.mpr ((J9 ns k).mp Z)
def sk (d:D) (s:ae):Res D:=match d with
 | .lst Y=>match qA Y with
  |some Z=>if ώ ((gC Z).length<64)=ό then ok (.lst ((gC Z).map D.int)) s else ϋ
  |none=>ϋ
 |_=>ϋ
def Sd {p p2 lF:Pos} (ha:PE X a (tE X.K Ξ f)) (hc:X.calm=ό) (hg:Gl X "sorted") (hm:X.mg "sorted"=ϋ) (hv:ü "sorted"=ϊ (.builtin "sorted")) (Ge:Gl X "set") (Gf:X.mg "set"=ϋ) (hv2:ü "set"=ϊ (.type "set"))
  (he:Í [a] X.env=(ύ,ķ a X.env)::Í [] X.env:=by rfl) (bN:(ī lF (Í [] X.env)).any (·.1)=ύ:=by rfl)
  (AU:Í [.Call (.Name "set" p2) [a] [] lF] X.env=(ύ,ķ (.Call (.Name "set" p2) [a] [] lF) X.env)::Í [] X.env:=by rfl) (acf:(ī pos (Í [] X.env)).any (·.1)=ύ:=by rfl) :
  PE X (.Call (.Name "sorted" p) [.Call (.Name "set" p2) [a] [] lF] [] pos) (tE X.K Ξ (e1 sk f)) :=
 cm (BV (QV hc) hg hm hv (kP (BG (R7 hc) Ge Gf hv2 (kP ha l8 he) (by decide) (by decide) he bN) l8 AU) (by decide) (by decide) AU acf) fun σ H Q J=>by
  obtain⟨w,env,I,S,G,h⟩:=J;subst I;refine⟨w,env,rfl,S,G,(Out.ai h).mono λU d z F W v P=>?_⟩;delta sk at W;split at W
  ·rename_i y
   split at W
   ·rename_i Y E
    split at W
    ·rename_i T
     have T:=æ T;erw[DV] at P;obtain⟨p,x,rfl,O,N⟩:=P;rw[KJ E] at N;rw[N.KH] at O;have D:=ς (Vh Y) T;refine⟨p,Y,rfl,O.sq,by omega,λq M=>?_⟩;refine⟨q,Y,rfl,cO,D,λl u C B A=>?_⟩;have e:=IE B (IU Y) λk=>(A k).trans vC.symm;subst e;have R:(U.grow q (.ext (mv X.prog X.w q Y))).H l=ϋ:=C;have L:=F.grow (o:=.ext (mv X.prog X.w q Y)) M;exact W ((U.grow q (.ext (mv X.prog X.w q Y))).grow l (.lst ((gC Y).map V.int))) ((Fw.grow M).le.trans (Fw.grow R).le) (L.grow R) rfl (.ref l) ⟨l,_,rfl,⟨(show ¬ (U.grow q (.ext (mv X.prog X.w q Y))).Z l from ma L R),cO⟩,ar.ints _⟩
    ·exact W.elim
   ·exact W.elim
  ·exact W.elim
def xt (i j:Nat) (fa:aez (List D)):aez Fl:=λenv s=>ai (fa env s) λZ s=>match Z with
 | [x,y]=>ok (.nx ((env.set i (ϊ x)).set j (ϊ y))) s
 |_=>ϋ
def YW (i j:Nat) {x y:Str} {px py pt:Pos} {kt k2 iX} (hc:X.calm=ό) (hN:X.N.Nodup) (ha:PA X [a,b] (tA X.K Ξ fa)) (hi:X.N[i]?=ϊ x:=by rfl) (hj:X.N[j]?=ϊ y:=by rfl) (fz:i≠j:=by decide)
  (hx:X.env.scope.names.lookup x=ϊ .local:=by rfl) (hy:X.env.scope.names.lookup y=ϊ .local:=by rfl)
  (hw:acT [.Tuple [.Name x px,.Name y py] kt pt] (.Tuple [a,b] k2 iX) X.env=pure (ϊ [x,y]):=by rfl)
  (hs:acS [.Tuple [.Name x px,.Name y py] kt pt] (.Tuple [a,b] k2 iX) pos.line X.env=pure ύ:=by rfl) :
  PS X (.Assign [.Tuple [.Name x px,.Name y py] kt pt] (.Tuple [a,b] k2 iX) pos) (tS X.K Ξ (xt i j fa)):=kY (Yi hc hN hi hj fz hx hy ha hw hs) λO σ H W=>by
 obtain⟨w,env,V,S,Y,h⟩:=W;subst V;refine⟨w,env,rfl,S,Y,(Out.ai h).mono λM L U T Z J R=>?_⟩;split at Z
 ·obtain⟨v,u,rfl,Q,P⟩:=wj R
  exact⟨v,u,rfl,aB T Z _ (((Y.le U).set Q i).set P j)⟩
 ·exact Z.elim
end
end DI
namespace L2
open PySem PySem.Spec PyProof.Rows
structure DS (Y:Cx) (D:ß) (π:List (ß×Obj)):Prop where
 loc:D≠Y.env.locals
 fs:D∉Y.fs
 new:Y.c9.heap.objs.size<=D
 cell:∀x c,Y.env.cells.lookup x=ϊ c->c≠D
 pin:∀p∈Y.pn++π,p.1≠D
structure rj (Y:Cx) (D:ß) (nt:Nat) (caps:St) (π:List (ß×Obj)) (o:St) (H:Hp) (s:Â) (acc:List V):Prop where
 inv:Inv Y π (o++caps) H s
 len:o.length=nt
 lst:∃ys,s.heap.PlainList D ys/\Vals acc ys.toList
 free:H D=ϋ
 mK:acc.length<=Õ
abbrev lG:=St->Hp->List V->(St->List V->Hp->Prop)->Prop
def xu (Y:Cx) (D:ß) (nt:Nat) (caps:St) (c:Code) (m:Sem PySem.Fin) (ta:lG):Prop :=
 ∀(X:List (ß×Obj)) (o:St) (H:Hp) (s:Â) (Z:List V) (Q:St->List V->Hp->Prop),DS Y D X->rj Y D nt caps X o H s Z->ta (o++caps) H Z Q ->
  á (é Y.prog Y.w) Y.A m (λfn S=>fn=.again c/\∃W U T,rj Y D nt caps X W U S T/\Q (W++caps) T U) (λ_ _=>False) s
def CA (J:It) (g:TG) (tf:TT) (ta:lG) (τ:St) (acc:List V) (H:Hp) (Q:St->List V->Hp->Prop):Prop:=∃W:Nat->Nat->St->List V->Hp->Prop,(∃m,W 0 m τ acc H) /\
 ∀i m τ acc Z,W i m τ acc Z->(J.stop i Z/\Q τ acc Z) \/
  (J.go i Z/\∃N:St->List V->Hp->Prop,(∀ X U T,N X U T->∃S,S < m/\W (i+1) S X U T) /\
   ∀x R,J.uE i Z x R->g x τ R fun Y O=>tf Y O λb P=>if b=ό then ta Y P acc N else N Y acc P)
def NM (te:TE):lG:=fun Y H Z Q=>Z.length+1<=Õ/\te Y H λv X=>Q Y (Z++[v]) X
def NN (wi:TI) (g:TG) (tf:TT) (ta:lG):lG:=fun Y H Z Q=>wi Y H λJ X=>CA J g tf ta Y Z X Q
section
variable {Y:Cx} {D:ß} {nt:Nat} {caps:St}
def DS.obj (ds:DS Y D π) (B:rj Y D nt caps π o H s acc):∃oD ys nn,s.heap.get? D=ϊ oD/\oD={ cls:=.type "list",data:=.seq ys nn }/\Vals acc ys.toList/\Inv Y (π++[(D,oD)]) (o++caps) H s:=by
 obtain⟨ys,⟨nn,Z⟩,X⟩:=B.lst;refine⟨_,ys,nn,Z,rfl,X,B.inv.qa λp W=>?_⟩
 rcases ó.mp W with z|z
 ·exact B.inv.pin p (Ù _ z)
 ·have e:p=(D,{ cls:=.type "list",data:=.seq ys nn }):=by simpa using z
  subst e;exact⟨Z,B.free,ds.loc,ds.fs,λv z=>by cases z⟩
def KL (hx:Y.xe=λ_ _=>False) (hE:PE Y el te):xu Y D nt caps c ((do let _ <- call (.builtin "list.append") [.ref D,<- ķ el Y.env]:Sem Unit) >>= λ_=>again c) (NM te):=by
 intro R o H s W Q Z B h;obtain⟨N,h⟩:=h;obtain⟨M,V,nn,u,L,P,I⟩:=Z.obj B;have q:=hE _ s _ H _ I h;rw[hx] at q;refine À (À (aO q λy X K=>?_));obtain⟨v,U,O,J,G⟩:=K;have T:=O.pin (D,M) (Ù _ (Ù _ ∅));have F:X.heap.PlainList D V:=⟨nn,by rw[<- L];exact T.1⟩;have S:V.size<=Õ:=by
  have e:=P.length;erw[ö] at e;omega
 refine À (wpAny_list_append_plain (hsz:=S) F λE C A=>Ã (Ã ⟨rfl,?_⟩));have z:Inv Y R (o++caps) U X:=O.m8
 have x:Inv Y R (o++caps) U { X with heap:=E,toks:=X.toks }:=z.turned (it:=D) (λb o w e=>(A.2 b w).trans e) T.2.1 Z.loc (.inr Z.new) Z.cell Z.pin
 refine⟨o,U,W++[v],⟨x,B.len,⟨V.push y,C,?_⟩,T.2.1,by rw[ä];simpa using N⟩,G⟩;rw[adP];exact Vals.append P (.cons J .nil)
def JD (hx:Y.xe=λ_ _=>False) (hc:Y.calm=ό)
 (T:Turn Y.prog Y.w Y.K tg J fp it tn) (st0:tn 0 s.heap) (hf:∀b∈fp,gk Y π H b) (nY:D∉fp) (hG:PG Y tg g) (i6:pw g nt) (hF:PF Y tests tf) (hA:xu Y D nt caps (.compLoop e d (.ref it) (.ref D) Y.env) act ta) (ds:DS Y D π) (B:rj Y D nt caps π o H s acc) (hq:(Code.compLoop e d (.ref it) (.ref D) Y.env).quiet=ό)
 (acg:∀(M:Model) (A:í) (Q':Fin->Â->Prop) (E':Ç->Â->Prop) (s':Â),á (é Y.prog Y.w) A (compTurn e d (.ref it) (.ref D) Y.env) Q' (λ_ _=>False) s'->á (é Y.prog Y.w) (A.under (.compLoop e d (.ref it) (.ref D) Y.env)) ((é Y.prog Y.w).den (.compLoop e d (.ref it) (.ref D) Y.env)) Q' E' s')
 (ht:compTurn e d (.ref it) (.ref D) Y.env=(do
   adh p0
   match <- ac0 (.ref it) with
   |none=>pure (.done .next)
   |some v =>
    Œ tg (.ref it) v
    aex tg Y.env v
    let mut ok:=ό
    for c in tests do
     if ok then ok <- isTrue c Y.env (ķ c Y.env)
    if ok then act else again (.compLoop e d (.ref it) (.ref D) Y.env)))
 (h:CA J g tf ta (o++caps) acc H Q) :
  ż (é Y.prog Y.w) Y.A (.compLoop e d (.ref it) (.ref D) Y.env) (λr s'=>r=.ok .next/\∃o' H' jL,rj Y D nt caps π o' H' s' jL/\Q (o'++caps) jL H') s:=by
 obtain⟨W,⟨m0,w0⟩,turn⟩:=h;have F:∀{H':Hp} {pl:List (ß×Obj)},(∀b∈fp,H' b=ϋ)->(∀p∈pl,p.1∉fp)->∀b∈fp,gk Y (π++pl) H' b:=λ{H' pl} hn X b Z=>by
  obtain⟨_,f1,rk,f3,f4,f5⟩:=hf b Z;refine⟨hn b Z,f1,rk,f3,f4,λp yf=>?_⟩
  rcases ó.mp yf with z|z
  ·exact f5 p (ÿ _ z)
  ·rcases ó.mp z with z|z
   ·exact f5 p (Ù _ z)
   ·exact λe=>X p z (e ▸ Z)
 refine codeAny_loop hq (λn s'=>∃i acc o H',rj Y D nt caps π o H' s' acc/\tn i s'.heap/\(∀b∈fp,H' b=ϋ)/\W i n (o++caps) acc H') (λn s3 hJ=>?_) m0 ⟨0,acc,o,H,B,st0,λb Z=>(hf b Z).1,w0⟩;obtain⟨i,acc,o3,O,U,pd,pf,w3⟩:=hJ;refine acg (é Y.prog Y.w) _ _ _ _ ?_;rw[ht];obtain⟨N,L,nn,ho,eo,E,yg⟩:=ds.obj U;have C:∀p∈[(D,N)],p.1∉fp:=λp X=>by
  have e:p=(D,N):=by simpa using X
  subst e;exact nY
 have uU:∀{pl:List (ß×Obj)} {R:St} {H':Hp} {s':Â},Inv Y (π++[(D,N)]++pl) R H' s'->s'.heap.PlainList D L/\H' D=ϋ:=λ{pl R H' s'} I=>by
  have q:=I.pin (D,N) (Ù _ (ÿ _ (Ù _ ∅)));exact⟨⟨nn,by rw[<- eo];exact q.1⟩,q.2.1⟩
 refine À (Ż (À ?_))
 rcases turn i n _ acc O w3 with ⟨stop,q⟩ | ⟨go,N',hN,step⟩
 ·have y:=T.done Y rfl rfl rfl hc i _ s3 _ O (λ_ _=>False) yg (F pf C) pd stop
  refine aO y λr s4 P=>?_;obtain⟨t,I4⟩:=P;subst t;obtain⟨Gn,n4⟩:=uU (pl:=[]) (by simpa using I4);exact Ã ⟨rfl,o3,O,acc,⟨I4.m8,U.len,⟨L,Gn,E⟩,n4,U.mK⟩,q⟩
 ·have y:=T.item Y rfl rfl rfl hc i _ s3 _ O (λ_ _=>False) yg (F pf C) pd go
  refine aO y λr s4 P=>?_;obtain⟨u,t,P⟩:=P;subst t;refine À (aO P λ_ s5 h5=>?_);obtain⟨x,m,I5,r5,y5,l,xR⟩:=h5;have xS:=I5.pinned (F xR C) (T.obj _ _ l);have q5:=hG _ s5 _ m x u _ xS r5 (i6 x o3 _ m _ U.len (step x m y5));rw[hx] at q5;refine À (aO q5 λ_ s6 h6=>?_);obtain⟨uV,H6,I6,⟨k,yh,Aw⟩,q6⟩:=h6;have V:=hF _ s6 uV H6 _ I6 q6;rw[hx] at V;refine À (aO V λb s7 h7=>?_);obtain⟨j,G,V⟩:=h7;subst Aw;obtain⟨AW,n7⟩:=uU G;have f:Inv Y (π++ot fp s5.heap) (k++caps) j s7:=G.qa λp X=>by
   rcases ó.mp X with z|z
   ·exact G.pin p (Ù _ (ÿ _ (ÿ _ z)))
   ·exact G.pin p (Ù _ (Ù _ z))
  have xw:∀{R:St} {H':Hp} {s':Â},Inv Y (π++ot fp s5.heap) R H' s'->tn (i+1) s'.heap/\∀b∈fp,H' b=ϋ:=λ{R H' s'} I=>by
   refine⟨T.keep _ _ _ l λb Z o e=>(I.pin (b,o) (Ù _ (Ù _ (rS Z e)))).1,λb Z=>?_⟩;obtain⟨o,e,_⟩:=T.obj _ _ l b Z;exact(I.pin (b,o) (Ù _ (Ù _ (rS Z e)))).2.1
  cases b with
  |false =>
   rw[Ú Ä] at V;obtain⟨a,hm,w7⟩:=hN _ _ _ V;obtain⟨t7,f7⟩:=xw f;exact Ã ⟨rfl,a,hm,i+1,acc,k,j,⟨f.m8,yh,⟨L,AW,E⟩,n7,U.mK⟩,t7,f7,w7⟩
  |true =>
   rw[Ñ rfl] at V;have Gq:DS Y D (π++ot fp s5.heap):=⟨ds.loc,ds.fs,ds.new,ds.cell,λp X=>by
    rcases ó.mp X with z|z
    ·exact ds.pin p (ÿ _ z)
    ·rcases ó.mp z with z|z
     ·exact ds.pin p (Ù _ z)
     ·exact λe=>nY (e ▸ (JV z).1)⟩
   refine aO (hA _ k j s7 acc N' Gq ⟨f,yh,⟨L,AW,E⟩,n7,U.mK⟩ V) λfn s8 h8=>?_;obtain⟨efn,o8,H8,ach,S,q8⟩:=h8;subst efn;obtain⟨a,hm,w8⟩:=hN _ _ _ q8;obtain⟨t8,f8⟩:=xw S.inv;exact⟨rfl,a,hm,i+1,ach,o8,H8,⟨S.inv.m8,S.len,S.lst,S.free,S.mK⟩,t8,f8,w8⟩
end
def MG (A:í) (Q':Fin->Â->Prop) (E':Ç->Â->Prop) (s':Â)
 (h:á (é P w) A (compTurn (.ListComp el gens sc ps) d iq av ce) Q' (λ_ _=>False) s'):á (é P w) (A.under (.compLoop (.ListComp el gens sc ps) d iq av ce)) ((é P w).den (.compLoop (.ListComp el gens sc ps) d iq av ce)) Q' E' s':=by
 show á _ A ((compTurn (.ListComp el gens sc ps) d iq av ce).onRaise (λx=>do noteFrame x ce;theTreesLotGoes x)) _ _ s'
 exact wpAny_noted (ė h (λ_ _ q=>q) λ_ _ z=>z.elim)
def Vi (hd:gens[d]?=ϊ ⟨target,iter,ifs,0⟩)
 (h0:ż (é P w) A (.compLoop (.ListComp el gens sc ps) d it acc env) R s)
 (h:á (é P w) A (pyIter it) (λmP s'=>ż (é P w) A (.compLoop (.ListComp el gens sc ps) d mP acc env) R s') (λ_ _=>False) s) :
  ż (é P w) A (.compStart (.ListComp el gens sc ps) d it acc env) R s:=by
 refine aeg ?_
 show á _ _ ((compStart (.ListComp el gens sc ps) d it acc env).onRaise (λx=>do noteFrame x env;adh theWindowsPlace)) _ _ s
 refine wpAny_notedAt ?_;have Z:(clausesOf (.ListComp el gens sc ps))[d]?=ϊ ⟨target,iter,ifs,0⟩:=hd;delta compStart;rw[Z];show á _ _ (ask >>= _) _ _ s;refine À (ť (wpAny_ite ?_));split
 ·first
   |exact À (Ã (Ã (ë rfl h0)))
   |exact Ã (ë rfl h0)
 ·refine À (Ŵ ?_)
  show á _ _ (adh iter.pos >>= _) _ _ s;exact À (Ż (À (ė h (λmP s' Y=>Ã (ë rfl Y)) λ_ _ x=>x.elim)))
section
variable {Y:Cx} {D:ß} {nt:Nat} {caps:St}
def B1 {el tg src:ě} {gens:List Comprehension} {sc:acR} {ps:Pos} {tests:List ě} {d:Nat} {wi:TI} {g:TG} {tf:TT} {ta:lG} {act:ß->Sem PySem.Fin} {c:Code} (hx:Y.xe=λ_ _=>False) (hc:Y.calm=ό) (hd:gens[d]?=ϊ ⟨tg,src,tests,0⟩)
  (hi:PI Y tg src wi) (hG:PG Y tg g) (i6:pw g nt) (hF:PF Y tests tf) (hA:∀it:ß,xu Y D nt caps (.compLoop (.ListComp el gens sc ps) d (.ref it) (.ref D) Y.env) (act it) ta)
  (ht:∀it:ß,compTurn (.ListComp el gens sc ps) d (.ref it) (.ref D) Y.env=(do
   adh src.pos
   match <- ac0 (.ref it) with
   |none=>pure (.done .next)
   |some v =>
    Œ tg (.ref it) v
    aex tg Y.env v
    let mut ok:=ό
    for c in tests do
     if ok then ok <- isTrue c Y.env (ķ c Y.env)
    if ok then act it else again (.compLoop (.ListComp el gens sc ps) d (.ref it) (.ref D) Y.env)))
  (hs:∀x,Ć src Y.env x=pure x) :
  xu Y D nt caps c (do
   let x <- ķ src Y.env
   adh src.pos
   let x <- Ć src Y.env x
   let _ <- runOwn (.compStart (.ListComp el gens sc ps) d (<- acY [x] (pyIter x)) (.ref D) Y.env) Y.env
   again c) (NN wi g tf ta):=by
 intro X o H s Z Q W B h;obtain⟨V,M,nn,a,L,K,I⟩:=W.obj B;have q:=hi _ s _ H _ I h;rw[hx] at q;refine À (aO q λv s1 G=>À (Ż ?_));rw[hs];refine À (Ã (À (ą (aO G λiq F E=>?_))));obtain⟨it,U,tn,J,S,e,R,T,P,f2,ca⟩:=E;subst e;have O:=R.pin (D,V) (Ù _ (Ù _ ∅));have C:D∉U:=λz=>(f2 D z).2.2.2.2.2 (D,V) (Ù _ (Ù _ ∅)) rfl;have y:∀b∈U,gk Y X S b:=λb w=>by
  obtain⟨a1,a2,u,t,n,m⟩:=f2 b w;refine⟨a1,a2,u,t,n,λp l=>m p ?_⟩
  rcases ó.mp l with z|z
  ·exact ÿ _ z
  ·exact Ù _ (ÿ _ z)
 have k:rj Y D nt caps X o S F Z:=⟨R.m8,B.len,⟨M,⟨nn,by rw[<- L];exact O.1⟩,K⟩,O.2.1,B.mK⟩;have loop:=JD (e:=.ListComp el gens sc ps) (d:=d) hx hc T P y C hG i6 hF (hA it) W k rfl (λ_ A j i N h=>MG A j i N h) (ht it) ca;refine À (wpAny_runOwn ?_);refine Ŋ (Vi hd loop (T.self _ _ _ _ _ P loop)) λr N f=>?_;obtain⟨e,q⟩:=f;subst e;exact Ã ⟨rfl,q⟩
end
def MH (wi:TI) (nt:Nat) (cap:List Nat) (g:TG) (tf:TT) (ta:lG):TE:=fun σ H Q=>wi σ H λJ X=>CA J g tf ta (Ö nt ϋ++nD cap σ) [] X λ_ Z Y=>∀D,Y D=ϋ->Q (.ref D) (upd Y D (.lst Z))
section
variable {X:Cx}
def KN {el tg src:ě} {tests:List ě} {rest:List Comprehension} {sc:acR} {ps:Pos} {N:List Str} {nt:Nat} {cap:List Nat} {wi:TI} {g:TG} {tf:TT} {ta:lG} {act:Env->ß->ß->Sem PySem.Fin} (hc:X.calm=ό) (S:v9 X sc N nt cap) (i6:pw g nt) (hi:PI X tg src wi)
  (hY:∀(cl:List (Str×ß)) (C:ß) (s:Â) (H:Hp) (ex:List ß) (pn:List (ß×Obj)),PG (eU X N sc cl C s H ex pn) tg g/\PF (eU X N sc cl C s H ex pn) tests tf/\∀D caps it,xu (eU X N sc cl C s H ex pn) D nt caps (.compLoop (.ListComp el (⟨tg,src,tests,0⟩::rest) sc ps) 0 (.ref it) (.ref D) (compEnvC sc cl C X.env)) (act (compEnvC sc cl C X.env) D it) ta)
  (ht:∀(it D:ß) (ce:Env),compTurn (.ListComp el (⟨tg,src,tests,0⟩::rest) sc ps) 0 (.ref it) (.ref D) ce=(do
   adh src.pos
   match <- ac0 (.ref it) with
   |none=>pure (.done .next)
   |some v =>
    Œ tg (.ref it) v
    aex tg ce v
    let mut ok:=ό
    for c in tests do
     if ok then ok <- isTrue c ce (ķ c ce)
    if ok then act ce D it else again (.compLoop (.ListComp el (⟨tg,src,tests,0⟩::rest) sc ps) 0 (.ref it) (.ref D) ce)))
  (hs:∀x,Ć src X.env x=pure x:=by intro _;rfl):PE X (.ListComp el (⟨tg,src,tests,0⟩::rest) sc ps) (MH wi nt cap g tf ta):=by
 intro π s σ H Q I h;obtain⟨cl,D5,j⟩:=Mx (env:=X.env) (sc:=sc) λn F=>I.ok.has n (S.frees _ F rfl).2;rw[eval_ListComp];refine wpAny_comprehension_free (use:=ϋ) rfl hs D5 S.kind S.names (aO (hi π s σ H _ I h) λxv s1 h1=>aO h1 λiq Z h2=>?_);obtain⟨it,R,tn,J,E,e,U,T,i,f2,ca⟩:=h2;subst e;refine û (wpAny_newFunctionEnv S.wa (by intro y hy;simp at hy) (λh3 B L=>?_) S.kind);dsimp only at B L |-;generalize f:Z.heap.objs.size=D at B L |-;generalize a:Z.heap.push { cls:=.type "list",dict:=ϋ,data:=.seq ([]:List Ç).toArray }=G at B L |-;generalize Gr:G.objs.size=C at B L |-;have hC:C=D+1:=by rw[<- Gr,<- a,Ā,f]
 have rm:D≠C:=by omega
 have P:Z.heap.objs.size<=D:=ael f;have t:Z.heap.objs.size<=C:=by omega
 have old:∀b o,Z.heap.get? b=ϊ o->h3.get? b=ϊ o:=λb o e=>L.extBut b o (ã (Ê (Ð e) t)) (Á _ (a ▸ Á _ e));have t5:h3.PlainList D #[]:=⟨_,L.extBut _ _ rm (Á _ (a ▸ f ▸ Î _ rfl))⟩;have gH:∀b∈R,b<Z.heap.objs.size:=λb O=>by
  obtain⟨o,e,_⟩:=T.obj _ _ i b O;exact Ð e
 have IB:=U.block (t':=Z.toks+([]:List (Str×Ç)).length) S j f2 gH old t ⟨_,B⟩;have Gs:D∉cK X.stack:=λz=>by
  rcases Û.mp (U.kX D z) with e|e
  ·exact absurd (Ê U.lt P) (by rw[e];exact ñ _)
  ·exact U.xi P e
 have nY:D∉R:=λz=>absurd (Ê (gH D z) P) (ñ _);have Dl:∀x c,cl.lookup x=ϊ c->c≠D:=λx c e z=>by
  obtain⟨v,o,ho,_⟩:=U.cell x c ((j x c).mp e).2;exact absurd (Ê (Ð ho) (by rw[z];exact P)) (ñ _)
 have D6:∀p∈X.pn++π,p.1≠D:=λp hp z=>absurd (Ê (Ð (U.pin p hp).1) (by rw[z];exact P)) (ñ _);have fin:∀(s':Â) (τ:St) (W:Hp) (acc:List V) (M:Array Ç),Inv (eU X N sc cl C Z E R (X.pn++π)) [] τ W s'->s'.heap.PlainList D M->Vals acc M.toList->W D=ϋ->acc.length<=Õ->(∀D,W D=ϋ->Q (.ref D) (upd W D (.lst acc))) ->
   compPost (é X.prog X.w) X.A X.xe ϋ (EP X π σ Q) (.ref D) C (.ok .next) s':=by
  intro s' τ W acc M K pl rv F hz q;obtain⟨m,hm,_⟩:=id K.loc;refine⟨m,hm,λl sb=>?_⟩;have Fb:cM X.prog X.w W l:=K.aI.but K.free sb;obtain⟨n,ho⟩:=pl;have ip:l.get? D=ϊ { cls:=.type "list",data:=.seq M n }:=(sb.2 D rm).trans ho;have new:eO X.prog X.w (upd W D (.lst acc)) l D (.lst acc):=⟨hz,M.toList,n,rv,by simpa using ip⟩;have u:=(K.base.but t sb).adopt (o:=.lst acc) P F
  refine⟨.ref D,upd W D (.lst acc),U.wB (s':={ s' with heap:=l }) (ch:=R) K.os u (Fb.adopt F new) K.bare (λb O=>?_),rfl,q D F⟩
  obtain⟨_,f1,_,f3,f4,f5⟩:=f2 b O;exact⟨f3,f1,f4,f5⟩
 have nZ:∀b∈R,gk (eU X N sc cl C Z E R (X.pn++π)) [] E b:=λb O=>by
  obtain⟨f0,f1,rk,f3,f4,f5⟩:=f2 b O;refine⟨f0,ã (Ê (gH b O) t),λz=>?_,.inl O,λx c e=>f4 x c ((j x c).mp e).2,λp yf=>?_⟩
  ·rcases Û.mp (U.kX b z) with e|e
   ·exact f1 e
   ·exact rk e
  ·exact f5 p (by simpa using yf)
 obtain⟨Gu,Gv,hA1⟩:=hY cl C Z E R (X.pn++π);have loop:=JD (Y:=eU X N sc cl C Z E R (X.pn++π)) (D:=D) (nt:=nt) (caps:=nD cap σ) (e:=.ListComp el (⟨tg,src,tests,0⟩::rest) sc ps) (d:=0) (π:=[]) (o:=Ö nt ϋ) (acc:=[]) rfl hc T
  (T.keep _ _ _ i λb _ o e=>old b o e) nZ nY Gu i6 Gv (hA1 D _ it) ⟨rm,Gs,P,Dl,λp hp=>D6 p (by simpa using hp)⟩ ⟨IB,by simp,⟨#[],t5,.nil⟩,U.aI.fresh P,Ē _⟩ rfl (λ_ A Q' E' s' h=>MG A Q' E' s' h) (ht it D _) ca
 have NO:=Ŋ loop (R':=compPost (é X.prog X.w) X.A X.xe ϋ (EP X π σ Q) (.ref D) C) λr s' hr=>by
  obtain⟨e,o',W,jL,k,q'⟩:=hr;subst e;obtain⟨M,pl,rv⟩:=k.lst;exact fin s' _ W jL M k.inv pl rv k.free k.mK q'
 exact codeAny_compStart_list NO (T.self _ _ _ _ _ (T.keep _ _ _ i λb _ o e=>old b o e) NO)
end
end L2
namespace DI
open PySem L2
def mY:ü "isinstance"=ϊ (.builtin "isinstance"):=nofun
def qB:ü "int"=ϊ (.type "int"):=nofun
def YX:ü "bool"=ϊ (.type "bool"):=nofun
def oo:ü "tuple"=ϊ (.type "tuple"):=nofun
def D7:ü "str"=ϊ (.type "str"):=nofun
def aaB:ü "set"=ϊ (.type "set"):=nofun
def tH:ü "all"=ϊ (.builtin "all"):=nofun
def NP:ü "any"=ϊ (.builtin "any"):=nofun
def fZ:ü "len"=ϊ (.builtin "len"):=nofun
def aaC:ü "max"=ϊ (.builtin "max"):=nofun
def aaD:ü "min"=ϊ (.builtin "min"):=nofun
def KO:ü "sorted"=ϊ (.builtin "sorted"):=nofun
structure Gd (K:đ) (mg:Str->Option Ç) (x:Str) (st:ad2) (ps:List Str) (f:ß) (fd:Ĩ):Prop where
 mg:mg x=ϊ (.ref f)
 fn:pq K x x st f fd
 b:Binds K fd ps []
def iV (g:D->Env->Option Env) (t:aez Bool) (act:aez (List D)) (kq:Env):List D->ae->Res (List D)
 | [],s=>ok [] s
 |d::Z,s=>match g d kq with
  |none=>ϋ
  |some env=>ai (ne (t env s)) λb s=>if b=ό then ai (ne (act env s)) λY s=>ai (iV g t act kq Z s) λX s=>ok (Y++X) s
   else iV g t act kq Z s
def emit (f:aez D):aez (List D):=λenv s=>ai (f env s) λx s=>ok [x] s
def more (it:aez (List D)) (g:D->Env->Option Env) (t:aez Bool) (act:aez (List D)):aez (List D):=λenv s=>ai (it env s) λZ s=>iV g t act env Z s
def wo (nt:Nat) (cap:List Nat) (it:aez (List D)) (g:D->Env->Option Env) (t:aez Bool) (act:aez (List D)):aez D:=λenv s =>
 ai (it env s) λY s=>ai (ne (iV g t act (Ö nt ϋ++iO cap env) Y s)) λZ s=>jf Z (ok (.lst Z) s)
def Sl (g:D->Env->Option Env) (sl:List Nat):Prop:=∀d env Z,g d env=ϊ Z->Z.length=env.length/\∀i,i∉sl->Z[i]?=env[i]?
def vV (i:Nat):Sl (gN i) [i]:=λd env Z h=>by
 have e:env.set i (ϊ d)=Z:=aeE h;subst e;refine⟨Ă ..,λj Y=>?_⟩;rw[õ (λz=>Y (by simp[z]))]
theorem NQ:∀(is:List Nat) (ds:List D) (env env':Env),gQ (is.map gN) ds env=ϊ env'->env'.length=env.length/\∀i,i∉is->env'[i]?=env[i]?
 | [],[],env,env',h=>by
  have e:env=env':=aeE h;rw[e];exact⟨rfl,λ_ _=>rfl⟩
 | [],_::_,_,_,h=>by cases h
 |_::_,[],_,_,h=>by cases h
 |j::is,d::ds,env,env',h=>by
  have Y:gQ (is.map gN) ds (env.set j (ϊ d))=ϊ env':=h;obtain⟨X,W⟩:=NQ is ds _ env' Y;refine⟨by rw[X,Ă],λi Z=>?_⟩;rw[W i (λz=>Z (Ï _ z)),õ (λz=>Z (by rw[z];exact Þ ..))]
def zu (is:List Nat):Sl (gT (is.map gN)) is:=λd env Z h=>by
 cases d with
 |tup Y=>exact NQ is Y env Z h
 |_=>cases h
def len_same {g:D->Env->Option Env} {sl:List Nat} {d:D} {env env':Env} (hs:Sl g sl) (hg:g d env=ϊ env'):env'.length=env.length:=(hs d env env' hg).1
def iJ (sl:List Nat) (env:Env):Prop:=∀i∈sl,∀d,env[i]?≠ϊ (ϊ d)
def bX.back {K:đ} {w:Wd} {env env':Env} {σ:St} {g:D->Env->Option Env} {sl:List Nat} {d:D} (hs:Sl g sl) (hf:iJ sl env) (hg:g d env=ϊ env') (hl:env.length=σ.length) (h:bX K w env' σ):bX K w env σ :=
 ⟨hl,λi x e=>by
  by_cases Z:i∈sl
  ·exact absurd e (hf i Z x)
  ·exact h.val i x (by rw[(hs d env env' hg).2 i Z];exact e)⟩
def wQ (K:đ) (Pre:Env->Prop) (ta:lG) (act:aez (List D)):Prop:=∀(w:Wd) (env:Env) (U:St) (Y:List V) (Z W:List D) (T:ae) (Q:St->List V->Hp->Prop),Pre env->aT K w->bX K w env U->ar K w Z Y ->
 act env w.aJ=ϊ (.ok W,T)->Y.length+W.length<=Õ->(∀X S R,Le K w X->aT K X->X.aJ=T->bX K X env S->ar K X (Z++W) R->Q S R X.H)->ta U w.H Y Q
def sm {α β:Type} {r:Res α} {k:α->ae->Res β} {b:β} {s':ae} (h:ai r k=ϊ (.ok b,s')):∃a s,r=ϊ (.ok a,s)/\k a s=ϊ (.ok b,s'):=by
 match r,h with
 |some (.ok a,s),h=>exact⟨a,s,rfl,h⟩
def CF {α:Type} {r:Res α} {a:α} {s:ae} (h:ne r=ϊ (.ok a,s)):r=ϊ (.ok a,s):=by
 match r,h with
 |some (.ok b,Z),h=>exact h
def Jj {K:đ} {f:aez D}:wQ K (λ_=>True) (NM (tE K cF f)) (emit f):=by
 intro w env W Z Y J I Q _ S X V h U T;obtain⟨x,H,R,P⟩:=sm h;cases P;refine⟨by simpa using U,w,env,rfl,S,X,?_⟩;rw[R];intro O le N M v L;exact T O W (Z++[v]) le N M (X.le le) (ar.append (le.all V) (ar.one L))
def Ka {K:đ} {Pre:Env->Prop} {g0:TG} {g:D->Env->Option Env} {nt:Nat} {sl:List Nat} {t:aez Bool} {act:aez (List D)} {ta:lG} {env:Env} {w1:Wd} {J:It} {ds xs accD:List D} {s':ae} {τ:St} {acc:List V} {Q:St->List V->Hp->Prop}
  (T:Tg K g0 g nt) (hs:Sl g sl) (hf:iJ sl env) (hp:∀d env',g d env=ϊ env'->Pre env') (hA:wQ K Pre ta act) (hJ:pJ K w1 J ds) (S1:aT K w1) (eo:bX K w1 env τ) (da:ar K w1 accD acc)
  (h:iV g t act env ds w1.aJ=ϊ (.ok xs,s')) (hl:acc.length+xs.length<=Õ) (hQ:∀w' dB vs,Le K w1 w'->aT K w'->w'.aJ=s'->bX K w' env dB->ar K w' (accD++xs) vs->Q dB vs w'.H) :
  CA J g0 (tT K cF t) ta τ acc w1.H Q:=by
 refine⟨λi m τ acc r=>m=ds.length-i/\i<=ds.length/\∃w' accD xs,w'.H=r/\Le K w1 w'/\aT K w'/\bX K w' env τ/\ar K w' accD acc/\iV g t act env (ds.drop i) w'.aJ=ϊ (.ok xs,s')/\acc.length+xs.length<=Õ /\
   (∀Z dB vs,Le K w' Z->aT K Z->Z.aJ=s'->bX K Z env dB->ar K Z (accD++xs) vs->Q dB vs Z.H),
  ⟨ds.length,rfl,Ē _,w1,accD,xs,rfl,Le.refl _,S1,eo,da,h,hl,hQ⟩,?_⟩
 intro i m τ acc r zzz;obtain⟨rfl,hi,w',accD,xs,rfl,P,L,p,O,Y,I,G⟩:=zzz;by_cases F:i<ds.length
 ·right
  obtain⟨i6,hy⟩:=(hJ w' P L i).1 _ (Ø F);rw[ů F] at Y;erw[iV] at Y
  cases X:g ds[i] env with
  |none=>rw[X] at Y;cases Y
  |some S =>
   rw[X] at Y;obtain⟨b,s2,E,N⟩:=sm Y;have E:=CF E;refine⟨i6,fun τ acc o=>∃w' accD xs,w'.H=o/\Le K w1 w'/\aT K w'/\bX K w' env τ/\ar K w' accD acc/\iV g t act env (ds.drop (i+1)) w'.aJ=ϊ (.ok xs,s')/\acc.length+xs.length<=Õ /\
    (∀Z dB vs,Le K w' Z->aT K Z->Z.aJ=s'->bX K Z env dB->ar K Z (accD++xs) vs->Q dB vs Z.H),fun rb As o q=>⟨ds.length-(i+1),by omega,rfl,F,q⟩,λx H3 y=>?_⟩
   obtain⟨Z,rfl,U,n,es,dv⟩:=hy x H3 y;refine T.imp _ _ _ _ ⟨Z,env,ds[i],S,rfl,n,p.le U,dv,X,fun l R=>⟨Z,S,rfl,n,R,?_⟩⟩;have k:∀{j:St},j.length=l.length->S.length=j.length:=λe=>by rw[R.len,e]
   have el:env.length=S.length\/True:=.inr trivial;rw[es,E];intro f W c a
   cases b with
   |true =>
    rw[Ñ rfl] at N |-;obtain⟨ys,s3,M,h3⟩:=sm N;have M:=CF M;obtain⟨zs,s4,hz,h4⟩:=sm h3;cases h4;rw[<- a] at M;refine hA f S l acc accD ys s3 _ (hp _ _ X) c (R.le W) ((U.trans W).all O) M (by rw[ä] at I;omega) λw4 τ4 vs l4 S4 e4 Pw ON=>?_;have lv:=ON.length;refine⟨w4,accD++ys,zs,rfl,P.trans (U.trans (W.trans l4)),S4,Pw.back hs hf X ?_,ON,by rw[e4];exact hz,?_,λC B A z w v u s=>G C B A (U.trans (W.trans (l4.trans z))) w v u (by rw[<- Ĳ];exact s)⟩
    ·rw[<- Pw.len]
     exact(len_same hs X).symm
    ·rw[ä] at I lv
     have:=O.length;omega
   |false =>
    rw[Ú Ä] at N |-;exact⟨f,accD,xs,rfl,P.trans (U.trans W),c,(R.le W).back hs hf X (by rw[<- R.len];exact(len_same hs X).symm),(U.trans W).all O,by rw[a];exact N,I,λC B A z w v u s=>G C B A (U.trans (W.trans z)) w v u s⟩
 ·left
  have e:i=ds.length:=by omega
  subst e;rw[List.drop_length] at Y;cases Y;exact⟨(hJ w' P L _).2 (aeD _),G w' τ acc (Le.refl _) L rfl p (by rw[ĥ];exact O)⟩
def Bv {K:đ} {Pre Pre':Env->Prop} {g0:TG} {g:D->Env->Option Env} {nt:Nat} {sl:List Nat} {it:aez (List D)} {t:aez Bool} {act:aez (List D)} {ta:lG} (T:Tg K g0 g nt) (hs:Sl g sl) (hA:wQ K Pre ta act)
  (h1:∀env,Pre' env->iJ sl env) (h2:∀d env env',Pre' env->g d env=ϊ env'->Pre env'):wQ K Pre' (NN (fO K cF it) g0 (tT K cF t) ta) (more it g t act):=by
 intro w env y V Y x v Q X S W U h R P;obtain⟨u,s,O,N⟩:=sm h;refine⟨w,env,rfl,S,W,?_⟩;rw[O];intro r Z M e1 J L;exact Ka T hs (h1 env X) (λd env' I=>h2 d env env' X I) hA L M (W.le Z) (Z.all U) (by rw[e1];exact N) R λH G F E C B A z=>P H G F (Z.trans E) C B A z
def Kb (T:Tg K g0 g nt) (hs:Sl g sl) (AY:∀i∈sl,i<nt) (hA:wQ K Pre ta act)
 (hp:∀d caps env',g d (Ö nt ϋ++caps)=ϊ env'->Pre env') (σ:St) (H:Hp) (Q:VK) :
  tE K Ξ (wo nt cap it g t act) σ H Q->MH (fO K Ξ it) nt cap g0 (tT K cF t) ta σ H Q:=by
 intro zzz;obtain⟨w,env,rfl,S,U,h⟩:=zzz;refine⟨w,env,rfl,S,U,(Out.ai h).mono λR L I G Y J F=>?_⟩
 cases V:iV g t act (Ö nt ϋ++iO cap env) L R.aJ with
 |none=>rw[V] at Y;exact Y.elim
 |some r =>
  obtain⟨r,E⟩:=r;rw[V] at Y
  cases r with
  |error x=>exact Y.elim
  |ok P =>
   have Y:Out K Ξ R (jf P (ok (D.lst P) E)) (λX d=>∀v,DV K X d v->Q v X.H):=Y;obtain⟨C,Y⟩:=vG Y;have B:=(U.le I).block nt cap (Ö nt ϋ) ∅;refine Ka T hs (λi O d e=>?_) (λd env' A=>hp d _ env' A) hA F G B (accD:=[]) rfl V (by simpa using C) λX s N z M y q u p W=>?_
   ·rw[ç (by simpa using AY i O),ı,Ñ (AY i O)] at e
    cases e
   ·exact Y (X.grow p (.lst N)) (z.trans (Fw.grow W).le) (M.grow W) y (.ref p) ⟨p,N,rfl,⟨(show ¬ X.Z p from ma M W),cO⟩,(Fw.grow W).le.all u⟩
def iJ.of {nt:Nat} {g:D->Env->Option Env} {sl cR:List Nat} (hs:Sl g sl) (hd:∀i∈cR,i<nt/\i∉sl) {d:D} {caps env':Env} (hg:g d (Ö nt ϋ++caps)=ϊ env'):iJ cR env':=λi Y x e=>by
 obtain⟨Z,X⟩:=hd i Y;rw[(hs _ _ _ hg).2 i X,ç (by simpa using Z),ı,Ñ Z] at e;cases e
def iJ.on (hs:Sl g sl) (hd:∀i∈cR,i∉sl) (hf:iJ cR env) (hg:g d env=ϊ env'):iJ cR env':=λi Z x e=>by
 rw[(hs _ _ _ hg).2 i (hd i Z)] at e;exact hf i Z x e
section
variable {X:Cx} {Ξ:Wd->bg->Prop} {el tg src kK ji uW qO:ě} {tests me wq:List ě} {sc:acR} {ps pos:Pos} {N:List Str} {nt:Nat} {cap:List Nat} {it jt A0:aez (List D)} {gd rp Gz:D->Env->Option Env} {g0 yi Px:TG} {sl cR n5:List Nat} {ft kH Py:aez Bool} {f:aez D}
abbrev Dp (nt:Nat) (cap:List Nat) (it:aez (List D)) (g:D->Env->Option Env) (t:aez Bool) (jt:aez (List D)) (g2:D->Env->Option Env) (t2:aez Bool) (f:aez D):aez D:=wo nt cap it g t (more jt g2 t2 (emit f))
abbrev MI (nt:Nat) (cap:List Nat) (it:aez (List D)) (g:D->Env->Option Env) (t:aez Bool) (jt:aez (List D)) (g2:D->Env->Option Env) (t2:aez Bool) (A0:aez (List D)) (g3:D->Env->Option Env) (t3:aez Bool) (f:aez D):aez D:=wo nt cap it g t (more jt g2 t2 (more A0 g3 t3 (emit f)))
def apart (nt:Nat) (sl cR:List Nat):Bool:=cR.all (λi=>ώ (i<nt)&&!sl.contains i)
def sr (h:apart nt sl cR=ό):∀i∈cR,i<nt/\i∉sl:=λi Z=>by
 have:=ô.mp h i Z;erw[Å,Ë,ł,List.contains_eq_mem,decide_eq_false_iff_not] at this;exact this
abbrev OO (e el:ě) (d:Nat):PySem.Env->ß->ß->Sem PySem.Fin:=λce D it=>(do let _ <- call (.builtin "list.append") [.ref D,<- ķ el ce]:Sem Unit) >>= λ_=>again (.compLoop e d (.ref it) (.ref D) ce)
abbrev Fd (e src:ě) (d:Nat):PySem.Env->ß->ß->Sem PySem.Fin:=λce D it=>do
 let x <- ķ src ce
 adh src.pos
 let x <- Ć src ce x
 let _ <- runOwn (.compStart e (d+1) (<- acY [x] (pyIter x)) (.ref D) ce) ce
 again (.compLoop e d (.ref it) (.ref D) ce)
def LI (hc:X.calm=ό) (S:v9 X sc N nt cap) (T:Tg X.K g0 gd nt) (gX:Sl gd sl) (T2:Tg X.K yi rp nt) (fg:Sl rp cR) (hi:PI X tg src (fO X.K Ξ it))
  (hY:∀(cl:List (Str×ß)) (C:ß) (s:Â) (H:Hp) (ex:List ß) (pn:List (ß×Obj)),PG (eU X N sc cl C s H ex pn) tg g0/\PF (eU X N sc cl C s H ex pn) tests (tT X.K cF ft)/\PI (eU X N sc cl C s H ex pn) kK ji (fO X.K cF jt)/\PG (eU X N sc cl C s H ex pn) kK yi/\PF (eU X N sc cl C s H ex pn) me (tT X.K cF kH)/\PE (eU X N sc cl C s H ex pn) el (tE X.K cF f))
  (uL:apart nt sl cR=ό:=by rfl) (pB:apart nt [] sl=ό:=by rfl)
  (hs:∀x,Ć src X.env x=pure x:=by intro _;rfl) (GA:∀ce x,Ć ji ce x=pure x:=by intro _ _;rfl):PE X (.ListComp el [⟨tg,src,tests,0⟩,⟨kK,ji,me,0⟩] sc ps) (tE X.K Ξ (Dp nt cap it gd ft jt rp kH f)) :=
 cm (KN (act:=Fd (.ListComp el [⟨tg,src,tests,0⟩,⟨kK,ji,me,0⟩] sc ps) ji 0) hc S T.nX hi (λcl C s H ex pn=>by
   obtain⟨y1,y2,y3,y4,y5,V⟩:=hY cl C s H ex pn;exact⟨y1,y2,λD Z it=>B1 (d:=1) (act:=λY=>OO (.ListComp el [⟨tg,src,tests,0⟩,⟨kK,ji,me,0⟩] sc ps) el 1 _ D Y) rfl hc rfl y3 y4 T2.nX y5 (λY=>KL rfl V) (λ_=>rfl) (GA _)⟩) (λ_ _ _=>rfl) hs)
  (Kb (Pre:=iJ cR) T gX (λi hi=>(sr pB i hi).1) (Bv T2 fg Jj (λ_ h=>h) (λ_ _ _ _ _=>trivial)) λd Z W U=>iJ.of gX (sr uL) U)
def W4 (hc:X.calm=ό) (S:v9 X sc N nt cap) (T:Tg X.K g0 gd nt) (gX:Sl gd sl) (T2:Tg X.K yi rp nt) (fg:Sl rp cR) (T3:Tg X.K Px Gz nt) (hs3:Sl Gz n5) (hi:PI X tg src (fO X.K Ξ it))
  (hY:∀(cl:List (Str×ß)) (C:ß) (s:Â) (H:Hp) (ex:List ß) (pn:List (ß×Obj)),PG (eU X N sc cl C s H ex pn) tg g0/\PF (eU X N sc cl C s H ex pn) tests (tT X.K cF ft)/\PI (eU X N sc cl C s H ex pn) kK ji (fO X.K cF jt)/\PG (eU X N sc cl C s H ex pn) kK yi/\PF (eU X N sc cl C s H ex pn) me (tT X.K cF kH) /\
   PI (eU X N sc cl C s H ex pn) uW qO (fO X.K cF A0)/\PG (eU X N sc cl C s H ex pn) uW Px/\PF (eU X N sc cl C s H ex pn) wq (tT X.K cF Py)/\PE (eU X N sc cl C s H ex pn) el (tE X.K cF f))
  (uL:apart nt sl cR=ό:=by rfl) (h13:apart nt sl n5=ό:=by rfl) (h23:apart nt cR n5=ό:=by rfl) (pB:apart nt [] sl=ό:=by rfl)
  (hs:∀x,Ć src X.env x=pure x:=by intro _;rfl) (GA:∀ce x,Ć ji ce x=pure x:=by intro _ _;rfl) (hf3:∀ce x,Ć qO ce x=pure x:=by intro _ _;rfl):PE X (.ListComp el [⟨tg,src,tests,0⟩,⟨kK,ji,me,0⟩,⟨uW,qO,wq,0⟩] sc ps) (tE X.K Ξ (MI nt cap it gd ft jt rp kH A0 Gz Py f)) :=
 cm (KN (act:=Fd (.ListComp el [⟨tg,src,tests,0⟩,⟨kK,ji,me,0⟩,⟨uW,qO,wq,0⟩] sc ps) ji 0) hc S T.nX hi (λcl C s H ex pn=>by
   obtain⟨y1,y2,y3,y4,y5,U,R,Q,P⟩:=hY cl C s H ex pn;exact⟨y1,y2,λD Z it=>B1 (d:=1) (act:=λV=>Fd (.ListComp el [⟨tg,src,tests,0⟩,⟨kK,ji,me,0⟩,⟨uW,qO,wq,0⟩] sc ps) qO 1 _ D V) rfl hc rfl y3 y4 T2.nX y5 (λV=>B1 (d:=2) (act:=λjt=>OO (.ListComp el [⟨tg,src,tests,0⟩,⟨kK,ji,me,0⟩,⟨uW,qO,wq,0⟩] sc ps) el 2 _ D jt) rfl hc rfl U R T3.nX Q (λjt=>KL rfl P) (λ_=>rfl) (hf3 _)) (λ_=>rfl) (GA _)⟩) (λ_ _ _=>rfl) hs)
  (Kb (Pre:=λenv=>iJ cR env/\iJ n5 env) T gX (λi hi=>(sr pB i hi).1) (Bv T2 fg (Bv (Pre':=iJ n5) T3 hs3 Jj (λ_ h=>h) (λ_ _ _ _ _=>trivial)) (λ_ h=>h.1) (λd env Y h W=>iJ.on fg (λi hi=>(sr h23 i hi).2) h.2 W)) λd Z Y W=>⟨iJ.of gX (sr uL) W,iJ.of gX (sr h13) W⟩)
end
end DI
namespace L2
open PySem PySem.Spec PyProof.Rows
end L2
namespace HT
open PySem PyProof.Rows
def Fe (A:í) (s:Â) (y x:Ç) (b:Bool):Prop:=∀(prog:å) (w:Ą) (E:Ç->Â->Prop) (Q:Ç->Â->Prop),Q (.bool b) s->á (é prog w) A (richCompare .Lt y x) Q E s
inductive jC (A:í) (s:Â):List Ç->List Ç->Bool->Prop where
 |nn:jC A s [] [] ύ
 |nc (y:Ç) (ys:List Ç):jC A s [] (y::ys) ό
 |cn (x:Ç) (xs:List Ç):jC A s (x::xs) [] ύ
 |eq {x y:Ç} {xs ys:List Ç} {b:Bool}:SeqAt.EqAt A s x y ό->jC A s xs ys b->jC A s (x::xs) (y::ys) b
 |lt {x y:Ç} {xs ys:List Ç} {b:Bool}:SeqAt.EqAt A s x y ύ->Fe A s x y b->jC A s (x::xs) (y::ys) b
section
open PySem.SeqAt
open PySem.AutoSeq1 (wpAny_loadPart')
open PySem.MeetsSeq PySem.MeetsSeq2 PySem.MeetsSeq3
def Se (l b:ß) (items ow:Array Ç) (n n2:Nat) (dd ph:Option ß) (sl cR:Array (Option Ç)) (n6:Bool) :
  Meets (ŗ.«tuple.__lt__» ⟨[.ref l,.ref b],[]⟩)
   (λA R s=>s.heap.get? l=ϊ { cls:=.type "tuple",dict:=dd,data:=.seq items n,slots:=sl }/\s.heap.get? b=ϊ { cls:=.type "tuple",dict:=ph,data:=.seq ow n2,slots:=cR } /\
    jC A.in1 s items.toList ow.toList n6/\R (.ok (.ret (.bool n6))) s) :=
 .of_wp λprog w A R s h=>by
  obtain⟨M,g,d,L,os⟩:=s;obtain⟨J,I,H,h⟩:=h;have f2:=AutoSeq1.sub_tuple_tuple
  wp_walk using wpAny_loadPart' J,wpAny_loadPart' I,wpAny_forIn_list _ (λrest b W=>b.1=ϋ/\W=⟨M,g,d,L,os⟩/\∃(X ws:List Ç),rest=X.zip ws /\
   jC A.in1 ⟨M,g,d,L,os⟩ X ws n6/\X.length+ow.size=ws.length+items.size) _
  case turn =>
   rintro ⟨y,x⟩ rest b W ⟨V,rfl,X,ws,Y,U,Z⟩
   cases U with
   |nn=>cases Y
   |nc _ _=>cases Y
   |cn _ _=>cases Y
   |eq T S =>
    rw[Ĺ] at Y
    injection Y with Q K
    injection Q with P O
    subst P O;erw[â] at Z;refine À (T prog w _ _ ?_)
    wp_walk
    exact⟨rfl,rfl,_,_,K,S,by omega⟩
   |lt T S =>
    rw[Ĺ] at Y
    injection Y with Q K
    injection Q with P O
    subst P O;refine À (T prog w _ _ ?_);have N:=S prog w
    wp_walk using N
    exact⟨_,rfl,by simpa using h⟩
  case fin =>
   rintro ⟨F,E⟩ W ⟨V,rfl,X,ws,Y,U,Z⟩;simp only at V;subst V;have G:n6=ώ (items.size<ow.size):=by
    cases U with
    |nn=>erw[ă] at Z;exact(Ì ⋯).symm
    |nc _ _=>erw[ă,â] at Z;exact(È ⋯).symm
    |cn _ _=>erw[ă,â] at Z;exact(Ì ⋯).symm
    |eq _ _=>rw[Ĺ] at Y;cases Y
    |lt _ _=>rw[Ĺ] at Y;cases Y
   rw[G] at h
   wp_walk
   exact⟨_,rfl,by simpa [Builtin.Tuple.tupleCompareSizes] using h⟩
  case h =>
   exact⟨rfl,rfl,items.toList,ow.toList,rfl,H,by erw[ö];omega⟩
end
open PySem.SeqAt PySem.MeetsSeq
section
variable {prog:å} {w:Ą} {A:í} {E:Ç->Â->Prop} {s:Â}
def LJ (hl:IsTup s.heap l items) (hb:IsTup s.heap b ow) (hA:∀A':í,A'.units<=A.units+4->jC A' s items.toList ow.toList n6)
 (hu:A.units<cLine) (h:Q (.bool n6) s):á (é prog w) A (richCompare .Lt (.ref l) (.ref b)) Q E s:=by
 obtain⟨⟨cls,U,data,sl⟩,Z,Y,n,X⟩:=id hl;obtain⟨⟨P,T,data2,S⟩,W,V,R,hd2⟩:=id hb;simp only at Y X V hd2;subst Y X V hd2;refine richCompare_meets_room (op:=.Lt) ⟨_,Z,rfl⟩ ⟨_,W,rfl⟩ PySem.F.slot_tuple_lt PySem.F.entry_tuple_lt (PySem.F.args_tuple_lt_2 _ _) (Se l b items ow n R U T sl S n6)
  ⟨Z,W,hA _ ?_,show ś n6≠Value.notImplemented/\Q (.bool n6) s from ⟨(λx=>nomatch x),h⟩⟩ hu
 show A.units+1<=A.units+4;omega
end
end HT
namespace DI
open PySem L2 HT
mutual
noncomputable def jw:D->D->Option Bool
 | .int i,.int j=>ϊ (ώ (i<j))
 | .str x,.str y=>ϊ (ώ (x.cps.toList<y.cps.toList))
 | .tup Z,.tup Y=>jN Z Y
 |_,_=>ϋ
noncomputable def jN:List D->List D->Option Bool
 | [],[]=>ϊ ύ
 | [],_::_=>ϊ ό
 |_::_,[]=>ϊ ύ
 |x::Z,y::Y=>if beq x y=ό then jN Z Y else jw x y
end
section
variable {X:Cx} {Ξ:Wd->bg->Prop} {π:List (ß×Obj)} {σ:St} {s:Â} {w:Wd}
def aaE (I:Inv X π σ w.H s) (A:í) (lx:lay x=ό) (ly:lay y=ό) (hu:A.units+dep x<cLine) (hx:DV X.K w x v) (hy:DV X.K w y u) (rx:RelV v vx) (ry:RelV u vy):SeqAt.EqAt A s vx vy (beq x y):=by
 obtain⟨as,Z⟩:=(hx.py (pU _ lx)).reads I rx;obtain⟨bs,Y⟩:=(hy.py (pU _ ly)).reads I ry;obtain⟨W,V⟩:=nA _ lx;obtain⟨U,T⟩:=nA _ ly;have:=SeqAt.eqAt_reads _ _ A s vx vy as bs Z Y W U (by rw[V];omega);rw[wg _ _ lx ly] at this;exact this
mutual
theorem NS (I:Inv X π σ w.H s):∀(A:í) (x y:D) (b:Bool) (v u:V) (vx vy:Ç),jw x y=ϊ b->lay x=ό->lay y=ό->A.units+5*dep x+5<cLine->DV X.K w x v->DV X.K w y u->RelV v vx->RelV u vy->Fe A s vx vy b
 |A,.int i,.int j,b,v,u,vx,vy,h,_,_,_,Z,Y,W,U=>by
  cases h;cases Z;cases Y;obtain⟨t,rfl⟩:=W;obtain⟨T,rfl⟩:=U;intro prog w E Q q;exact Kx A s i t j T prog w E Q q
 |A,.str i,.str j,b,v,u,vx,vy,h,_,_,R,Z,Y,W,U=>by
  cases h;cases Z;cases Y;obtain⟨t,rfl⟩:=W;obtain⟨T,rfl⟩:=U;intro prog w E Q q;exact(PyProof.Rows.lt_str q:á (é prog w) A (ĕ .Lt (.str i t) (.str j T)) Q E s)
 |A,.tup P,.tup O,b,v,u,vx,vy,h,N,M,R,Z,Y,W,U=>by
  erw[jw] at h;erw[DV] at Z Y;obtain⟨a,as,rfl,L,J⟩:=Z;obtain⟨c,cs,rfl,G,S⟩:=Y;cases W;cases U;obtain⟨its,F,C,_⟩:=I.tuple L;obtain⟨B,z,r,_⟩:=I.tuple G;intro prog n E Q q;erw[dep] at R;exact LJ C r (λp o=>by
   have:=MJ I p P O b as cs its B h (by simpa [lay] using N) (by simpa [lay] using M) ⋯ J S F z;simpa using this) ⋯ q
 |_,.au,_,_,_,_,_,_,h,_,_,_,_,_,_,_=>by cases h
 |_,.bl _,_,_,_,_,_,_,h,_,_,_,_,_,_,_=>by cases h
 |_,.lst _,_,_,_,_,_,_,h,_,_,_,_,_,_,_=>by cases h
 |_,.cy _,_,_,_,_,_,_,h,_,_,_,_,_,_,_=>by cases h
 |_,.aj _,_,_,_,_,_,_,h,_,_,_,_,_,_,_=>by cases h
 |_,.ty _,_,_,_,_,_,_,h,_,_,_,_,_,_,_=>by cases h
 |_,.bO _,_,_,_,_,_,_,h,_,_,_,_,_,_,_=>by cases h
 |_,.exc _ _,_,_,_,_,_,_,h,_,_,_,_,_,_,_=>by cases h
 |_,.dj _ _ _,_,_,_,_,_,_,h,_,_,_,_,_,_,_=>by cases h
 |_,.int _,.au,_,_,_,_,_,h,_,_,_,_,_,_,_=>by cases h
 |_,.int _,.bl _,_,_,_,_,_,h,_,_,_,_,_,_,_=>by cases h
 |_,.int _,.str _,_,_,_,_,_,h,_,_,_,_,_,_,_=>by cases h
 |_,.int _,.tup _,_,_,_,_,_,h,_,_,_,_,_,_,_=>by cases h
 |_,.int _,.lst _,_,_,_,_,_,h,_,_,_,_,_,_,_=>by cases h
 |_,.int _,.cy _,_,_,_,_,_,h,_,_,_,_,_,_,_=>by cases h
 |_,.int _,.aj _,_,_,_,_,_,h,_,_,_,_,_,_,_=>by cases h
 |_,.int _,.ty _,_,_,_,_,_,h,_,_,_,_,_,_,_=>by cases h
 |_,.int _,.bO _,_,_,_,_,_,h,_,_,_,_,_,_,_=>by cases h
 |_,.int _,.exc _ _,_,_,_,_,_,h,_,_,_,_,_,_,_=>by cases h
 |_,.int _,.dj _ _ _,_,_,_,_,_,h,_,_,_,_,_,_,_=>by cases h
 |_,.str _,.au,_,_,_,_,_,h,_,_,_,_,_,_,_=>by cases h
 |_,.str _,.bl _,_,_,_,_,_,h,_,_,_,_,_,_,_=>by cases h
 |_,.str _,.int _,_,_,_,_,_,h,_,_,_,_,_,_,_=>by cases h
 |_,.str _,.tup _,_,_,_,_,_,h,_,_,_,_,_,_,_=>by cases h
 |_,.str _,.lst _,_,_,_,_,_,h,_,_,_,_,_,_,_=>by cases h
 |_,.str _,.cy _,_,_,_,_,_,h,_,_,_,_,_,_,_=>by cases h
 |_,.str _,.aj _,_,_,_,_,_,h,_,_,_,_,_,_,_=>by cases h
 |_,.str _,.ty _,_,_,_,_,_,h,_,_,_,_,_,_,_=>by cases h
 |_,.str _,.bO _,_,_,_,_,_,h,_,_,_,_,_,_,_=>by cases h
 |_,.str _,.exc _ _,_,_,_,_,_,h,_,_,_,_,_,_,_=>by cases h
 |_,.str _,.dj _ _ _,_,_,_,_,_,h,_,_,_,_,_,_,_=>by cases h
 |_,.tup _,.au,_,_,_,_,_,h,_,_,_,_,_,_,_=>by cases h
 |_,.tup _,.bl _,_,_,_,_,_,h,_,_,_,_,_,_,_=>by cases h
 |_,.tup _,.int _,_,_,_,_,_,h,_,_,_,_,_,_,_=>by cases h
 |_,.tup _,.str _,_,_,_,_,_,h,_,_,_,_,_,_,_=>by cases h
 |_,.tup _,.lst _,_,_,_,_,_,h,_,_,_,_,_,_,_=>by cases h
 |_,.tup _,.cy _,_,_,_,_,_,h,_,_,_,_,_,_,_=>by cases h
 |_,.tup _,.aj _,_,_,_,_,_,h,_,_,_,_,_,_,_=>by cases h
 |_,.tup _,.ty _,_,_,_,_,_,h,_,_,_,_,_,_,_=>by cases h
 |_,.tup _,.bO _,_,_,_,_,_,h,_,_,_,_,_,_,_=>by cases h
 |_,.tup _,.exc _ _,_,_,_,_,_,h,_,_,_,_,_,_,_=>by cases h
 |_,.tup _,.dj _ _ _,_,_,_,_,_,h,_,_,_,_,_,_,_=>by cases h
theorem MJ (I:Inv X π σ w.H s):∀(A:í) (xs ys:List D) (b:Bool) (vs us:List V) (ps qs:List Ç),jN xs ys=ϊ b->cQ xs=ό->cQ ys=ό->A.units+5*fL xs+5<cLine->ar X.K w xs vs->ar X.K w ys us->Vals vs ps->Vals us qs->jC A s ps qs b
 |A,[],[],b,vs,us,ps,qs,h,_,_,_,W,U,Z,Y=>by
  cases h;cases W;cases U;cases Z;cases Y;exact .nn
 |A,[],y::ys,b,vs,us,ps,qs,h,_,_,_,W,U,Z,Y=>by
  cases h;cases W;cases Z;obtain⟨u,r,rfl,_,_⟩:=U;cases Y;exact .nc _ _
 |A,x::xs,[],b,vs,us,ps,qs,h,_,_,_,W,U,Z,Y=>by
  cases h;cases U;cases Y;obtain⟨u,r,rfl,_,_⟩:=W;cases Z;exact .cn _ _
 |A,x::xs,y::ys,b,vs,us,ps,qs,h,T,S,J,W,U,Z,Y=>by
  obtain⟨v,r,rfl,M,G⟩:=W;obtain⟨u,F,rfl,L,P⟩:=U;erw[cQ,Å] at T S;erw[fL] at J;have E:=Nat.le_max_left (dep x) (fL xs);have C:=Nat.le_max_right (dep x) (fL xs)
  cases Z with
  |cons Z O =>
   cases Y with
   |cons Y N =>
    have R:=aaE I A T.1 S.1 ⋯ M L Z Y;erw[jN] at h;split at h
    ·rename_i Q
     rw[Q] at R;exact .eq R (MJ I A xs ys b _ _ _ _ h T.2 S.2 ⋯ G P O N)
    ·rename_i Q
     rw[adb] at Q;rw[Q] at R;exact .lt R (NS I A x y b _ _ _ _ h T.1 S.1 ⋯ M L Z Y)
end
def kB (x y:D) (s:ae):Res D:=if (lay x&&lay y&&ώ (dep x<=30))=ό then bS ((jw x y).map D.bl) s else ϋ
def xx (hr:bK k X.A):bM X (ĕ .Lt) (rO X.K Ξ kB):=by
 intro O s σ H x y v u Q I U T zzz;obtain⟨w,W,V,rfl,S,R,P,h⟩:=zzz;delta kB at h;split at h
 ·rename_i Z
  erw[Å,Ë] at Z;obtain⟨d,e,h⟩:=gu h
  cases Y:jw W V with
  |none=>rw[Y] at e;cases e
  |some b =>
   rw[Y] at e;cases e;exact NS I X.A W V b x y v u Y Z.1.1 Z.1.2 (by have:=hr.un;have:=Z.2;have:cLine=9900:=rfl;omega) R P U T _ _ _ _ ⟨.bl b,w.H,I,rfl,aB S h _ rfl⟩
 ·exact h.elim
end
end DI
namespace DI
open PySem L2
def vA:List D->ae->Res D:=aD 2 2 (aq (aM (aV (e2 kB (aa 1) (eB cI (af (aa 0) ah)))) (aA (e2 ay (aa 0) (aa 1))) bH) (aA (eC (.int 0))))
def pQ:List D->ae->Res D:=aD 1 1 (aA (eB mw (af (cL 2 [] (ue (af (aa 0) (af (gn (aa 0) (cJ (eC (.int 1))) fk) ah))) (gT [gN 0,gN 1]) cS (e2 kB (aa 0) (aa 1))) ah)))
def Bw:List D->ae->Res D:=aD 1 1 (aA (cN (eB gR (af (aa 0) (af (eC (.ty "int")) ah))) (cN (t6 (eB gR (af (aa 0) (af (eC (.ty "bool")) ah)))) (e2 xr (aa 0) (eC (.int 0))))))
def rT:List D->ae->Res D:=aD 2 2 (aA (cN (aG Bw (af (aa 0) ah)) (e2 kB (aa 0) (aa 1))))
def se:List D->ae->Res D:=aD 1 1 (aA (aG rT (af (aa 0) (af (eC (.int (8))) ah))))
def vt:List D->ae->Res D:=aD 1 1 (aA (cN (eB gR (af (aa 0) (af (eC (.ty "tuple")) ah))) (cN (eB mw (af (cL 1 [] (cH (aa 0)) (gN 0) cS (aG se (af (aa 0) ah))) ah)) (aG pQ (af (aa 0) ah)))))
end DI
namespace ST
open PySem PySem.W PyProof.Rows
structure Ord (α:Type) where
 lt:α->α->Bool
 yj:∀a,lt a a=ύ
 tr:∀a b c,lt a b=ό->lt b c=ό->lt a c=ό
 yk:∀a b,lt a b=ύ->lt b a=ύ->a=b
section
variable {α:Type} (O:Ord α)
def Ord.le (a b:α):Prop:=O.lt b a=ύ
variable {O}
def Ord.le_refl (a:α):O.le a a:=O.yj a
def Ord.le_of_lt (h:O.lt a b=ό):O.le a b:=by
 delta Ord.le
 cases Z:O.lt b a with
 |false=>rfl
 |true=>have:=O.tr _ _ _ h Z;rw[O.yj] at this;cases this
def Ord.tI (h:O.le a b) (g:O.le b c):O.le a c:=by
 delta Ord.le at *
 cases Z:O.lt c a with
 |false=>rfl
 |true =>
  cases Y:O.lt a b with
  |true=>have:=O.tr _ _ _ Z Y;rw[g] at this;cases this
  |false =>
   have e:=O.yk a b Y h;subst e;rw[g] at Z;cases Z
def Ord.NT (h:O.le a b) (g:O.le b a):a=b:=O.yk _ _ g h
end
def ok {β:Type} (c:Nat->Nat->Bool) (n:Nat):KasT β->(β->Prop)->Prop
 | .ret a,Q=>Q a
 | .ask i j k,Q=>i<n/\j<n/\ok c n (k (c i j)) Q
theorem kS {β:Type} {c:Nat->Nat->Bool} {n:Nat} {Q R:β->Prop}:∀{t:KasT β},ok c n t Q->(∀a,Q a->R a)->ok c n t R
 | .ret a,h,i=>i a h
 | .ask _ _ k,h,i=>⟨h.1,h.2.1,kS (t:=k _) h.2.2 i⟩
theorem sF {β γ:Type} {c:Nat->Nat->Bool} {n:Nat} {f:β->KasT γ} {Q:γ->Prop}:∀{t:KasT β},ok c n t (λa=>ok c n (f a) Q)->ok c n (t.bind f) Q
 | .ret _,h=>h
 | .ask _ _ k,h=>⟨h.1,h.2.1,sF (t:=k _) h.2.2⟩
theorem NU {β:Type} {c:Nat->Nat->Bool} {n:Nat} {cmp:Nat->Nat->(Bool->Â->Prop)->Â->Prop} (hc:∀i j C,i<n->j<n->C (c i j) s->cmp i j C s) {Q:β->Â->Prop}:∀{t:KasT β},ok c n t (λa=>Q a s)->t.kasWp cmp Q s
 | .ret _,h=>h
 | .ask _ _ k,h=>hc _ _ _ h.1 h.2.1 (NU hc (t:=k _) h.2.2)
section
variable {α:Type} {O:Ord α} {x:Nat->α} {n:Nat}
def ky (x:Nat->α) (p:Array Nat) (i:Nat):α:=x (p.getD i 0)
def Pm (n:Nat) (p:Array Nat):Prop:=p.size=n/\p.toList.Perm (è n)
def Up (O:Ord α) (f:Nat->α) (k:Nat):Prop:=∀i j,i<j->j<k->O.le (f i) (f j)
def Dn (O:Ord α) (f:Nat->α) (k:Nat):Prop:=∀i j,i<j->j<k->O.le (f j) (f i)
def Up.more (h:Up O f k) (hk:1<=k) (h1:O.le (f (k-1)) (f k)):Up O f (k+1):=λi j Z X=>by
 by_cases e:j=k
 ·subst e
  by_cases Y:i=j-1
  ·subst Y;exact h1
  ·exact Ord.tI (h i (j-1) ⋯ ⋯) h1
 ·exact h i j Z ⋯
def Dn.more (h:Dn O f k) (hk:1<=k) (h1:O.le (f k) (f (k-1))):Dn O f (k+1):=λi j Z X=>by
 by_cases e:j=k
 ·subst e
  by_cases Y:i=j-1
  ·subst Y;exact h1
  ·exact Ord.tI h1 (h i (j-1) ⋯ ⋯)
 ·exact h i j Z ⋯
def Pm.lt (h:Pm n p) (hi:i<n):p.getD i 0<n:=by
 have Z:i<p.size:=by rw[h.1];exact hi
 have:p[i]∈p.toList:=by simp
 have e:p.getD i 0=p[i]:=by simp[aes,Z]
 rw[e];exact Ċ.mp (h.2.mem_iff.mp this)
def Pm.rev (h:Pm n p) (i j:Nat):Pm n (kas_rev p i j):=⟨by rw[kas_rev_size];exact h.1,(Array.perm_iff_toList_perm.mp (mirror_perm p i j _)).trans h.2⟩
def Pm.bub (h:Pm n p) (i j:Nat):Pm n (bubble p i j):=⟨by rw[bubble_size];exact h.1,(Array.perm_iff_toList_perm.mp (bubble_perm p i j)).trans h.2⟩
def vW {p q:Array Nat} {i j:Nat} (h:p[i]?=q[j]?):p.getD i 0=q.getD j 0:=by
 rw[Array.getD_eq_getD_getElem?,Array.getD_eq_getD_getElem?,h]
def Dq {p:Array Nat} {i j:Nat} (hj:j<=p.size) (k:Nat):ky x (kas_rev p i j) k=if i<=k/\k<j then ky x p (i+j-1-k) else ky x p k:=by
 have e:=getElem?_mirror_all (i:=i) hj k;delta ky kas_rev
 split<;>rename_i h
 ·rw[Ñ h] at e;rw[vW e]
 ·rw[Ú h] at e;rw[vW e]
def MK {p:Array Nat} {k d:Nat} (hk:k<p.size) (hd:d<=k) (i:Nat):ky x (bubble p k d) i=if i=k-d then ky x p k else if k-d<i/\i<=k then ky x p (i-1) else ky x p i:=by
 have e:=getElem?_bubble hk d hd i;by_cases h:i=k-d
 ·rw[Ñ h] at e |-;exact Ń x (vW e)
 ·rw[Ú h] at e |-
  by_cases Z:k-d<i/\i<=k
  ·rw[Ñ Z] at e |-;exact Ń x (vW e)
  ·rw[Ú Z] at e |-;exact Ń x (vW e)
def LK (hj:j<=p.size) (he:∀k,i<=k->k<j->ky x p k=ky x p (j-1)):ky x (kas_rev p i j)=ky x p:=funext λk=>by
 rw[Dq hj];split
 ·rw[he _ ⋯ ⋯,he k ⋯ ⋯]
 ·rfl
abbrev asks (O:Ord α) (x:Nat->α) (i j:Nat):Bool:=O.lt (x i) (x j)
theorem Dr {p:Array Nat} (hp:Pm n p):∀(f m:Nat),1<=m->m+f<=n->Up O (ky x p) m->ok (asks O x) n (kas_asc p f m) λr=>m<=r/\r<=m+f/\Up O (ky x p) r/\(r<m+f->O.lt (ky x p r) (ky x p (r-1))=ό)
 |0,m,Y,V,Z=>⟨aeD _,aeD _,Z,λz=>absurd z (ñ _)⟩
 |f+1,m,Y,V,Z=>by
  refine⟨hp.lt ⋯,hp.lt ⋯,?_⟩
  show ok _ _ (if O.lt (ky x p m) (ky x p (m-1))=ό then _ else _) _
  cases X:O.lt (ky x p m) (ky x p (m-1)) with
  |true =>
   rw[Ñ rfl];exact⟨aeD _,by omega,Z,λ_=>X⟩
  |false =>
   rw[Ú Ä];refine kS (Dr hp f (m+1) ⋯ ⋯ (Z.more Y X)) λr W=>⟨by omega,by omega,W.2.2.1,λz=>W.2.2.2 ⋯⟩
structure DS (O:Ord α) (x:Nat->α) (n:Nat) (p:Array Nat) (m q:Nat):Prop where
 pm:Pm n p
 q1:q+1<=m
 mn:m<=n
 dn:Dn O (ky x p) m
 bl:∀k,m-(q+1)<=k->k<m->ky x p k=ky x p (m-1)
def DS.turn (D:DS O x n p m q):Pm n (kas_rev p (m-(q+1)) m)/\ky x (kas_rev p (m-(q+1)) m)=ky x p :=
 ⟨D.pm.rev _ _,LK (by rw[D.pm.1];exact D.mn) D.bl⟩
theorem zk:∀(f:Nat) (p:Array Nat) (m q:Nat),m+f<=n->DS O x n p m q->ok (asks O x) n (kas_desc f p m q) λr=>m<=r.2.1/\DS O x n r.1 r.2.1 r.2.2
 |0,p,m,q,_,D=>⟨aeD _,D⟩
 |f+1,p,m,q,P,D=>by
  have q1:=D.q1;refine⟨D.pm.lt ⋯,D.pm.lt ⋯,?_⟩
  show ok _ _ (if O.lt (ky x p m) (ky x p (m-1))=ό then _ else _) _
  cases X:O.lt (ky x p m) (ky x p (m-1)) with
  |true =>
   rw[Ñ rfl];have one:∀Y,Pm n Y->ky x Y=ky x p->DS O x n Y (m+1) 0:=λY V U=>⟨V,by omega,by omega,by rw[U];exact D.dn.more ⋯ (Ord.le_of_lt X),λk T S=>by rw[show k=m+1-1 by omega]⟩;by_cases W:q > 0
   ·rw[Ñ W]
    exact kS (zk f _ (m+1) 0 ⋯ (one _ D.turn.1 D.turn.2)) λr Z=>⟨by omega,Z.2⟩
   ·rw[Ú W]
    exact kS (zk f _ (m+1) 0 ⋯ (one _ D.pm rfl)) λr Z=>⟨by omega,Z.2⟩
  |false =>
   rw[Ú Ä];refine⟨D.pm.lt ⋯,D.pm.lt ⋯,?_⟩
   show ok _ _ (if O.lt (ky x p (m-1)) (ky x p m)=ό then _ else _) _
   cases R:O.lt (ky x p (m-1)) (ky x p m) with
   |true =>
    rw[Ñ rfl];exact⟨aeD _,D⟩
   |false =>
    rw[Ú Ä];have e:ky x p m=ky x p (m-1):=O.yk _ _ X R;refine kS (zk f p (m+1) (q+1) ⋯ ⟨D.pm,by omega,by omega,D.dn.more ⋯ (by rw[e];exact Ord.le_refl _),λk T S=>?_⟩) λr Z=>⟨by omega,Z.2⟩;show _=ky x p m;by_cases Q:k=m
    ·rw[Q]
    ·rw[D.bl k ⋯ ⋯,e]
def LL {p:Array Nat} {m:Nat} (hp:Pm n p) (h1:1<=m) (hm:m<=n) (hd:Dn O (ky x p) m):ok (asks O x) n (kas_tail3 m n p) λr=>1<=r.1/\r.1<=n/\Pm n r.2/\Up O (ky x r.2) r.1:=by
 refine sF ?_;have Z:Up O (ky x (kas_rev p 0 m)) m:=λi j W Y=>by
  rw[Dq (by rw[hp.1];exact hm),Dq (by rw[hp.1];exact hm),Ñ ⟨by omega,by omega⟩,Ñ ⟨by omega,Y⟩];exact hd _ _ ⋯ ⋯
 exact kS (Dr (hp.rev 0 m) (n-m) m h1 ⋯ Z) λr X=>⟨by show 1<=r;omega,by show r<=n;omega,hp.rev 0 m,X.2.2.1⟩
def Jk {p:Array Nat} {m:Nat} (hp:Pm n p) (h1:1<=m) (hm:m+1<=n) (hd:Dn O (ky x p) (m+1)):ok (asks O x) n (kas_descPart m n p) λr=>1<=r.1/\r.1<=n/\Pm n r.2/\Up O (ky x r.2) r.1:=by
 refine sF (kS (zk (n-(m+1)) p (m+1) 0 ⋯ ⟨hp,by omega,hm,hd,λk Y X=>by rw[show k=m+1-1 by omega]⟩) λr Z=>?_);obtain⟨W,D⟩:=Z;split
 ·exact LL D.turn.1 (by have:=D.q1;omega) D.mn (by rw[D.turn.2];exact D.dn)
 ·exact LL D.pm (by have:=D.q1;omega) D.mn D.dn
def Vj {p:Array Nat} (hp:Pm n p) (hn:1<=n):ok (asks O x) n (kas_count n p) λr=>1<=r.1/\r.1<=n/\Pm n r.2/\Up O (ky x r.2) r.1:=by
 refine sF (kS (Dr hp (n-1) 1 (aeD _) ⋯ λi j U X=>by omega) λm R=>?_);obtain⟨Z,P,Y,Q⟩:=R;split
 ·rename_i e
  rw[beq_iff_eq] at e;exact⟨Z,by omega,hp,Y⟩
 ·rename_i e
  have N:m≠n:=λz=>e (by rw[z];exact Ė n);have T:=Q ⋯;split
  ·refine⟨hp.lt ⋯,hp.lt ⋯,?_⟩
   show ok _ _ (if O.lt (ky x p 0) (ky x p (m-1))=ό then _ else _) _
   cases S:O.lt (ky x p 0) (ky x p (m-1)) with
   |true =>
    rw[Ñ rfl];exact⟨Z,by omega,hp,Y⟩
   |false =>
    rw[Ú Ä];have W:∀k,0<=k->k<m->ky x p k=ky x p (m-1):=λk _ V=>by
     have a1:O.le (ky x p k) (ky x p (m-1)):=by
      by_cases e:k=m-1
      ·rw[e];exact Ord.le_refl _
      ·exact Y k (m-1) ⋯ ⋯
     have a2:O.le (ky x p (m-1)) (ky x p k):=by
      by_cases e:k=0
      ·rw[e];exact S
      ·exact Ord.tI S (Y 0 k ⋯ V)
     exact Ord.NT a1 a2
    have V:=LK (x:=x) (p:=p) (i:=0) (j:=m) (by rw[hp.1];omega) W;refine Jk (hp.rev 0 m) Z ⋯ ?_;rw[V];refine Dn.more (λi j U X=>?_) Z (Ord.le_of_lt T);rw[W i ⋯ ⋯,W j ⋯ X];exact Ord.le_refl _
  ·refine Jk hp Z ⋯ (Dn.more (λi j U X=>by omega) Z (Ord.le_of_lt T))
theorem B4 (hp:Pm n p) (hk:k<n) (hu:Up O (ky x p) k):∀(f l r:Nat),r-l<=f->l<=r->r<=k->(∀i,i<l->O.le (ky x p i) (ky x p k))->(∀i,r<=i->i<k->O.le (ky x p k) (ky x p i)) ->
  ok (asks O x) n (kas_place p k f l r) λm=>m<=k/\(∀i,i<m->O.le (ky x p i) (ky x p k))/\(∀i,m<=i->i<k->O.le (ky x p k) (ky x p i))
 |0,l,r,W,V,X,a,b=>⟨by omega,a,λi Y=>b i ⋯⟩
 |f+1,l,r,W,V,X,a,b=>by
  delta kas_place;by_cases h:l ≥ r
  ·rw[Ñ h]
   exact⟨by omega,a,λi Y=>b i ⋯⟩
  ·rw[Ú h]
   refine⟨hp.lt hk,hp.lt ⋯,?_⟩
   show ok _ _ (if O.lt (ky x p k) (ky x p ((l+r) / 2))=ό then _ else _) _
   cases Z:O.lt (ky x p k) (ky x p ((l+r) / 2)) with
   |true =>
    rw[Ñ rfl];refine B4 hp hk hu f l ((l+r) / 2) ⋯ ⋯ ⋯ a λi Y U=>?_;by_cases e:i=(l+r) / 2
    ·rw[e];exact Ord.le_of_lt Z
    ·exact Ord.tI (Ord.le_of_lt Z) (hu _ _ ⋯ U)
   |false =>
    rw[Ú Ä];refine B4 hp hk hu f ((l+r) / 2+1) r ⋯ ⋯ X (λi Y=>?_) b;by_cases e:i=(l+r) / 2
    ·rw[e];exact Z
    ·exact Ord.tI (hu _ _ ⋯ ⋯) Z
theorem ML:∀(f:Nat) (p:Array Nat) (k:Nat),Pm n p->k+f=n->Up O (ky x p) k->ok (asks O x) n (kas_bin f p k) λq=>Pm n q/\Up O (ky x q) n
 |0,p,k,Y,X,Z=>⟨Y,by rw[<- X];exact Z⟩
 |f+1,p,k,Y,X,Z=>by
  refine sF (kS (B4 Y ⋯ Z k 0 k ⋯ (Ē _) (aeD _) (λi K=>by omega) λi Q W=>by omega) λm P=>?_);obtain⟨Q,W,N⟩:=P;refine ML f _ (k+1) (Y.bub _ _) ⋯ λi j M J=>?_;have V:k<p.size:=by rw[Y.1];omega
  have L:k-(k-m)=m:=by omega
  rw[MK V ⋯,MK V ⋯,L];by_cases U:i=m
  ·rw[Ñ U,Ú ⋯,Ñ ⋯]
   exact N _ ⋯ ⋯
  ·rw[Ú U]
   by_cases T:m<i/\i<=k
   ·rw[Ñ T,Ú ⋯,Ñ ⋯]
    exact Z _ _ ⋯ ⋯
   ·rw[Ú T]
    by_cases S:j=m
    ·rw[Ñ S];exact W _ ⋯
    ·rw[Ú S]
     by_cases R:m<j/\j<=k
     ·rw[Ñ R]
      by_cases e:i=j-1
      ·rw[e];exact Ord.le_refl _
      ·exact Z _ _ ⋯ ⋯
     ·rw[Ú R];exact Z _ _ M ⋯
def W5 (hn:1<=n):ok (asks O x) n (kas_sort n) λq=>Pm n q/\Up O (ky x q) n:=by
 refine sF (kS (Vj (p:=adY (è n)) ⟨by simp,by simp⟩ hn) λr X=>?_);obtain⟨W,V,Y,Z⟩:=X;split
 ·rw[Nat.max_eq_left W]
  exact ML _ _ _ Y ⋯ Z
 ·rw[show r.1=n by omega] at Z
  exact⟨Y,Z⟩
end
section
variable {α:Type} {O:Ord α} {x:Nat->α} {prog:å} {w:Ą} {A:í} {E:Ç->Â->Prop} {s:Â}
def Ax (prog:å) (w:Ą) (A:í) (O:Ord α) (x:Nat->α) (us:List Ç) (t:Â):Prop :=
 á (é prog w) A (keyKind' us.toArray) (fun Z Y=>Y=t/\∀i j (C:Bool->Â->Prop),i<us.length->j<us.length->C (O.lt (x i) (x j)) t->á (é prog w) A (keyLt' Z (us.getD i Value.none) (us.getD j Value.none)) C (λ_ _=>False) t) (λ_ _=>False) t
def mK (us:List Ç) (h:us.length<2):(us.toArray.zip us.toArray).map (·.2)=((adY (è us.length)).toList.map λi=>us.getD i Value.none).toArray:=by
 rcases us with _ | ⟨u,_ | ⟨v,r⟩⟩
 ·exact Array.toList_inj.mp ∅
 ·exact Array.toList_inj.mp ∅
 ·(simp at h;omega)
def Q0 (hb:s.heap.get? b=ϊ (adI "list" us.toArray m)) (hz:us.length<64)
 (hk:2<=us.length->∀h1,(∀c o,c≠b->s.heap.get? c=ϊ o->h1.get? c=ϊ o)->Ax prog w A O x us { s with heap:=h1 })
 (hR:∀(q:Array Nat) h' e,Pm us.length q->Up O (ky x q) us.length->(∀c o,c≠b->s.heap.get? c=ϊ o->h'.get? c=ϊ o)->h'.get? b=ϊ (adI "list" (q.toList.map λi=>us.getD i Value.none).toArray e)->R (.done (.ret .none)) { s with heap:=h' }) :
  á (é prog w) A (ŗ.«list.sort» ⟨[.ref b],[]⟩) R E s:=by
 have y:b<s.heap.objs.size:=Ð hb;have line:us.length<=Õ:=by rw[ŭ];omega
 obtain⟨e1,M⟩:∃e1,(s.heap.update b (ŝ λ_=>(#[]:Array Ç))).get? b=ϊ (adI "list" #[] e1):=⟨_,get?_update_seq hb λ_=>#[]⟩;generalize U:((s.heap.update b (ŝ λ_=>(#[]:Array Ç))).push (adI "tuple" us.toArray 0)).push (adI "list" #[] 0)=Z;have X:Z.get? b=ϊ (adI "list" #[] e1):=by rw[<- U];exact Á _ (Á _ M)
 have old:∀c o,c≠b->s.heap.get? c=ϊ o->Z.get? c=ϊ o:=λc o W e=>by
  rw[<- U];exact Á _ (Á _ (by rw[adm _ _ _ _ W];exact e))
 have last:∀(q:Array Nat),Pm us.length q->Up O (ky x q) us.length->R (.done (.ret .none)) { s with heap:=Z.update b (ŝ λ_=>(q.toList.map λi=>us.getD i Value.none).toArray) }:=λq h1 T =>
  hR q _ _ h1 T (λc o W e=>by rw[adm _ _ _ _ W];exact old c o W e) (get?_update_seq X λ_=>(q.toList.map λi=>us.getD i Value.none).toArray)
 rw[list_sort_plain];refine À (listItems_at hb rfl (À (listUpdate_at hb rfl ?_ (by rw[Ü];exact line) (Ē _))));refine À (seqEpoch_at M rfl (À (wpAny_newTuple (À (wpAny_newList (ą ?_) (Ē _))) (by show us.length<=_;exact line))))
 show á (é prog w) A _ R E { s with heap:=_ }
 rw[U];dsimp only;by_cases Y:us.toArray.size<2
 ·rw[Ñ Y,Ñ Y]
  refine À (Ã ?_);rw[StateT.run_pure];refine À (Ã ?_);dsimp only;have K:(us.toArray.zip us.toArray).map (·.2)=((adY (è us.length)).toList.map λi=>us.getD i Value.none).toArray:=by
   exact mK us (by rw[<- Ü];exact Y)
  refine À (seqEpoch_at X rfl (À (listUpdate_at X rfl ?_ (Ē _) ?_)))
  ·erw[Ĕ,Æ,ï]
   show á _ _ _ _ _ { s with heap:=Z.update b (ŝ λ_=>(us.toArray.zip us.toArray).map (·.2)) }
   rw[K];refine Ã (last _ ⟨by simp,by simp⟩ λi j v L=>?_);rw[Ü] at Y;omega
  ·show ((us.toArray.zip us.toArray).map (·.2)).size<=Õ+1
   simp;omega
 ·rw[Ú Y,Ú Y]
  rw[Ü] at Y;refine À (ė (hk ⋯ Z old) (fun J t S=>?_) λ_ _ z=>z.elim);obtain⟨rfl,S⟩:=S
  have tree:(kas_sort us.length).kasWp (kas_ask prog w A J us) (λq t=>t={ s with heap:=Z }/\Pm us.length q/\Up O (ky x q) us.length) { s with heap:=Z } :=
   NU (c:=asks O x) (n:=us.length) (λi j C I L H=>S i j C I L H) (kS (W5 ⋯) λq P=>⟨rfl,P⟩)
  refine À (ė (kat_run (Q:=λV t=>∃q:Array Nat,q.size=us.length/\arrOf V=q.map (kas_item (us.toArray.zip us.toArray))/\failedOf V=ϋ/\t={ s with heap:=Z }/\Pm us.length q/\Up O (ky x q) us.length)
   rfl ⋯ hz (λq V t a1 a2 G F=>⟨q,a1,a2,G,F⟩) tree) ?_ λ_ _ z=>z)
  rintro ⟨⟨⟩,V⟩ t ⟨q,P,N,D,rfl,T,B⟩;dsimp only;rw[kat_snds rfl N];refine À (seqEpoch_at X rfl (À (listUpdate_at X rfl ?_ (Ē _) ?_)))
  ·rw[D]
   erw[Ĕ,Æ,ï];exact Ã (last q T B)
  ·show ((q.toList.map λi=>us.getD i Value.none).toArray).size<=Õ+1
   rw[Ü,É,ö,P];omega
end
open HT
def CG:∀a:List Int,lexLt a a=ύ:=λa=>by
 induction a with
 |nil=>rfl
 |cons i r ih=>rw[j0,Ñ rfl];exact ih
def YY:∀a b c:List Int,lexLt a b=ό->lexLt b c=ό->lexLt a c=ό:=λa=>by
 induction a with
 |nil =>
  intro b c h g
  cases b with
  |nil=>cases h
  |cons j s=>cases c with
   |nil=>cases g
   |cons k t=>rfl
 |cons i r ih =>
  intro b c h g
  cases b with
  |nil=>cases h
  |cons j s =>
   cases c with
   |nil=>cases g
   |cons k t =>
    rw[j0] at h g |-;by_cases e1:i=j
    ·subst e1
     rw[Ñ rfl] at h;by_cases e2:i=k
     ·rw[Ñ e2] at g |-;exact ih s t h g
     ·rw[Ú e2] at g |-;exact g
    ·rw[Ú e1] at h
     have h:=æ h;by_cases e2:j=k
     ·subst e2
      rw[Ú e1];exact È h
     ·rw[Ú e2] at g
      have g:=æ g;rw[Ú ⋯];exact È ⋯
def W6:∀a b:List Int,lexLt a b=ύ->lexLt b a=ύ->a=b:=λa=>by
 induction a with
 |nil =>
  intro b h g
  cases b with
  |nil=>rfl
  |cons j s=>cases h
 |cons i r ih =>
  intro b h g
  cases b with
  |nil=>cases g
  |cons j s =>
   rw[j0] at h g;by_cases e:i=j
   ·subst e
    rw[Ñ rfl] at h g;rw[ih s h g]
   ·rw[Ú e] at h
    rw[Ú (ź e)] at g;have h:=of_decide_eq_false h;have g:=of_decide_eq_false g;omega
section
variable {prog:å} {w:Ą} {A:í} {E:Ç->Â->Prop} {s:Â}
def ins {α:Type} (O:Ord α) (a:α):List α->List α
 | []=>[a]
 |b::r=>if O.lt b a=ό then b::ins O a r else a::b::r
def dA {α:Type} (O:Ord α):List α->List α
 | []=>[]
 |a::r=>ins O a (dA O r)
end
section
variable {α:Type} {O:Ord α}
def KP (a:α) (l:List α):(ins O a l).Perm (a::l):=by
 induction l with
 |nil=>exact .refl _
 |cons b r ih =>
  delta ins;split
  ·exact(List.Perm.cons b ih).trans (List.Perm.swap a b r)
  ·exact .refl _
def rV (l:List α):(dA O l).Perm l:=by
 induction l with
 |nil=>exact .refl _
 |cons a r ih=>exact(KP a _).trans (ih.cons a)
def YZ (a:α) (l:List α) (h:l.Pairwise O.le):(ins O a l).Pairwise O.le:=by
 induction l with
 |nil=>exact List.pairwise_singleton _ _
 |cons b r ih =>
  obtain⟨X,W⟩:=ø.mp h;delta ins
  split<;>rename_i Z
  ·refine ø.mpr ⟨λc Y=>?_,ih W⟩
   rcases Û.mp ((KP a r).mem_iff.mp Y) with e|e
   ·rw[e];exact Ord.le_of_lt Z
   ·exact X c e
  ·have Z:O.le a b:=by rw[adb] at Z;exact Z
   refine ø.mpr ⟨λc Y=>?_,h⟩
   rcases Û.mp Y with e|e
   ·rw[e];exact Z
   ·exact Ord.tI Z (X c e)
def KQ (l:List α):(dA O l).Pairwise O.le:=by
 induction l with
 |nil=>exact .nil
 |cons a r ih=>exact YZ a _ ih
def Tv:∀{l m:List α},l.Perm m->l.Pairwise O.le->m.Pairwise O.le->l=m:=by
 intro l
 induction l with
 |nil=>intro m h _ _;exact h.nil_eq
 |cons a r ih =>
  intro m h Z Y
  cases m with
  |nil=>exact absurd h.length_eq ∅
  |cons b t =>
   obtain⟨a1,a2⟩:=ø.mp Z;obtain⟨X,W⟩:=ø.mp Y;have e:a=b:=by
    rcases Û.mp (h.mem_iff.mp Þ) with e|e
    ·exact e
    ·rcases Û.mp (h.mem_iff.mpr Þ) with e'|e'
     ·exact e'.symm
     ·exact Ord.NT (a1 b e') (X a e)
   subst e;rw[ih h.cons_inv a2 W]
def Tw (hp:Pm xs.length q) (hu:Up O (ky (λi=>xs.getD i d) q) xs.length):q.toList.map (λi=>xs.getD i d)=dA O xs:=by
 refine Tv ?_ ?_ (KQ xs)
 ·refine(hp.2.map _).trans ?_
  have:(è xs.length).map (λi=>xs.getD i d)=xs:=by
   apply acU;intro i;by_cases Z:i<xs.length
   ·simp[Z]
   ·simp[Z,δ Z]
  rw[this];exact(rV xs).symm
 ·rw[List.pairwise_iff_getElem]
  intro i j Z V Y;have U:(q.toList.map λi=>xs.getD i d).length=xs.length:=by rw[É,ö,hp.1]
  have X:j<q.size:=by rw[hp.1];omega
  have W:i<q.size:=by omega
  have:=hu i j Y ⋯;delta ky at this;simpa [aes,W,X] using this
end
end ST
namespace DI
open PySem L2
section
variable {X:Cx} {Ξ:Wd->bg->Prop} {a e tg:ě} {p pos:Pos} {f:aez D} {fa:aez (List D)}
def tJ (n:Nat):List D:=(è n).map λi:Nat=>D.int ((n:Int)-1-i)
def Tx (n:Nat):(tJ n).length=n:=by simp[tJ]
def Tz (n i:Nat):(tJ n)[i]?=if i<n then ϊ (.int ((n:Int)-1-i)) else ϋ:=by
 delta tJ;rw[ê];split
 ·rename_i h;rw[Ŀ h];rfl
 ·rename_i h;rw[ğ (by simp;omega)];rfl
def Y0:pJ K w (E2 n) (tJ n):=λX V W i=>by
 refine⟨λd Z=>?_,λY=>by rw[Tx] at Y;exact Y⟩;rw[Tz] at Z;split at Z
 ·cases Z
  exact⟨by assumption,λx U ⟨e1,e2⟩=>⟨X,e1.symm,Le.refl _,W,rfl,e2⟩⟩
 ·cases Z
def GC (fa:aez (List D)):aez (List D):=λenv s=>ai (fa env s) λZ s=>match Z with
 | [.int j]=>if (kh j&&ώ (0<=j))=ό then ok (tJ j.toNat) s else ϋ
 |_=>ϋ
def aaF {p2 lF:Pos} (hg:Gl X "reversed") (hm:X.mg "reversed"=ϋ) (Ge:Gl X "range") (Gf:X.mg "range"=ϋ) (ha:PA X [a] (tA X.K Ξ fa))
  (he:Í [a] X.env=(ύ,ķ a X.env)::Í [] X.env:=by rfl) (bN:(ī lF (Í [] X.env)).any (·.1)=ύ:=by rfl)
  (hs:Í [.Call (.Name "range" p2) [a] [] lF] X.env=[(ύ,ķ (.Call (.Name "range" p2) [a] [] lF) X.env)]:=by rfl)
  (AU:Í [.Call (.Name "range" p2) [a] [] lF] X.env=(ύ,ķ (.Call (.Name "range" p2) [a] [] lF) X.env)::Í [] X.env:=by rfl) :
  PI X tg (.Call (.Name "reversed" p) [.Call (.Name "range" p2) [a] [] lF] [] pos) (fO X.K Ξ (GC fa)) :=
 sP (YI hg hm (kP (BG Ru Ge Gf nofun ha (by decide) (by decide) he bN) l8 AU) hs) fun σ H R V=>by
  obtain⟨w,env,U,S,T,h⟩:=V;subst U;refine⟨w,env,rfl,S,T,(Out.ai h).mono λQ L J P Z I O=>?_⟩;split at Z
  ·rename_i j
   split at Z
   ·rename_i Y
    erw[kh,Å,Ë] at Y;obtain⟨v,r,rfl,N,M⟩:=O;have e1:v=.int j:=N;have e2:r=[]:=M;subst e1 e2;refine⟨j,rfl,λq W=>?_⟩;refine⟨q,j.toNat,rfl,?_,by omega,?_⟩
    ·rw[cO,Int.toNat_of_nonneg Y.2]
    ·exact Z (Q.grow q (.df 0 j)) (Fw.grow W).le (P.grow W) rfl _ Y0
   ·exact Z.elim
  ·exact Z.elim
end
end DI
namespace L2
open PySem PySem.Spec PyProof.Rows
structure MM (sc:acR) (cl iw:List (Str×ß)) (C:Nat) (h:ĺ):Prop where
 old:∀n c,iw.lookup n=ϊ c->(C<c/\(n,NameKind.cell)∈sc.names/\∃v,h.IsCell c v)\/cl.lookup n=ϊ c
 own:∀n,sc.names.lookup n=ϊ .cell\/(cl.lookup n).isSome=ό->∃c,iw.lookup n=ϊ c
 inj:(∀x y c,cl.lookup x=ϊ c->cl.lookup y=ϊ c->x=y)->(∀x c,cl.lookup x=ϊ c->c<C)->∀x y c,iw.lookup x=ϊ c->iw.lookup y=ϊ c->x=y
theorem BJ:∀(names:List (Str×Ű)) (n:Nat) (acc:List (Str×ß)),(ac2 n names acc).lookup x=ϊ c->((x,NameKind.cell)∈names/\n<=c)\/acc.lookup x=ϊ c
 | [],n,acc,h=>.inr h
 |(y,k)::r,n,acc,h=>by
  delta ac2 at h;split at h
  ·rename_i Z
   have Z:k=.cell:=by simpa using Z
   subst Z
   rcases BJ r (n+1) _ h with ⟨h1,Y⟩|h1
   ·exact .inl ⟨Ï _ h1,by omega⟩
   ·rw[ē] at h1
    split at h1
    ·rename_i e
     have e:x=y:=by simpa using e
     subst e;cases h1;exact .inl ⟨Þ,aeD _⟩
    ·exact .inr h1
  ·rcases BJ r n acc h with ⟨h1,Y⟩|h1
   ·exact .inl ⟨Ï _ h1,Y⟩
   ·exact .inr h1
theorem BK:∀(names:List (Str×Ű)) (n:Nat) (acc:List (Str×ß)),(∀x y c,acc.lookup x=ϊ c->acc.lookup y=ϊ c->x=y)->(∀x c,acc.lookup x=ϊ c->c<n)->∀x y c,(ac2 n names acc).lookup x=ϊ c->(ac2 n names acc).lookup y=ϊ c->x=y
 | [],n,acc,W,X=>W
 |(z,k)::r,n,acc,W,X=>by
  delta ac2;split
  ·refine BK r (n+1) _ (λx y c Z Y=>?_) λx c Z=>?_
   ·rw[ē] at Z Y
    split at Z
    ·rename_i e1
     split at Y
     ·rename_i e2
      exact(by simpa using e1:x=z).trans (by simpa using e2:y=z).symm
     ·cases Z
      exact absurd (X y _ Y) (ñ _)
    ·split at Y
     ·cases Y
      exact absurd (X x _ Z) (ñ _)
     ·exact W x y c Z Y
   ·rw[ē] at Z
    split at Z
    ·cases Z;exact ŕ _
    ·exact Ĵ (X x c Z)
  ·exact BK r n acc W X
theorem B5 {lo:Nat}:∀(names:List (Str×Ű)) (h:ĺ) (acc:List (Str×ß)),lo<=h.objs.size->(∀x c,acc.lookup x=ϊ c->lo<=c->h.IsCell c ϋ)->(ac2 h.objs.size names acc).lookup x=ϊ c->lo<=c->(pushCells h names).IsCell c ϋ
 | [],h,acc,_,Z,e,Y=>Z x c e Y
 |(z,k)::r,h,acc,V,Z,e,Y=>by
  delta ac2 at e;delta pushCells;split at e
  ·rename_i W
   rw[Ñ W];have U:(h.push { cls:=.type "cell",data:=.cell ϋ }).objs.size=h.objs.size+1:=Ā ..;refine B5 (lo:=lo) r _ ((z,h.objs.size)::acc) ⋯ (λy d X T=>?_) (by rw[U];exact e) Y;rw[ē] at X;split at X
   ·cases X
    exact⟨_,Î _ rfl,rfl⟩
   ·exact(Z y d X T).keeps λb o q=>Á _ q
  ·rename_i W
   rw[Ú W];exact B5 r h acc V Z e Y
def Qy {E:Ç->Â->Prop} {Q:Env->Â->Prop}
 (hQ:∀iw h3,((∀x c,cl.lookup x=ϊ c->c<s.heap.objs.size)->MM scope cl iw s.heap.objs.size h3)->h3.Ns s.heap.objs.size (λ_=>ϋ)->(∀b o,s.heap.get? b=ϊ o->h3.get? b=ϊ o)->Q (newEnv scope s.heap.objs.size globals iw qual ϋ .none (ϊ env) bi) { s with heap:=h3 }) :
  á M A (newFunctionEnv scope globals cl [] qual ϋ .none (ϊ env) bi) Q E s:=by
 erw[newFunctionEnv,Option.isSome_some,ò];refine À (wpAny_alloc ?_)
 refine À (wpAny_layCells _ (λname kind cells=>by cases Z:kind==NameKind.cell<;>simp[Z]) _ _ _ _ ?_)
 rw[show ({ s with heap:=s.heap.push { cls:=.type "dict",data:=.dict #[] } }:Â).heap.objs.size=s.heap.objs.size+1 from Ā ..]
 erw[List.forIn_nil];refine À (Ã (Ã ?_));have Y:(s.heap.push { cls:=.type "dict",data:=.dict #[] }).objs.size=s.heap.objs.size+1:=Ā ..;refine hQ (ac2 (s.heap.objs.size+1) scope.names cl) _ (λX=>⟨λn c e=>?_,λn W=>?_,λV U=>BK _ _ _ V λx c e=>Ĵ (U x c e)⟩) ((Heap.Ns.new s.heap (.type "dict")).keeps (pushCells_keeps _ _)) λb o e=>pushCells_keeps _ _ b o (Á _ e)
 ·rcases BJ _ _ _ e with ⟨h1,T⟩|h1
  ·exact .inl ⟨by omega,h1,ϋ,B5 (lo:=s.heap.objs.size+1) scope.names _ cl ⋯ (λx d q S=>absurd (X x d q) (Nat.not_lt.mpr (Nat.le_of_succ_le S))) (by rw[Y];exact e) T⟩
  ·exact .inr h1
 ·exact ado.mp (μ scope.names _ cl W)
abbrev i7 (X:Cx) (N:List Str) (sc:acR) (cl:List (Str×ß)) (C:ß) (s:Â) (H:Hp) (ex:List ß) (pn:List (ß×Obj)):Cx:={ eU X N sc cl C s H ex pn with fn:=λx=>sc.names.lookup x==ϊ .cell }
structure wt (X:Cx) (sc:acR) (N:List Str) (nt:Nat) (cap:List Nat):Prop where
 kind:sc.kind=.function
 names:∀x∈sc.names,x.2=.local->sc.names.lookup x.1=ϊ .local
 cells:∀x∈sc.names,x.2=.cell->sc.names.lookup x.1=ϊ .cell
 frees:∀x∈sc.names,x.2=.free->sc.names.lookup x.1=ϊ .free/\(X.env.scope.names.lookup x.1=ϊ .cell\/X.env.scope.names.lookup x.1=ϊ .free)
 len:N.length=nt+cap.length
 EY:∀(k:Nat) j,cap[k]?=ϊ j->∃x,X.N[j]?=ϊ x/\N[nt+k]?=ϊ x/\(x,î)∈sc.names
section
variable {X:Cx} {sc:acR} {N:List Str} {nt:Nat} {cap:List Nat} {cl iw:List (Str×ß)} {s:Â} {h1:ĺ} {H:Hp} {σ:St} {π:List (ß×Obj)} {fp:List ß} {C:ß} {t':Nat}
def Inv.Y1 (I:Inv X π σ H s) (S:wt X sc N nt cap) (dh:∀n c,cl.lookup n=ϊ c↔((n,î)∈sc.names/\X.env.cells.lookup n=ϊ c)) (iH:MM sc cl iw C h1) (hf:∀b∈fp,gk X π H b) (gH:∀b∈fp,b<s.heap.objs.size)
  (hk:∀b o,s.heap.get? b=ϊ o->h1.get? b=ϊ o) (hC:s.heap.objs.size<=C) (pA:∃m,h1.Ns C m):Inv (i7 X N sc iw C s H fp (X.pn++π)) [] (l9 nt cap σ) H { s with heap:=h1,toks:=t' }:=by
 have M:∀b∈cK X.stack,b∈X.env.locals::X.fs:=I.kX;have R:∀x c,cl.lookup x=ϊ c->c<s.heap.objs.size:=λx c e=>by
  obtain⟨v,o,V,_⟩:=I.cell x c ((dh x c).mp e).2;exact Ð V
 have F:∀x,(relabel sc X.env).names.lookup x=ϊ .cell\/(relabel sc X.env).names.lookup x=ϊ .free->(x,î)∈sc.names\/sc.names.lookup x=ϊ .cell:=λx Z=>by
  rw[yB] at Z
  cases e:sc.names.lookup x with
  |none=>rw[e] at Z;rcases Z with z|z<;>cases z
  |some k =>
   have hm:(x,k)∈sc.names:=by
    obtain⟨l1,l2,e1,_⟩:=List.lookup_eq_some_iff.mp e;rw[e1];simp
   rw[e] at Z
   cases k with
   |free=>exact .inl hm
   |cell=>exact .inr rfl
   |_=>exfalso;revert Z;simp
 have E:∀x,(x,î)∈sc.names->∃c,X.env.cells.lookup x=ϊ c:=λx Z=>I.ok.has x (S.frees _ Z rfl).2;have L:∀x c,(x,î)∈sc.names->X.env.cells.lookup x=ϊ c->iw.lookup x=ϊ c:=λx c Z Q=>by
  have e:=(dh x c).mpr ⟨Z,Q⟩;obtain⟨d,hd⟩:=iH.own x (.inr (by rw[e];rfl))
  rcases iH.old x d hd with ⟨_,q,_⟩|q
  ·have T:=S.cells _ q rfl
   have W:=(S.frees _ Z rfl).1;dsimp only at T W;rw[T] at W;cases W
  ·rw[e] at q
   cases q;exact hd
 have ok:Cx.Ok (i7 X N sc iw C s H fp (X.pn++π)):=by
  refine⟨I.ok.mod,?_,I.ok.glob,I.ok.blt,hC,?_,?_,?_,I.ok.hd,I.ok.frames,.inl rfl,?_,I.bs,Ý I.ok.iW I.sz,?_,?_,I.stack,I.vN⟩
  ·exact S.kind
  ·exact iH.inj (λx y c Z D=>I.ok.inj x y c ((dh x c).mp Z).2 ((dh y c).mp D).2) λx c e=>Ê (R x c e) hC
  ·intro x Z
   rcases F x Z with hm|hm
   ·obtain⟨c,e⟩:=E x hm
    exact⟨c,L x c hm e⟩
   ·exact iH.own x (.inl hm)
  ·intro x c Z e
   rcases iH.old x c e with ⟨q,_,_⟩|q
   ·exact Ý hC (Nat.le_of_lt q)
   ·have W:=(S.frees _ ((dh x c).mp q).1 rfl).1
    have T:sc.names.lookup x=ϊ .cell:=by simpa using Z
    dsimp only at W;rw[T] at W;cases W
  ·intro b Y
   refine⟨ã (Ê (gH b Y) hC),λx c e=>?_⟩
   rcases iH.old x c e with ⟨q,_,_⟩|q
   ·exact Ũ (Ê (gH b Y) (Ý hC (Nat.le_of_lt q)))
   ·exact(hf b Y).2.2.2.2.1 x c ((dh x c).mp q).2
  ·intro b o e Y
   rcases(hf b Y).2.2.2.1 with z|z
   ·exact I.ok.oQ b o e z
   ·exact absurd (Ê (Ð e) (Ý I.ok.iW z)) (ñ _)
  ·intro b Y z
   rcases Û.mp (M b z) with e|e
   ·exact(hf b Y).2.1 e
   ·exact(hf b Y).2.2.1 e
 obtain⟨m,hm⟩:=pA;obtain⟨mX,B,A⟩:=I.loc;refine⟨ok,rfl,I.bare,Un.kept hk,⟨m,hm,λi x v e1 e2 e3=>?_⟩,λx c e=>?_,I.aI.fresh hC,λx c e=>?_,λp w=>?_,I.aI.kept hk,?_⟩
 ·
  have K:nt<=i:=by
   apply δ;intro J;have:(l9 nt cap σ)[i]?=ϊ ϋ:=by
    delta l9;rw[ç (by simpa using J),ı,Ñ J]
   rw[this] at e2;cases e2
  have U:(cap.map λj=>(σ[j]?).getD ϋ)[i-nt]?=ϊ (ϊ v):=by
   have e:=e2;delta l9 at e;rw[ð (by simpa using K)] at e;simpa using e
  rw[ê] at U
  cases P:cap[i-nt]? with
  |none=>rw[P] at U;cases U
  |some j =>
   rw[P] at U;have ev:(σ[j]?).getD ϋ=ϊ v:=aeE U;have t:σ[j]?=ϊ (ϊ v):=by
    cases q:σ[j]? with
    |none=>rw[q] at ev;cases ev
    |some z=>rw[q] at ev;exact Ń ϊ ev
   obtain⟨y,f1,f2,G⟩:=S.EY _ _ P;rw[Nat.add_sub_cancel' K] at f2;have h:y=x:=aeE (f2.symm.trans e1);subst h;obtain⟨g1,g2⟩:=S.frees _ G rfl;have g:qU X.env.scope y:=.inr g2;obtain⟨u,r,l⟩:=A j y v f1 t g;refine⟨u,r,.inr ⟨?_,?_⟩⟩
   ·show (relabel sc X.env).names.lookup y=ϊ .cell\/(relabel sc X.env).names.lookup y=ϊ .free
    rw[yB,g1];erw[abI];split
    ·exact .inl rfl
    ·exact .inr rfl
   ·rcases l with ⟨k,_⟩ | ⟨_,c,Q,f⟩
    ·exfalso
     have a:X.env.scope.names.lookup y=ϊ .local:=k;dsimp only at g2;rw[a] at g2
     rcases g2 with z|z<;>cases z
    ·obtain⟨O,V,hd⟩:=f
     exact⟨c,L y c G Q,O,hk _ _ V,hd⟩
 ·rcases iH.old x c e with ⟨_,_,q⟩|q
  ·exact q
  ·obtain⟨v,O,V,hd⟩:=I.cell x c ((dh x c).mp q).2
   exact⟨v,O,hk _ _ V,hd⟩
 ·rcases iH.old x c e with ⟨q,_,_⟩|q
  ·exact I.aI.fresh ⋯
  ·exact I.jd x c ((dh x c).mp q).2
 ·have x6:p∈X.pn++π:=by simpa using w
  obtain⟨e,n,ne,nf,d⟩:=I.pin p x6;refine⟨hk _ _ e,n,ã (Ê (Ð e) hC),λz=>?_,d⟩
  rcases Û.mp (M p.1 z) with q|q
  ·exact ne q
  ·exact nf q
 ·delta l9
  rw[ä,ω,É];exact S.len.symm
end
structure NV (P:å) (w:Ą) (E el tg src:ě) (tests:List ě) (new:Sem Ç) (ap:String) (mk:ß->List V->HO) (lM:List V->Prop) where
 o0:Obj
 live:o0.isFreed=ύ
 Ac:ß->List V->ĺ->Prop
 clauses:clausesOf E=[⟨tg,src,tests,0⟩]
 turns:∀{A:í} {R:Result->Â->Prop} {s:Â} {iq av:Ç} {ce:Env} (J:Nat->Â->Prop)
  (turn:∀n s,J n s->á (é P w) A (ac0 iq) (λr s1=>match r with
   |none=>R (.ok .next) s1
   |some v=>á (é P w) A (Œ tg iq v) (λ_ s2=>á (é P w) A (aex tg ce v) (λ_ s3 =>
     á (é P w) A (forIn tests ό λc r=>if r=ό then do let ok <- isTrue c ce (ķ c ce);pure (Ň ok) else pure (Ň r)) (λok s4 =>
      if ok=ό then á (é P w) A (ķ el ce) (λy s5=>á (é P w) A (call (.builtin ap) [av,y]) (λ_ s6=>∃m,m<n/\J m s6) (λ_ _=>False) s5) (λ_ _=>False) s4
      else ∃m,m<n/\J m s4) (λ_ _=>False) s3) (λ_ _=>False) s2) (λ_ _=>False) s1) (λ_ _=>False) s)
  (n:Nat) (_:J n s),ż (é P w) A (.compLoop E 0 iq av ce) R s
 new:∀{A:í} {X:Ç->Â->Prop} {s:Â} {Q:Ç->Â->Prop},Q (.ref s.heap.objs.size) { s with heap:=s.heap.push o0 }->á (é P w) A new Q X s
 start:∀{A:í} {R:Result->Â->Prop} {s:Â} {it acc:Ç} {env:Env},ż (é P w) A (.compLoop E 0 it acc env) R s->á (é P w) A (pyIter it) (λmP s'=>ż (é P w) A (.compLoop E 0 mP acc env) R s') (notedBy (é P w) A env λx s'=>R (.error x) s') s->ż (é P w) A (.compStart E 0 it acc env) R s
 init:∀{D:ß} {h:ĺ},h.get? D=ϊ o0->Ac D [] h
 obj:∀{D:ß} {acc:List V} {h:ĺ},Ac D acc h->∃o,h.get? D=ϊ o/\∀v,o.data≠.cell v
 iE:∀{D:ß} {acc:List V} {h h':ĺ},Ac D acc h->(∀o,h.get? D=ϊ o->h'.get? D=ϊ o)->Ac D acc h'
 MN:∀{D:ß} {acc:List V} {h:ĺ} {H:Hp},lM acc->Ac D acc h->eO P w (upd H D (mk D acc)) h D (mk D acc)
 add:∀{A:í} {s:Â} {D:ß} {acc:List V} {v:V} {y:Ç} {Q:Ç->Â->Prop},Ac D acc s.heap->RelV v y->lM acc->lM (acc++[v])->(∀h' tk,Ĭ D s.heap h'->Ac D (acc++[v]) h'->Q .none { s with heap:=h',toks:=tk })->á (é P w) A (call (.builtin ap) [.ref D,y]) Q (λ_ _=>False) s
section
variable {X:Cx}
def Sg {E el tg src:ě} {tests:List ě} {sc:acR} {N:List Str} {nt:Nat} {cap:List Nat} {wi:TI} {g:TG} {tf:TT} {te:TE} {p1:Pos} {use:Option (Ç->Sem Unit)} {R:Ç->Â->Prop} {π:List (ß×Obj)} {s:Â} {σ:St} {H:Hp} {Q:VK} {new:Sem Ç} {ap:String} {mk:ß->List V->HO} {lM:List V->Prop} (B:NV X.prog X.w E el tg src tests new ap mk lM) (hc:X.calm=ό) (S:wt X sc N nt cap) (i6:pw g nt) (hi:PI X tg src wi)
  (hY:∀(cl:List (Str×ß)) (C:ß) (s:Â) (H:Hp) (ex:List ß) (pn:List (ß×Obj)),PG (i7 X N sc cl C s H ex pn) tg g/\PF (i7 X N sc cl C s H ex pn) tests tf/\PE (i7 X N sc cl C s H ex pn) el te)
  (hs:∀x,Ć src X.env x=pure x) (I:Inv X π σ H s) (h:wi σ H λJ H1=>Pk mk lM J nt (nD cap σ) g tf te H1 Q)
  (E5:∀(s':Â) (H1:Hp) (D C:ß) (m:Str->Option Ç),(∀h',Ĭ C s'.heap h'->Inv X π σ H1 { s' with heap:=h' })->s'.heap.Ns C m->H1 C=ϋ->C≠X.env.locals->C∉X.fs->X.c9.heap.objs.size<=C->(∀x c,X.env.cells.lookup x=ϊ c->c≠C)->(∀p∈X.pn++π,p.1≠C)->Q (.ref D) H1->compPost (é X.prog X.w) X.A X.xe use R (.ref D) C (.ok .next) s') :
  á (é X.prog X.w) X.A (comprehension E sc X.env p1 new ύ (ķ src X.env) use) R X.xe s:=by
 obtain⟨cl,D5,dh⟩:=Mx (env:=X.env) (sc:=sc) λn hn=>I.ok.has n (S.frees _ hn rfl).2;refine wpAny_comprehension_free (use:=use) B.clauses hs D5 S.kind S.names (aO (hi π s σ H _ I h) λxv s1 h1=>aO h1 λiq k h2=>?_);obtain⟨it,t,tn,J,H2,e,M,T,iY,f2,W,⟨m0,w0⟩,turn⟩:=h2;subst e;refine B.new (Qy λiw h3 j lH pE=>?_);dsimp only at j lH pE |-;generalize hD:k.heap.objs.size=D at j lH pE |-;generalize hG:k.heap.push B.o0=G at j lH pE |-;generalize Gr:G.objs.size=C at j lH pE |-;have hC:C=D+1:=by rw[<- Gr,<- hG,Ā,hD]
 have rm:D≠C:=by omega
 have d:k.heap.objs.size<=D:=ael hD;have l:k.heap.objs.size<=C:=by omega
 have old:∀b o,k.heap.get? b=ϊ o->h3.get? b=ϊ o:=λb o e=>pE b o (hG ▸ Á _ e);have t5:B.Ac D [] h3:=B.init (pE _ _ (hG ▸ hD ▸ Î _ B.live));have gH:∀b∈t,b<k.heap.objs.size:=λb P=>by
  obtain⟨o,e,_⟩:=T.obj _ _ iY b P;exact Ð e
 have j:=j λx c e=>by
  obtain⟨v,o,ho,_⟩:=M.cell x c ((dh x c).mp e).2;exact Ê (Ð ho) l
 have IB:=M.Y1 (t':=k.toks) S dh j f2 gH old l ⟨_,lH⟩;have Gs:D∉cK X.stack:=λz=>by
  rcases Û.mp (M.kX D z) with e|e
  ·exact absurd (Ê M.lt d) (by rw[e];exact ñ _)
  ·exact M.xi d e
 have nY:D∉t:=λz=>absurd (Ê (gH D z) d) (ñ _);have Dl:∀x c,iw.lookup x=ϊ c->c≠D:=λx c e z=>by
  rcases j.old x c e with ⟨q,_,_⟩|e
  ·rw[z] at q
   exact absurd q (by rw[hC];exact Nat.not_lt.mpr (adj D))
  ·obtain⟨v,o,ho,_⟩:=M.cell x c ((dh x c).mp e).2
   exact absurd (Ê (Ð ho) (by rw[z];exact d)) (ñ _)
 have D6:∀p∈X.pn++π,p.1≠D:=λp L z=>absurd (Ê (Ð (M.pin p L).1) (by rw[z];exact d)) (ñ _);generalize O:i7 X N sc iw C k H2 t (X.pn++π)=Y at IB;have nZ:∀{U:Hp} {pl:List (ß×Obj)},(∀b∈t,U b=ϋ)->(∀p∈pl,p.1∉t)->∀b∈t,gk Y pl U b:=λ{U pl} hn L b P=>by
  subst O;obtain⟨_,f1,rk,f3,f4,f5⟩:=f2 b P;refine⟨hn b P,ã (Ê (gH b P) l),λz=>?_,.inl P,λx c e=>(j.old x c e).elim (λq z=>Ũ (Ê (gH b P) (Ý l (Nat.le_of_lt q.1))) z) λe=>f4 x c ((dh x c).mp e).2,λp yf=>?_⟩
  ·rcases Û.mp (M.kX b z) with e|e
   ·exact f1 e
   ·exact rk e
  ·rcases ó.mp yf with z|z
   ·exact f5 p z
   ·exact λe=>L p z (e ▸ P)
 have Gu:PG Y tg g:=O ▸ (hY _ _ _ _ _ _).1;have Gv:PF Y tests tf:=O ▸ (hY _ _ _ _ _ _).2.1;have hE1:PE Y el te:=O ▸ (hY _ _ _ _ _ _).2.2;have eP:Y.prog=X.prog:=O ▸ rfl;have eW:Y.w=X.w:=O ▸ rfl;have eA:Y.A=X.A:=O ▸ rfl;have eK:Y.K=X.K:=O ▸ rfl;have eE:Y.env=compEnvC sc iw C X.env:=O ▸ rfl;have eX:Y.xe=λ_ _=>False:=O ▸ rfl;have eC:Y.calm=ό:=O ▸ hc;have eS:Y.c9.heap.objs.size<=D:=O ▸ d;have eF:D∉Y.fs:=O ▸ Gs;have eL:D≠Y.env.locals:=O ▸ rm;have eCl:∀x c,Y.env.cells.lookup x=ϊ c->c≠D:=O ▸ Dl;have eN:∀p∈Y.pn,p.1≠D:=O ▸ D6;have fin:∀(s':Â) (a:St) (U:Hp) (Z:List V),Inv Y [] a U s'->B.Ac D Z s'.heap->U D=ϋ->lM Z->(∀D,U D=ϋ->Q (.ref D) (upd U D (mk D Z))) ->
   compPost (é X.prog X.w) X.A X.xe use R (.ref D) C (.ok .next) s':=by
  intro s' a U Z F pl hn hz q;subst O;obtain⟨m,hm,_⟩:=id F.loc;refine E5 s' (upd U D (mk D Z)) D C m (λh' sb=>?_) hm ?_ (λz=>absurd (Ê M.lt l) (by rw[z];exact ñ _)) (M.xi l) (Ý M.sz l) (λx c e z=>?_) (λp L z=>absurd (Ê (Ð (M.pin p L).1) (by rw[z];exact l)) (ñ _)) (q D hn)
  ·have Fb:cM X.prog X.w U h':=F.aI.but F.free sb
   have u:=(F.base.but l sb).adopt (o:=mk D Z) d hn
   refine M.wB (s':={ s' with heap:=h' }) (ch:=t) F.os u (Fb.adopt hn (B.MN hz (B.iE pl λo e=>(sb.2 D rm).trans e))) F.bare (λb P=>?_)
   obtain⟨_,f1,_,f3,f4,f5⟩:=f2 b P;exact⟨f3,f1,f4,f5⟩
  ·rw[bt (ź rm)]
   exact F.free
  ·obtain⟨v,o,iG,_⟩:=M.cell x c e
   exact absurd (Ê (Ð iG) (by rw[z];exact l)) (ñ _)
 have loop:ż (é X.prog X.w) X.A (.compLoop E 0 (.ref it) (.ref D) (compEnvC sc iw C X.env)) (compPost (é X.prog X.w) X.A X.xe use R (.ref D) C)
   { k with heap:=h3 }:=by
  refine B.turns (λn s'=>∃i Z o U,Inv Y [] (o++nD cap σ) U s'/\o.length=nt/\tn i s'.heap/\(∀b∈t,U b=ϋ)/\B.Ac D Z s'.heap/\U D=ϋ/\W i n Z U) ?_ m0
   ⟨0,[],Ö nt ϋ,H2,IB,by simp,T.keep _ _ _ iY λb _ o e=>old b o e,λb P=>(f2 b P).1,t5,M.aI.fresh d,w0⟩
  intro n s3 zzz;obtain⟨i,Z,o3,H3,I3,Pz,pd,pf,PB,nD3,w3⟩:=zzz;generalize hτ:o3++nD cap σ=a at I3;obtain⟨f,ho,aaG⟩:=B.obj PB;have yg:Inv Y [(D,f)] a H3 s3:=I3.qa λp L=>by
   have e:p=(D,f):=by simpa using L
   subst e;exact⟨ho,nD3,eL,eF,aaG⟩
  have rl:∀p∈[(D,f)],p.1∉t:=λp L=>by
   have e:p=(D,f):=by simpa using L
   subst e;exact nY
  have uU:∀{pl:List (ß×Obj)} {dB:St} {U:Hp} {s':Â},Inv Y ([(D,f)]++pl) dB U s'->B.Ac D Z s'.heap/\U D=ϋ:=λ{pl dB U s'} F=>by
   have q:=F.pin (D,f) (Ù _ (ÿ _ ∅));exact⟨B.iE PB λo e=>by rw[ho] at e;cases e;exact q.1,q.2.1⟩
  rcases turn i n Z H3 w3 with ⟨stop,hz,q⟩ | ⟨go,hz,N',hN,step⟩
  ·have hd:=T.done Y eP eW eK eC i [(D,f)] s3 a H3 (λ_ _=>False) yg (nZ pf rl) pd stop
   rw[eA] at hd;refine aO hd λr s4 h4=>?_;obtain⟨hr,I4⟩:=h4;subst hr;obtain⟨Gn,n4⟩:=uU (pl:=[]) (by simpa using I4);exact fin s4 a H3 Z (Inv.m8 (π:=[]) I4) Gn n4 hz q
  ·have hd:=T.item Y eP eW eK eC i [(D,f)] s3 a H3 (λ_ _=>False) yg (nZ pf rl) pd go
   rw[eA] at hd;refine aO hd λr s4 h4=>?_;obtain⟨u,hr,h4⟩:=h4;subst hr;refine aO h4 λ_ s5 h5=>?_;obtain⟨x,H5,I5,r5,y5,lK,xR⟩:=h5;have xS:=I5.pinned (nZ xR rl) (T.obj _ _ lK);have q5:=Gu _ s5 a H5 x u _ xS r5 (hτ ▸ i6 x o3 _ H5 _ Pz (step o3 x H5 Pz y5));rw[eP,eW,eA,eE,eX] at q5;refine aO q5 λ_ s6 h6=>?_;obtain⟨uV,H6,I6,⟨o6,yh,Aw⟩,q6⟩:=h6;have q7:=Gv _ s6 uV H6 _ I6 q6;rw[eP,eW,eA,eE,eX] at q7;refine aO q7 λb s7 h7=>?_;obtain⟨H7,I7,q7⟩:=h7;have xw:∀{dB:St} {U:Hp} {s':Â},Inv Y ([(D,f)]++ot t s5.heap) dB U s'->tn (i+1) s'.heap/\∀b∈t,U b=ϋ:=λ{dB U s'} F=>by
    refine⟨T.keep _ _ _ lK λb P o e=>(F.pin (b,o) (Ù _ (Ù _ (rS P e)))).1,λb P=>?_⟩;obtain⟨o,e,_⟩:=T.obj _ _ lK b P;exact(F.pin (b,o) (Ù _ (Ù _ (rS P e)))).2.1
   cases b with
   |false =>
    rw[Ú Ä] at q7 |-;obtain⟨m',hm,w7⟩:=hN _ _ q7;obtain⟨AW,n7⟩:=uU I7;obtain⟨t7,f7⟩:=xw I7;exact⟨m',hm,i+1,Z,o6,H7,Aw ▸ I7.qa (λp L=>by simp at L),yh,t7,f7,AW,n7,w7⟩
   |true =>
    rw[Ñ rfl] at q7 |-;have q8:=hE1 _ s7 uV H7 _ I7 q7;rw[eP,eW,eA,eE,eX] at q8;refine aO q8 λy s8 h8=>?_;obtain⟨v,H8,I8,r8,q9⟩:=h8;obtain⟨m',hm,w8⟩:=hN _ _ q9;obtain⟨Gh,n8⟩:=uU I8;obtain⟨t8,f8⟩:=xw I8;have pG:lM (Z++[v]):=by
     rcases turn (i+1) m' (Z++[v]) H8 w8 with q|q
     ·exact q.2.1
     ·exact q.2.1
    refine B.add Gh r8 hz pG λh9 tk9 AV Gi=>?_;have Gj:Inv Y [] uV H8 s8:=I8.qa (λp L=>by simp at L)
    have I9:Inv Y [] uV H8 { s8 with heap:=h9,toks:=tk9 }:=Gj.turned (it:=D) (λb o P e=>(AV.2 b P).trans e) n8 eL (.inr eS) eCl (λp L=>eN p (by simpa using L))
    exact⟨m',hm,i+1,Z++[v],o6,H8,Aw ▸ I9,yh,T.keep _ _ _ t8 λb P o e=>(AV.2 b (λz=>nY (z ▸ P))).trans e,f8,Gi,n8,w8⟩
 exact B.start loop (T.self _ _ _ _ _ (T.keep _ _ _ iY λb _ o e=>old b o e) loop)
def acj {P:å} {w:Ą} {el tg src:ě} {tests:List ě} {sc:acR} {ps:Pos}:NV P w (.ListComp el [⟨tg,src,tests,0⟩] sc ps) el tg src tests (newList []) "list.append" (λ_ acc=>.lst acc) (λacc=>acc.length<=Õ) where
 o0:={ cls:=.type "list",dict:=ϋ,data:=.seq ([]:List Ç).toArray }
 live:=rfl
 Ac:=λD acc h=>∃Z,h.PlainList D Z/\Vals acc Z.toList
 clauses:=rfl
 turns:=RX
 new:=λh=>û h
 start:=codeAny_compStart_list
 init:=λe=>⟨#[],⟨_,e⟩,.nil⟩
 obj:=λ⟨_,⟨_,e⟩,_⟩=>⟨_,e,λ_ z=>by cases z⟩
 iE:=λ⟨Z,⟨n,e⟩,r⟩ k=>⟨Z,⟨n,k _ e⟩,r⟩
 MN:=λX ⟨Z,⟨n,e⟩,r⟩=>⟨X,Z.toList,n,r,by simpa using e⟩
 add:=λ{A s D acc v y Q} ⟨Z,W,r⟩ V X _ q=>wpAny_list_append_plain (hsz:=by have e:=r.length;erw[ö] at e;omega) W λU Y T=>q U s.toks T ⟨Z.push y,Y,by rw[adP];exact Vals.append r (.cons V .nil)⟩
def Vk (hc:X.calm=ό) (S:wt X sc N nt cap) (i6:pw g nt) (hi:PI X tg src wi)
 (hY:∀(cl:List (Str×ß)) (C:ß) (s:Â) (H:Hp) (ex:List ß) (pn:List (ß×Obj)),PG (i7 X N sc cl C s H ex pn) tg g/\PF (i7 X N sc cl C s H ex pn) tests tf/\PE (i7 X N sc cl C s H ex pn) el te)
 (hs:∀x,Ć src X.env x=pure x:=by intro _;rfl):PE X (.ListComp el [⟨tg,src,tests,0⟩] sc ps) (wF wi nt cap g tf te):=by
 intro T s σ H Q I h;rw[eval_ListComp];exact Sg acj (use:=ϋ) hc S i6 hi hY hs I h λR Z D C m Y W _ _ _ _ _ _ q=>⟨m,W,λV U=>⟨.ref D,Z,Y V U,rfl,q⟩⟩
end
def Dt (sc:acR) (on:List (Str×Ű)) (oN N:List Str) (nt:Nat) (cap:List Nat):Bool :=
 ώ (sc.kind=.function)&&sc.names.all (λx=>ώ (x.2=.local->sc.names.lookup x.1=ϊ .local))&&sc.names.all (λx=>ώ (x.2=.cell->sc.names.lookup x.1=ϊ .cell)) &&
 sc.names.all (λx=>ώ (x.2=.free->sc.names.lookup x.1=ϊ .free/\(on.lookup x.1=ϊ .cell\/on.lookup x.1=ϊ .free)))&&ώ (N.length=nt+cap.length) &&
 (è cap.length).all (λk=>match cap[k]? with
  |some j=>match oN[j]? with
   |some x=>ώ (N[nt+k]?=ϊ x)&&ώ ((x,î)∈sc.names)
   |none=>ύ
  |none=>ό)
def D8 (h:Dt sc X.env.scope.names X.N N nt cap=ό):wt X sc N nt cap:=by
 delta Dt at h;erw[Å,ô,Ë] at h;obtain⟨⟨⟨⟨⟨Z,Y⟩,W⟩,V⟩,U⟩,T⟩:=h;refine⟨Z,Y,W,λx S e=>V x S e,U,λk j e=>?_⟩;have R:k<cap.length:=(Ô.mp e).1;have:=T k (Ċ.mpr R);rw[e] at this;dsimp only at this
 cases ex:X.N[j]? with
 |none=>rw[ex] at this;cases this
 |some x =>
  rw[ex] at this;erw[Å,Ë] at this;exact⟨x,rfl,this.1,this.2⟩
end L2
namespace DI
open PySem L2
section
variable {X:Cx} {Ξ:Wd->bg->Prop} {e a b c tg el src:ě} {es rest tests:List ě} {pos:Pos} {f g h:aez D} {fa:aez (List D)} {ft gt:aez Bool}
def CH (hc:X.calm=ό) (S:wt X sc N nt cap) (T:Tg X.K g0 gd nt) (hi:PI X tg src (fO X.K Ξ it))
 (hY:∀(cl:List (Str×ß)) (C:ß) (s:Â) (H:Hp) (ex:List ß) (pn:List (ß×Obj)),PG (i7 X N sc cl C s H ex pn) tg g0/\PF (i7 X N sc cl C s H ex pn) tests (tT X.K cF ft)/\PE (i7 X N sc cl C s H ex pn) el (tE X.K cF f))
 (hs:∀x,Ć src X.env x=pure x:=by intro _;rfl):PE X (.ListComp el [⟨tg,src,tests,0⟩] sc ps) (tE X.K Ξ (cL nt cap it gd ft f)) :=
 cm (Vk hc S T.nX hi hY hs) fun σ H Q h=>Sb T.imp (λR Z i h=>Vc R Z i h) (U9 σ H Q h)
end
end DI
namespace L2
open PySem PySem.Spec PyProof.Rows
end L2
namespace DI
open PySem L2
end DI
namespace L2
open PySem PySem.Spec PyProof.Rows
end L2
namespace DI
open PySem L2
open HT PyProof.Rows
section
variable {X:Cx} {Ξ:Wd->bg->Prop}
def TB (h:Vals xs us):∀{q:List Nat},(∀i∈q,i<us.length)->Vals (q.map λi=>xs.getD i .au) (q.map λi=>us.getD i Value.none):=by
 intro q
 induction q with
 |nil=>intro _;exact .nil
 |cons i q ih =>
  intro Z;refine .cons ?_ (ih λj X=>Z j (Ï _ X));have Y:=Z i Þ;clear ih Z
  induction h generalizing i with
  |nil=>simp at Y
  |cons a _ ih =>
   cases i with
   |zero=>exact a
   |succ i=>simpa using ih i (by simpa using Y)
def Vl {K:đ} {w:Wd} {ds:List D} {xs:List V} (h:ar K w ds xs):∀{q:List Nat},(∀i∈q,i<ds.length)->ar K w (q.map λi=>ds.getD i .au) (q.map λi=>xs.getD i .au):=by
 intro q
 induction q with
 |nil=>intro _;exact rfl
 |cons i q ih =>
  intro Z;have Y:=Z i Þ;obtain⟨v,e,X⟩:=h.get' i _ (Ø Y);refine⟨_,_,rfl,?_,ih λj W=>Z j (Ï _ W)⟩;have e1:ds.getD i .au=ds[i]:=by simp[Y]
  have e2:xs.getD i .au=v:=by simp[e]
  show DV K w (ds.getD i .au) (xs.getD i .au);rw[e1,e2];exact X
def Vm {α:Type} {O:ST.Ord α} {ks:List α} {f:α->D} {d:α} {q:Array Nat} (hp:ST.Pm ks.length q) (hu:ST.Up O (ST.ky (λi=>ks.getD i d) q) ks.length):q.toList.map (λi=>(ks.map f).getD i .au)=(ST.dA O ks).map f:=by
 rw[<- ST.Tw hp hu,Ġ];refine List.map_congr_left λi Z=>?_;have:i<ks.length:=Ċ.mp (hp.2.mem_iff.mp Z);simp[this]
end
end DI
namespace TK
open PySem PySem.W PyProof.Rows DI
mutual
noncomputable def kd:D->Bool
 | .int _=>ό
 | .str x=>Ó x
 | .tup Z=>iL Z
 |_=>ύ
noncomputable def iL:List D->Bool
 | []=>ό
 |k::Z=>kd k&&iL Z
end
mutual
def KA (h:ĺ):D->Ç->Prop
 | .int i,v=>∃t,v=.int i t
 | .str x,v=>∃t,v=.str x t
 | .tup Z,v=>∃a o its n,v=.ref a/\h.get? a=ϊ o/\o.cls=.type "tuple"/\o.data=.seq its n/\gp h Z its.toList
 |_,_=>False
def gp (h:ĺ):List D->List Ç->Prop
 | [],Z=>Z=[]
 |k::Y,Z=>∃v r,Z=v::r/\KA h k v/\gp h Y r
end
mutual
theorem ql:∀k:D,kd k=ό->lay k=ό
 | .int _,_=>rfl
 | .str _,h=>h
 | .tup Z,h=>by erw[kd] at h;erw[lay];exact KR Z h
 | .au,h=>by cases h
 | .bl _,h=>by cases h
 | .lst _,h=>by cases h
 | .cy _,h=>by cases h
 | .aj _,h=>by cases h
 | .ty _,h=>by cases h
 | .bO _,h=>by cases h
 | .exc _ _,h=>by cases h
 | .dj _ _ _,h=>by cases h
theorem KR:∀ks:List D,iL ks=ό->cQ ks=ό
 | [],_=>rfl
 |k::ks,h=>by
  erw[iL,cQ,Å] at h |-;exact⟨ql k h.1,KR ks h.2⟩
end
mutual
theorem KA.reads:∀(k:D) (v:Ç),KA h k v->∃as,Reads h v (py k) as
 | .int i,v,q=>by obtain⟨t,rfl⟩:=q;exact⟨_,.int i t⟩
 | .str x,v,q=>by obtain⟨t,rfl⟩:=q;exact⟨_,.str x t⟩
 | .tup Z,v,q=>by
  erw[KA] at q;obtain⟨a,o,its,n,rfl,Y,X,W,r⟩:=q;obtain⟨as,r⟩:=gp.reads Z _ r;exact⟨as,.tuple Y X W r⟩
 | .au,_,q=>by cases q
 | .bl _,_,q=>by cases q
 | .lst _,_,q=>by cases q
 | .cy _,_,q=>by cases q
 | .aj _,_,q=>by cases q
 | .ty _,_,q=>by cases q
 | .bO _,_,q=>by cases q
 | .exc _ _,_,q=>by cases q
 | .dj _ _ _,_,q=>by cases q
theorem gp.reads:∀(ks:List D) (vs:List Ç),gp h ks vs->∃as,ReadsAll h vs (fP ks) as
 | [],vs,q=>by cases q;exact⟨_,.nil⟩
 |k::ks,vs,q=>by
  obtain⟨v,r,rfl,Z,Y⟩:=q;obtain⟨as,Z⟩:=KA.reads k v Z;obtain⟨bs,Y⟩:=gp.reads ks r Y;exact⟨_,.cons Z Y⟩
end
mutual
theorem KA.keep (hk:∀a o,h.get? a=ϊ o->o.cls=.type "tuple"->(∃its n,o.data=.seq its n)->h'.get? a=ϊ o):∀(x:D) (v:Ç),KA h x v->KA h' x v
 | .int i,v,p=>p
 | .str i,v,p=>p
 | .tup X,v,p=>by
  erw[KA] at p |-;obtain⟨a,o,its,n,e,W,Z,Y,r⟩:=p;exact⟨a,o,its,n,e,hk a o W Z ⟨its,n,Y⟩,Z,Y,gp.keep hk X _ r⟩
 | .au,_,q=>by cases q
 | .bl _,_,q=>by cases q
 | .lst _,_,q=>by cases q
 | .cy _,_,q=>by cases q
 | .aj _,_,q=>by cases q
 | .ty _,_,q=>by cases q
 | .bO _,_,q=>by cases q
 | .exc _ _,_,q=>by cases q
 | .dj _ _ _,_,q=>by cases q
theorem gp.keep (hk:∀a o,h.get? a=ϊ o->o.cls=.type "tuple"->(∃its n,o.data=.seq its n)->h'.get? a=ϊ o):∀(xs:List D) (vs:List Ç),gp h xs vs->gp h' xs vs
 | [],vs,p=>p
 |x::xs,vs,p=>by
  obtain⟨v,r,e,Z,Y⟩:=p;exact⟨v,r,e,KA.keep hk x v Z,gp.keep hk xs r Y⟩
end
section
variable {prog:å} {w:Ą}
instance afp:DecidableEq (List D):=λa b=>Classical.propDecidable (a=b)
end
end TK
namespace TK
open PySem PySem.W PyProof.Rows DI L2
def its:D->List D
 | .tup Z=>Z
 |_=>[]
section
variable {X:Cx} {π:List (ß×Obj)} {σ:L2.St} {s:Â} {w:Wd}
mutual
theorem aaH (I:Inv X π σ w.H s):∀(d:D) (v:V) (u:Ç),kd d=ό->DI.DV X.K w d v->RelV v u->KA s.heap d u
 | .int i,v,u,_,h,r=>by cases h;exact r
 | .str x,v,u,_,h,r=>by cases h;exact r
 | .tup Z,v,u,k,h,r=>by
  erw[DI.DV] at h;obtain⟨a,Y,rfl,W,U⟩:=h;cases r;obtain⟨its,T,⟨o,S,R,n,Q⟩,_⟩:=I.tuple W;erw[kd] at k;erw[KA];exact⟨a,o,_,n,rfl,S,R,Q,Du I Z Y _ k U (by simpa using T)⟩
 | .au,_,_,k,_,_=>by cases k
 | .bl _,_,_,k,_,_=>by cases k
 | .lst _,_,_,k,_,_=>by cases k
 | .cy _,_,_,k,_,_=>by cases k
 | .aj _,_,_,k,_,_=>by cases k
 | .ty _,_,_,k,_,_=>by cases k
 | .bO _,_,_,k,_,_=>by cases k
 | .exc _ _,_,_,k,_,_=>by cases k
 | .dj _ _ _,_,_,k,_,_=>by cases k
theorem Du (I:Inv X π σ w.H s):∀(ds:List D) (vs:List V) (us:List Ç),iL ds=ό->DI.ar X.K w ds vs->Vals vs us->gp s.heap ds us
 | [],vs,us,_,h,r=>by cases h;cases r;rfl
 |d::ds,vs,us,k,h,r=>by
  obtain⟨v,Z,rfl,Y,W⟩:=h;erw[iL,Å] at k
  cases r with
  |cons r U=>exact⟨_,_,rfl,aaH I d v _ k.1 Y r,Du I ds Z _ k.2 W U⟩
end
end
end TK
namespace TK
open PySem PySem.W PyProof.Rows DI L2
open HT
section
variable {s:Â}
def aaI (kx:kd x=ό) (ky:kd y=ό) (hu:A.units+dep x<cLine) (hx:KA s.heap x vx) (hy:KA s.heap y vy):SeqAt.EqAt A s vx vy (beq x y):=by
 obtain⟨as,Z⟩:=KA.reads _ _ hx;obtain⟨bs,Y⟩:=KA.reads _ _ hy;obtain⟨X,W⟩:=nA _ (ql _ kx);obtain⟨V,U⟩:=nA _ (ql _ ky);have:=SeqAt.eqAt_reads _ _ A s vx vy as bs Z Y X V (by rw[W];omega);rw[wg _ _ (ql _ kx) (ql _ ky)] at this;exact this
mutual
theorem aaJ:∀(A:í) (x y:D) (b:Bool) (vx vy:Ç),jw x y=ϊ b->kd x=ό->kd y=ό->A.units+5*dep x+5<cLine->KA s.heap x vx->KA s.heap y vy->Fe A s vx vy b
 |A,.int i,y,b,vx,vy,h,_,_,_,Z,Y=>by
  cases y with
  |int j =>
   cases h;obtain⟨t,rfl⟩:=Z;obtain⟨X,rfl⟩:=Y;exact λprog w E Q q=>Kx A s i t j X prog w E Q q
  |_=>cases h
 |A,.str i,y,b,vx,vy,h,_,_,_,Z,Y=>by
  cases y with
  |str j =>
   cases h;obtain⟨t,rfl⟩:=Z;obtain⟨X,rfl⟩:=Y;exact λprog w E Q q=>(PyProof.Rows.lt_str q:á (é prog w) A (ĕ .Lt (.str i t) (.str j X)) Q E s)
  |_=>cases h
 |A,.tup U,y,b,vx,vy,h,W,ky,T,Z,Y=>by
  cases y with
  |tup S =>
   erw[jw] at h;erw[KA] at Z Y;obtain⟨a,o,its,n,rfl,R,P,O,r⟩:=Z;obtain⟨G,N,V,M,rfl,L,K,J,I⟩:=Y;erw[dep] at T;erw[kd] at W ky;exact λprog w E Q q=>LJ ⟨o,R,P,n,O⟩ ⟨N,L,K,M,J⟩ (λH F=>Dv H U S b _ _ h W ky ⋯ r I) ⋯ q
  |_=>cases h
 |_,.au,_,_,_,_,_,k,_,_,_,_=>by cases k
 |_,.bl _,_,_,_,_,_,k,_,_,_,_=>by cases k
 |_,.lst _,_,_,_,_,_,k,_,_,_,_=>by cases k
 |_,.cy _,_,_,_,_,_,k,_,_,_,_=>by cases k
 |_,.aj _,_,_,_,_,_,k,_,_,_,_=>by cases k
 |_,.ty _,_,_,_,_,_,k,_,_,_,_=>by cases k
 |_,.bO _,_,_,_,_,_,k,_,_,_,_=>by cases k
 |_,.exc _ _,_,_,_,_,_,k,_,_,_,_=>by cases k
 |_,.dj _ _ _,_,_,_,_,_,k,_,_,_,_=>by cases k
theorem Dv:∀(A:í) (xs ys:List D) (b:Bool) (ps qs:List Ç),jN xs ys=ϊ b->iL xs=ό->iL ys=ό->A.units+5*fL xs+5<cLine->gp s.heap xs ps->gp s.heap ys qs->jC A s ps qs b
 |A,[],ys,b,ps,qs,h,_,_,_,V,Z=>by
  cases V
  cases ys with
  |nil=>cases h;cases Z;exact .nn
  |cons y ys=>cases h;obtain⟨v,r,rfl,_⟩:=Z;exact .nc _ _
 |A,x::xs,ys,b,ps,qs,h,Y,ky,T,V,Z=>by
  obtain⟨v,r,rfl,U,S⟩:=V
  cases ys with
  |nil=>cases h;cases Z;exact .cn _ _
  |cons y ys =>
   obtain⟨u,R,rfl,g1,g2⟩:=Z;erw[iL,Å] at Y ky;erw[fL] at T;have Q:=Nat.le_max_left (dep x) (fL xs);have P:=Nat.le_max_right (dep x) (fL xs);have X:=aaI (A:=A) Y.1 ky.1 ⋯ U g1;erw[jN] at h;split at h
   ·rename_i W
    rw[W] at X;exact .eq X (Dv A xs ys b _ _ h Y.2 ky.2 ⋯ S g2)
   ·rename_i W
    rw[adb] at W;rw[W] at X;exact .lt X (aaJ A x y b _ _ h Y.1 ky.1 ⋯ U g1)
end
end
section
variable {prog:å} {w:Ą} {A:í} {E:Ç->Â->Prop} {s:Â}
def TC (h:jC A s xs ys b):∀(i:Nat),fin=ώ (xs.length<ys.length)->Q b s->KatLex prog w A t fin Q (xs.zip ys) (i+1) s:=by
 induction h with
 |nn=>intro i Z q;rw[Z];exact q
 |nc y ys=>intro i Z q;rw[Z];exact q
 |cn x xs=>intro i Z q;rw[Z];exact q
 |eq Y _ ih =>
  intro i Z q;rw[Ĺ];exact kat_cons (Y prog w _ _ (kat_yes (ih (i+1) (by rw[Z];simp) q)))
 |lt Y X =>
  intro i Z q;rw[Ĺ];refine kat_cons (Y prog w _ _ (kat_no ?_));rw[show (t&&(i+1==0))=ύ by simp];exact kat_one _ _ (X prog w _ _ q)
def TF (hs:x=y->jC A s xs ys b) (hf:fin=ώ (xs.length<ys.length)) (q:Q (if x=y then b else ώ (x.cps.toList<y.cps.toList)) s) :
  KatLex prog w A ό fin Q ((.str x t::xs).zip (.str y u::ys)) 0 s:=by
 rw[Ĺ];refine kat_cons (wpAny_eqBool_str ?_);by_cases e:x=y
 ·rw[Ñ e] at q
  rw[È e];exact kat_yes (TC (hs e) 0 hf q)
 ·rw[Ú e] at q
  rw[Ì e];exact kat_no (oneLt_str q)
end
inductive Pg where
 |made (m d:Int) (h l:List Int)
 |de (m d k:Int)
def ti (l:List Int):D:=.tup (l.map D.int)
def Pg.d:Pg->D
 | .made m d h l=>.tup [.str "made",.int m,.int d,.tup [ti h,ti l]]
 | .de m d k=>.tup [.str "mended",.int m,.int d,.int k]
def MO (h:ti a=ti b):a=b:=by
 injection h with h
 exact List.map_inj_right (λx y e=>by injection e) |>.mp h
def Pg.aaK {p q:Pg} (h:p.d=q.d):p=q:=by
 cases p<;>cases q<;>erw[Pg.d,D.tup.injEq,Ÿ,D.int.injEq,and_true,reduceCtorEq,and_false,false_and] at h
 ·obtain⟨_,Z,Y,X,W⟩:=h
  rw[Z,Y,MO X,MO W]
 ·obtain⟨_,Z,Y,X⟩:=h
  rw[Z,Y,X]
def encL:List Int->List Int
 | []=>[0]
 |x::Z=>1::x::encL Z
def Pg.enc:Pg->List Int
 | .made m d h l=>0::m::d::(encL h++encL l)
 | .de m d k=>[1,m,d,k]
theorem B6:∀{a b u v:List Int},encL a++u=encL b++v->a=b/\u=v
 | [],[],u,v,h=>by simpa [encL] using h
 | [],y::b,u,v,h=>by simp[encL] at h
 |x::a,[],u,v,h=>by simp[encL] at h
 |x::a,y::b,u,v,h=>by
  erw[encL,Ħ,Ÿ,true_and] at h;obtain⟨Z,Y⟩:=B6 h.2;exact⟨by rw[h.1,Z],Y⟩
def Pg.W7 {p q:Pg} (h:p.enc=q.enc):p=q:=by
 cases p<;>cases q<;>erw[Pg.enc,Ÿ,and_true,true_and,reduceCtorEq,false_and,Int.reduceEq] at h
 ·obtain⟨Y,X,W⟩:=h
  have Z:=B6 (u:=encL _++[]) (v:=encL _++[]) (by simpa using W);have V:=B6 Z.2;rw[Y,X,Z.1,V.1]
 ·rw[h.1,h.2.1,h.2.2]
def cw:ST.Ord Pg where
 lt p q:=lexLt p.enc q.enc
 yj p:=ST.CG _
 tr _ _ _ h g:=ST.YY _ _ _ h g
 yk _ _ h g:=Pg.W7 (ST.W6 _ _ h g)
theorem Kc:∀a b:List Int,oT (a.map D.int) (b.map D.int)=ώ (a=b)
 | [],[]=>rfl
 | [],_::_=>rfl
 |_::_,[]=>rfl
 |x::a,y::b=>by
  erw[à,oT,beq,Kc a b]
  by_cases e:x=y<;>simp[e]
theorem Kd:∀a b:List Int,jN (a.map D.int) (b.map D.int)=ϊ (lexLt a b)
 | [],[]=>rfl
 | [],_::_=>rfl
 |_::_,[]=>rfl
 |x::a,y::b=>by
  erw[à,jN,beq,jw,j0,Kd a b]
  by_cases e:x=y<;>simp[e]
theorem CI:∀a b u v:List Int,lexLt (encL a++u) (encL b++v)=if a=b then lexLt u v else lexLt a b
 | [],[],u,v=>by simp[encL,j0]
 | [],y::b,u,v=>by simp[encL,j0];rfl
 |x::a,[],u,v=>by simp[encL,j0];rfl
 |x::a,y::b,u,v=>by
  erw[encL,Ħ,j0,ò,CI a b u v,Ÿ]
  by_cases e:x=y<;>simp[e]
def NW (p q:Pg):jw p.d q.d=ϊ (cw.lt p q):=by
 have T:¬ ((Ĉ "made")=Ĉ "mended"):=nofun
 have S:¬ ((Ĉ "mended")=Ĉ "made"):=nofun
 have R:ώ ((Ĉ "made").cps.toList<(Ĉ "mended").cps.toList)=ό:=nofun
 have Q:ώ ((Ĉ "mended").cps.toList<(Ĉ "made").cps.toList)=ύ:=nofun
 show _=ϊ (lexLt p.enc q.enc)
 cases p with
 |made m d h l =>
  cases q with
  |made Z Y V X =>
   erw[Pg.d,Pg.enc,jw,jN,beq,oT,ti,j0,Kc,Kd,CI,Ė,ò,ad8];have:=CI l X [] [];erw[ĥ] at this;rw[this]
   by_cases e1:m=Z<;>by_cases e2:d=Y<;>by_cases W:h=V<;>by_cases P:l=X<;>simp[e1,e2,W,P,ST.CG]
  |de Z Y U=>erw[Pg.d,Pg.enc,jw,jN,beq,j0,beq_iff_eq,T,R,ï];simp
 |de m d k =>
  cases q with
  |made Z Y V X=>erw[Pg.d,Pg.enc,jw,jN,beq,j0,beq_iff_eq,S,Q,ï];simp
  |de Z Y U =>
   erw[Pg.d,Pg.enc,jw,jN,beq,j0,Ė,ò]
   by_cases e1:m=Z<;>by_cases e2:d=Y<;>by_cases W:k=U<;>simp[e1,e2,W,ST.CG]
def W8 (l:List Int):iL (l.map D.int)=ό:=by
 induction l with
 |nil=>rfl
 |cons x l ih=>simpa only [à,iL,kd,ú] using ih
def Vn (l:List Int):fL (l.map D.int)=0:=by
 induction l with
 |nil=>rfl
 |cons x l ih=>erw[à,fL,dep,ih];rfl
def zY (p:Pg):kd p.d=ό:=by
 have Z:Ó "made"=ό:=nofun
 have Y:Ó "mended"=ό:=nofun
 cases p<;>erw[Pg.d,kd,iL,ti,W8,Z,Y,ĵ]
def zz (p:Pg):dep p.d<=3:=by
 cases p<;>erw[Pg.d,dep,fL,ti,Vn]<;>decide
def Vo (p:Pg):∃(x:Str) (r:List D),p.d=.tup (.str x::r):=by
 cases p<;>exact⟨_,_,rfl⟩
def D9 {h:ĺ} {p:Pg} {v:Ç} (q:KA h p.d v):∃(x:Str) (r:List D) (a:ß) (o:Obj) (its:Array Ç) (n:Nat) (t:Tok) (us:List Ç),p.d=.tup (.str x::r)/\v=.ref a/\h.get? a=ϊ o/\o.cls=.type "tuple"/\o.data=.seq its n/\its.toList=.str x t::us/\gp h r us/\iL r=ό:=by
 obtain⟨x,r,e⟩:=Vo p;have k:=zY p;rw[e] at q k;erw[KA] at q;obtain⟨a,o,its,n,e1,Z,Y,X,u,us,e2,⟨t,W⟩,V⟩:=q;erw[kd,iL,Å] at k;exact⟨x,r,a,o,its,n,t,us,e,e1,Z,Y,X,by rw[e2,W],V,k.2⟩
section
variable {prog:å} {w:Ą} {A:í} {E:Ç->Â->Prop} {s:Â}
def TH:∀{ps:List Pg} {us:List Ç},gp s.heap (ps.map Pg.d) us->∃fs,KatTups s.heap us fs/\(∀v∈fs,∃x t,v=Value.str x t)/\fs.length=us.length:=by
 intro ps
 induction ps with
 |nil=>intro us h;cases h;exact⟨[],KatTups.nil,λv (hv:v∈[])=>(ć hv).elim,rfl⟩
 |cons p ps ih =>
  intro us h;obtain⟨v,r,rfl,Z,Y⟩:=h;obtain⟨fs,X,W,V⟩:=ih Y;obtain⟨x,_,a,o,its,n,t,Q,_,rfl,U,T,S,R,_⟩:=D9 Z;refine⟨.str x t::fs,.cons U T S (by rw[<- į,R];rfl) X,λv hv=>?_,by simp[V]⟩
  rcases Û.mp hv with rfl|hv
  ·exact⟨x,t,rfl⟩
  ·exact W v hv
def kas_get:∀{ds:List D} {us:List Ç},gp h ds us->∀i,i<us.length->KA h (ds.getD i .au) (us.getD i Value.none):=by
 intro ds
 induction ds with
 |nil=>intro us h i Z;cases h;cases Z
 |cons d ds ih =>
  intro us h i Z;obtain⟨v,r,rfl,Y,X⟩:=h
  cases i with
  |zero=>exact Y
  |succ i=>exact ih X i (by simpa using Z)
def W9:∀{ds:List D} {us:List Ç},gp h ds us->ds.length=us.length:=by
 intro ds
 induction ds with
 |nil=>intro us h;cases h;rfl
 |cons d ds ih=>intro us h;obtain⟨v,r,rfl,Y,Z⟩:=h;simp[ih Z]
def Y2 (hu:A.units+100<cLine) (h1:KA s.heap p.d v) (h2:KA s.heap q.d u) (hC:C (cw.lt p q) s):á (é prog w) A (keyLt' (tuples' ό) v u) C E s:=by
 obtain⟨x,r,a,o,its,n,t,L,e,rfl,U,K,T,X,S,k⟩:=D9 h1;obtain⟨Z,R,J,I,W,H,G,Q,P,rfl,O,F,N,V,Y,M⟩:=D9 h2;have dl:=zz p;rw[e] at dl;erw[dep,fL] at dl;have lt:=NW p q;rw[e,P] at lt;erw[jw,jN] at lt;have be:beq (.str x) (.str Z)=ό↔x=Z:=by simp[beq]
 refine kat_lt U T O N ?_;rw[X,V];refine TF (b:=cw.lt p q) (λex=>?_) ?_ ?_
 ·rw[Ñ (be.mpr ex)] at lt
  exact Dv A r R _ _ _ lt k M (by have:=Nat.le_max_right (0:Nat) (fL r);omega) S Y
 ·simp[<- ö,X,V]
 ·by_cases ex:x=Z
  ·rw[Ñ ex];exact hC
  ·rw[Ú λz=>ex (be.mp z)] at lt
   rw[Ú ex,aeE lt];exact hC
def Vp {us:List Ç} {ps:List Pg} (t:gp s.heap (ps.map Pg.d) us) (h2:2<=us.length) (hu:A.units+100<cLine) (d:Pg):ST.Ax prog w A cw (λi=>ps.getD i d) us s:=by
 obtain⟨fs,Y,X,R⟩:=TH t;have W:=W9 t;rw[É] at W;have at_:∀i,i<us.length->KA s.heap (ps.getD i d).d (us.getD i Value.none):=λi Z=>by
  have:=kas_get t i Z;rwa [show (ps.map Pg.d).getD i .au=(ps.getD i d).d by simp[Ŷ,ê,Ø (show i<ps.length by omega)]] at this
 delta ST.Ax;refine kat_kind (T:=.type "str") Y ⋯ (λv V=>?_) (by decide) ⟨rfl,λi j C Z U S=>?_⟩
 ·obtain⟨x,Q,rfl⟩:=X v V
  exact .of_pure rfl
 ·exact Y2 hu (at_ i Z) (at_ j U) S
end
end TK
namespace TK
open PySem PySem.W PyProof.Rows DI L2
open Classical in
def wR (xs:List D):Option D:=if h:∃Z:List Pg,xs=Z.map Pg.d then ϊ (.lst ((ST.dA cw (Classical.choose h)).map Pg.d)) else ϋ
def Si:∀{a b:List Pg},a.map Pg.d=b.map Pg.d->a=b:=λh=>List.map_inj_right (λ_ _ e=>Pg.aaK e) |>.mp h
def KS (ps:List Pg):wR (ps.map Pg.d)=ϊ (.lst ((ST.dA cw ps).map Pg.d)):=by
 delta wR;have h:∃Z:List Pg,ps.map Pg.d=Z.map Pg.d:=⟨ps,rfl⟩;rw[dif_pos h];have:=Si (Classical.choose_spec h);rw[<- this]
section
variable {X:Cx} {Ξ:Wd->bg->Prop}
def Xa (ps:List Pg):iL (ps.map Pg.d)=ό:=by
 induction ps with
 |nil=>rfl
 |cons p ps ih=>erw[à,iL,zY,ih,ĵ]
end
def Ea (f:DI.aez D):DI.aez D:=λenv s=>ai (f env s) λx s=>ai (truth x s) λb s=>ok (.bl (!b)) s
def Y3 (ha:PE X a (tE X.K Ξ f)):PE X (.UnaryOp .Not a pos) (tE X.K Ξ (Ea f)):=by
 intro Y s σ H Q I zzz;obtain⟨w,env,rfl,S,U,h⟩:=zzz;refine UnaryOp_ (aO (ha Y s σ w.H (λv W=>∃b,qK X.K v W b/\Q (.bl (!b)) W) I ⟨w,env,rfl,S,U,(Out.ai h).mono λE x D V T v R=>?_⟩) λv P ⟨x,O,N,M,b,L,J⟩=>?_)
 ·obtain⟨b,t,G⟩:=qK.of V R (Out.ai T)
  exact⟨b,t,aB V G _ rfl⟩
 ·refine not_of (ė (C9 Y P σ O x v (λc Z=>Q (.bl (!c)) Z) N M ⟨b,L,J⟩) (λc C ⟨Z,F,q⟩=>⟨.bl (!c),Z,F,rfl,q⟩) λ_ _ z=>z)
end TK
namespace ST
open PySem PySem.Spec PyProof.Rows
end ST
namespace DI
open PySem L2
end DI
namespace L2
open PySem PySem.Spec PyProof.Rows
def xy (acc:List (Key×V)) (p:Key×V):List (Key×V):=match p.2 with
 | .int n=>putK acc (.inl n) (kV p.1)
 |_=>acc
end L2
namespace DI
open PySem L2
end DI
namespace L2
open PySem PySem.Spec PyProof.Rows
end L2
namespace DI
open PySem L2
end DI
namespace L2
open PySem PySem.Spec PyProof.Rows
end L2
namespace DI
open PySem L2
section
variable {X:Cx} {Ξ:Wd->bg->Prop} {pos:Pos}
def Y4:PE X (.Dict [] [] pos) (tE X.K Ξ (eC (.cy []))):=cm UU fun σ H Q W=>by
 obtain⟨w,env,V,S,U,h⟩:=W;subst V;intro p Y;exact h (w.grow p (.dK [])) (Fw.grow Y).le (S.grow Y) rfl (.ref p) ⟨p,rfl,(show ¬ w.Z p from ma S Y),cO⟩
end
end DI
namespace L2
open PySem PySem.Spec PyProof.Rows
end L2
namespace DI
open PySem L2
end DI
namespace L2
open PySem PySem.Spec PyProof.Rows
open AutoSeq1 (wpAny_loadPart')
end L2
namespace DI
open PySem L2
end DI
namespace L2
open PySem PySem.Spec PyProof.Rows
section
variable {X:Cx} {pos:Pos}
def aaL (i j k:Nat) (ta:TA):TS:=λD σ H=>ta σ H λZ Y=>∃v w u,Z=[v,w,u]/\D.nx (((σ.set i (ϊ v)).set j (ϊ w)).set k (ϊ u)) Y
def vals3 (r:Vals [v,w,u] us):∃a b c,us=[a,b,c]/\RelV v a/\RelV w b/\RelV u c:=by
 cases r with
 |cons p q =>
  obtain⟨b,c,rfl,Z,Y⟩:=vals2 q;exact⟨_,b,c,rfl,p,Z,Y⟩
def Xb {kt k2 iX} (hc:X.calm=ό) (hN:X.N.Nodup) (hi:X.N[i]?=ϊ x) (hj:X.N[j]?=ϊ y) (hk:X.N[k]?=ϊ z) (fz:i≠j) (rg:i≠k) (GD:j≠k)
 (hx:X.env.scope.names.lookup x=ϊ .local) (hy:X.env.scope.names.lookup y=ϊ .local) (hz:X.env.scope.names.lookup z=ϊ .local) (ha:PA X [a,b,c] ta)
 (hw:acT [.Tuple [.Name x px,.Name y py,.Name z pz] kt pt] (.Tuple [a,b,c] k2 iX) X.env=pure (ϊ [x,y,z]))
 (hs:acS [.Tuple [.Name x px,.Name y py,.Name z pz] kt pt] (.Tuple [a,b,c] k2 iX) pos.line X.env=pure ύ) :
  PS X (.Assign [.Tuple [.Name x px,.Name y py,.Name z pz] kt pt] (.Tuple [a,b,c] k2 iX) pos) (aaL i j k ta):=by
 intro U s σ H D I h;rw[exec_Assign_arm];refine À (Ż ?_);rw[hs];refine À (Ã ?_);rw[Ú (by decide)];refine À (Tuple_ (aO (ha _ U s σ H _ I h) λB Z R=>?_));obtain⟨t,T,Q,P,v,w,u,e1,O⟩:=R;subst e1;obtain⟨Y,W,V,rfl,M,L,K⟩:=vals3 P;refine û ?_ (by show 3<=Õ;decide)
 have J:Inv X U σ T { Z with heap:=Z.heap.push { cls:=.type "tuple",data:=.seq [Y,W,V].toArray } }:=Q.kept (t':=Z.toks) λb o e=>Á _ e
 rw[hw];refine À (Ã ?_)
 show á (é X.prog X.w) X.A (do rule "assign.swapped-stores";let items <- unpackItems (.ref Z.heap.objs.size) 3 ϋ;adt [λv=>adT X.env z v,λv=>adT X.env y v,λv=>adT X.env x v] items.reverse;pure Flow.next) _ _ _
 refine À (Ŵ (À (unpackItems_tuple (items:=#[Y,W,V]) (I.ok.hd hc) (IsTup.new Z.heap _) λh' G=>?_)));have F:=J.kept (h':=h') (t':=Z.toks) λb o e=>G b o (ã (Ð e)) e
 show á _ _ (adt [λv=>adT X.env z v,λv=>adT X.env y v,λv=>adT X.env x v] [V,W,Y] >>= λ_=>pure Flow.next) _ _ _
 refine À (ŧ (adU (oj F hN hk (.inl hz) K (λr E=>?_) (.inr hz))));refine ŧ (adU (oj E hN hj (.inl hy) L (λq C=>?_) (.inr hy)));refine ŧ (adU (oj C hN hi (.inl hx) M (λp S=>assignInOrder_nil (Ã ?_)) (.inr hx)));rw[List.set_comm _ _ (ź GD),List.set_comm _ _ (ź rg),List.set_comm _ _ (ź fz)] at S;exact⟨_,T,S,O⟩
end
end L2
namespace DI
open PySem L2
section
variable {X:Cx} {Ξ:Wd->bg->Prop} {a b c:ě} {pos:Pos} {fa:aez (List D)}
def Ay (i j k:Nat) (fa:aez (List D)):aez Fl:=λenv s=>ai (fa env s) λZ s=>match Z with
 | [x,y,z]=>ok (.nx (((env.set i (ϊ x)).set j (ϊ y)).set k (ϊ z))) s
 |_=>ϋ
def Y5 (i j k:Nat) {x y z:Str} {px py pz pt:Pos} {kt k2 iX} (hc:X.calm=ό) (hN:X.N.Nodup) (ha:PA X [a,b,c] (tA X.K Ξ fa)) (hi:X.N[i]?=ϊ x:=by rfl) (hj:X.N[j]?=ϊ y:=by rfl) (hk:X.N[k]?=ϊ z:=by rfl) (fz:i≠j:=by decide) (rg:i≠k:=by decide) (GD:j≠k:=by decide)
  (hx:X.env.scope.names.lookup x=ϊ .local:=by rfl) (hy:X.env.scope.names.lookup y=ϊ .local:=by rfl) (hz:X.env.scope.names.lookup z=ϊ .local:=by rfl)
  (hw:acT [.Tuple [.Name x px,.Name y py,.Name z pz] kt pt] (.Tuple [a,b,c] k2 iX) X.env=pure (ϊ [x,y,z]):=by rfl)
  (hs:acS [.Tuple [.Name x px,.Name y py,.Name z pz] kt pt] (.Tuple [a,b,c] k2 iX) pos.line X.env=pure ύ:=by rfl) :
  PS X (.Assign [.Tuple [.Name x px,.Name y py,.Name z pz] kt pt] (.Tuple [a,b,c] k2 iX) pos) (tS X.K Ξ (Ay i j k fa)):=kY (Xb hc hN hi hj hk fz rg GD hx hy hz ha hw hs) λL σ H W=>by
 obtain⟨w,env,V,S,Y,h⟩:=W;subst V;refine⟨w,env,rfl,S,Y,(Out.ai h).mono λJ I U T Z G R=>?_⟩;split at Z
 ·obtain⟨v,r,rfl,Q,P⟩:=R
  obtain⟨u,t,rfl,O,M⟩:=wj P;exact⟨v,u,t,rfl,aB T Z _ ((((Y.le U).set Q i).set O j).set M k)⟩
 ·exact Z.elim
end
def rM:List D->ae->Res D:=aD 2 2 (aA (t6 (eB ui (af (cL 1 [1] (cH (aa 0)) (gN 0) cS (e2 fe (aa 0) (aa 1))) ah))))
def pS:List D->ae->Res D:=aD 1 3 (aq (aM (eT (cU (cq (eB gR (af (aa 0) (af (eC (.ty "tuple")) ah))))) (aV (e2 dZ (eB cI (af (aa 0) ah)) (eC (.int 2))))) (aA (eC (.bl ύ))) bH) (aq (bc (aa 0) (gT [(gN 1),(gN 2)])) (aA (cN (aG vt (af (aa 1) ah)) (cN (aG vt (af (aa 2) ah)) (aG rM (af (aa 1) (af (aa 2) ah))))))))
def rW:List D->ae->Res D:=aD 1 1 (aA (aG rT (af (aa 0) (af (eC (.int (4))) ah))))
def su:List D->ae->Res D:=aD 1 1 (aA (aG rT (af (aa 0) (af (eC (.int (31))) ah))))
def sh:List D->ae->Res D:=aD 1 5 (aq (aM (eT (cU (cq (eB gR (af (aa 0) (af (eC (.ty "tuple")) ah))))) (aV (e2 dZ (eB cI (af (aa 0) ah)) (eC (.int 4))))) (aA (eC (.bl ύ))) bH) (aq (bc (aa 0) (gT [(gN 1),(gN 2),(gN 3),(gN 4)])) (aq (aM (eT (cU (cq (aG rW (af (aa 2) ah)))) (cU (cq (aG su (af (aa 3) ah))))) (aA (eC (.bl ύ))) bH) (aq (aM (aV (e2 aW (aa 1) (eC (.str "made")))) (aA (aG pS (af (aa 4) ah))) bH) (aA (cN (e2 aW (aa 1) (eC (.str "mended"))) (aG se (af (aa 4) ah))))))))
def yM:List D->ae->Res D:=aD 1 1 (aA (cN (eB gR (af (aa 0) (af (eC (.ty "tuple")) ah))) (cN (e2 lu (eB cI (af (aa 0) ah)) (eC (.int (24)))) (cN (eB mw (af (cL 1 [] (cH (aa 0)) (gN 0) cS (aG sh (af (aa 0) ah))) ah)) (aG pQ (af (aa 0) ah))))))
def l0:List D->ae->Res D:=aD 4 4 (aA (cL 1 [1,2,3] (cH (aa 0)) (gN 0) (jg (aV (e2 aW (e2 ay (aa 0) (eC (.int 0))) (eC (.str "made")))) (jg (aV (e2 aW (e2 ay (aa 0) (eC (.int 1))) (aa 1))) (aV (e2 fe (aa 2) (e2 ay (e2 ay (aa 0) (eC (.int 3))) (aa 3)))))) (e2 ay (aa 0) (eC (.int 2)))))
def rJ:List D->ae->Res D:=aD 3 3 (aA (cL 1 [1,2] (cH (aa 0)) (gN 0) (jg (aV (e2 aW (e2 ay (aa 0) (eC (.int 0))) (eC (.str "mended")))) (jg (aV (e2 aW (e2 ay (aa 0) (eC (.int 1))) (aa 1))) (aV (e2 aW (e2 ay (aa 0) (eC (.int 3))) (aa 2))))) (e2 ay (aa 0) (eC (.int 2)))))
def yv:List D->ae->Res D:=aD 3 3 (aA (eB ui (af (cL 1 [1,2] (cH (aa 0)) (gN 0) cS (pH kB lu (aa 1) (aa 0) (aa 2))) ah)))
def vD:List D->ae->Res D:=aD 3 5 (aq (bc (aG l0 (af (aa 0) (af (aa 1) (af (aa 2) (af (eC (.int (1))) ah))))) (gN 3)) (aq (bc (aG rJ (af (aa 0) (af (aa 1) (af (aa 2) ah)))) (gN 4)) (aA (Dp 2 [3,4] (cH (e1 sk (aG l0 (af (aa 0) (af (aa 1) (af (aa 2) (af (eC (.int (0))) ah))))))) (gN 0) cS (AS (af (aa 0) (af (eC (.int (31))) ah))) (gN 1) (jg (eT (aV (e2 fe (aa 1) (aa 2))) (jg (aV (e2 aW (aa 1) (aa 0))) (aV (e2 fe (aa 0) (aa 3))))) (cU (cq (aG yv (af (aa 3) (af (aa 0) (af (aa 1) ah))))))) (cY (af (aa 0) (af (aa 1) ah)))))))
def yH:List D->ae->Res D:=aD 1 1 (aA (MI 4 [0] (iI (af (eC (.int (4))) ah)) (gN 0) cS (iI (af (eC (.int (8))) ah)) (gN 1) cS (cH (aG vD (af (aa 4) (af (aa 0) (af (aa 1) ah))))) (gT [gN 2,gN 3]) cS (cY (af (aa 0) (af (aa 1) (af (aa 2) (af (aa 3) ah)))))))
def si:List D->ae->Res D:=aD 1 1 (aA (cN (aG yM (af (aa 0) ah)) (TK.Ea (aG yH (af (aa 0) ah)))))
def yx:List D->ae->Res D:=aD 3 8 (aq (bc (aG l0 (af (aa 0) (af (aa 1) (af (aa 2) (af (eC (.int (0))) ah))))) (gN 3)) (aq (bc (aG rJ (af (aa 0) (af (aa 1) (af (aa 2) ah)))) (gN 4)) (aq (bc (eNew ah) (gN 5)) (aq (bc (eC (.bl ύ)) (gN 6)) (aq (lr (iI (af (eC (.int (31))) ah)) (gN 7) (aq (bc (lR (e2 fe (aa 7) (aa 3)) (cN (aa 6) (e2 fT (aa 7) (aa 4)))) (gN 6)) (aM (cq (aa 6)) (cE (mx (aa 5) (aa 7))) bH))) (aA (oS (aa 5))))))))
def yz:List D->ae->Res D:=aD 3 8 (aq (bc (aG l0 (af (aa 0) (af (aa 1) (af (aa 2) (af (eC (.int (1))) ah))))) (gN 3)) (aq (bc (aG rJ (af (aa 0) (af (aa 1) (af (aa 2) ah)))) (gN 4)) (aq (bc (eNew ah) (gN 5)) (aq (bc (eC (.bl ύ)) (gN 6)) (aq (lr (GC (af (eC (.int (31))) ah)) (gN 7) (aq (aM (eT (cq (aa 6)) (eT (aV (e2 fe (aa 7) (aa 3))) (aV (e2 fe (aa 7) (aa 4))))) (cE (mx (aa 5) (aa 7))) bH) (bc (cN (lR (aa 6) (e2 fe (aa 7) (aa 3))) (e2 fT (aa 7) (aa 4))) (gN 6)))) (aA (oS (aa 5))))))))
def vB:List D->ae->Res D:=aD 2 2 (aA (eB md (af (cL 1 [1,0] (iI (af (eC (.int (8))) ah)) (gN 0) (aV (e2 fe (aa 1) (e2 ay (aa 2) (aa 0)))) (aa 0)) ah)))
def rK:List D->ae->Res D:=aD 2 4 (aq (bc (cL 1 [0,1] (iI (af (eC (.int (8))) ah)) (gN 0) cS (aG yx (af (aa 1) (af (aa 2) (af (aa 0) ah))))) (gN 2)) (aq (bc (cL 1 [0,1] (iI (af (eC (.int (8))) ah)) (gN 0) cS (aG yz (af (aa 1) (af (aa 2) (af (aa 0) ah))))) (gN 3)) (aA (cL 1 [2,3] (iI (af (eC (.int (31))) ah)) (gN 0) cS (cY (af (aG vB (af (aa 1) (af (aa 0) ah))) (af (aG vB (af (aa 2) (af (aa 0) ah))) ah)))))))
open Classical in
def notStar:ě->Bool
 | .Starred ..=>ύ
 |_=>ό
def Xc (h:notStar e=ό):Í (e::es) env=(ύ,ķ e env)::Í es env:=by
 cases e<;>first|rfl|cases h
section
variable {X:Cx} {Ξ:Wd->bg->Prop} {e:ě} {es:List ě} {f:aez D} {fa:aez (List D)} {pos:Pos}
def fU (ha:PE X e (tE X.K Ξ f)) (hr:PA X es (tA X.K Ξ fa)) (h:notStar e=ό):PA X (e::es) (tA X.K Ξ (af f fa)):=bB ha hr (Xc h)
def Y6 {e1 e2 e3 e4 e5 e6 e7 e8:ě} {f1 f2 f3 f4 f5 f6 f7 f8:aez D} (h1:PE X e1 (tE X.K Ξ f1)) (h2:PE X e2 (tE X.K Ξ f2)) (h3:PE X e3 (tE X.K Ξ f3)) (h4:PE X e4 (tE X.K Ξ f4)) (h5:PE X e5 (tE X.K Ξ f5)) (h6:PE X e6 (tE X.K Ξ f6)) (h7:PE X e7 (tE X.K Ξ f7)) (h8:PE X e8 (tE X.K Ξ f8)) (s1:notStar e1=ό:=by rfl) (s2:notStar e2=ό:=by rfl) (s3:notStar e3=ό:=by rfl) (s4:notStar e4=ό:=by rfl) (s5:notStar e5=ό:=by rfl) (s6:notStar e6=ό:=by rfl) (s7:notStar e7=ό:=by rfl) (s8:notStar e8=ό:=by rfl):PE X (.List [e1,e2,e3,e4,e5,e6,e7,e8] pos) (tE X.K Ξ (fc (af f1 (af f2 (af f3 (af f4 (af f5 (af f6 (af f7 (af f8 ah)))))))))):=hX (fU h1 (fU h2 (fU h3 (fU h4 (fU h5 (fU h6 (fU h7 (fU h8 dS s8) s7) s6) s5) s4) s3) s2) s1)
end
section
variable {X:Cx} {Ξ:Wd->bg->Prop} {pos:Pos}
def Xd {e1 e2 e3 e4 e5 e6 e7 e8 e9 GF GH:ě} {f1 f2 f3 f4 f5 f6 f7 f8 f9 PC PD:aez D} (h1:PE X e1 (tE X.K Ξ f1)) (h2:PE X e2 (tE X.K Ξ f2)) (h3:PE X e3 (tE X.K Ξ f3)) (h4:PE X e4 (tE X.K Ξ f4)) (h5:PE X e5 (tE X.K Ξ f5)) (h6:PE X e6 (tE X.K Ξ f6)) (h7:PE X e7 (tE X.K Ξ f7)) (h8:PE X e8 (tE X.K Ξ f8)) (h9:PE X e9 (tE X.K Ξ f9)) (h10:PE X GF (tE X.K Ξ PC)) (pB:PE X GH (tE X.K Ξ PD)) (s1:notStar e1=ό:=by rfl) (s2:notStar e2=ό:=by rfl) (s3:notStar e3=ό:=by rfl) (s4:notStar e4=ό:=by rfl) (s5:notStar e5=ό:=by rfl) (s6:notStar e6=ό:=by rfl) (s7:notStar e7=ό:=by rfl) (s8:notStar e8=ό:=by rfl) (s9:notStar e9=ό:=by rfl) (s10:notStar GF=ό:=by rfl) (s11:notStar GH=ό:=by rfl):PE X (.List [e1,e2,e3,e4,e5,e6,e7,e8,e9,GF,GH] pos) (tE X.K Ξ (fc (af f1 (af f2 (af f3 (af f4 (af f5 (af f6 (af f7 (af f8 (af f9 (af PC (af PD ah))))))))))))):=hX (fU h1 (fU h2 (fU h3 (fU h4 (fU h5 (fU h6 (fU h7 (fU h8 (fU h9 (fU h10 (fU pB dS s11) s10) s9) s8) s7) s6) s5) s4) s3) s2) s1)
end
end DI
namespace L2
open PySem
def cG {α:Type}:Sem α->Prop
 | .pure _=>True
 | .raise _=>True
 | .unsupported _=>True
 | .finish _=>True
 | .rule _ k=>cG (k ())
 | .at _ k=>cG (k ())
 | .load _ _ k=>∀o,cG (k o)
 | .update _ _ f k=>(∀o,(f o).dict=o.dict)/\cG (k ())
 | .loadIfAlive _ k=>∀o,cG (k o)
 | .point _ k=>cG (k ())
 | .register _ _=>True
 | .alloc _ k=>∀a,cG (k a)
 | .fresh k=>∀t,cG (k t)
 | .ask k=>∀t,cG (k t)
 | .choose _ _ k=>∀n,cG (k n)
 | .os _ _ k=>∀r,cG (k r)
 | .call ..=>False
 | .handled _ k=>∀v,cG (k v)
 | .genState _ k=>∀v,cG (k v)
 | .newGen _ k=>∀v,cG (k v)
 | .resume ..=>False
 | .yield ..=>True
 | .stack k=>∀v,cG (k v)
 | .fork ..=>True
 | .thread k=>∀v,cG (k v)
 | .await ..=>True
def Dk (h0 h:ĺ):Prop:=h0.objs.size<=h.objs.size/\∀b o,h0.get? b=ϊ o->∀Z,h.get? b=ϊ Z->Z.dict=o.dict
def Dk.refl (h:ĺ):Dk h h:=⟨aeD _,λb o e Y Z=>by rw[e] at Z;cases Z;rfl⟩
theorem Dk.push {h0 h:ĺ} (k:Dk h0 h) (o:Obj):Dk h0 (h.push o):=by
 refine⟨Ý k.1 (by rw[Ā];exact adj _),λb p e X W=>k.2 b p e X ?_⟩;have Z:=Ê (Ð e) k.1;obtain⟨Y,V⟩:=adE.mp W;refine adE.mpr ⟨?_,V⟩;have:(h.push o).objs[b]?=h.objs[b]?:=by
  show (h.objs.push o)[b]?=_;rw[Array.getElem?_push_lt Z,Array.getElem?_eq_getElem Z]
 rw[this] at Y;exact Y
def Dk.upd {h0 h:ĺ} (k:Dk h0 h) {a:ß} {f:Obj->Obj} (hf:∀o,(f o).dict=o.dict) (ha:(h.get? a).isSome):Dk h0 (h.update a f):=by
 refine⟨by rw[Heap.size_update];exact k.1,λb p e Y X=>?_⟩;by_cases U:b=a
 ·subst U
  obtain⟨W,e1⟩:=ado.mp ha;have T:=k.2 b p e W e1;obtain⟨Z,S⟩:=adE.mp X;obtain⟨V,R⟩:=adE.mp e1;have:Y=f W:=by
   obtain⟨objs,l⟩:=h;have Z:(objs.modify b f)[b]?=ϊ Y:=Z;have V:objs[b]?=ϊ W:=V;rw[Array.getElem?_modify,Ñ rfl,V] at Z;exact(aeE Z).symm
  rw[this,hf,T]
 ·rw[adm _ _ _ _ U] at X
  exact k.2 b p e Y X
def Vq {α:Type} (M:Model) (Γ:Ctx) (t:Sem α):∀{Q:α->Pos->Â->Prop} {E:Ç->Pos->Â->Prop} {p:Pos} {s:Â},cG t->ζ M Γ t Q E p s->∀{h0:ĺ},Dk h0 s.heap ->
  ζ M Γ t (λa p' s'=>Q a p' s'/\Dk h0 s'.heap) (λe p' s'=>E e p' s'/\Dk h0 s'.heap) p s:=by
 induction t with
 |pure a=>intro Q E p s d h h0 k;rw[ζ] at h |-;exact⟨h,k⟩
 |raise e=>intro Q E p s d h h0 k;rw[ζ] at h |-;exact⟨h,k⟩
 |unsupported w=>intro Q E p s d h h0 k;rw[ζ] at h;exact h.elim
 |finish w=>intro Q E p s d h h0 k;rw[ζ] at h;exact h.elim
 |rule t Z ih=>intro Q E p s d h h0 k;rw[ζ] at h |-;exact ih () d h k
 | «at» t Z ih=>intro Q E p s d h h0 k;rw[ζ] at h |-;exact ih () d h k
 |load a pt Z ih=>intro Q E p s d h h0 k;rw[ζ] at h |-;obtain⟨o,e,h⟩:=h;exact⟨o,e,ih o (d o) h k⟩
 |loadIfAlive a Z ih=>intro Q E p s d h h0 k;rw[ζ] at h |-;exact ih _ (d _) h k
 |point a Z ih=>intro Q E p s d h h0 k;rw[ζ] at h |-;exact ih () d h k
 |register a Z ih=>intro Q E p s d h h0 k;rw[ζ] at h;exact h.elim
 |fresh Z ih=>intro Q E p s d h h0 k;rw[ζ] at h |-;exact ih _ (d _) h k
 |ask Z ih=>intro Q E p s d h h0 k;rw[ζ] at h |-;exact ih _ (d _) h k
 |choose a n Z ih=>intro Q E p s d h h0 k;rw[ζ] at h |-;exact⟨h.1,ih _ (d _) h.2 k⟩
 |os a n Z ih=>intro Q E p s d h h0 k;rw[ζ] at h |-;exact ih _ (d _) h k
 |call a b c n Z ih=>intro Q E p s d h h0 k;exact č d
 |handled a Z ih=>intro Q E p s d h h0 k;rw[ζ] at h |-;exact ih _ (d _) h k
 |genState a Z ih=>intro Q E p s d h h0 k;rw[ζ] at h |-;obtain⟨o,e,h⟩:=h;exact⟨o,e,ih _ (d _) h k⟩
 |newGen a Z ih=>intro Q E p s d h h0 k;rw[ζ] at h |-;exact ih _ (d _) h k
 |resume a b c Z ih=>intro Q E p s d h h0 k;exact č d
 |yield a b c Z ih=>intro Q E p s d h h0 k;rw[ζ] at h;exact h.elim
 |stack Z ih=>intro Q E p s d h h0 k;rw[ζ] at h |-;exact ih _ (d _) h k
 |fork a Z ih=>intro Q E p s d h h0 k;rw[ζ] at h;exact h.elim
 |thread Z ih=>intro Q E p s d h h0 k;rw[ζ] at h |-;exact ih _ (d _) h k
 |await a b c e Z ih=>intro Q E p s d h h0 k;rw[ζ] at h;exact h.elim
 |alloc o Z ih=>intro Q E p s d h h0 k;rw[ζ] at h |-;exact ih _ (d _) h (k.push o)
 |update a pt f Z ih=>intro Q E p s d h h0 k;rw[ζ] at h |-;exact⟨h.1,ih () d.2 h.2 (k.upd d.1 h.1)⟩
def yT {α:Type} {M:Model} {A:í} {t:Sem α} {Q:α->Â->Prop} {E:Ç->Â->Prop} {s:Â} (d:cG t) (h:á M A t Q E s):á M A t (λa s'=>Q a s'/\Dk s.heap s'.heap) (λe s'=>E e s'/\Dk s.heap s'.heap) s :=
 fun Z p i=>Vq M Z t d (h Z p i) (Dk.refl _)
def fR {α β:Type} {t:Sem α} {f:α->Sem β} (h:cG t) (g:∀a,cG (f a)):cG (t >>= f):=by
 show cG (t.bind f)
 induction t with
 |pure a=>exact g a
 |raise e=>trivial
 |unsupported w=>trivial
 |finish w=>trivial
 |rule t k ih=>exact ih () h
 | «at» t k ih=>exact ih () h
 |load a p k ih=>exact λo=>ih o (h o)
 |loadIfAlive a k ih=>exact λo=>ih o (h o)
 |point a k ih=>exact ih () h
 |register a k ih=>trivial
 |fresh k ih=>exact λo=>ih o (h o)
 |ask k ih=>exact λo=>ih o (h o)
 |choose a n k ih=>exact λo=>ih o (h o)
 |os a n k ih=>exact λo=>ih o (h o)
 |call a b c n k ih=>exact h.elim
 |handled a k ih=>exact λo=>ih o (h o)
 |genState a k ih=>exact λo=>ih o (h o)
 |newGen a k ih=>exact λo=>ih o (h o)
 |resume a b c k ih=>exact h.elim
 |yield a b c k ih=>trivial
 |stack k ih=>exact λo=>ih o (h o)
 |fork a k ih=>trivial
 |thread k ih=>exact λo=>ih o (h o)
 |await a b c e k ih=>trivial
 |alloc o k ih=>exact λo=>ih o (h o)
 |update a p f k ih=>exact⟨h.1,ih () h.2⟩
def yU (v:Ç) (i:Nat):cG (field v i):=by
 delta field fieldsOf;refine fR ?_ λa=>?_
 ·cases v with
  |ref a =>
   refine fR (λo=>trivial) λo=>?_
   split<;>trivial
  |_=>trivial
 ·split<;>trivial
def Vr (g:Array Ç->Array Ç) (o:Obj):(Obj.mapFields g o).dict=o.dict:=by
 delta Obj.mapFields
 split<;>rfl
def Dw (v:Ç) (i:Nat) (x:Ç):cG (setField v i x):=by
 delta setField
 cases v with
 |ref a =>
  show cG (updateField a i x);delta updateField;refine fR (λo=>trivial) λo=>?_;split
  ·split
   ·exact⟨Vr _,trivial⟩
   ·trivial
  ·trivial
 |_=>trivial
def Y7 (ty:String) (vs:List Ç):cG (newFields ty vs):=by
 show cG (if vs.toArray.size > Õ+2 then _ else newObjAsIs (.type ty) (.fields vs.toArray))
 split
 ·trivial
 ·exact λ_=>trivial
def BL (e:Ç) (f:Option ß):cG (setFlight e f):=by
 delta setFlight;refine fR (yU _ _) λa=>?_;split
 ·exact Dw _ _ _
 ·trivial
theorem KU:∀l:List PySem.Env,cG (readyFrames l)
 | []=>trivial
 |env::outer=>by
  delta readyFrames;split
  ·refine fR (λo=>trivial) λo=>?_
   split
   ·trivial
   ·refine fR ?_ λb=>fR ?_ λv=>fR ⟨λ_=>rfl,trivial⟩ λ_=>KU outer
    ·delta behindIsImport
     split
     ·trivial
     ·split
      ·trivial
      ·exact fR (yU _ _) λ_=>trivial
    ·cases outer with
     |nil =>
      show cG (if (env.scope.isGenerator||env.scope.isCoroutine)=ό then pure Value.none else _)
      split
      ·trivial
      ·exact λ_=>trivial
     |cons _ _=>trivial
  ·trivial
def Vs (env:PySem.Env):cG (frameOf env):=by
 delta frameOf frameEnvs;refine fR (λ_=>trivial) λl=>fR ?_ λr=>?_
 ·generalize l.dropWhile _=Z
  cases Z with
  |nil=>trivial
  |cons a r=>exact fR (KU _) λ_=>trivial
 ·split<;>trivial
def Vt (f:ß) (b:Bool):cG (entryPlaceOf f b):=by
 delta entryPlaceOf;refine fR (λ_=>trivial) λa=>?_
 split<;>trivial
def LM (e:Ç) (env:PySem.Env):cG (noteFrame e env):=by
 delta noteFrame;split
 ·refine fR (yU _ _) λZ=>?_
  rename_i L _;have jp:cG (frameOf env >>= λf=>entryPlaceOf L (Z != Value.none) >>= λY=>EntryCells.newEntry Z f Value.none (ĸ L) Value.none Y >>= λb=>setField e 1 b) :=
   fR (Vs env) λf=>fR (Vt _ _) λY=>fR (Y7 _ _) λb=>Dw _ _ _
  show cG (if (Z != Value.none)=ό then _ else _)
  split
  ·refine fR (yU _ _) λx=>?_
   split
   ·trivial
   ·exact fR (Dw _ _ _) λ_=>jp
  ·exact jp
 ·trivial
def Vu (env:PySem.Env) (e:Ç):cG (leaving env e):=by
 delta leaving;exact fR (LM e env) λ_=>BL _ _
open PySem.Spec PyProof.Rows
structure mQ (P:å) (w:Ą) (outer:List Env) (H:Hp) (s:Â) (H':Hp) (B:ĺ) (a:ß) (cls a0:Ç) (h:ĺ):Prop where
 fl:ad0 B outer a cls a0 h
 old:∀b o,s.heap.get? b=ϊ o->H b=ϋ->b∉cK outer->B.get? b=ϊ o
 there:∀b o,s.heap.get? b=ϊ o->b∉cK outer->∃o',B.get? b=ϊ o'
 slot:∀b o,s.heap.get? b=ϊ o->b∈cK outer->∃sl,h.get? b=ϊ { o with slots:=sl }
 aI:cM P w H' B
 free:∀b o,s.heap.get? b=ϊ o->H b=ϋ->H' b=ϋ
 gg:∀b xs,H b=ϊ (.tup xs)->H' b=ϊ (.tup xs)
 fx:∀b o u,H b=ϊ (.bo o u)->H' b=ϊ (.bo o u)
 gj:∀b ps,H b=ϊ (.ef ps)->∃more,H' b=ϊ (.ef (ps++more))
def Dm (h:ĺ) (a:ß) (m:Option ß):Prop:=∀Z,m=ϊ Z->∃o,h.get? a=ϊ o/\o.dict=ϊ Z
def Dm.au (h:ĺ) (a:ß):Dm h a ϋ:=λ_ z=>by cases z
def Dm.on {h h':ĺ} {a:ß} {m:Option ß} (x:Dm h a m) (k:Dk h h') (t:∃o,h'.get? a=ϊ o):Dm h' a m:=λX e=>by
 obtain⟨o,e1,e2⟩:=x X e;obtain⟨Z,Y⟩:=t;exact⟨Z,Y,(k.2 a o e1 Z Y).trans e2⟩
def fB (P:å) (w:Ą):jT:=λouter H s E e Z=>∃a cls X Y B m,e=.ref a/\Z.os=s.os/\aeu Z.gens/\mQ P w outer H s Y B a cls X Z.heap/\Dm Z.heap a m/\E cls m Y
section
variable {P:å} {w:Ą} {outer:List Env} {H H':Hp} {s:Â} {B h h':ĺ} {a:ß} {cls a0:Ç}
def mQ.un (F:mQ P w outer H s H' B a cls a0 h):Un (cK outer) [] H H' s.heap h where
 keep:=λb o e n Z _=>F.fl.1 b o (F.old b o e n Z)
 slot:=λb o e n Z _=>F.slot b o e Z
 free:=λb o e n _=>F.free b o e n
 there:=λb o e _=>by
  by_cases Z:b∈cK outer
  ·obtain⟨sl,q⟩:=F.slot b o e Z
   exact⟨_,q⟩
  ·obtain⟨Y,q⟩:=F.there b o e Z
   exact⟨Y,F.fl.1 b Y q⟩
 gg:=F.gg
 fx:=F.fx
 gj:=F.gj
def mQ.held (F:mQ P w outer H s H' B a cls a0 h):cM P w H' h:=F.aI.kept λb o e=>F.fl.1 b o e
def mQ.on (F:mQ P w outer H s H' B a cls a0 h) (hf:ad0 B outer a cls a0 h') (hs:h.UpToSlots h'):mQ P w outer H s H' B a cls a0 h' :=
 { F with
  fl:=hf
  slot:=λb o e Z=>by
   obtain⟨sl,q⟩:=F.slot b o e Z;obtain⟨_,U,Y,X⟩:=F.fl.2.2.1.mem Z;rw[q] at Y;cases Y;obtain⟨W,V⟩:=hs b _ q X;exact⟨W,V⟩ }
def eO.aaM {o:HO} (x:eO P w H h a o):∃ob,h.get? a=ϊ ob:=by
 cases o with
 |lst Z=>obtain⟨_,_,_,_,e⟩:=x;exact⟨_,e⟩
 |tup Z=>obtain⟨_,_,_,ob,e,_⟩:=x;exact⟨ob,e⟩
 |dK Y=>obtain⟨_,_,_,_,o,_,_,e,_⟩:=x;exact⟨_,e⟩
 |dT Y=>obtain⟨_,_,_,_,o,_,_,e,_⟩:=x;exact⟨_,e⟩
 |set S n=>obtain⟨o,_,_,_,e,_⟩:=x;exact⟨_,e⟩
 |ins C X fs=>obtain⟨_,_,_,e,_⟩:=x;exact⟨_,e⟩
 |own y=>exact x
 |xd fs=>obtain⟨_,⟨_,_,_,e,_⟩,_⟩:=x;exact⟨_,e⟩
 |df lo W=>obtain⟨_,_,_,e⟩:=x;exact⟨_,e⟩
 |bo ob u=>obtain⟨e,_⟩:=x;exact⟨_,e⟩
 |ef V=>exact⟨_,x⟩
 |met f y=>exact⟨_,x⟩
 |ext U=>obtain⟨_,e,_⟩:=x;exact e
def mQ.new (F:mQ P w outer H s H' B a cls a0 h):H' a=ϋ:=by
 cases e:H' a with
 |none=>rfl
 |some o =>
  obtain⟨Y,Z⟩:=(F.aI a o e).aaM;rw[F.fl.2.1] at Z;cases Z
end
structure Lv (X:Cx) (E:XK):Prop where
 xe:X.xe=λe s'=>á (é X.prog X.w) X.A (leaving X.env e) (λ_ iZ=>fB X.prog X.w X.outer X.mr X.c9 E e iZ) (λe' iZ=>fB X.prog X.w X.outer X.mr X.c9 E e' iZ) s'
 mF:X.stack=X.env::X.outer
 fr:X.env.frame=ϊ X.env.locals
 ex:X.ex=[]
section
variable {X:Cx} {E:XK} {π:List (ß×Obj)} {σ:St} {H:Hp} {s:Â}
def Inv.zA (I:Inv X π σ H s) (L:Lv X E) {b:ß} {o:Obj} (e:X.c9.heap.get? b=ϊ o) (hb:b∉cK X.outer):b∉cK X.stack:=λz=>by
 rcases Û.mp (I.kX b z) with q|q
 ·exact absurd (Ð e) (by rw[q];exact Nat.not_lt.mpr I.ok.above)
 ·exact hb q
def B7 (L:Lv X E) {b:ß} (hb:b∈cK X.outer):b∈cK X.stack:=by
 rw[L.mF];delta cK;rw[adg,L.fr];exact Ï _ hb
def eY (L:Lv X E):Passes (fB X.prog X.w) X E:=by
 intro π σ H s e S I h;obtain⟨a,cls,R,M,B,m,rfl,os,bare,F,K,q⟩:=h;rw[L.xe];have fl:=F.fl;rw[L.mF] at fl
 refine ė (yT (Vu _ _) (wpAny_leaves_onW (E:=λ_ _=>False) (Q:=λ_ P=>∃Y,P={ S with heap:=Y }/\ad0 B X.outer a cls R Y/\S.heap.UpToSlots Y) (by rw[I.ok.frames,L.mF]) L.fr fl λY V U=>⟨Y,rfl,V,U⟩)) (λ_ P z=>?_) λ_ _ z=>z.1.elim
 obtain⟨⟨Y,rfl,V,U⟩,J⟩:=z
 refine⟨a,cls,R,M,B,m,rfl,os.trans I.os,bare,⟨V,λb o e n Z=>?_,λb o e Z=>?_,λb o e Z=>?_,F.aI,λb o e n=>?_,λb O e=>F.gg b O (I.base.gg b O e),λb o u e=>F.fx b o u (I.base.fx b o u e),λb G e=>?_⟩,K.on J (let ⟨o,e,_⟩:=V.there;⟨o,e⟩),q⟩
 ·exact F.old b o (I.base.keep b o e n Z (by rw[L.ex];simp)) (I.base.free b o e n (by rw[L.ex];simp)) (I.zA L e Z)
 ·obtain⟨T,W⟩:=I.base.there b o e (by rw[L.ex];simp)
  exact F.there b T W (I.zA L e Z)
 ·obtain⟨sl,W⟩:=I.base.slot b o e (I.ok.lJ b Z) Z (by rw[L.ex];simp)
  obtain⟨v,e2⟩:=F.slot b _ W (B7 L Z);obtain⟨_,t,N,D⟩:=F.fl.2.2.1.mem (B7 L Z);rw[e2] at N;cases N;obtain⟨C,A⟩:=U b _ e2 D;exact⟨C,A⟩
 ·obtain⟨T,W⟩:=I.base.there b o e (by rw[L.ex];simp)
  exact F.free b T W (I.base.free b o e n (by rw[L.ex];simp))
 ·obtain⟨y,e1⟩:=I.base.gj b G e
  obtain⟨x,e2⟩:=F.gj b _ e1;exact⟨y++x,by rw[e2,Array.append_assoc]⟩
def Sj (L:Lv X E) (I:Inv X π σ H s) {h1:ĺ} {e:ß} {cls:Ç} {us:List Ç} (hm:Heap.MadeExcOf s.heap h1 e cls us) (q:E cls ϋ H):X.xe (.ref e) { s with heap:=h1 }:=by
 rw[L.xe];have V:=I.stack;have U:∀b u,H b=ϊ u->b∉cK X.stack:=λb u e z=>by rw[I.vN b z] at e;cases e
 refine wpAny_leaves_madeW (base:=PySem.W.hideAll s.heap (cK X.stack)) (h:=s.heap) (env:=X.env) (outer:=X.outer) (by rw[I.ok.frames,L.mF]) L.fr (λb o e=>PySem.W.of_hideAll _ e) ?_ hm λJ t S _ _ R=>⟨e,cls,_,H,PySem.W.hideAll s.heap (cK X.stack),ϋ,rfl,I.os,I.bare,⟨S,λb o e n Z=>?_,λb o e Z=>?_,λb o e Z=>?_,λb u e=>?_,λb o e n=>I.base.free b o e n (by rw[L.ex];simp),I.base.gg,I.base.fx,I.base.gj⟩,Dm.au _ _,q⟩
 ·rw[<- L.mF]
  refine PySem.W.funFrames_hide V λenv Q a P=>?_;delta cK;exact ξ.mpr ⟨env,Q,P⟩
 ·exact adf _ (I.base.keep b o e n Z (by rw[L.ex];simp)) (I.zA L e Z)
 ·obtain⟨O,Y⟩:=I.base.there b o e (by rw[L.ex];simp)
  exact⟨O,adf _ Y (I.zA L e Z)⟩
 ·obtain⟨sl,Y⟩:=I.base.slot b o e (I.ok.lJ b Z) Z (by rw[L.ex];simp)
  obtain⟨_,G,T,N⟩:=V.mem (B7 L Z);rw[Y] at T;cases T;obtain⟨M,K⟩:=R b _ (hm.keeps b _ Y) N;exact⟨M,K⟩
 ·refine(I.aI b u e).iE (λc v hc z=>adf _ z ?_) (λ_ z=>z) λ_ _ z=>z
  rcases hc with rfl|hc
  ·exact U c _ e
  ·exact U c _ hc
def Y8 (X:Cx) (M:Mod X.K X.mg X.base) {x:Str} {C:ß} {rz:List Ç} {newId:String} (eC:ì X.K Ò x=ϊ (ϊ (.ref C))) (qC:aew X.K C rz newId=ό):OwnCls x C rz newId X.mg X.base:=by
 have KB:=M.kC;refine⟨ļ KB M.glob eC,?_⟩;delta aew at qC;split at qC
 case h_2=>cases qC
 rename_i P cd sl O;split at qC
 case h_2=>cases qC
 rename_i H bm Y a1 a2 V nw U T S;erw[Å,beq_iff_eq,ł] at qC;obtain⟨⟨⟨⟨⟨N,L⟩,R⟩,J⟩,Z⟩,Q⟩:=qC;subst N L;cases cd;dsimp only at T R Z Q;subst T R;have I:sl=#[Y,a1,a2,V,ϊ (.builtin nw),U]:=by cases sl;simp only at S;rw[S]
 subst I;exact⟨bm,_,_,_,_,_,_,_,_,_,P,Y,a1,a2,V,U,_,KB _ _ O,.of_isNs (PySem.W.isNs_of_in KB Z),PySem.W.nsMap_none_of_in KB Z Q,PySem.W.tail_of_in KB J⟩
def Vv {x:Str} {C:ß} {rz:List Ç} {B newId MP:String} {np ba pos:Pos} {nP:ě} {rest:List ě} {t:TA} (L:Lv X E) (eC:ì X.K Ò x=ϊ (ϊ (.ref C))) (qC:aew X.K C rz newId=ό) (FB:ExcBaseFacts B newId MP rz) (hc:X.calm=ό) (hg:Gl X x) (ha:PA X (nP::rest) t) (hd:(x==("__debug__":Str))=ύ:=by decide)
  (he:Í (nP::rest) X.env=(ύ,ķ nP X.env)::Í rest X.env:=by rfl) (iN:(ī ba (Í rest X.env)).any (·.1)=ύ:=by rfl) :
  PS X (.Raise (ϊ (.Call (.Name x np) (nP::rest) [] ba)) ϋ pos) (λ_ σ H=>t σ H λvs H1=>vs.length<=Õ/\E (.ref C) ϋ H1):=by
 intro π s σ H D I h;have O:OwnCls x C rz newId X.mg X.base:=Y8 X I.ok.mod eC qC;obtain⟨V,N,nm,q,bs,hdct,sn,sub,ab,col,dd,k0,k1,k2,k3,k5,mN,U,S,Y,T⟩:=O.obj;refine wpAny_Raise_call_subT (C:=C) (nm:=nm) (q:=q) (N:=N) (bs:=bs) (bm:=V) (hdct:=hdct) (sn:=sn) (sub:=sub) (ab:=ab) (col:=col) (dd:=dd) (k0:=k0) (k1:=k1) (k2:=k2) (k3:=k3) (k5:=k5)
  FB (mN:=mN) (T.hasType FB.hasBase) (I.ok.hd hc) (by rw[he];show (ύ||(ī ba (Í rest X.env)).any (·.1))=ύ;rw[iN];rfl) Y (qb I hg O.bound ⟨rfl,?_⟩ hd)
 have W:=ha ba π s σ H _ I h;rw[he] at W |-;refine Calls.evalArgs_plain (aO W λP M ⟨vs,H1,Z,r,z,R⟩=>⟨rfl,by rw[<- r.length];exact z,Z.bk _ _ U,S.keeps Z.bk,T.keeps Z.bk,λJ e Q=>?_⟩);exact Sj L Z Q R
end
end L2
namespace DI
open PySem L2
abbrev GG (K:đ) (mg:Str->Option Ç) (x:Str) (st:ad2) (ps:List Str):Prop:=∃f fd,Gd K mg x st ps f fd
abbrev bZ (P:å) (w:Ą) (K:đ) (mg:Str->Option Ç) (base:ĺ) (x:Str) (st:ad2) (ps:List Str) (k:Nat) (fn:List D->ae->Res D):Prop:=∀{f:ß} {fd:Ĩ},Gd K mg x st ps f fd->cV P w K mg base eD k f fd ps (lS K fn)
def oX (N ps:List Str) (sc:acR):Bool:=ώ (sc.kind=.function)&&!sc.isCoroutine&&!sc.isGenerator&&ώ N.Nodup&&ώ (N.take ps.length=ps)&&ps.all (λx=>ώ (sc.names.lookup x=ϊ .local\/sc.names.lookup x=ϊ .cell))&&sc.names.all (λy=>ώ (y.2≠.free))
def j7 (h:oX N ps sc=ό):sC N ps sc:=by
 delta oX at h;erw[Å,ł,Ë,ô] at h;obtain⟨⟨⟨⟨⟨⟨Z,Y⟩,X⟩,W⟩,V⟩,U⟩,T⟩:=h;exact⟨Z,Y,X,W,V,U,T⟩
def cb (G:Gd K mg x st ps f fd) (N:List Str) (S:oX N ps (cz st)=ό)
 (hb:N.Nodup->∀(aY:Ç) (A:í) (outer:List PySem.Env) (s:Â) (H:Hp) (E:XK),bK k (A.deeper (ŀ x (cz st) s.heap.objs.size f aY))->dg (ia eD P w K mg base N x (cz st) f aY A outer s H E).nS (gr st) (tS K cF b)) :
  cV P w K mg base eD (k+1) f fd ps (lS K (aD ps.length N.length b)):=aaz G.fn (j7 S) (hb (j7 S).nd)
section
variable {X:Cx} {Ξ:Wd->bg->Prop} {e a b c tg el src:ě} {es rest tests:List ě} {pos:Pos} {f g h:aez D} {fa:aez (List D)} {ft gt:aez Bool}
def aS {k n:Nat} {x:Str} {st:ad2} {ps:List Str} {fn:List D->ae->Res D} {p:Pos} (G:GG X.K X.mg x st ps) (F:bZ X.prog X.w X.K X.mg X.base x st ps k fn) (hr:bK n X.A) (ha:PA X (e::es) (tA X.K Ξ fa)) (hk:k<=n:=by decide) (hg:Gl X x:=by rfl) (dQ:(x==("__debug__":Str))=ύ:=by decide)
  (he:Í (e::es) X.env=(ύ,ķ e X.env)::Í es X.env:=by rfl) (bN:(ī pos (Í es X.env)).any (·.1)=ύ:=by rfl):PE X (.Call (.Name x p) (e::es) [] pos) (tE X.K Ξ (aG fn fa)):=by
 obtain⟨f,fd,G⟩:=G;exact YN (F G) (hr.mono hk) hg G.mg G.fn.kp G.b ha dQ he bN
def ao (ha:PE X a (tE X.K Ξ f)) (hs:Í [a] X.env=(ύ,ķ a X.env)::Í [] X.env:=by rfl):PA X [a] (tA X.K Ξ (af f ah)):=bB ha dS hs
def bI (ha:PE X a (tE X.K Ξ f)) (hb:PE X b (tE X.K Ξ g)) (h1:Í [a,b] X.env=(ύ,ķ a X.env)::Í [b] X.env:=by rfl) (h2:Í [b] X.env=(ύ,ķ b X.env)::Í [] X.env:=by rfl):PA X [a,b] (tA X.K Ξ (af f (af g ah))):=bB ha (bB hb dS h2) h1
def j8 (ha:PE X a (tE X.K Ξ f)) (hb:PE X b (tE X.K Ξ g)) (hc:PE X c (tE X.K Ξ h)) (h1:Í [a,b,c] X.env=(ύ,ķ a X.env)::Í [b,c] X.env:=by rfl) (h2:Í [b,c] X.env=(ύ,ķ b X.env)::Í [c] X.env:=by rfl) (h3:Í [c] X.env=(ύ,ķ c X.env)::Í [] X.env:=by rfl):PA X [a,b,c] (tA X.K Ξ (af f (af g (af h ah)))):=bB ha (bB hb (bB hc dS h3) h2) h1
def gm {x:Str} {px:Pos} {sc:acR} {ps:Pos} (N:List Str) {cap:List Nat} {it:aez (List D)} (hi:PI X (.Name x px) src (fO X.K Ξ it))
  (hY:∀(cl:List (Str×ß)) (C:ß) (s:Â) (H:Hp) (ex:List ß) (pn:List (ß×Obj)),PF (i7 X N sc cl C s H ex pn) tests (tT X.K cF ft)/\PE (i7 X N sc cl C s H ex pn) el (tE X.K cF f))
  (hc:X.calm=ό:=by rfl) (S:Dt sc X.env.scope.names X.N N 1 cap=ό:=by kernel_rfl) (nd:N.Nodup:=by decide +kernel) (h0:N[0]?=ϊ x:=by rfl) (hx:∀cl C s H ex pn,(i7 X N sc cl C s H ex pn).env.scope.names.lookup x=ϊ .local:=by intros;rfl) (hs:∀x,Ć src X.env x=pure x:=by intro _;rfl) :
  PE X (.ListComp el [⟨.Name x px,src,tests,0⟩] sc ps) (tE X.K Ξ (cL 1 cap it (gN 0) ft f)) :=
 CH hc (D8 S) (sD 0) hi (λcl C s H ex pn=>⟨iB nd h0 (.inl (hx cl C s H ex pn)) (.inr (hx cl C s H ex pn)),hY cl C s H ex pn⟩) hs
end
def fC (mg:Str->Option Ç) (E:XK):Wd->bg->Prop:=λw x=>∃C,mg x.c=ϊ (.ref C)/\match x.many with
 |none=>E (.ref C) ϋ w.H
 |some i=>∀Z Y t,w.H Z=ϋ->ac1 "many" Y=ϊ (ϊ (.int i t))->E (.ref C) (ϊ Z) (upd w.H Z (.bo Y (.own Z)))
def pL (mg:Str->Option Ç) (K:đ) (f:List D->ae->Res D):Sp:=λX H Q E=>∃w Z,w.H=H/\aT K w/\ar K w Z X/\Out K (fC mg E) w (f Z w.aJ) λY d=>∀v,DV K Y d v->Q v Y.H
def mf (c:Str) (fa:aez (List D)):aez Fl:=λenv s=>ai (fa env s) λZ s=>if ώ (Z.length<=10)=ό then ϊ (.error ⟨c,ϋ⟩,s) else ϋ
def mB (K:đ) (mg:Str->Option Ç) (x:Str):Prop:=∃C,ì K Ò x=ϊ (ϊ (.ref C))/\mg x=ϊ (.ref C)/\aew K C [.type "ValueError",.type "Exception",.type "BaseException",.type "object"] "ValueError.__new__"=ό
def dJ (fn:List D->ae->Res D) (fa:aez (List D)):aez D:=λenv s=>ai (fa env s) fn
section
variable {X:Cx} {E:XK} {Ξ:Wd->bg->Prop} {e a b c:ě} {es rest:List ě} {pos:Pos} {f g h:aez D} {fa:aez (List D)}
def nk {x:Str} {np ba:Pos} {nP:ě} (L:Lv X E) (hO:mB X.K X.mg x) (ha:PA X (nP::rest) (tA X.K (fC X.mg E) fa)) (hc:X.calm=ό:=by rfl) (hg:Gl X x:=by rfl) (hd:(x==("__debug__":Str))=ύ:=by decide)
  (he:Í (nP::rest) X.env=(ύ,ķ nP X.env)::Í rest X.env:=by rfl) (iN:(ī ba (Í rest X.env)).any (·.1)=ύ:=by rfl) :
  PS X (.Raise (ϊ (.Call (.Name x np) (nP::rest) [] ba)) ϋ pos) (tS X.K (fC X.mg E) (mf x fa)) :=
 let ⟨C,eC,V,U⟩:=hO
 kY (Vv L eC U PySem.F.excBase_ValueError hc hg ha hd he iN) λN σ H T=>by
  obtain⟨w,env,R,S,Q,h⟩:=T;subst R;refine⟨w,env,rfl,S,Q,(Out.ai h).mono λW M J P Z I O=>?_⟩;split at Z
  ·rename_i Y
   have Y:=æ Y;obtain⟨G,e1,q⟩:=Z W (Le.refl W) P rfl;rw[V] at e1;cases e1;exact⟨Ý (by rw[<- O.length];exact Y) (by decide),q⟩
  ·exact Z.elim
def Xe {k:Nat} {fA:ß} {fd:Ĩ} {yc:List Str} {fn:List D->ae->Res D} {x:Str} {p:Pos} (L:Passes (fB X.prog X.w) X E) (F:cV X.prog X.w X.K X.mg X.base (fB X.prog X.w) k fA fd yc (pL X.mg X.K fn)) (hr:bK k X.A) (hg:Gl X x) (hm:X.mg x=ϊ (.ref fA)) (hk:ő X.K (.ref fA)=ό) (hb:Binds X.K fd yc [])
  (ha:PA X (e::es) (tA X.K (fC X.mg E) fa)) (dQ:(x==("__debug__":Str))=ύ:=by decide) (he:Í (e::es) X.env=(ύ,ķ e X.env)::Í es X.env:=by rfl) (bN:(ī pos (Í es X.env)).any (·.1)=ύ:=by rfl) :
  PE X (.Call (.Name x p) (e::es) [] pos) (tE X.K (fC X.mg E) (dJ fn fa)):=cm (Lp F hr hg hm hk hb .nil L ha dQ he bN) fun σ H Q Y=>by
 obtain⟨w,env,W,S,V,h⟩:=Y;subst W;refine⟨w,env,rfl,S,V,(Out.ai h).mono λZ U N T R P O=>?_⟩;show pL X.mg X.K fn (P++[]) Z.H Q E;rw[ĥ];exact⟨Z,U,rfl,T,O,R⟩
def MQ {α:Type} {K:đ} {w:Wd} {r:Res α} {k:Wd->α->Prop} (h:Out K cF w r k):Out K Ξ w r k:=by
 match r,h with
 |some (.ok a,s),h=>exact h
 |some (.error x,s),h=>exact λZ l S e=>(h Z l S e).elim
def MR:Passes (fB X.prog X.w) X E0:=λ_ _ _ _ _ _ _ ⟨_,_,_,_,_,_,_,_,_,_,_,q⟩=>q.elim
end
def mh {P:å} {w:Ą} {K:đ} {mg:Str->Option Ç} {base:ĺ} {x:Str} {st:ad2} {f:ß} {fd:Ĩ} {ps:List Str} {k:Nat} {b:aez Fl} (G:Gd K mg x st ps f fd) (N:List Str) (S:oX N ps (cz st)=ό)
  (hb:N.Nodup->∀(aY:Ç) (A:í) (outer:List PySem.Env) (s:Â) (H:Hp) (E:XK),bK k (A.deeper (ŀ x (cz st) s.heap.objs.size f aY))->Lv (ia (fB P w) P w K mg base N x (cz st) f aY A outer s H E) E->dg (ia (fB P w) P w K mg base N x (cz st) f aY A outer s H E) (gr st) (tS K (fC mg E) b)) :
  cV P w K mg base (fB P w) (k+1) f fd ps (pL mg K (aD ps.length N.length b)):=by
 obtain⟨J,I,kV,doc,pm,an,aY,ct,F,rfl,lk,V⟩:=G.fn.ex;refine zU lk V (j7 S) (λU H Q E h=>?_) λA outer s H U Q E T h=>?_
 ·obtain⟨w,R,rfl,S,Y,h⟩:=h
  rw[<- Y.length];delta aD at h;split at h
  ·assumption
  ·exact h.elim
 ·obtain⟨X,R,rfl,O,Y,h⟩:=h
  refine⟨_,hb (j7 S).nd aY A outer s X.H E T ⟨rfl,rfl,rfl,rfl⟩,?_⟩;delta aD at h;split at h
  ·rename_i M
   rw[<- M] at h;refine⟨X,_,rfl,O,Y.env N.length,(Out.ai h).mono λD L C W Z=>?_⟩
   cases L with
   |nx env=>intro B _;exact aB W Z _ rfl
   |rt d=>have q:=aB W Z;exact q
   |bk env=>exact Z.elim
   |ct env=>exact Z.elim
  ·exact h.elim
end DI
namespace L2
open PySem PySem.Spec PyProof.Rows PySem.W
structure aaN (env:Env) (names:List (Str×Ű)) (cl:List (Str×ß)):Prop where
 wU:∀x c,cl.lookup x=ϊ c->env.cells.lookup x=ϊ c
 all:∀x,(x,î)∈names->∃c,cl.lookup x=ϊ c
theorem B9 {env:Env}:∀(names:List (Str×Ű)) (acc:List (Str×ß)),(∀x,(x,î)∈names->∃c,env.cells.lookup x=ϊ c)->(∀x c,acc.lookup x=ϊ c->env.cells.lookup x=ϊ c) ->
  ∃cl,(forIn names acc λ(p:Str×Ű) (r:List (Str×ß))=>(match p with | (name,kind)=>if kind==.free then (do let c <- cellOf env name;pure (Ň ((name,c)::r))) else pure (Ň r):Sem (ForInStep (List (Str×ß)))))=pure cl /\
   (∀x c,cl.lookup x=ϊ c->env.cells.lookup x=ϊ c)/\(∀x,(x,î)∈names->∃c,cl.lookup x=ϊ c)/\∀x c,acc.lookup x=ϊ c->∃c,cl.lookup x=ϊ c
 | [],acc,_,Y=>⟨acc,by simp,Y,λ_ h=>(ć h).elim,λx c h=>⟨c,h⟩⟩
 |(y,k)::r,acc,W,Y=>by
  by_cases V:k=.free
  ·subst V
   obtain⟨c,e⟩:=W y Þ;have U:∀x Z,((y,c)::acc).lookup x=ϊ Z->env.cells.lookup x=ϊ Z:=λx Z h=>by
    rw[ē] at h;split at h
    ·rename_i q
     have q:x=y:=by simpa using q
     cases h;rw[q];exact e
    ·exact Y x Z h
   obtain⟨cl,T,S,R,X⟩:=B9 r ((y,c)::acc) (λx h=>W x (Ï _ h)) U;have Q:∃c,cl.lookup y=ϊ c:=X y c (by rw[ē];simp);refine⟨cl,?_,S,λx h=>?_,λx Z h=>?_⟩
   ·rw[adA]
    erw[Ė,ò,cellOf,e,pure_bind];exact T
   ·rcases Û.mp h with q|q
    ·cases q;exact Q
    ·exact R x q
   ·by_cases q:x=y
    ·rw[q];exact Q
    ·exact X x Z (by rw[ē,show (x==y)=ύ by simpa using q];exact h)
  ·obtain⟨cl,T,S,R,X⟩:=B9 r acc (λx h=>W x (Ï _ h)) Y
   refine⟨cl,?_,S,λx h=>?_,X⟩
   ·rw[adA]
    have P:(k==î)=ύ:=by simpa using V
    erw[P,Æ,ï,pure_bind];exact T
   ·rcases Û.mp h with q|q
    ·cases q;exact absurd rfl V
    ·exact R x q
def Vw {env:Env} {scope:acR} (hc:∀x,(x,î)∈scope.names->∃c,env.cells.lookup x=ϊ c):∃cl,closureFor scope env=pure cl/\aaN env scope.names cl:=by
 obtain⟨cl,Z,Y,X,_⟩:=B9 scope.names [] hc (λx c h=>by cases h);refine⟨cl,?_,Y,X⟩;delta closureFor;erw[pure_bind,bind_pure];exact Z
abbrev zB (q:Str) (params:aer) (body:ě) (scope:acR) (cl:List (Str×ß)) (pm:Ç) (c':ß) (i8:Ç):Obj:=kla_obj "<lambda>" q params body scope cl pm c' i8
section
variable {X:Cx} {π:List (ß×Obj)} {σ:St} {H:Hp} {s:Â}
def Inv.table {P c':ß} {ps A1:Array Ç} {oc:Obj} {h':ĺ} {t':Nat} (I:Inv X π σ H s) (hP:H P=ϊ (.ef ps)) (hx:adl P s.heap h') (hc:s.heap.objs.size<=c') (nR:h'.get? c'=ϊ oc) (ht:h'.get? P=ϊ (tabObj (ps++A1))) :
  Inv X π σ (upd (upd H c' (.bo oc (.own c'))) P (.ef (ps++A1))) { s with heap:=h',toks:=t' }:=by
 have Y:H c'=ϋ:=I.aI.fresh hc;have U:c'≠P:=λz=>by rw[z,hP] at Y;cases Y
 have ne:∀b u,H b=u->u≠ϊ (.ef ps)->b≠P:=λb u e d z=>by rw[z,hP] at e;exact d e.symm
 have at_:∀b u,H b=ϊ u->b≠P->upd (upd H c' (.bo oc (.own c'))) P (.ef (ps++A1)) b=ϊ u:=λb u e n=>by rw[bt n,bt (dC e Y)];exact e
 refine I.un ⟨λb o e n _ _=>hx b o (ne b _ n (by intro z;cases z)) e,λb o e n _ _=>⟨o.slots,hx b o (ne b _ n (by intro z;cases z)) e⟩,λb o e n _=>?_,λb o e _=>?_,λb V e=>at_ b _ e (ne b _ e (by intro z;cases z)),λb o u e=>at_ b _ e (ne b _ e (by intro z;cases z)),λb T e=>?_⟩ λb u e=>?_
 ·rw[bt (ne b _ n (by intro z;cases z)),bt (ã (Ê (Ð e) hc))];exact n
 ·by_cases Z:b=P
  ·exact⟨_,Z ▸ ht⟩
  ·exact⟨o,hx b o Z e⟩
 ·by_cases Z:b=P
  ·subst Z
   rw[hP] at e;cases e;exact⟨A1,cO⟩
  ·exact⟨#[],by rw[at_ b _ e Z];simp⟩
 ·by_cases Z:b=P
  ·subst Z
   rw[cO] at e;cases e;exact ht
  ·rw[bt Z] at e
   by_cases W:b=c'
   ·subst W
    rw[cO] at e;cases e;exact⟨nR,oc,nR⟩
   ·rw[bt W] at e
    refine(I.aI b u e).iE (λc v hc q=>hx c v ?_ q) (λc q=>at_ c _ q (ne c _ q (by intro z;cases z))) λc V q=>at_ c _ q (ne c _ q (by intro z;cases z))
    rcases hc with z|z
    ·rw[z];exact Z
    ·exact ne c _ z (by intro z;cases z)
def Vx {params:aer} {body:ě} {scope:acR} {ie:Pos} {cl:List (Str×ß)} {c P:ß} {ps:Array Ç} {E:Ç->Â->Prop} {A:í} {Q:Ç->Â->Prop} (I:Inv X π σ H s) (dh:closureFor scope X.env=pure cl) (zZ:X.env.code=.ref c) (C:CodeHd X.base c P) (hb:X.base.BuiltinsAt X.mg P)
  (hP:H P=ϊ (.ef ps)) (ht:TriplesOk ps.toList) (Ff:defaultsOf params X.env=([],[]))
  (ack:∀cv,codeAmong ie ps.toList=ϊ cv->∃c' oc vs t,cv=.ref c'/\H c'=ϊ (.bo oc (.own c'))/\oc.data=.fields vs/\vs[1]?=ϊ (.str (X.env.qual++"<lambda>") t))
  (h:∀(f c':ß) (i8:Ç) (oc:Obj) (vs:Array Ç) (t:Tok) (H1:Hp) (s1:Â),Inv X π σ H1 s1->s.heap.objs.size<=f->H1 f=ϋ->s1.heap.get? f=ϊ (zB (X.env.qual++"<lambda>") params body scope cl ((X.mg "__name__").getD .none) c' i8)->H1 c'=ϊ (.bo oc (.own c'))->oc.data=.fields vs->vs[1]?=ϊ (.str (X.env.qual++"<lambda>") t) ->
   (H1=H\/(H c'=ϋ/\c'≠P/\H1=upd (upd H c' (.bo oc (.own c'))) P (.ef (ps++#[ĸ ie.line,ĸ ie.col,.ref c']))/\TriplesOk (ps++#[ĸ ie.line,ĸ ie.col,.ref c']).toList))->Q (.ref f) s1) :
  á (é X.prog X.w) A (ķ (.Lambda params body scope ie) X.env) Q E s:=by
 have Y:s.heap.get? P=ϊ (tabObj ps):=I.aI P _ hP;have G:CodeHd s.heap c P:=C.keeps I.bk
 have F:s.heap.BuiltinsAt X.mg P:=let ⟨bm,o,a1,a2,y,x,v,r⟩:=hb;⟨bm,o,a1,a2,y,x,I.bk _ _ v,r⟩
 have W:s.heap.Ns Ò X.mg:=I.ok.mod.glob.keeps I.bk;have V:Ò≠P:=λq=>by
  obtain⟨o,g,d,e,U,_⟩:=W;rw[q,Y] at e;cases e;cases U
 refine kla_eval Ff ?_
 cases T:codeAmong ie ps.toList with
 |some cv =>
  obtain⟨c',oc,vs,t,rfl,u,p,m⟩:=ack cv T;refine kla_makeFunctionHit dh I.ok.glob W zZ G Y ht T F λi8 h' S l Z=>?_
  have R:Inv X π σ H { s with heap:=h'.push (zB (X.env.qual++"<lambda>") params body scope cl ((X.mg "__name__").getD .none) c' i8),toks:=S }:=I.kept λb o e=>Á _ (l b o e)
  exact h _ c' i8 oc vs t H _ R Z (I.aI.fresh Z) (Î _ rfl) u p m (.inl rfl)
 |none =>
  refine kla_makeFunction dh I.ok.glob W zZ G Y ht T V F λc' i8 h' S k O D N M=>?_;obtain⟨c₂,oc,vs,t,e2,j,U,i⟩:=N;cases e2;have L:H c'=ϋ:=I.aI.fresh O;have B:c'≠P:=λz=>by rw[z,hP] at L;cases L
  have R:=I.table (t':=S) hP (h':=h'.push (zB (X.env.qual++"<lambda>") params body scope cl ((X.mg "__name__").getD .none) c' i8)) (λb o n e=>Á _ (k b o n e)) O (Á _ j) (Á _ M);have K:s.heap.objs.size<=h'.objs.size:=Ý O (Nat.le_of_lt D);have J:h'.objs.size≠P:=λz=>by have:=Ð Y;rw[<- z] at this;exact absurd (Ê this K) (ñ _)
  refine h _ c' i8 oc vs t _ _ R K ?_ (Î _ rfl) ?_ U i (.inr ⟨L,B,rfl,?_⟩)
  ·rw[bt J,bt (Ũ D)];exact I.aI.fresh K
  ·rw[bt B,cO]
  ·rw[Array.toList_append]
   exact TriplesOk_snoc _ _ _ _ ht
end
def TJ {pos:Pos} {c cv:Ç} {a b:Int} (l:List Ç) (h:TriplesOk l) (e:codeAmong pos (l++[ĸ a,ĸ b,c])=ϊ cv):codeAmong pos l=ϊ cv\/cv=c:=by
 fun_induction TriplesOk l with
 |case1 =>
  erw[Ļ,codeAmong,ĸ] at e;split at e
  ·cases e;exact .inr rfl
  ·cases e
 |case2 a t b u x rest ih =>
  erw[Ħ,codeAmong] at e |-;split
  ·rename_i q;rw[Ñ q] at e;exact .inl e
  ·rename_i q;rw[Ú q] at e;exact ih h e
 |case3 l Z Y=>exact h.elim
def uZ (P:å) (w:Ą) (K:đ) (mg:Str->Option Ç) (base:ĺ) (N:List Str) (qual:Str) (scope:acR) (f:ß) (cd:Ç) (cl:List (Str×ß)) (A:í) (outer:List Env) (s:Â) (H:Hp) (E:XK):Cx where
 prog:=P
 w:=w
 K:=K
 mg:=mg
 base:=base
 A:=A.deeper (envX qual scope s.heap.objs.size f cd cl)
 N:=N
 c9:=s
 mr:=H
 env:=envX qual scope s.heap.objs.size f cd cl
 outer:=outer
 stack:=envX qual scope s.heap.objs.size f cd cl::outer
 ex:=[]
 calm:=ό
 fn:=λ_=>ύ
 pn:=[]
 xe:=λe Y=>á (é P w) (A.deeper (envX qual scope s.heap.objs.size f cd cl)) (leaving (envX qual scope s.heap.objs.size f cd cl) e) (λ_ Z=>fB P w outer H s E e Z) (λX Z=>fB P w outer H s E X Z) Y
structure Vy (N:List Str) (scope:acR):Prop where
 co:scope.isCoroutine=ύ
 gen:scope.isGenerator=ύ
 kind:scope.kind=.function
 wa:∀x∈scope.names,x.2≠.cell
def Y9 {P:å} {w:Ą} {K:đ} {mg:Str->Option Ç} {base:ĺ} {k:Nat} {f c':ß} {N:List Str} {q:Str} {params:aer} {body:ě} {scope:acR} {cl:List (Str×ß)} {pm i8:Ç} {vs:List V} {t:XK->TE} {oc:Obj} {fs:Array Ç} {tq:Tok}
  (S:Vy N scope) (ho:base.get? f=ϊ (zB q params body scope cl pm c' i8)) (hl:N.length=vs.length)
  (inj:∀x y c,cl.lookup x=ϊ c->cl.lookup y=ϊ c->x=y) (has:∀x,scope.names.lookup x=ϊ .free->∃c,cl.lookup x=ϊ c) (nC:∀x c,cl.lookup x=ϊ c->∃v,base.IsCell c v)
  (hv:∀(i:Nat) x v,N[i]?=ϊ x->vs[i]?=ϊ v->scope.names.lookup x=ϊ .free/\∃c u,cl.lookup x=ϊ c/\base.IsCell c (ϊ u)/\RelV v u)
  (og:oc.data=.fields fs) (gH:fs[1]?=ϊ (.str q tq))
  (k9:∀(A:í) (outer:List Env) (s:Â) (H:Hp) (E:XK),bK k (A.deeper (envX q scope s.heap.objs.size f (.ref c') cl))->Lv (uZ P w K mg base N q scope f (.ref c') cl A outer s H E) E->PE (uZ P w K mg base N q scope f (.ref c') cl A outer s H E) body (t E)) :
  cV P w K mg base (fB P w) (k+1) f (kla_fn "<lambda>" q params body scope cl pm (.ref c') i8) [] (λus H Q E=>us=[]/\H c'=ϊ (.bo oc (.own c'))/\t E (vs.map ϊ) H Q):=by
 refine⟨λus H Q E h=>by rw[h.1];rfl,λA outer s H args us L Q E W Z G r F=>?_⟩;obtain⟨_,D,C⟩:=F;have lim:s.heap.NoLimit:=Z.mod.nolimit.keeps λb o e=>(Z.bs b o e).1;have bk:∀b o,base.get? b=ϊ o->s.heap.get? b=ϊ o:=λb o e=>(Z.bs b o e).1;have U:s.heap.CodeRec (.ref c') q:=⟨c',oc,fs,tq,rfl,(Z.aI c' _ D).1,og,gH⟩;refine kla_callFunE W.depth (bk _ _ ho) rfl S.co S.gen rfl U (G _ _ _ _ ?_);refine wpAny_newFunctionEnv S.wa (λx B=>absurd B ∅) (λM n T=>?_) S.kind;have Y:∀b o,s.heap.get? b=ϊ o->M.get? b=ϊ o:=λb o e=>T.extBut b o (ã (Ð e)) (Á _ e);refine⟨lim.keeps Y,?_⟩;show ż _ _ (.expr body (envX q scope s.heap.objs.size f (.ref c') cl)) _ _;have m:bK k (A.deeper (envX q scope s.heap.objs.size f (.ref c') cl)):=W.deeper _;have R:∀c v,base.IsCell c v->H c=ϋ:=λc v ⟨o,e,_⟩=>(Z.bs c o e).2;have O:∀b:ß,b∉(uZ P w K mg base N q scope f (.ref c') cl A outer s H E).ex:=λb z=>absurd (show b∈([]:List ß) from z) ∅
 have I:Inv (uZ P w K mg base N q scope f (.ref c') cl A outer s H E) [] (vs.map ϊ) H { s with heap:=M,toks:=s.toks+([]:List (Str×Ç)).length }:=by
  refine⟨⟨Z.mod,S.kind,rfl,rfl,aeD _,inj,λy hy=>?_,λy c h=>absurd h Ä,λ_=>W.hd,Around.frames_deeper Z.frames,.inr ⟨rfl,rfl⟩,λb z=>absurd z (O b),Z.bs,Z.iW,λb _ _=>O b,λb z=>absurd z (O b),Z.iS,Z.lJ⟩,
   rfl,Z.bare,Un.kept Y,⟨_,n,λi y v l X h3=>?_⟩,λy c h=>?_,Z.aI.fresh (aeD _),λy c h=>?_,λp j=>absurd (show p∈([]:List (ß×Obj)) from j) ∅,Z.aI.kept Y,?_⟩
  ·have hy:scope.names.lookup y=ϊ .cell\/scope.names.lookup y=ϊ .free:=hy
   rcases hy with hy|hy
   ·exact absurd rfl (S.wa _ (Ľ hy))
   ·exact has y hy
  ·have g:vs[i]?=ϊ v:=by
    rw[ê] at X
    cases e:vs[i]? with
    |none=>rw[e] at X;cases X
    |some a=>rw[e] at X;cases X;rfl
   obtain⟨d,c,u,e1,e2,r2⟩:=hv i y v l g;exact⟨u,r2,.inr ⟨.inr d,c,e1,(e2.keeps bk).keeps Y⟩⟩
  ·obtain⟨v,e⟩:=nC y c h
   exact⟨v,(e.keeps bk).keeps Y⟩
  ·obtain⟨v,e⟩:=nC y c h
   exact R c v e
  ·rw[É];exact hl.symm
 refine kla_codeExpr (ė (k9 A outer s H E m ⟨rfl,rfl,rfl,rfl⟩ [] _ (vs.map ϊ) H Q I C) (λu s' h=>?_) λe s' h=>h);obtain⟨v,H',J,rv,z⟩:=h;exact⟨v,H',J.os,J.bare,J.base,J.aI,rv,z⟩
end L2
namespace DI
open PySem L2 PySem.W
def aaP (pre:Hp->Prop):Prop:=∀H Z:Hp,(∀b o u,H b=ϊ (.bo o u)->Z b=ϊ (.bo o u))->pre H->pre Z
def A4 (P:å) (w:Ą) (K:đ) (mg:Str->Option Ç) (base:ĺ) (k:Nat) (pre:Hp->Prop) (f:ß) (vs:List V) (ds:List D) (th:ae->Res D):Prop :=
 aaP pre/\∃fd,(∃o,base.get? f=ϊ o/\o.data=.func fd)/\Binds K fd [] [] /\
  cV P w K mg base (fB P w) k f fd [] (λX H Q E=>X=[]/\pre H/\∃Z:Wd,Z.H=H/\aT K Z/\ar K Z ds vs/\Out K (fC mg E) Z (th Z.aJ) λY d=>∀v,DV K Y d v->Q v Y.H)
def u0 (cl:D) (th:ae->Res D) (i:Nat):aez D:=λenv s=>open Classical in if env[i]?=ϊ (ϊ cl) then th s else ϋ
def spT (K:đ) (pre:Hp->Prop) (cl:D) (fn:List D->ae->Res D):Sp:=λY H Q _=>pre H/\∃w:Wd,w.H=H/\aT K w/\ar K w [cl] Y/\Out K cF w (fn [cl] w.aJ) λZ d=>∀v,DV K Z d v->Q v Z.H
def aaQ {P:å} {w:Ą} {K:đ} {mg:Str->Option Ç} {base:ĺ} {x:Str} {st:ad2} {f:ß} {fd:Ĩ} {ps:List Str} {k:Nat} {b:aez Fl} {pre:Hp->Prop} {cl:D} (G:Gd K mg x st ps f fd) (N:List Str) (S:oX N ps (cz st)=ό)
  (hb:N.Nodup->∀(aY:Ç) (A:í) (outer:List PySem.Env) (s:Â) (H:Hp) (E:XK),pre H->bK k (A.deeper (ŀ x (cz st) s.heap.objs.size f aY))->dg (ia eD P w K mg base N x (cz st) f aY A outer s H E).nS (gr st) (tS K cF b)) :
  cV P w K mg base eD (k+1) f fd ps (spT K pre cl (aD ps.length N.length b)):=by
 refine G.fn.ok (j7 S) (λW H Q E h=>?_) (λaY A outer s H W Q E V h=>?_)
 ·obtain⟨_,w,rfl,S,Y,h⟩:=h
  rw[<- Y.length];delta aD at h;split at h
  ·assumption
  ·exact h.elim
 ·obtain⟨U,w,rfl,T,Y,h⟩:=h
  refine⟨_,hb (j7 S).nd aY A outer s w.H E U V,?_⟩;delta aD at h;split at h
  ·rename_i R
   rw[<- R] at h;refine⟨w,_,rfl,T,Y.env N.length,(Out.ai h).mono λM O L X Z=>?_⟩
   cases O with
   |nx env=>intro J _;exact aB X Z _ rfl
   |rt d=>have q:=aB X Z;exact q
   |bk env=>exact Z.elim
   |ct env=>exact Z.elim
  ·exact h.elim
def nI (env:Env):List Nat->Option (List D)
 | []=>ϊ []
 |i::r=>match env[i]?,nI env r with
  |some (ϊ d),ϊ Z=>ϊ (d::Z)
  |_,_=>ϋ
theorem KW {K:đ} {w:Wd} {env:Env} {σ:St} (eo:bX K w env σ):∀{caps:List Nat} {ds:List D},nI env caps=ϊ ds->∃vs,ar K w ds vs/\∀(i:Nat) j v,caps[i]?=ϊ j->vs[i]?=ϊ v->σ[j]?=ϊ (ϊ v)
 | [],ds,h=>by cases h;exact⟨[],rfl,λi j v h=>by simp at h⟩
 |j::r,ds,h=>by
  delta nI at h;split at h
  ·rename_i d R e1 e2
   cases h;obtain⟨v,X,W⟩:=eo.val j d e1;obtain⟨vs,V,U⟩:=KW eo e2;refine⟨v::vs,⟨v,vs,rfl,W,V⟩,λi T S Z Y=>?_⟩
   cases i with
   |zero=>cases Z;cases Y;exact X
   |succ i=>exact U i T S (by simpa using Z) (by simpa using Y)
  ·cases h
def mC (x:Str) (caps:List Nat) (fb:aez D) (g:D->(ae->Res D)->List D->ae->Res D):aez D:=λenv s=>match (nI env caps:Option (List D)) with
 |some Z=>match (s[0]?:Option Cell) with
  |some (.tb y)=>if ώ (y=x)=ό then ne (g .au (fb (Z.map ϊ)) [.au] s) else ϋ
  |_=>ϋ
 |none=>ϋ
def MS (dN N:List Str) (caps:List Nat) (PK sc:acR):Bool:=ώ (sc.kind=.function)&&!sc.isCoroutine&&!sc.isGenerator&&sc.names.all (λy=>ώ (y.2≠.cell))&&ώ (N.length=caps.length) &&
 (N.zip caps).all (λp=>ώ (dN[p.2]?=ϊ p.1)&&ώ (PK.names.lookup p.1=ϊ .cell)&&ώ (sc.names.lookup p.1=ϊ .free))&&sc.names.all (λy=>ώ (y.2≠.free)||ώ (PK.names.lookup y.1=ϊ .cell))
abbrev PL (P:å) (w:Ą) (K:đ) (mg:Str->Option Ç) (x:Str) (st:ad2) (ps:List Str) (k kt:Nat) (g:D->(ae->Res D)->List D->ae->Res D):Prop :=
 ∀{base:ĺ} {pre:Hp->Prop} {f:ß} {vs:List V} {ds:List D} {th:ae->Res D},A4 P w K mg base kt pre f vs ds th->∀{gA:ß} {fd:Ĩ},Gd K mg x st ps gA fd->cV P w K mg base eD k gA fd ps (spT K pre (.dj f vs ds) (g (.dj f vs ds) th))
section
variable {X:Cx} {Ξ:Wd->bg->Prop} {pos:Pos}
def oC (X:Cx) (H:Hp) (s:Â):ĺ:=hideAll s.heap (cK X.stack++uA s.heap H)
def yP {H:Hp} {s:Â} {b:ß} {o:Obj} (e:s.heap.get? b=ϊ o) (n:H b=ϋ) (hf:b∉cK X.stack):(oC X H s).get? b=ϊ o:=hideAll_get _ e λz=>by
 rcases ó.mp z with z|z
 ·exact hf z
 ·delta uA at z
  have:=(Ĥ.mp z).2;rw[n] at this;cases this
def KY {H:Hp} {s:Â} {b:ß} {o:Obj} (e:(oC X H s).get? b=ϊ o):s.heap.get? b=ϊ o/\H b=ϋ/\b∉cK X.stack:=by
 have e1:=of_hideAll _ e;refine⟨e1,?_,λz=>?_⟩
 ·cases q:H b with
  |none=>rfl
  |some u =>
   have:(oC X H s).get? b=ϋ:=hideAll_none _ (Ù _ (Ĥ.mpr ⟨Ċ.mpr (Ð e1),by rw[q];rfl⟩));rw[e] at this;cases this
 ·have:(oC X H s).get? b=ϋ:=hideAll_none _ (ÿ _ z)
  rw[e] at this;cases this
def _root_.L2.Inv.Za {π:List (ß×Obj)} {σ:St} {H:Hp} {s:Â} (I:Inv X π σ H s):∀b o,X.base.get? b=ϊ o->(oC X H s).get? b=ϊ o:=λb o e=>yP (I.bs b o e).1 (I.bs b o e).2 λz=>by
 have:=(I.stack.mem z).1;rw[e] at this;cases this
def _root_.L2.Inv.aaR {π:List (ß×Obj)} {σ:St} {H:Hp} {s:Â} (I:Inv X π σ H s):nL X.prog X.w X.K X.mg (oC X H s) X.A X.stack s H:=by
 have k:=I.Za;refine⟨I.ok.frames,⟨I.ok.mod.kC.keeps k,I.ok.mod.glob.keeps k,?_,I.ok.mod.nolimit.keeps k⟩,λb o e=>⟨(KY e).1,(KY e).2.1⟩,ael (hideAll_size _ _),?_,I.vN,I.aI,I.bare⟩
 ·obtain⟨Z,Y,W⟩:=I.ok.mod.blt
  exact⟨Z,Y.keeps k,W⟩
 ·refine funFrames_hide I.stack λenv V a U=>ÿ _ ?_
  delta cK;exact ξ.mpr ⟨env,V,U⟩
def NX {x g:Str} {p ie:Pos} {params:aer} {body:ě} {sc:acR} {c P:ß} {PM:ad2} {PN:List Str} {k n kb:Nat} {gf:D->(ae->Res D)->List D->ae->Res D} {fb:aez D} (N:List Str) {caps:List Nat}
  (zZ:X.env.code=.ref c) (NY:X.env.qual=x++".<locals>.") (ht:tabIn X.K x=ϊ (c,P)) (hC:codeHdIn X.K c P=ό) (hb:X.base.BuiltinsAt X.mg P)
  (G:GG X.K X.mg g PM PN) (F:PL X.prog X.w X.K X.mg g PM PN k (kb+1) gf) (aco:∀cl th s,gf cl th [cl] s=gf .au th [.au] s) (hr:bK n X.A)
  (k9:∀(base:ĺ) (q:Str) (f:ß) (cd:Ç) (cl:List (Str×ß)) (A:í) (outer:List PySem.Env) (s:Â) (H:Hp) (E:XK),bK kb (A.deeper (envX q sc s.heap.objs.size f cd cl))->Lv (uZ X.prog X.w X.K X.mg base N q sc f cd cl A outer s H E) E->PE (uZ X.prog X.w X.K X.mg base N q sc f cd cl A outer s H E) body (tE X.K (fC X.mg E) fb))
  (hk:k<=n:=by decide) (Fg:MS X.N N caps X.env.scope sc=ό:=by kernel_rfl) (xP:∀x,X.fn x=ό:=by intro _;rfl) (Eb:∀(cl:List (Str×ß)) (pm:Ç) (c':ß) (i8:Ç),bindArgs (kla_fn "<lambda>" (x++".<locals>."++"<lambda>") params body sc cl pm (.ref c') i8) ⟨[],[]⟩=pure []:=by intros;rfl)
  (Ff:defaultsOf params X.env=([],[]):=by rfl) (hg:Gl X g:=by rfl) (dQ:(g==("__debug__":Str))=ύ:=by decide)
  (he:Í [.Lambda params body sc ie] X.env=(ύ,ķ (.Lambda params body sc ie) X.env)::Í [] X.env:=by rfl) (bN:(ī pos (Í [] X.env)).any (·.1)=ύ:=by rfl) :
  PE X (.Call (.Name g p) [.Lambda params body sc ie] [] pos) (tE X.K Ξ (mC x caps fb gf)):=by
 intro π s σ H Q I aw;have C:=codeHd_of_K I.ok.mod.kC hC;obtain⟨w,env,eH,S,eo,h⟩:=aw;subst eH;delta mC at h
 cases mI:nI env caps with
 |none=>rw[mI] at h;exact h.elim
 |some W =>
 rw[mI] at h
 cases U:w.aJ[0]? with
 |none=>erw[U] at h;exact h.elim
 |some c0 =>
 erw[U] at h
 cases c0 with
 |dead=>exact h.elim
 |lst _=>exact h.elim
 |dK _=>exact h.elim
 |dT _=>exact h.elim
 |ins _ _=>exact h.elim
 |tb y =>
 dsimp only at h;by_cases hy:y=x
 case neg=>rw[Ú (by simpa using hy)] at h;exact h.elim
 rw[Ñ (by simpa using hy)] at h;subst hy;obtain⟨vs,ak,hvs⟩:=KW eo mI;obtain⟨a,ha⟩:∃a,w.ρ[0]?=ϊ a:=by
  have:=S.len
  cases hρ:w.ρ with
  |nil=>rw[hρ] at this;have h0:=(Ô.mp U).1;rw[<- this] at h0;simp at h0
  |cons a r=>exact⟨a,rfl⟩
 have acp:=S.cell 0 a _ ha U;obtain⟨c2,ps,t1,t2,t3,t4⟩:=acp;rw[ht] at t1;cases t1;delta MS at Fg;erw[Å,aef,ł,Ë,ô] at Fg;obtain⟨⟨⟨⟨⟨⟨k1,k2⟩,k3⟩,k4⟩,k5⟩,k6⟩,k7⟩:=Fg;obtain⟨cl,dh,R⟩:=Vw (env:=X.env) (scope:=sc) λz hz=>by
  rcases k7 _ hz with q|q
  ·exact absurd rfl q
  ·exact I.ok.has z (.inl q)
 obtain⟨gA,fdg,G⟩:=G;refine ũ (qb I hg G.mg ?_ dQ);refine ady (h₀:=X.base) I.ok.mod.kC G.fn.kp ?_ he bN;rw[he];show á _ _ (spliced ((ύ,ķ (.Lambda params body sc ie) X.env)::ī pos (Í [] X.env))) _ _ s;refine adx (Vx I dh zZ C hb t2 t3 Ff (λcv q=>?_) λf c' i8 oc fs tq H1 J Y hf OQ GJ jr og gH hH=>?_)
 ·rw[NY]
  obtain⟨c',oc,fs,t,r1,r2,r3,r4⟩:=t4 ie cv q;exact⟨c',oc,fs,t,r1,r2.2,r3,r4⟩
 rw[NY] at GJ gH;refine Calls.spliced_nil ⟨Y.fy,?_⟩;have W1:∃V:Wd,V.H=H1/\aT X.K V/\Le X.K w V/\V.aJ=w.aJ:=by
  rcases hH with rfl | ⟨hn,A2,rfl,F2⟩
  ·exact⟨w,rfl,S,Le.refl w,rfl⟩
  ·have S2:=S.grow (o:=.bo oc (.own c')) hn
   have O:=(Fw.grow (K:=X.K) (o:=.bo oc (.own c')) hn).le;have l2:=(Fw.put (o:=.ef (ps++#[ĸ ie.line,ĸ ie.col,.ref c'])) (c:=.tb y) S2 ha U (by intro z;cases z)).le;refine⟨(w.grow c' (.bo oc (.own c'))).put 0 P (.ef (ps++#[ĸ ie.line,ĸ ie.col,.ref c'])) (.tb y),rfl,S2.xp ha U (by intro z;cases z) ⟨c,_,ht,cO,F2,λpos cv e=>?_⟩,O.trans l2,?_⟩
   ·rw[Array.toList_append] at e
    rcases TJ _ t3 e with e|e
    ·obtain⟨c3,o3,v3,t3',r1,r2,r3⟩:=t4 pos cv e
     exact⟨c3,o3,v3,t3',r1,(O.trans l2).bo c3 o3 _ r2.1 r2.2,r3⟩
    ·refine⟨c',oc,fs,tq,e,?_,og,gH⟩
     exact l2.bo c' oc _ (λz=>ma S hn z) cO
   ·exact acU λi=>by
     show (w.aJ.set 0 (.tb y))[i]?=w.aJ[i]?
     cases i with
     |zero=>rw[ù (Ô.mp U).1,U]
     |succ i=>rw[õ ⋯]
 obtain⟨V,rfl,S1,O,es⟩:=W1;have cells:∀z Z,cl.lookup z=ϊ Z->∀v,J.heap.IsCell Z v->(oC X V.H J).IsCell Z v:=λz Z e v ⟨o,ho,hd⟩=>by
  have e2:=R.wU z Z e;refine⟨o,yP ho (Y.jd z Z e2) λq=>?_,hd⟩
  rcases Û.mp (Y.kX _ q) with q|q
  ·exact Y.kD z Z e2 q
  ·obtain⟨_,o2,iG,_⟩:=Y.ok.iS.mem q
   exact absurd (Ð iG) (Nat.not_lt.mpr (Y.ok.uB z Z (xP z) e2))
 have OR:f∉cK X.stack:=λq=>by
  obtain⟨_,o2,iG,_⟩:=I.stack.mem q;exact absurd (Ð iG) (Nat.not_lt.mpr hf)
 have nl:N.length=vs.length:=by
  have e1:=ak.length;have e2:∀(cs:List Nat) (W:List D),nI env cs=ϊ W->W.length=cs.length:=λcs=>by
   induction cs with
   |nil=>intro W h;cases h;rfl
   |cons i r ih =>
    intro W h;delta nI at h;split at h
    ·cases h;rename_i e;simp[ih _ e]
    ·cases h
  rw[k5,<- e2 caps W mI,e1]
 have T:A4 X.prog X.w X.K X.mg (oC X V.H J) (kb+1) (λH=>H c'=ϊ (.bo oc (.own c'))) f vs W (fb (W.map ϊ)):=by
  refine⟨λH H' st q=>st _ _ _ q,_,⟨_,yP GJ OQ OR,rfl⟩,Binds.all λus hl=>?_,(Y9 (t:=λE=>tE X.K (fC X.mg E) fb) (vs:=vs) (oc:=oc) ⟨k2,k3,k1,k4⟩ (yP GJ OQ OR) nl (λz1 z2 Z M B=>Y.ok.inj z1 z2 Z (R.wU _ _ M) (R.wU _ _ B)) (λz hz=>R.all z (Ľ hz)) (λz Z e=>?_) (λi z v M B=>?_) og gH
   (λA outer s H E hr L=>k9 _ _ f (.ref c') cl A outer s H E hr L)).imp λus H Q E h=>?_⟩
  ·have:us=[]:=List.eq_nil_of_length_eq_zero (by simpa using hl)
   subst this;exact Eb _ _ _ _
  ·obtain⟨v,q⟩:=Y.cell z Z (R.wU z Z e)
   exact⟨v,cells z Z e v q⟩
  ·have hi:i<caps.length:=by
    have:=(Ô.mp M).1;rw[k5] at this;exact this
   obtain⟨j,hj⟩:∃j,caps[i]?=ϊ j:=⟨caps[i],Ø hi⟩;have hm:(z,j)∈N.zip caps:=by
    refine ű (i:=i) ?_;rw[List.getElem?_zip_eq_some];exact⟨M,hj⟩
   obtain⟨⟨q1,q2⟩,q3⟩:=k6 _ hm;obtain⟨m,hn,hl⟩:=Y.loc;obtain⟨u,r,lk⟩:=hl j z v q1 (hvs i j v hj B) (.inr (.inl q2));refine⟨q3,?_⟩
   rcases lk with ⟨lk,_⟩ | ⟨_,Z,e1,e2⟩
   ·rw[show X.env.kindOf z=X.env.scope.names.lookup z from rfl,q2] at lk;cases lk
   ·obtain⟨c3,e3⟩:=R.all z (Ľ q3)
    have e4:=R.wU z c3 e3;rw[e1] at e4;cases e4;exact⟨Z,u,e3,cells z Z e3 _ e2,r⟩
  ·obtain⟨M,B,w',rfl,S',mM,hh⟩:=h
   refine⟨M,B,w',W.map ϊ,rfl,S',⟨?_,λi d e=>?_⟩,hh⟩
   ·rw[É,É];exact mM.length
   ·rw[ê] at e
    cases q:W[i]? with
    |none=>rw[q] at e;cases e
    |some d' =>
     rw[q] at e;cases e;obtain⟨v,e1,e2⟩:=mM.get' i d q;exact⟨v,by rw[ê,e1];rfl,e2⟩
 have hq:=(h.from O).ne;rw[<- es,<- aco (.dj f vs W)] at hq;refine adn (Ŋ ((F T G).run X.A X.stack J V.H ⟨[.ref f],[]⟩ [.ref f] [.ref f] Q (λ_ _ _=>False) (hr.mono hk) Y.aaR (G.b J [.ref f] Y.fy ?_) (.cons rfl .nil) ⟨jr,V,rfl,S1,⟨.ref f,[],rfl,⟨rfl,O.all ak⟩,rfl⟩,hq⟩) λr s' l=>?_)
 ·have:=(F T G).len [.ref f] V.H Q (λ_ _ _=>False) ⟨jr,V,rfl,S1,⟨.ref f,[],rfl,⟨rfl,O.all ak⟩,rfl⟩,hq⟩
  simpa using this
 ·cases r with
  |error e=>exact l.elim
  |ok fl =>
   cases fl with
   |ret u=>exact Y.after l
   |next=>exact č l
   |brk=>exact č l
   |cont=>exact č l
end
end DI
namespace L2
open PySem PySem.Spec PyProof.Rows PySem.W
section
variable {X:Cx} {π:List (ß×Obj)} {σ:St} {H:Hp} {s:Â}
def zl {M:Model} {A:í} {E:Ç->Â->Prop} {i:Nat} {x:Str} {pos:Pos} {Q:Unit->Â->Prop} (I:Inv X π σ H s) (hN:X.N.Nodup) (hi:X.N[i]?=ϊ x) (hk:X.env.scope.names.lookup x=ϊ .local) (h:∀s',Inv X π (σ.set i ϋ) H s'->Q () s') :
  á M A (do adT X.env x .none;unbindBehindTheSuite X.env x pos) Q E s:=by
 obtain⟨m,U,R⟩:=id I.loc;have P:(X.env.scope.kind==.class||(X.env.scope.kind==.module&&X.env.locals != X.env.globals))=ύ:=by rw[I.ok.kind];rfl
 have kD:=I.kD;refine wpAny_nameGoes_keeps hk U P λu v O Z=>?_;obtain⟨t,_,_,r,_⟩:=id U;refine h _ ⟨I.ok,I.os,I.bare,⟨λb o e n W Y=>?_,λb o e n W Y=>?_,I.base.free,λb o e Y=>?_,I.base.gg,I.base.fx,I.base.gj⟩,⟨_,O,λj y L e1 e2 K=>?_⟩,λy c e=>?_,I.free,I.jd,λp J=>?_,λb G e=>?_,by rw[Ă];exact I.len⟩
 ·exact(Z.2 b (ã (Ê (Ð e) I.ok.above))).trans (I.base.keep b o e n W Y)
 ·obtain⟨sl,e1⟩:=I.base.slot b o e n W Y
  exact⟨sl,(Z.2 b (ã (Ê (Ð e) I.ok.above))).trans e1⟩
 ·obtain⟨F,e1⟩:=I.base.there b o e Y
  exact⟨F,(Z.2 b (ã (Ê (Ð e) I.ok.above))).trans e1⟩
 ·by_cases V:j=i
  ·subst V
   have T:=(Ô.mp e2).1;rw[Ă] at T;rw[ù T] at e2;cases e2
  ·rw[õ (ź V)] at e2
   obtain⟨D,C,q⟩:=R j y L e1 e2 K;refine⟨D,C,?_⟩
   rcases q with ⟨k,e⟩ | ⟨k,c,e,z⟩
   ·refine .inl ⟨k,?_⟩
    have:y≠x:=λe=>V (BU hN e1 (e ▸ hi));simp[this,e]
   ·exact .inr ⟨k,c,e,z.sameBut Z (kD y c e)⟩
 ·obtain⟨S,z⟩:=I.cell y c e
  exact⟨S,z.sameBut Z (kD y c e)⟩
 ·obtain⟨e,n,ne,B,d⟩:=I.pin p J
  exact⟨(Z.2 p.1 ne).trans e,n,ne,B,d⟩
 ·refine(I.aI b G e).iE (λc S w q=>(Z.2 c ?_).trans q) (λ_ q=>q) λ_ _ q=>q
  rintro rfl
  rcases w with z|z
  ·have:=I.free;rw[z,e] at this;cases this
  ·have:=I.free;rw[z] at this;cases this
abbrev Cx.held (X:Cx) (a:ß):Cx:={ X with A:=X.A.mark (ϊ (.ref a)),calm:=ύ,xe:=λ_ _=>False }
theorem Inv.held (I:Inv X π σ H s) (a:ß):Inv (X.held a) π σ H s:=by
 obtain⟨⟨a1,a2,Z,Y,W,V,U,T,w,S,R,Q,P,O,N,M,L,K⟩,J,G,F,E,D,C,B,A,y,x⟩:=I;exact⟨⟨a1,a2,Z,Y,W,V,U,T,λz=>absurd z Ä,S,R,Q,P,O,N,M,L,K⟩,J,G,F,E,D,C,B,A,y,x⟩
def Inv.zC {a:ß} (ok:X.Ok) (I:Inv (X.held a) π σ H s):Inv X π σ H s:=by
 obtain⟨_,Z,Y,W,V,U,T,S,R,Q,P⟩:=I;exact⟨ok,Z,Y,W,V,U,T,S,R,Q,P⟩
def zD (X:Cx) (π:List (ß×Obj)) (σ:St) (E:XK) (e:Ç) (s':Â):Prop:=∃Z Y,Inv X π σ Z Y/\fB X.prog X.w X.stack Z Y E e s'
def jD {E:XK} {E':Ç->Â->Prop} {e:Ç} {s':Â} {cn n:Str} {np Az:Pos} {xA:ad2} {wW:List ad2} {j:Nat} {CM:ß} {D:Ends} (Th:zD X π σ E e s') (L:X.stack=X.env::X.outer) (hf:X.env.frame=ϊ X.env.locals)
  (hN:X.N.Nodup) (hj:X.N[j]?=ϊ n) (pN:X.env.scope.names.lookup n=ϊ .local) (hg:Gl X cn) (hm:X.mg cn=ϊ (.ref CM)) (hd:(cn==("__debug__":Str))=ύ)
  (h:∀cls m H' ,E cls m H'->exmOne X.K cls (.ref CM)=ϊ ό/\∀(a:ß) (o:Obj),H' a=ϋ->o.cls=cls->(notCls o=ό/\∀dx,m=ϊ dx->o.dict=ϊ dx)->∀s5,Inv (X.held a) π (σ.set j (ϊ (.ref a))) (upd H' a (.bo o (.own a))) s5 ->
   á (é X.prog X.w) (X.held a).A (execs (xA::wW) X.env) (SP (X.held a) π { nx:=fun aU H'=>D.nx (aU.set j ϋ) H',rt:=D.rt,bk:=fun aU H'=>D.bk (aU.set j ϋ) H',ct:=fun aU H'=>D.ct (aU.set j ϋ) H' }) (λ_ _=>False) s5) :
  á (é X.prog X.w) X.A (noteFrame e X.env) (λ_ tV=>á (é X.prog X.w) X.A (setFlight e ϋ) (λ_ acq=>á (é X.prog X.w) X.A (handleBy e X.env [.ExceptHandler (ϊ (.Name cn np)) (ϊ n) (xA::wW) Az]) (SP X π D) E' acq) E' tV) E' s':=by
 obtain⟨H1,t,W,a,cls,O,H',B,m,rfl,os,bare,F,dm,hE⟩:=Th;obtain⟨p,hh⟩:=h cls m H' hE
 refine ė (yT (LM _ _) (wpAny_looks_onW (E:=λ_ _=>False) (Q:=λ_ s2=>∃V,s2={ s' with heap:=V }/\Heap.HeldW B (X.env::X.outer) a cls O X.env.locals V/\s'.heap.UpToSlots V) (by rw[W.ok.frames,L]) hf (by have:=F.fl;rw[L] at this;exact this) λV x y=>⟨V,rfl,x,y⟩)) (λ_ s2 z=>?_) λ_ _ z=>z.1.elim
 obtain⟨⟨V,rfl,NZ,l⟩,k⟩:=z
 refine ė (yT (BL _ _) (wpAny_landsW (E:=λ_ _=>False) (Q:=λ_ s3=>∃Z,s3={ s' with heap:=Z }/\ad0 B (X.env::X.outer) a cls O Z/\V.UpToSlots Z) NZ λZ x y=>⟨Z,rfl,x,y⟩)) (λ_ s3 z=>?_) λ_ _ z=>z.1.elim
 obtain⟨⟨Z,rfl,OS,i⟩,g⟩:=z
 have yn:Dm Z a m:=(dm.on k (let ⟨o,e,_⟩:=NZ.there;⟨o,e⟩)).on g (let ⟨o,e,_⟩:=OS.there;⟨o,e⟩)
 have P:ad0 B X.stack a cls O Z:=by rw[L];exact OS
 have I:=F.on P (l.trans i);have d:t.heap.get? a=ϋ:=by
  cases q:t.heap.get? a with
  |none=>rfl
  |some o =>
   by_cases S:a∈cK X.stack
   ·obtain⟨sl,e1⟩:=I.slot a o q S
    obtain⟨_,o2,e2,hd2⟩:=P.2.2.1.mem S
    obtain⟨H,ws,e3,_,e4,_⟩:=P.first
    rw[e3] at e2;cases e2;exact absurd e4 (hd2 _)
   ·obtain⟨o',e1⟩:=F.there a o q S
    rw[F.fl.2.1] at e1;cases e1
 have I3:Inv X π σ H' { s' with heap:=Z }:=W.wB (s':={ s' with heap:=Z }) (ch:=[]) os I.un I.held bare (λb z=>absurd z ∅)
 refine wpAny_handleBy_cons (codeAny_handlers_test ?_) (by intro q;cases q);refine(show á (é X.prog X.w) (X.held a).A (ķ (.Name cn np) (X.held a).env) _ _ _ from qb (I3.held a) hg hm ?_ hd);obtain⟨ob,hob,xj⟩:=P.there;have LT:Looks (é X.prog X.w) Z (typeOf (.ref a)) cls:=by subst xj;exact(Looks.ld hob).andThen .now
 refine(exm_one (M:=é X.prog X.w) (K:=X.K) (h:=Z) I3.fy LT p).here ?_;refine codeAny_handlers_suite_as ?_
 refine ė (yT (BL _ _) (lands_againW (s:={ s' with heap:=Z }) (E:=λ_ _=>False) (Q:=λ_ s4=>∃Y,s4={ s' with heap:=Y }/\ad0 B X.stack a cls O Y/\Z.UpToSlots Y) P λY x y=>⟨Y,rfl,x,y⟩)) (λ_ s4 z=>?_) λ_ _ z=>z.1.elim
 obtain⟨⟨Y,rfl,G,up4⟩,dk4⟩:=z
 have yo:Dm Y a m:=yn.on dk4 (let ⟨o,e,_⟩:=G.there;⟨o,e⟩)
 have F4:=I.on G up4;obtain⟨H,C,acs⟩:=G.there;have R:H' a=ϋ:=F4.new
 have I4:Inv X π σ (upd H' a (.bo H (.own a))) { s' with heap:=Y }:=by
  have u:=F4.un;have gU:∀b o,t.heap.get? b=ϊ o->b≠a:=λb o e z=>by rw[z,d] at e;cases e
  refine W.wB (s':={ s' with heap:=Y }) (ch:=[]) os ⟨u.keep,u.slot,λb o e n p=>?_,u.there,λb xs e=>?_,λb o v e=>?_,λb ps e=>?_⟩ (λb v e=>?_) bare (λb z=>absurd z ∅)
  ·rw[bt (gU b o e)];exact u.free b o e n p
  ·have:=u.gg b xs e;rw[bt (dC this R)];exact this
  ·have:=u.fx b o v e;rw[bt (dC this R)];exact this
  ·obtain⟨more,this⟩:=u.gj b ps e;exact⟨more,by rw[bt (dC this R)];exact this⟩
  ·by_cases S:b=a
   ·subst S
    rw[cO] at e;cases e;exact⟨C,H,C⟩
   ·rw[bt S] at e
    refine(F4.held b v e).iE (λ_ _ _ q=>q) (λc q=>?_) λc xs q=>?_
    ·rw[bt (dC q R)];exact q
    ·rw[bt (dC q R)];exact q
 refine oj I4 hN hj (.inl pN) (v:=.ref a) (u:=.ref a) rfl (λs5 I5=>?_) (.inr pN)
 refine ė (hh a H R acs ⟨by obtain⟨o2,vs,e1,_,e2,_⟩:=G.first;rw[C] at e1;cases e1;delta notCls;rw[e2],λdx e=>by obtain⟨o,e1,e2⟩:=yo dx e;rw[C] at e1;cases e1;exact e2⟩ s5 (I5.held a)) (λf s6 q=>?_) λ_ _ z=>z.elim
 cases f with
 |next =>
  obtain⟨aU,U,J,q⟩:=q;exact zl (J.zC W.ok) hN hj pN λs7 T=>⟨_,U,T,q⟩
 |brk =>
  obtain⟨aU,U,J,q⟩:=q;exact zl (J.zC W.ok) hN hj pN λs7 T=>⟨_,U,T,q⟩
 |cont =>
  obtain⟨aU,U,J,q⟩:=q;exact zl (J.zC W.ok) hN hj pN λs7 T=>⟨_,U,T,q⟩
 |ret u =>
  obtain⟨v,aU,U,J,r,q⟩:=q;exact zl (J.zC W.ok) hN hj pN λs7 T=>⟨v,_,U,T,r,q⟩
end
end L2
namespace DI
open PySem L2 PySem.W
def bX.unset {K:đ} {w:Wd} {env:Env} {σ:St} (h:bX K w env σ) (i:Nat):bX K w (env.set i ϋ) (σ.set i ϋ):=by
 refine⟨by rw[Ă,Ă];exact h.len,λj X e=>?_⟩;by_cases Z:i=j
 ·subst Z
  have Y:=(Ô.mp e).1;rw[Ă] at Y;rw[ù Y] at e;cases e
 ·rw[õ Z] at e
  rw[õ Z];exact h.val j X e
section
variable {X:Cx} {E:XK} {pos:Pos}
def Zb {π:List (ß×Obj)} {σ:St} {s:Â} {w:Wd} {env:Env} {Q:VK} {k i:Nat} {x:Str} {p:Pos} {pre:Hp->Prop} {f:ß} {vs:List V} {ds:List D} {th:ae->Res D} (T:A4 X.prog X.w X.K X.mg X.base k pre f vs ds th) (h0:pre X.mr) (hr:bK k X.A)
  (hN:X.N[i]?=ϊ x) (hv:qU X.env.scope x) (hd:(x==("__debug__":Str))=ύ) (eh:(x==("__classdict__":Str))=ύ)
  (I:Inv X π σ w.H s) (S:aT X.K w) (eo:bX X.K w env σ) (he:env[i]?=ϊ (ϊ (.dj f vs ds))) (h:Out X.K (fC X.mg E) w (th w.aJ) λw' d=>∀v,DV X.K w' d v->Q v w'.H) :
  á (é X.prog X.w) X.A (ķ (.Call (.Name x p) [] [] pos) X.env) (EP X π σ Q) (zD X π σ E) s:=by
 obtain⟨M,fd,⟨o,L,J⟩,G,F⟩:=T;obtain⟨v,e1,e2⟩:=eo.val i _ he;obtain⟨rfl,C⟩:=e2;refine PySem.wpAny_Call_Name_kw ?_;have U:=(Mo (X:=X.ko λe O=>zD X π σ E e O) (pos:=p) hN hv hd eh π s σ w.H (λv B=>v=.ref f/\B=w.H) (I.ko _) ⟨_,e1,rfl,rfl⟩);refine aO U λu R U=>?_;obtain⟨v,q,Z,r,rfl,rfl⟩:=U;have Z:=Z.nr;have r:u=.ref f:=r;subst r;have z:∀h:ĺ,h.get? f=ϊ o->∃k,(k=Keeper.frame\/k=Keeper.machine\/k=Keeper.boundFrame)/\Looks (é X.prog X.w) h (keeperOf (.ref f)) k:=λh e=>by
  obtain⟨n,m,y,os⟩:=o;cases J;exact⟨.frame,.inl rfl,(Looks.ld (part:=ϋ) e).andThen .now⟩
 refine PySem.W.callWith_of (P:=λh=>h.get? f=ϊ o) rfl z (PyProof.Rows.evalArgs_nil3 ⟨Z.bk _ _ L,?_⟩);refine adn (Ŋ (F.run X.A X.stack R w.H ⟨[],[]⟩ [] [] Q E hr Z.kq (G R [] Z.fy rfl) .nil ⟨rfl,M _ _ (λb o u e=>Z.base.fx b o u e) h0,w,rfl,S,C,h⟩) λr O Y=>?_)
 cases r with
 |error e=>exact⟨w.H,R,Z,Y⟩
 |ok t =>
  cases t with
  |ret u=>exact Z.after Y
  |next=>exact č Y
  |brk=>exact č Y
  |cont=>exact č Y
end
end DI
namespace L2
open PySem PySem.Spec PySem.Calls PyProof.Rows PySem.W PySem.Builtin PySem.Builtin.ObjectAttr PySem.Builtin.Getset_descriptor
section
variable {prog:å} {w:Ą} {A:í} {E:Ç->Â->Prop} {s:Â} {K:đ} {x C:ß}
def oF (K:đ) (C:ß):Bool:=(findIn K (.ref C) "__getattribute__"==ϊ (ϊ (.builtin "BaseException.__getattribute__")))&&(findIn K (.ref C) "__getattr__"==ϊ ϋ)&&(clsIn K C).isSome&&(findIn K (.ref C) "__class__"==ϊ (ϊ (.builtin "object.__class__")))&&(specialIn K (.builtin "object.__class__") "__get__"==ϊ (ϊ (.builtin "getset_descriptor.__get__")))&&(takesIn K (.builtin "object.__class__")==ϊ ό)&&(mroIn K C (.type "object")==ϊ ό)&&(mroIn K C (.type "BaseException")==ϊ ό)
def Zc {M:Model} {N0:Ç} {Q:Unit->Â->Prop} (LT:Looks M s.heap (typeOf (.ref x)) (.ref C)) (M5:Looks M s.heap (isSubtype (.ref C) (.type "BaseException")) ό) (hq:Q () s):á M A (ad6 "BaseException.__getattribute__" ⟨[.ref x,N0],[]⟩) Q E s:=by
 have Z:builtinKind "BaseException.__getattribute__"=ϊ .slot:=nofun
 have Y:splitId "BaseException.__getattribute__"=ϊ ("BaseException","__getattribute__"):=nofun
 have X:=F.args_bexc_ga (.ref x) N0;erw[ad6,Z,Y];refine À ?_;delta isInstance
 repeat (first|with_reducible refine LT.at ?_|with_reducible refine M5.at ?_|wp_step)
 exact hq
def cls_read {Q:Option Ç->Â->Prop} (X:K.In s.heap) (LT:Looks (é prog w) s.heap (typeOf (.ref x)) (.ref C)) (hc:oF K C=ό) (h:Q (ϊ (.ref C)) { s with toks:=s.toks+1 }) :
  á (é prog w) A (getAttr? (.ref x) "__class__") Q E s:=by
 delta oF at hc;erw[Å,beq_iff_eq] at hc;obtain⟨⟨⟨⟨⟨⟨⟨Y,W⟩,_⟩,V⟩,U⟩,T⟩,S⟩,R⟩:=hc;obtain⟨Z,g,d,t,os⟩:=s;have M1:=looks_findIn (M:=é prog w) X Y;have M2:=looks_findIn (M:=é prog w) X W;have P:Looks (é prog w) Z (find (.ref x) (.ref C) "__class__") (.bind (.builtin "getset_descriptor.__get__") (.builtin "object.__class__")) :=
  (looks_findIn X V).andThen ((looks_specialIn X U).andThen ((show Looks (é prog w) Z (dataDescriptor? (ϊ (.builtin "object.__class__")) (ϊ (.builtin "getset_descriptor.__get__"))) (ϊ (.builtin "getset_descriptor.__get__",.builtin "object.__class__")) from (looks_takesIn X T).andThen .now).andThen (Looks.tag .now)))
 have L:=looks_mroIn (M:=é prog w) X S;have O:=looks_mroIn (M:=é prog w) X R;have N:=F.attr_ValueError.ga.bind (.ref x);delta getAttr? getAttrBy? getAttrBy;refine À (wpAny_mkText (À (Ž (ą (À (LT.at (À (M1.at ?_))))))));show á _ _ (getAttrByItsOwn (.ref x) _ (.ref C) (.builtin "BaseException.__getattribute__") ύ ύ) _ _ _;delta getAttrByItsOwn;refine À (M2.at (À (Ž (ą ?_))));show á _ _ (boundAndCalled (.builtin "BaseException.__getattribute__") (.ref x) _) _ _ _;delta boundAndCalled;rw[N];refine À (Ã (adn (ų F.attr_ValueError.ga.plain F.entry_bexc_ga ?_)));refine Zc LT O ?_;delta ŗ.«object.__getattribute__»;rw[show slotArgs "__getattribute__" 1 ⟨[.ref x]++[.str "__class__" t],[]⟩=pure (.ref x,[.str "__class__" t]) from rfl];refine À (Ã ?_);dsimp only;rw[show attrName (.str "__class__" t)=pure ("__class__":Str) from rfl];refine À (Ã (À (LT.at (À (P.at ?_)))));show á _ _ (acY [Value.builtin "object.__class__"] (call (.builtin "getset_descriptor.__get__") [.builtin "object.__class__",.ref x,.ref C]) >>= ret) _ _ _;refine À (ą (adn ?_));refine ų KF.slot_gs.plain KF.entry_gs (KF.slot_gs.check _ _ _ _ _ _ _ _ KF.type_class (KF.args_gs _ _ _) ?_);delta ŗ.«getset_descriptor.__get__» descrGet;rw[dga_obj];refine À (Ã ?_);delta descrGetter descrCheckInstance descrNameAndClass isInstance;erw[KF.owner_class]
 repeat lk
 refine⟨adC _ nofun,ň KF.entry_class ?_⟩;delta ŗ.«object.__class__» shownTypeOf
 repeat lk
 exact h
def Vz {o:Obj} (ho:o.cls=.ref C) (hc:oF K C=ό):KitX K (.ref x) (.ref C) (λh=>h.get? x=ϊ o) where
 ty:=λM h _ e=>ho ▸ (Looks.ld e).andThen .now
 it:=λM h X _=>by
  delta oF at hc;erw[Å] at hc;have z:=hc.1.1.1.1.1.2;delta clsIn at z;split at z
  ·rename_i q
   intro W V U T k r;delta isType loadHead;exact À (wpAny_loadPart (k _ _ (X _ _ q)) (Ã r))
  ·cases z
 ne:=λh Z S its n sl X Y=>by
  delta oF at hc;erw[Å] at hc;have z:=hc.1.1.1.1.1.2;refine Bool.eq_false_iff.mpr λq=>?_;have e:C=Z:=Value.ref.inj (beq_iff_eq.mp q);subst e;delta clsIn at z;split at z
  ·rename_i r
   have z:=(X _ _ r).symm.trans Y;cases z
  ·cases z
 ca:=λX e k=>cls_read X (ho ▸ (Looks.ld e).andThen .now) hc k
end
end L2
namespace DI
open PySem L2 PySem.W
def ee (cs:List Str) (yes:Str->Bool) (d:D) (s:ae):Res D:=match d with
 | .au=>ok (.bl ύ) s
 | .exc c _=>if ώ (c∈cs)=ό then ok (.bl (yes c)) s else ϋ
 |_=>ϋ
def sG (K:đ) (cs:List Str) (T:Ç) (yes:Str->Bool):Prop:=kitOne K (.type "NoneType") T=ϊ ύ/\∀c∈cs,∃C,nsIn K Ò c=ϊ (ϊ (.ref C))/\oF K C=ό/\kitOne K (.ref C) T=ϊ (yes c)
section
variable {X:Cx} {Ξ:Wd->bg->Prop} {a:ě} {pos:Pos} {f:aez D}
def Ze {cs:List Str} {T:Ç} {yes:Str->Bool} (hc:sG X.K cs T yes) {vT:V} (hT:∀u,RelV vT u->u=T):cT X (.builtin "isinstance") (λxs H Q=>∃(w:Wd) (d:D) (x:V),w.H=H/\aT X.K w/\DV X.K w d x/\xs=[x,vT]/\Out X.K Ξ w (ee cs yes d w.aJ) λw' d=>∀v,DV X.K w' d v->Q v w'.H):=by
 intro A s σ H y N Q I r zzz;obtain⟨w,d,x,rfl,S,U,rfl,h⟩:=zzz;obtain⟨Y,W,R,Z⟩:∃Y,RelV x Y/\∃R,N=[Y,R]/\RelV vT R:=by
  cases r with
  |cons W Z=>cases Z with|cons Z M=>cases M;exact⟨_,W,_,rfl,Z⟩
 obtain⟨rfl,Z⟩:=Z;cases hT _ Z
 cases d with
 |au =>
  have e:x=.au:=U;subst e;have e:Y=Value.none:=W;subst e;exact kia_one kitx_none I.fy trivial hc.1 (by intro z;cases z) λP=>⟨.bl ύ,w.H,I.tok P,rfl,aB S h _ rfl⟩
 |exc c _ =>
  erw[DV] at U;obtain⟨b,o,C,rfl,L,⟨J,G⟩,_⟩:=U;have e:Y=Ō b:=W;subst e;delta ee at h;dsimp only at h;split at h
  ·rename_i F
   obtain⟨t,O,E,B⟩:=hc.2 c (æ F);rw[G] at O;cases O;exact kia_one (Vz J E) I.fy (I.aI b _ L.2).1 B (by intro z;cases z) λP=>⟨.bl (yes c),w.H,I.tok P,rfl,aB S h _ rfl⟩
  ·exact h.elim
 |_=>exact h.elim
def MT {cs:List Str} {T:Ç} {yes:Str->Bool} {vT:V} {cn:Str} {p np:Pos} (hc:sG X.K cs T yes) (hT:∀u,RelV vT u->u=T) (h1:PE X (.Name cn np) (tC vT)) (ha:PE X a (tE X.K Ξ f)) (hm:X.mg "isinstance"=ϋ) (hv:ü "isinstance"=ϊ (.builtin "isinstance")) (hg:Gl X "isinstance":=by rfl)
  (hs:Í [a,.Name cn np] X.env=(ύ,ķ a X.env)::Í [.Name cn np] X.env:=by rfl) (gX:Í [.Name cn np] X.env=(ύ,ķ (.Name cn np) X.env)::Í [] X.env:=by rfl) (bN:(ī pos (Í [.Name cn np] X.env)).any (·.1)=ύ:=by rfl) :
  PE X (.Call (.Name "isinstance" p) [a,.Name cn np] [] pos) (tE X.K Ξ (e1 (ee cs yes) f)) :=
 cm (BV (Ze (Ξ:=Ξ) hc hT) hg hm hv (kP ha (kP h1 l8 gX) hs) (by decide) (by decide) hs bN) fun σ H Q Z=>by
  obtain⟨w,env,Y,S,W,h⟩:=Z;subst Y;exact⟨w,env,rfl,S,W,(Out.ai h).mono λU x O R h1 v1 P=>⟨U,x,v1,rfl,R,P,rfl,h1⟩⟩
end
open PyProof.Rows PySem.SeqAt
def Fh (d:D) (s:ae):Res D:=match d with
 | .lst Z=>match iu Z with
  |some bs=>ok (.int (bs.count ό:Nat)) s
  |none=>ϋ
 |_=>ϋ
def GX (d:D) (s:ae):Res D:=match d with
 | .lst Z=>match iu Z with
  |some bs=>if (ώ (bs.idxOf ό<bs.length)&&ώ (bs.length<=100))=ό then ok (.int (bs.idxOf ό:Nat)) s else ϋ
  |none=>ϋ
 |_=>ϋ
theorem N1:∀(bs:List Bool) (m:Nat) (h:m<bs.length),m<bs.idxOf ό->bs[m]=ύ
 | [],m,h,_=>absurd h (Nat.not_lt_zero _)
 |true::r,m,h,g=>by simp at g
 |false::r,0,h,g=>rfl
 |false::r,m+1,h,g=>by
  have e:(ύ::r).idxOf ό=r.idxOf ό+1:=by rw[List.idxOf_cons];rfl
  rw[e] at g;exact N1 r m (by simpa using h) ⋯
def uq:Ç->Bool
 | .bool b=>b
 |_=>ύ
theorem BM:∀{bs:List Bool} {its:List Ç},Vals (bs.map V.bl) its->its=bs.map ś
 | [],_,.nil=>rfl
 |b::r,_,.cons e t=>by
  have e:_=ś b:=e;rw[e,BM t];rfl
theorem LN:∀bs:List Bool,(bs.map ś).countP uq=bs.count ό
 | []=>rfl
 |b::r=>by
  rw[à,List.countP_cons,List.count_cons,LN r]
  cases b<;>rfl
def MU {A:í} {s:Â} {bs:List Bool} (y:Ç) (hy:y∈(bs.map ś).toArray):EqAt A s y (.bool ό) (uq y):=by
 have hy:y∈bs.map ś:=by simpa using hy
 obtain⟨b,_,rfl⟩:=Č.mp hy;have h:=EqAt.bool_bool (A:=A) (s:=s) b ό
 cases b<;>exact h
section
variable {X:Cx} {Ξ:Wd->bg->Prop} {o:ě} {f:aez D} {p apos ba:Pos} {j:Nat}
def VA:ra X "list.count" (λx xs H Q=>∃(a:ß) (bs:List Bool),x=.ref a/\xs=[.bl ό]/\bY X.K H a (bs.map V.bl)/\Q (.int (bs.count ό:Nat)) H):=by
 intro G s σ H x xs v U Q I T S zzz;obtain⟨a,bs,rfl,rfl,R,h⟩:=zzz;have e:v=Ō a:=T;subst e;obtain⟨u,rfl,rfl⟩:∃u,U=[u]/\u=ś ό:=by
  cases S with|cons P O=>cases O;exact⟨_,rfl,P⟩
 obtain⟨its,N,M,_⟩:=I.list R;cases BM N;obtain⟨⟨cls,L,data,sl⟩,n,Z,Y,_,W⟩:=M;simp only at Y W;subst Y W;refine η PySem.F.slot_list_count ⟨_,Z,rfl⟩ PySem.F.entry_list_count (PySem.F.args_list_count_2 _ _) (list_countAt a _ n L sl (.bool ό) uq) ⟨Z,λy J=>MU y J,?_⟩;rw[show (bs.map ś).toArray.toList=bs.map ś from rfl,LN];exact⟨.int _,H,I.tok _,⟨_,rfl⟩,h⟩
def VB:ra X "list.index" (λx xs H Q=>∃(a:ß) (bs:List Bool),x=.ref a/\xs=[.bl ό]/\bY X.K H a (bs.map V.bl)/\bs.idxOf ό<bs.length/\bs.length<=100/\Q (.int (bs.idxOf ό:Nat)) H):=by
 intro B s σ H x xs v T Q I S R zzz;obtain⟨a,bs,rfl,rfl,P,O,A,h⟩:=zzz;have e:v=Ō a:=S;subst e;obtain⟨u,rfl,rfl⟩:∃u,T=[u]/\u=ś ό:=by
  cases R with|cons N M=>cases M;exact⟨_,rfl,N⟩
 obtain⟨its,L,J,_⟩:=I.list P;cases BM L;obtain⟨⟨cls,G,data,sl⟩,n,Z,Y,_,W⟩:=J;simp only at Y W;subst Y W;have sz:(bs.map ś).toArray.size=bs.length:=by simp
 refine η PySem.F.slot_list_index ⟨_,Z,rfl⟩ PySem.F.entry_list_index (PySem.F.args_list_index_2 _ _) (list_indexAt a _ n G sl (.bool ό) uq (bs.idxOf ό) (by rw[sz];exact O) ⋯ ?_ ?_) ⟨Z,λy E=>MU y E,?_⟩
 ·simp[uq,List.getElem_idxOf]
 ·intro m U D
  have C:=N1 bs m (by rw[sz] at U;exact U) D;simp[uq,C]
 ·exact⟨.int _,H,I.tok _,⟨_,rfl⟩,h⟩
def Zf (ho:PE X o (tE X.K Ξ f))
  (hV:İ o "count" X.env (ķ o X.env)=ķ o X.env:=by rfl)
  (lh:((ī ba (Í [.Constant (.bool ό) j p] X.env)).all (λx=>!x.1)&&(ada ba (Ŗ [] X.env)).all (λx=>x.1.isSome)
   && ώ (([.Constant (.bool ό) j p]:List ě).length+([]:List acZ).length+(if ([]:List acZ).isEmpty then 0 else 1)<30))=ό:=by rfl)
  (hW:(apos.endLine==ba.line)=ό:=by rfl) (hs:Í [.Constant (.bool ό) j p] X.env=(ύ,ķ (.Constant (.bool ό) j p) X.env)::Í [] X.env:=by rfl) (iN:(ī ba (Í [] X.env)).any (·.1)=ύ:=by rfl) :
  PE X (.Call (.Attribute o "count" apos) [.Constant (.bool ό) j p] [] ba) (tE X.K Ξ (e1 Fh f)) :=
 cm (wD ſ PySem.F.slot_list_count PySem.F.type_list_count VA ho (kP DT l8 hs) hV lh hW hs iN) fun σ H Q V=>by
  obtain⟨w,env,U,S,T,h⟩:=V;subst U;refine⟨w,env,rfl,S,T,(Out.ai h).mono λO d N R Z v Y=>?_⟩
  cases d with
  |lst M =>
   delta Fh at Z;dsimp only at Z;split at Z
   ·rename_i bs P
    erw[DV] at Y;obtain⟨a,L,rfl,W,r⟩:=Y;cases wk P;cases r.vQ;exact⟨.inl ⟨rfl,_,W.sq⟩,a,bs,rfl,rfl,W.sq,aB R Z _ rfl⟩
   ·exact Z.elim
  |_=>exact Z.elim
def aaS (ho:PE X o (tE X.K Ξ f))
  (hV:İ o "index" X.env (ķ o X.env)=ķ o X.env:=by rfl)
  (lh:((ī ba (Í [.Constant (.bool ό) j p] X.env)).all (λx=>!x.1)&&(ada ba (Ŗ [] X.env)).all (λx=>x.1.isSome)
   && ώ (([.Constant (.bool ό) j p]:List ě).length+([]:List acZ).length+(if ([]:List acZ).isEmpty then 0 else 1)<30))=ό:=by rfl)
  (hW:(apos.endLine==ba.line)=ό:=by rfl) (hs:Í [.Constant (.bool ό) j p] X.env=(ύ,ķ (.Constant (.bool ό) j p) X.env)::Í [] X.env:=by rfl) (iN:(ī ba (Í [] X.env)).any (·.1)=ύ:=by rfl) :
  PE X (.Call (.Attribute o "index" apos) [.Constant (.bool ό) j p] [] ba) (tE X.K Ξ (e1 GX f)) :=
 cm (wD ſ PySem.F.slot_list_index PySem.F.type_list_index VB ho (kP DT l8 hs) hV lh hW hs iN) fun σ H Q U=>by
  obtain⟨w,env,T,S,R,h⟩:=U;subst T;refine⟨w,env,rfl,S,R,(Out.ai h).mono λN d M P Z v W=>?_⟩
  cases d with
  |lst L =>
   delta GX at Z;dsimp only at Z;split at Z
   ·rename_i bs O
    split at Z
    ·rename_i Y
     rw[Å,Ë,Ë] at Y;erw[DV] at W;obtain⟨a,J,rfl,V,r⟩:=W;cases wk O;cases r.vQ;exact⟨.inl ⟨rfl,_,V.sq⟩,a,bs,rfl,rfl,V.sq,Y.1,Y.2,aB P Z _ rfl⟩
    ·exact Z.elim
   ·exact Z.elim
  |_=>exact Z.elim
end
end DI
namespace L2
open PySem PySem.Spec PyProof.Rows PySem.W
def TL {Pr:å} {w:Ą} {K:đ} {mg mb:Str->Option Ç} {CX:jT} {k:Nat} {fa a c P:ß} {fd:Ĩ} {x:Str} {sp:Sp} {bJ:Â} {vs:List Ç} {ns:List Int}
  (KX:K.In bJ.heap) (pA:bJ.heap.Ns Ò mg) (hb:bJ.heap.Ns builtinsNs mb) (hbb:∀x:Str,x≠"__name__"->mb x=ü x) (acu:bJ.heap.NoLimit) (hg:bJ.gens=#[])
  (ha:bJ.heap.get? a=ϊ { cls:=.type "list",data:=.seq vs.toArray }) (hi:aec vs ns) (hl:ns.length<=Õ) (hr:bK k callerA)
  (CT:CodeHd bJ.heap c P) (hP:bJ.heap.get? P=ϊ (tabObj #[])) (GY:K.lookup P=ϋ) (GZ:bJ.heap.BuiltinsAt mg P)
  (F:∀base:ĺ,K.In base->base.Ns Ò mg->base.BuiltinsAt mg P->cV Pr w K mg base CX k fa fd [x] sp) (Eb:∀(s:Â) (u:Ç),BindsTo s fd ⟨[u],[]⟩ [(x,u)])
  (jU:∀H:Hp,H P=ϊ (.ef #[])->bY K H a (ns.map V.int)->sp [.ref a] H (λv _=>v=.bl ό) λ_ _ _=>False)
  (G0:∀H e s',CX [] H bJ (λ_ _ _=>False) e s'->False) :
  ż (é Pr w) callerA (.call (.ref fa) ⟨[.ref a],[]⟩) (λr s'=>r=.ok (.ret (.bool ό))/\OldK bJ.heap s'.heap/\s'.os=bJ.os/\aeu s'.gens) bJ:=by
 have O:=J1 hi;have U:=hi.length;have N:a≠P:=λz=>by rw[z,hP] at ha;cases ha
 have core:∀H:Hp,H P=ϊ (.ef #[])->(∀b,H b=ϋ\/b=P\/(b=a/\∃o T,H b=ϊ (.bo o (.lst T))))->bY K H a (ns.map V.int)->cM Pr w H bJ.heap->(H a≠ϋ->K.lookup a=ϋ) ->
   ż (é Pr w) callerA (.call (.ref fa) ⟨[.ref a],[]⟩) (λr s'=>r=.ok (.ret (.bool ό))/\OldK bJ.heap s'.heap/\s'.os=bJ.os/\aeu s'.gens) bJ:=by
  intro H M S C L B;have free:∀{b:ß} {o:Obj},bJ.heap.get? b=ϊ o->o≠tabObj #[]->o≠{ cls:=.type "list",data:=.seq vs.toArray }->H b=ϋ:=λ{b o} e A y=>by
   rcases S b with z|z | ⟨z,_⟩
   ·exact z
   ·rw[z,hP] at e;exact absurd (aeE e).symm A
   ·rw[z,ha] at e;exact absurd (aeE e).symm y
  have X:∀{b:ß} {m:Str->Option Ç},bJ.heap.Ns b m->(nK bJ.heap H).Ns b m:=λ{b m} ⟨o,t,p,e,d,r⟩=>⟨o,t,p,BS e (free e (λz=>by rw[z] at d;cases d) λz=>by rw[z] at d;cases d),d,r⟩;have J:K.In (nK bJ.heap H):=λb o e=>BS (KX b o e) (by
   rcases S b with z|z | ⟨z,I,T,W⟩
   ·exact z
   ·rw[z,GY] at e;cases e
   ·subst z;rw[B (by rw[W];intro z;cases z)] at e;cases e)
  have l:Mod K mg (nK bJ.heap H):=⟨J,X pA,⟨mb,X hb,hbb⟩,let ⟨j,i,g⟩:=acu;⟨j,X i,g⟩⟩
  have f:(nK bJ.heap H).BuiltinsAt mg P:=let ⟨bm,o,b1,b2,b3,b4,G,R,r⟩:=GZ;⟨bm,o,b1,b2,b3,b4,BS G (free G (λz=>by rw[z] at R;cases R) λz=>by rw[z] at r;cases r.2),R,r⟩
  have e0:nL Pr w K mg (nK bJ.heap H) callerA [] bJ H:=⟨rfl,l,λb o e=>Wm e,ael (SR _ _),trivial,λb hb=>absurd (show b∈([]:List ß) from hb) ∅,L,.of_eq hg⟩;refine Ŋ ((F _ J (X pA) f).run callerA [] bJ H ⟨[.ref a],[]⟩ [.ref a] [.ref a] _ _ hr e0 (Eb bJ (.ref a)) (.cons rfl .nil) (jU H M C)) λr s' h=>?_
  cases r with
  |error e=>exact(G0 H e s' h).elim
  |ok fl =>
   cases fl with
   |next=>exact č h
   |brk=>exact č h
   |cont=>exact č h
   |ret u =>
    obtain⟨v,H',os,bare,un,E,r',q⟩:=h;have q':v=.bl ό:=q;subst q';obtain rfl:u=ś ό:=r';have keep:∀b o,bJ.heap.get? b=ϊ o->b≠P->s'.heap.get? b=ϊ o:=λb o e n=>by
     rcases S b with z|z | ⟨z,I,T,W⟩
     ·exact un.keep b o e z (by intro z;exact absurd (show b∈([]:List ß) from z) ∅) ∅
     ·exact absurd z n
     ·obtain⟨e1,_⟩:=L b _ W
      obtain⟨e2,_⟩:=E b _ (un.fx b I _ W);rw[e] at e1;cases e1;exact e2
    obtain⟨more,hm⟩:=un.gj P _ M;have D:s'.heap.get? P=ϊ (tabObj (#[]++more)):=E P _ hm;refine⟨rfl,⟨λb o e=>?_,λb o e=>?_⟩,os,bare⟩
    ·by_cases hb:b=P
     ·subst hb
      rw[hP] at e;cases e;exact .inr (.inl ⟨(CT.tab hP).isCodeTable,rfl,#[],more,rfl,D⟩)
     ·exact .inl (keep b o e hb)
    ·by_cases hb:b=P
     ·subst hb;exact⟨_,D⟩
     ·exact⟨o,keep b o e hb⟩
 cases Q:K.lookup a with
 |some o =>
  have e:=KX a o Q;rw[ha] at e;cases e
  refine core (λb=>if b=P then ϊ (.ef #[]) else ϋ) (Ñ rfl) (λb=>?_) (.inr ⟨_,vs.toArray,_,Q,rfl,rfl,rfl,by rw[Ü,U];exact hl,by simpa using O⟩) (λb u z=>?_) (λz=>absurd (Ú N) z)
  ·by_cases hb:b=P
   ·exact .inr (.inl hb)
   ·exact .inl (Ú hb)
  ·by_cases hb:b=P
   ·have Z:=(Ñ hb).symm.trans z
    cases Z;subst hb;exact hP
   ·have Z:=(Ú hb).symm.trans z
    cases Z
 |none =>
  refine core (λb=>if b=P then ϊ (.ef #[]) else if b=a then ϊ (.bo { cls:=.type "list",data:=.seq vs.toArray } (.lst (ns.map V.int))) else ϋ) (Ñ rfl) (λb=>?_) (.inl (.inr ⟨{ cls:=.type "list",data:=.seq vs.toArray },(Ú N).trans (Ñ rfl)⟩)) (λb u z=>?_) (λ_=>Q)
  ·by_cases hb:b=P
   ·exact .inr (.inl hb)
   ·by_cases Y:b=a
    ·exact .inr (.inr ⟨Y,_,_,(Ú hb).trans (Ñ Y)⟩)
    ·exact .inl ((Ú hb).trans (Ú Y))
  ·by_cases hb:b=P
   ·have Z:=(Ñ hb).symm.trans z
    cases Z;subst hb;exact hP
   ·by_cases Y:b=a
    ·have Z:=((Ú hb).trans (Ñ Y)).symm.trans z
     cases Z;subst Y;exact⟨ha,by rw[É];exact hl,vs,_,O,ha⟩
    ·have Z:=((Ú hb).trans (Ú Y)).symm.trans z
     cases Z
def Zg {l:OpenLaw} {n k:Nat} {q:å} {loose:List Str} {XP:(Str->Option Ç)->ĺ->Prop} {YP:Ą->ĺ->Prop} {d:DefRec} {K:Params->đ} {CX:Ą->jT} {sp:Ą->ß->Sp} {x:Str}
  (hn:l.most=ϊ n) (uG:n<=Õ) (xX:d.params.defaults=[]) (hr:bK k callerA)
  (hY:∀(w:Ą) (h:ĺ),YP w h->(K w.params).In h) (hd:(recsOf q).find? (λe=>e.name==d.name)=ϊ d)
  (F:∀(w:Ą) (mg:Str->Option Ç) (fa:ß) (h:ĺ),(K w.params).In h->h.Ns Ò mg->mg d.name=ϊ (.ref fa) ->
   ∃(c P:ß) (fd:Ĩ),tabIn (K w.params) d.name=ϊ (c,P)/\(K w.params).lookup P=ϋ/\(∀(s:Â) (u:Ç),BindsTo s fd ⟨[u],[]⟩ [(x,u)]) /\
    ∀base:ĺ,(K w.params).In base->base.Ns Ò mg->base.BuiltinsAt mg P->cV l.prog w (K w.params) mg base (CX w) k fa fd [x] (sp w P))
  (jU:∀(w:Ą) (P:ß) (H:Hp) (a:ß) (ns:List Int),ns.length<=n->H P=ϊ (.ef #[])->bY (K w.params) H a (ns.map V.int)->sp w P [.ref a] H (λv _=>v=.bl ό) λ_ _ _=>False)
  (G0:∀(w:Ą) (H:Hp) (s:Â) (e:Ç) (s':Â),CX w [] H s (λ_ _ _=>False) e s'->False) :
  WalkO q loose XP YP l.row.toRowW d [] (λf vs=>PySem.call f vs):=by
 refine Ph.Rm hn xX λw m S mg j fa o pm cd doc a vs ns G Y i kI eh O N hints Z M=>?_;have W:=hY w _ Y;obtain⟨c,P,fd,L,J,I,E⟩:=F w mg fa _ W G.T.g O;obtain⟨D,R⟩:=tab_of G.T W hd L;have C:S.heap.BuiltinsAt mg P:=by
  obtain⟨bm,B,A,y,X,Q,t,U⟩:=G.T.bmain;refine⟨bm,B,A,y,λz=>?_,λz=>?_,X,Q,t,U⟩
  ·obtain⟨o,es,ep,e,hd,_⟩:=G.T.g
   rw[z,e] at X;cases X;rw[hd] at U;cases U
  ·rw[z,R] at X;cases X;cases Q
 exact TL W G.T.g G.T.b G.T.builtins G.T.nolimit M N hints (Ý Z uG) hr D R J C E I (λH r p=>jU w P H a ns Z r p) λH e s'=>G0 w H S e s'
end L2
namespace DI
open PySem L2 PySem.W
def aaT {P:å} {w:Ą} {K:đ} {mg:Str->Option Ç} {base:ĺ} {x:Str} {st:ad2} {f c T:ß} {fd:Ĩ} {ps:List Str} {k:Nat} {b:aez Fl} (G:Gd K mg x st ps f fd) (hx:nsIn K Ò x=ϊ (ϊ (.ref f))) (ht:tabIn K x=ϊ (c,T)) (N:List Str) (S:oX N ps (cz st)=ό)
  (hb:N.Nodup->∀(A:í) (outer:List PySem.Env) (s:Â) (H:Hp) (E:XK),bK k (A.deeper (ŀ x (cz st) s.heap.objs.size f (.ref c)))->dg (ia eD P w K mg base N x (cz st) f (.ref c) A outer s H E).nS (gr st) (tS K cF b)) :
  cV P w K mg base eD (k+1) f fd ps (lS K (aD ps.length N.length b)):=by
 obtain⟨D,C,kV,doc,pm,an,X,ct,B,rfl,lk,U⟩:=G.fn.ex;have R:X=.ref c:=by
  delta tabIn at ht;rw[hx] at ht;dsimp only at ht;rw[lk] at ht;dsimp only at ht
  cases X with
  |ref z =>
   dsimp only at ht;split at ht
   ·split at ht
    ·cases ht;rfl
    ·cases ht
   ·cases ht
  |_=>cases ht
 subst R;refine zU lk U (j7 S) (λO H Q E h=>?_) λA outer s H O Q E M h=>?_
 ·obtain⟨w,L,rfl,S,Y,h⟩:=h
  rw[<- Y.length];delta aD at h;split at h
  ·assumption
  ·exact h.elim
 ·obtain⟨W,L,rfl,J,Y,h⟩:=h
  refine⟨_,(hb (j7 S).nd A outer s W.H E M).nS,?_⟩;delta aD at h;split at h
  ·rename_i I
   rw[<- I] at h;refine⟨W,_,rfl,J,Y.env N.length,(Out.ai h).mono λy F v V Z=>?_⟩
   cases F with
   |nx env=>intro u _;exact aB V Z _ rfl
   |rt d=>have q:=aB V Z;exact q
   |bk env=>exact Z.elim
   |ct env=>exact Z.elim
  ·exact h.elim
def zE (K:đ) (T:ß):Sp:=λY H Q _=>∃(a:ß) (Z:List Int),Y=[.ref a]/\bY K H a (Z.map V.int)/\Z.length<=63/\H T=ϊ (.ef #[])/\∀X,Q (.bl ό) X
def Xf {P:å} {w:Ą} {K:đ} {mg:Str->Option Ç} {base:ĺ} {k:Nat} {f c T:ß} {fd:Ĩ} {x y:Str} {g:List D->ae->Res D} (F:cV P w K mg base eD k f fd [x] (lS K g)) (ht:tabIn K y=ϊ (c,T))
  (h:∀ns:List Int,ns.length<=63->∃s,g [.bO ns] [.tb y]=ϊ (.ok (.bl ό),s)):cV P w K mg base eD k f fd [x] (zE K T):=F.imp λR H Q E ⟨a,ns,e,hS,X,Y,q⟩=>by
 subst e;obtain⟨s,W⟩:=h ns X;have V:∀b,(⟨[T],[.tb y],H⟩:Wd).Z b->b=T:=λb ⟨k,c,e1,_,_⟩=>by
  cases k with
  |zero=>exact(aeE e1).symm
  |succ k=>cases e1
 have S:aT K ⟨[T],[.tb y],H⟩:=by
  refine⟨rfl,by simp,λk a e=>?_,λk a O e1 e2=>?_⟩
  ·cases k with
   |zero=>cases e;show H T≠ϋ;rw[Y];intro z;cases z
   |succ k=>cases e
  ·cases k with
   |zero=>cases e1;cases e2;exact⟨c,#[],ht,Y,trivial,λpos N z=>by cases z⟩
   |succ k=>cases e1
 refine⟨⟨[T],[.tb y],H⟩,[.bO ns],rfl,S,ar.one ⟨a,rfl,?_⟩,?_⟩
 ·rcases hS with hS|hS
  ·refine .inl ⟨λz=>?_,hS⟩
   rw[V a z] at hS
   rcases hS with hS | ⟨_,hS⟩<;>(rw[Y] at hS;cases hS)
  ·exact .inr hS
 ·show Out K cF _ (g [.bO ns] [.tb y]) _
  rw[W];intro M _ _ _ v U;have e:v=.bl ό:=U;subst e;exact q _
def Q2:ü "ValueError"=ϊ (.type "ValueError"):=nofun
def isNm (n c:Str):Bool:=ώ (c=n)
def anyS (_:Str):Bool:=ό
abbrev lT (P:å) (w:Ą) (K:đ) (mg:Str->Option Ç) (base:ĺ) (x:Str) (st:ad2) (ps:List Str) (k:Nat) (fn:List D->ae->Res D):Prop:=∀{f:ß} {fd:Ĩ},Gd K mg x st ps f fd->cV P w K mg base (fB P w) k f fd ps (pL mg K fn)
def fQ (K:đ) (mg:Str->Option Ç) (cs:List Str) (n:Str):Prop:=∃C,mg n=ϊ (.ref C)/\sG K cs (.ref C) (isNm n)
def PX (K:đ) (mg:Str->Option Ç) (cs:List Str) (n:Str):Prop:=∃Z,mg n=ϊ (.ref Z)/\∀c∈cs,∃C,nsIn K Ò c=ϊ (ϊ (.ref C))/\mg c=ϊ (.ref C)/\exmOne K (.ref C) (.ref Z)=ϊ ό
section
variable {X:Cx} {E:XK} {Ξ:Wd->bg->Prop} {e a b c:ě} {es rest:List ě} {pos:Pos} {f g h:aez D} {fa:aez (List D)}
def jJ {k n:Nat} {x:Str} {st:ad2} {ps:List Str} {fn:List D->ae->Res D} {p:Pos} (G:GG X.K X.mg x st ps) (F:lT X.prog X.w X.K X.mg X.base x st ps k fn) (L:Passes (fB X.prog X.w) X E) (hr:bK n X.A) (ha:PA X (e::es) (tA X.K (fC X.mg E) fa)) (hk:k<=n:=by decide) (hg:Gl X x:=by rfl) (dQ:(x==("__debug__":Str))=ύ:=by decide)
  (he:Í (e::es) X.env=(ύ,ķ e X.env)::Í es X.env:=by rfl) (bN:(ī pos (Í es X.env)).any (·.1)=ύ:=by rfl):PE X (.Call (.Name x p) (e::es) [] pos) (tE X.K (fC X.mg E) (dJ fn fa)):=by
 obtain⟨f,fd,G⟩:=G;exact Xe L (F G) (hr.mono hk) hg G.mg G.fn.kp G.b ha dQ he bN
def gw {cs:List Str} {cn:Str} {p np:Pos} (hc:fQ X.K X.mg cs cn) (ha:PE X a (tE X.K Ξ f)) (hm:X.mg "isinstance"=ϋ) (hg:Gl X "isinstance":=by rfl) (G3:Gl X cn:=by rfl) (hd:(cn==("__debug__":Str))=ύ:=by decide)
  (hs:Í [a,.Name cn np] X.env=(ύ,ķ a X.env)::Í [.Name cn np] X.env:=by rfl) (gX:Í [.Name cn np] X.env=(ύ,ķ (.Name cn np) X.env)::Í [] X.env:=by rfl) (bN:(ī pos (Í [.Name cn np] X.env)).any (·.1)=ύ:=by rfl) :
  PE X (.Call (.Name "isinstance" p) [a,.Name cn np] [] pos) (tE X.K Ξ (e1 (ee cs (isNm cn)) f)):=by
 obtain⟨C,Z,h⟩:=hc;exact MT (vT:=.ref C) h (λu r=>r) (Cp G3 Z rfl hd) ha hm mY hg hs gX bN
def Zh {cs:List Str} {p np:Pos} (hc:sG X.K cs (.type "ValueError") anyS) (ha:PE X a (tE X.K Ξ f)) (hm:X.mg "isinstance"=ϋ) (hmV:X.mg "ValueError"=ϋ) (hg:Gl X "isinstance":=by rfl) (G3:Gl X "ValueError":=by rfl)
  (hs:Í [a,.Name "ValueError" np] X.env=(ύ,ķ a X.env)::Í [.Name "ValueError" np] X.env:=by rfl) (gX:Í [.Name "ValueError" np] X.env=(ύ,ķ (.Name "ValueError" np) X.env)::Í [] X.env:=by rfl) (bN:(ī pos (Í [.Name "ValueError" np] X.env)).any (·.1)=ύ:=by rfl) :
  PE X (.Call (.Name "isinstance" p) [a,.Name "ValueError" np] [] pos) (tE X.K Ξ (e1 (ee cs anyS) f)) :=
 MT (vT:=.ty "ValueError") hc (λu r=>r) (Lm G3 hmV Q2 rfl) ha hm mY hg hs gX bN
end
def mi (K:đ) (cs asked:List Str) (jD:Str):Bool :=
 cs.all (λc=>match nsIn K Ò c with
  |some (ϊ (.ref C))=>excIn K C [.type "ValueError",.type "Exception",.type "BaseException",.type "object"] "ValueError.__new__"&&oF K C&&(kitOne K (.ref C) (.type "ValueError")==ϊ ό) &&
   (match nsIn K Ò jD with|some (ϊ (.ref Z))=>exmOne K (.ref C) (.ref Z)==ϊ ό | _=>ύ) &&
   asked.all (λn=>match nsIn K Ò n with|some (ϊ (.ref A))=>kitOne K (.ref C) (.ref A)==ϊ (isNm n c) | _=>ύ)
  |_=>ύ) &&
 asked.all (λn=>match nsIn K Ò n with|some (ϊ (.ref A))=>kitOne K (.type "NoneType") (.ref A)==ϊ ύ | _=>ύ)&&(kitOne K (.type "NoneType") (.type "ValueError")==ϊ ύ) &&
 (match nsIn K Ò jD with|some (ϊ (.ref _))=>ό | _=>ύ)
def Dx (K:đ) (x:Str):Bool:=match tabIn K x with
 |some (c,P)=>codeHdIn K c P&&(K.lookup P).isNone
 |none=>ύ
def Xg {K:đ} {x:Str} (h:Dx K x=ό):∃c P,tabIn K x=ϊ (c,P)/\codeHdIn K c P=ό/\K.lookup P=ϋ:=by
 delta Dx at h;split at h
 ·rename_i c P e
  rw[Å] at h;exact⟨c,P,e,h.1,ac8.mp h.2⟩
 ·cases h
def wu {K:đ} {x:Str} {p:ß->Bool} (h:(match nsIn K Ò x with|some (ϊ (.ref C))=>p C | _=>ύ)=ό):∃C,nsIn K Ò x=ϊ (ϊ (.ref C))/\p C=ό:=by
 split at h
 ·rename_i C e
  exact⟨C,e,h⟩
 ·cases h
section
variable {K:đ} {cs asked:List Str} {jD:Str} {h:ĺ} {mg:Str->Option Ç}
def x_at (f:mi K cs asked jD=ό) {c:Str} (hc:c∈cs):∃C,nsIn K Ò c=ϊ (ϊ (.ref C))/\excIn K C [.type "ValueError",.type "Exception",.type "BaseException",.type "object"] "ValueError.__new__"=ό/\oF K C=ό/\kitOne K (.ref C) (.type "ValueError")=ϊ ό /\
  (∃CM,nsIn K Ò jD=ϊ (ϊ (.ref CM))/\exmOne K (.ref C) (.ref CM)=ϊ ό)/\∀n∈asked,∃A,nsIn K Ò n=ϊ (ϊ (.ref A))/\kitOne K (.ref C) (.ref A)=ϊ (isNm n c):=by
 delta mi at f;erw[Å] at f;obtain⟨C,e,q⟩:=wu (ô.mp f.1.1.1 c hc);erw[Å,beq_iff_eq] at q;obtain⟨⟨⟨⟨X,W⟩,V⟩,Z⟩,Y⟩:=q;obtain⟨CM,U,Z⟩:=wu Z;refine⟨C,e,X,W,V,⟨CM,U,beq_iff_eq.mp Z⟩,λn T=>?_⟩;obtain⟨A,S,Y⟩:=wu (ô.mp Y n T);exact⟨A,S,beq_iff_eq.mp Y⟩
def oY (X:K.In h) (G:h.Ns Ò mg) (f:mi K cs asked jD=ό) {c:Str} (hc:c∈cs):mB K mg c:=by
 obtain⟨C,e,q,_⟩:=x_at f hc;exact⟨C,e,mg_of X G e,q⟩
def acw (X:K.In h) (G:h.Ns Ò mg) (f:mi K cs asked jD=ό):PX K mg cs jD:=by
 have Z:=f;delta mi at Z;erw[Å] at Z;obtain⟨Y,e,_⟩:=wu Z.2;refine⟨Y,mg_of X G e,λc W=>?_⟩;obtain⟨C,e1,_,_,_,⟨V,e2,q⟩,_⟩:=x_at f W;rw[e] at e2;cases e2;exact⟨C,e1,mg_of X G e1,q⟩
def gF (X:K.In h) (G:h.Ns Ò mg) (f:mi K cs asked jD=ό) {n:Str} (hn:n∈asked):fQ K mg cs n:=by
 have Z:=f;delta mi at Z;erw[Å] at Z;obtain⟨A,e,q⟩:=wu (ô.mp Z.1.1.2 n hn);refine⟨A,mg_of X G e,beq_iff_eq.mp q,λc Y=>?_⟩;obtain⟨C,e1,_,W,_,_,V⟩:=x_at f Y;obtain⟨T,e2,U⟩:=V n hn;rw[e] at e2;cases e2;exact⟨C,e1,W,U⟩
def aaU (f:mi K cs asked jD=ό):sG K cs (.type "ValueError") anyS:=by
 have Z:=f;delta mi at Z;erw[Å,beq_iff_eq] at Z;refine⟨Z.1.2,λc Y=>?_⟩;obtain⟨C,e1,_,X,W,_⟩:=x_at f Y;exact⟨C,e1,X,W⟩
end
end DI
namespace L2
open PySem PySem.Spec PyProof.Rows PySem.W
structure hZ (k:Nat) (A:í):Prop where
 dp:A.depth+3*k+5<recursionLimit
 un:A.units+16*k+200<cLine
def bK.h {k:Nat} {A:í} (r:bK k A):hZ k A:=⟨r.dp,r.un⟩
def hZ.mono {j k:Nat} {A:í} (r:hZ k A) (h:j<=k):hZ j A:=⟨by have:=r.dp;omega,by have:=r.un;omega⟩
theorem hZ.deeper {k:Nat} {A:í} (r:hZ (k+1) A) (env:Env):hZ k (A.deeper env) :=
 ⟨by have:=r.dp;show A.depth+1+3*k+5 < _;omega,by have:=r.un;show A.units+3+16*k+200 < _;omega⟩
theorem hZ.depth {k:Nat} {A:í} (r:hZ k A):A.depth<recursionLimit:=by have:=r.dp;omega
def hZ.held {k:Nat} {A:í} (r:hZ k A) (v:Option Ç):hZ k (A.mark v):=⟨r.dp,r.un⟩
structure z0 (P:å) (w:Ą) (K:đ) (mg:Str->Option Ç) (base:ĺ) (k:Nat) (f:ß) (fd:Ĩ) (ps:List Str) (sp:Sp):Prop where
 len:∀vs H Q E,sp vs H Q E->vs.length=ps.length
 run:∀(A:í) (outer:List Env) (s:Â) (H:Hp) (args:Args) (us:List Ç) (vs:List V) (Q:VK) (E:XK),hZ k A->nL P w K mg base A outer s H->BindsTo s fd args (ps.zip us)->Vals vs us->sp vs H Q E ->
  ż (é P w) A (.call (.ref f) args) (CR eD outer P w H s Q E) s
abbrev _root_.PySem.Around.z3 (A:í):í:={ A with handled:=ϋ }
abbrev Cx.loud (X:Cx) (A:í):Cx:={ X with A:=A,calm:=ύ,xe:=λ_ _=>False }
theorem Inv.loud {X:Cx} {π:List (ß×Obj)} {σ:St} {H:Hp} {s:Â} (I:Inv X π σ H s) (A:í) (h:A.frames=X.A.frames):Inv (X.loud A) π σ H s:=by
 obtain⟨⟨a1,a2,Z,Y,W,V,U,T,v,S,R,Q,P,O,N,M,L,K⟩,J,G,F,E,D,C,B,y,x,w⟩:=I;exact⟨⟨a1,a2,Z,Y,W,V,U,T,λz=>absurd z Ä,h.trans S,R,Q,P,O,N,M,L,K⟩,J,G,F,E,D,C,B,y,x,w⟩
def Zi {P:å} {w:Ą} {K:đ} {mg:Str->Option Ç} {base:ĺ} {k:Nat} {f:ß} {name qual:Str} {params:aer} {body:List ad2} {scope:acR} {dV kV doc pm aY ct oc:Ç} {an od:Option ß}
  {js:Array (Option Ç)} {N ps:List Str} {sp:Sp} (lk:K.lookup f=ϊ ⟨oc,od,.func (Ś name qual params body scope dV kV doc pm an aY ct),js⟩) (eh:ac3 K aY qual=ό) (S:sC N ps scope)
  (len:∀vs H Q E,sp vs H Q E->vs.length=ps.length)
  (k9:∀(A:í) (outer:List Env) (s:Â) (H:Hp) (vs:List V) (Q:VK) (E:XK),hZ k (A.deeper (aey qual scope s.heap.objs.size f aY))->sp vs H Q E ->
   ∃t,dg ((ia eD P w K mg base N qual scope f aY A.z3 outer s H E).loud (A.deeper (aey qual scope s.heap.objs.size f aY))) body t/\t { nx:=λ_ H'=>Q .au H',rt:=Q } (start N vs) H) :
  z0 P w K mg base (k+1) f (Ś name qual params body scope dV kV doc pm an aY ct) ps sp:=by
 refine⟨len,λA outer s H args n vs Q E R Z L r O=>?_⟩;have G:=len _ _ _ _ O;have M:K.In s.heap:=Z.mod.kC.keeps λb o e=>(Z.bs b o e).1;have lim:s.heap.NoLimit:=Z.mod.nolimit.keeps λb o e=>(Z.bs b o e).1;refine codeAny_call_function R.depth (M _ _ lk) rfl S.co S.gen rfl (PySem.W.codeRec_of M eh) (L _ _ _ _ ?_);refine wpAny_newFunctionEnv_cells S.kind (λy F=>?_) λenv D C x=>?_
 ·rcases S.par y.1 (aeb F).1 with q|q
  ·exact .inl q
  ·exact .inr ⟨q,μ _ _ _ (.inl q)⟩
 subst D;refine⟨lim.keeps x.toInCall.keep,codeAny_func ?_⟩;obtain⟨t,B,z⟩:=k9 A outer s H vs Q E (R.deeper _) O;have I:=(J0 (CX:=eD) (P:=P) (w:=w) (A:=A.z3) (E:=E) S rfl ⟨Z.frames,Z.mod,Z.bs,Z.iW,Z.iS,Z.lJ,Z.aI,Z.bare⟩ G r x).loud (A.deeper (aey qual scope s.heap.objs.size f aY)) rfl;refine ė (B [] C (start N vs) H _ I z) (λp U Y=>?_) λe U Y=>Y.elim;have fin:∀{X:St} {H':Hp} {v:V} {u:Ç},Inv ((ia eD P w K mg base N qual scope f aY A.z3 outer s H E).loud (A.deeper (aey qual scope s.heap.objs.size f aY))) [] X H' U->RelV v u->Q v H'->CE outer P w H s Q u U :=
  λ{X H' v u} J T q=>⟨v,H',J.os,J.bare,J.base,J.aI,T,q⟩
 cases p with
 |ret u=>obtain⟨v,X,H',J,T,q⟩:=Y;exact fin J T q
 |next=>obtain⟨X,H',J,q⟩:=Y;exact fin (v:=V.au) (u:=Value.none) J rfl q
 |brk=>obtain⟨_,_,_,q⟩:=Y;exact q.elim
 |cont=>obtain⟨_,_,_,q⟩:=Y;exact q.elim
section
variable {X:Cx} {k:Nat} {f:ß} {fd:Ĩ} {ps:List Str} {sp:Sp} {E:XK} {x:Str} {p pos:Pos} {e:ě} {es:List ě} {t:TA}
def VD (F:z0 X.prog X.w X.K X.mg X.base k f fd ps sp) (hr:hZ k X.A) (hg:Gl X x) (hm:X.mg x=ϊ (.ref f)) (hk:ő X.K (.ref f)=ό) (hb:Binds X.K fd ps [])
  (ha:PA X (e::es) t) (dQ:(x==("__debug__":Str))=ύ:=by decide) (he:Í (e::es) X.env=(ύ,ķ e X.env)::Í es X.env:=by rfl) (bN:(ī pos (Í es X.env)).any (·.1)=ύ:=by rfl) :
  PE X (.Call (.Name x p) (e::es) [] pos) (Ny sp [] E0 t):=by
 intro S s σ H Q I h;refine ũ (qb I hg hm ?_ dQ);refine ady (h₀:=X.base) I.ok.mod.kC hk (aO (ha pos S s σ H _ I h) λZ V ⟨U,R,W,r,q⟩=>⟨W.fy,?_⟩) he bN;have T:Vals (U++[]) (Z++[]):=r.append .nil;have P:(Z++[]).length=ps.length:=by rw[<- T.length];exact F.len _ _ _ _ q
 refine adn (Ŋ (F.run X.A X.stack V R ⟨Z,[]⟩ (Z++[]) (U++[]) Q E0 hr W.kq (hb V Z W.fy P) T q) λr N Y=>?_)
 cases r with
 |error e=>exact č Y
 |ok O =>
  cases O with
  |ret u=>exact W.after Y
  |next=>exact č Y
  |brk=>exact č Y
  |cont=>exact č Y
end
end L2
namespace DI
open PySem L2 PySem.W
abbrev PY (P:å) (w:Ą) (K:đ) (mg:Str->Option Ç) (base:ĺ) (x:Str) (st:ad2) (ps:List Str) (k:Nat) (fn:List D->ae->Res D):Prop:=∀{f:ß} {fd:Ĩ},Gd K mg x st ps f fd->z0 P w K mg base k f fd ps (lS K fn)
def aaV {P:å} {w:Ą} {K:đ} {mg:Str->Option Ç} {base:ĺ} {x:Str} {st:ad2} {f:ß} {fd:Ĩ} {ps:List Str} {k:Nat} {b:aez Fl} (G:Gd K mg x st ps f fd) (N:List Str) (S:oX N ps (cz st)=ό)
  (hb:N.Nodup->∀(aY:Ç) (A:í) (outer:List PySem.Env) (s:Â) (H:Hp) (E:XK),hZ k (A.deeper (ŀ x (cz st) s.heap.objs.size f aY))->dg ((ia eD P w K mg base N x (cz st) f aY A.z3 outer s H E).loud (A.deeper (ŀ x (cz st) s.heap.objs.size f aY))) (gr st) (tS K cF b)) :
  z0 P w K mg base (k+1) f fd ps (lS K (aD ps.length N.length b)):=by
 obtain⟨L,J,kV,doc,pm,an,aY,ct,I,rfl,lk,W⟩:=G.fn.ex;refine Zi lk W (j7 S) (λV H Q E h=>?_) λA outer s H V Q E U h=>?_
 ·obtain⟨w,T,rfl,S,Y,h⟩:=h
  rw[<- Y.length];delta aD at h;split at h
  ·assumption
  ·exact h.elim
 ·obtain⟨w,T,rfl,R,Y,h⟩:=h
  refine⟨_,hb (j7 S).nd aY A outer s w.H E U,?_⟩;delta aD at h;split at h
  ·rename_i O
   rw[<- O] at h;refine⟨w,_,rfl,R,Y.env N.length,(Out.ai h).mono λF M D X Z=>?_⟩
   cases M with
   |nx env=>intro C _;exact aB X Z _ rfl
   |rt d=>have q:=aB X Z;exact q
   |bk env=>exact Z.elim
   |ct env=>exact Z.elim
  ·exact h.elim
def oG (cs:List Str) (told:Str) (f:aez D) (j:Nat) (b:aez Fl):aez Fl:=λenv s=>match f env s with
 |none=>ϋ
 |some (.ok d,s)=>ok (.rt (.tup [.str told,d])) s
 |some (.error x,s)=>if ώ (x.c∈cs)=ό then ai (b (env.set j (ϊ (.exc x.c x.many))) s) λZ s=>match Z with
   | .nx env=>ok (.nx (env.set j ϋ)) s
   | .rt d=>ok (.rt d) s
   |_=>ϋ else ϋ
section
variable {X:Cx} {E:XK} {Ξ:Wd->bg->Prop} {e a b c:ě} {es rest:List ě} {pos:Pos} {f g h:aez D} {fa:aez (List D)}
def aaW {k n:Nat} {x:Str} {st:ad2} {ps:List Str} {fn:List D->ae->Res D} {p:Pos} (G:GG X.K X.mg x st ps) (F:PY X.prog X.w X.K X.mg X.base x st ps k fn) (hr:hZ n X.A) (ha:PA X (e::es) (tA X.K Ξ fa)) (hk:k<=n:=by decide) (hg:Gl X x:=by rfl) (dQ:(x==("__debug__":Str))=ύ:=by decide)
  (he:Í (e::es) X.env=(ύ,ķ e X.env)::Í es X.env:=by rfl) (bN:(ī pos (Í es X.env)).any (·.1)=ύ:=by rfl):PE X (.Call (.Name x p) (e::es) [] pos) (tE X.K Ξ (aG fn fa)):=by
 obtain⟨f,fd,G⟩:=G;refine cm (VD (F G) (hr.mono hk) hg G.mg G.fn.kp G.b ha dQ he bN) fun σ H Q Y=>?_;obtain⟨w,env,W,S,V,h⟩:=Y;subst W;refine⟨w,env,rfl,S,V,(Out.ai h).mono λZ U N T R P O=>?_⟩;show lS X.K fn (P++[]) Z.H Q E0;rw[ĥ];exact⟨Z,U,rfl,T,O,R.ne⟩
def G4:aez D:=λ_ _=>ϋ
def OU:PE X e (tE X.K Ξ G4):=λ_ _ _ _ _ _ ⟨_,_,_,_,_,h⟩=>h.elim
def Ec (x y:D) (s:ae):Res D:=match x,y with
 | .int i,.int j=>ok (.bl (!(i==j))) s
 |_,_=>ϋ
def aaX:bM X (ĕ .NotEq) (rO X.K Ξ Ec):=by
 intro Z s σ H x y v u Q I Y W zzz;obtain⟨w,R,P,rfl,S,U,T,h⟩:=zzz;delta Ec at h;split at h
 ·rename_i i j
  cases U;cases T;refine Nx Z s σ w.H _ _ v u Q I Y W ⟨rfl,?_⟩;have:(!ώ (V.int i=V.int j))=!(i==j):=by
   congr 1;rw[ĭ];simp
  rw[this];exact aB S h _ rfl
 ·exact h.elim
def Zj {k i j:Nat} {x cn n told:Str} {p ba xl acx np Az c0:Pos} {k0 k1} {pre:Hp->Prop} {f:ß} {vs:List V} {ds:List D} {th:ae->Res D} {xA:ad2} {wW:List ad2} {b:aez Fl} {cs:List Str} (T:A4 X.prog X.w X.K X.mg X.base k pre f vs ds th) (h0:pre X.mr) (hr:bK k X.A)
  (hc:∃CM,X.mg cn=ϊ (.ref CM)/\∀c∈cs,∃C,nsIn X.K Ò c=ϊ (ϊ (.ref C))/\X.mg c=ϊ (.ref C)/\exmOne X.K (.ref C) (.ref CM)=ϊ ό)
  (hs:∀a,dg (X.held a) (xA::wW) (tS X.K cF b)) (F1:X.N.Nodup)
  (L:X.stack=X.env::X.outer:=by rfl) (hf:X.env.frame=ϊ X.env.locals:=by rfl) (hj:X.N[j]?=ϊ n:=by rfl) (pN:X.env.scope.names.lookup n=ϊ .local:=by rfl) (hg:Gl X cn:=by rfl) (hdc:(cn==("__debug__":Str))=ύ:=by decide)
  (hN:X.N[i]?=ϊ x:=by rfl) (hv:qU X.env.scope x:=by first|exact ο rfl|exact Or.inr (ο rfl)|exact Or.inr (Or.inr rfl)) (hd:(x==("__debug__":Str))=ύ:=by decide) (eh:(x==("__classdict__":Str))=ύ:=by decide)
  (h1:Í [.Constant (.str told) k0 c0,.Call (.Name x p) [] [] ba] X.env=(ύ,ķ (.Constant (.str told) k0 c0) X.env)::Í [.Call (.Name x p) [] [] ba] X.env:=by rfl) (h2:Í [.Call (.Name x p) [] [] ba] X.env=(ύ,ķ (.Call (.Name x p) [] [] ba) X.env)::Í [] X.env:=by rfl) :
  PS X (.Try [.Return (ϊ (.Tuple [.Constant (.str told) k0 c0,.Call (.Name x p) [] [] ba] k1 xl)) acx] [.ExceptHandler (ϊ (.Name cn np)) (ϊ n) (xA::wW) Az] [] [] pos) (tS X.K cF (oG cs told (u0 (.dj f vs ds) th i) j b)):=by
 intro g s σ H D I aw;obtain⟨w,env,eH,S,eo,h⟩:=aw;subst eH;obtain⟨CM,mJ,iH⟩:=hc;delta oG u0 at h;by_cases he:env[i]?=ϊ (ϊ (.dj f vs ds))
 case neg=>rw[Ú he] at h;exact h.elim
 rw[Ñ he] at h;refine wpAny_Try_except ?_
 let E:XK:=λcls m U=>∃(Y:Wd) (c:Str) (C:ß) (mm:Option Int),Y.H=U/\aT X.K Y/\bX X.K Y env σ/\cls=.ref C/\c∈cs/\X.mg c=ϊ (.ref C)/\(∀i,mm=ϊ i->∃W R t,m=ϊ W/\(¬ Y.Z W/\Y.H W=ϊ (.bo R (.own W)))/\lookIn "many" R=ϊ (ϊ (.int i t)))/\Out X.K cF Y (ai (b (env.set j (ϊ (.exc c mm))) Y.aJ) λF s=>match F with
   | .nx env=>ok (.nx (env.set j ϋ)) s
   | .rt d=>ok (.rt d) s
   |_=>ϋ) (Ap X.K D)
 have hth:Out X.K (fC X.mg E) w (th w.aJ) λY d=>∀v,DV X.K Y d v->∀q,Y.H q=ϋ->D.rt (.ref q) (upd Y.H q (.tup [.str told,v])):=by
  cases hr:th w.aJ with
  |none=>rw[hr] at h;exact h.elim
  |some q =>
   obtain⟨q,s2⟩:=q;rw[hr] at h
   cases q with
   |ok d =>
    intro Y l P e v dv q hq;have l2:=(Fw.grow (K:=X.K) (o:=.tup [.str told,v]) hq).le;exact h (Y.grow q (.tup [.str told,v])) (l.trans l2) (P.grow hq) e (.ref q) ⟨q,_,rfl,bV.of cO,⟨.str told,[v],rfl,rfl,l2.all ⟨v,[],rfl,dv,rfl⟩⟩⟩
   |error y =>
    intro Y l P e;dsimp only at h;split at h
    ·rename_i B
     have B:=æ B;obtain⟨C,_,h2,_⟩:=iH _ B;refine⟨C,h2,?_⟩
     cases hm:y.many with
     |none =>
      refine⟨Y,y.c,C,ϋ,rfl,P,eo.le l,rfl,B,h2,(λi z=>by cases z),?_⟩;rw[hm] at h;rw[e];exact h.from l
     |some i =>
      intro W R t O hl;have le:=(Fw.grow (K:=X.K) (o:=.bo R (.own W)) O).le;refine⟨Y.grow W (.bo R (.own W)),y.c,C,ϊ i,rfl,P.grow O,(eo.le l).le le,rfl,B,h2,λi' z=>?_,?_⟩
      ·cases z
       exact⟨W,R,t,rfl,⟨λz=>ma P O z,cO⟩,hl⟩
      ·rw[hm] at h
       show Out X.K cF _ (ai (b (env.set j (ϊ (.exc y.c (ϊ i)))) Y.aJ) _) _;rw[e];exact(h.from l).from le
    ·exact h.elim
 have k9:=λ{M:Â} (I:Inv X g σ w.H M)=>Zb (pos:=ba) (p:=p) (Q:=λv U=>∀q,U q=ϋ->D.rt (.ref q) (upd U q (.tup [.str told,v]))) T h0 hr hN hv hd eh I S eo he hth;refine wpAny_execs_cons (ė (wpAny_Return_some (Q:=SP X g { nx:=λ_ _=>False,rt:=D.rt }) (E:=zD X g σ E) (wpAny_Tuple_spliced ?_)) (λF M q=>?_) λe M q=>?_)
 ·rw[h1]
  refine adx (Calls.Constant_str (k:=k0) (pos:=c0) ?_);rw[h2];refine adx (aO (k9 (I.tok _)) λu M hq=>Calls.spliced_nil ?_);obtain⟨v,H1,I1,r,q⟩:=hq;refine⟨show 2<=Õ by decide,?_⟩;have hf:H1 M.heap.objs.size=ϋ:=I1.aI.fresh (aeD _);refine⟨.ref M.heap.objs.size,σ,upd H1 M.heap.objs.size (.tup [.str told,v]),I1.laid (t':=M.toks) (λb u e=>Á _ e) (aeD _) ?_,rfl,q _ hf⟩;exact⟨show 2<=Õ by decide,_,.cons ⟨_,rfl⟩ (.cons r .nil),⟨_,Î _ rfl,rfl,_,rfl⟩⟩
 ·cases F with
  |next=>obtain⟨_,_,_,z⟩:=q;exact č z
  |ret v=>exact q
  |brk=>obtain⟨_,_,_,z⟩:=q;exact č z
  |cont=>obtain⟨_,_,_,z⟩:=q;exact č z
 ·refine jD (D:=D) q L hf F1 hj pN hg mJ hdc λcls m U hE=>?_
  obtain⟨Y,c,C,mm,rfl,P,jv,rfl,AJ,hmc,hmm,ho⟩:=hE;obtain⟨C2,k1,k2,k3⟩:=iH c AJ;rw[hmc] at k2;cases k2;refine⟨k3,λa o O nR og s5 I5=>?_⟩;have le:=(Fw.grow (K:=X.K) (o:=.bo o (.own a)) O).le;have S5:=P.grow (o:=.bo o (.own a)) O;have dv:DV X.K (Y.grow a (.bo o (.own a))) (.exc c mm) (.ref a):=by
   erw[DV];refine⟨a,o,C,rfl,⟨λz=>ma P O z,cO⟩,⟨nR,k1⟩,λi hi=>?_⟩;obtain⟨W,R,t,q1,q2,q3⟩:=hmm i hi;exact⟨og.1,W,R,t,og.2 W q1,(Fw.grow (K:=X.K) (o:=.bo o (.own a)) O).bo W R _ q2.1 q2.2,q3⟩
  have hd:=hs a g s5 (σ.set j (ϊ (.ref a))) _ { nx:=fun G U=>D.nx (G.set j ϋ) U,rt:=D.rt,bk:=fun G U=>D.bk (G.set j ϋ) U,ct:=fun G U=>D.ct (G.set j ϋ) U } I5
   ⟨Y.grow a (.bo o (.own a)),env.set j (ϊ (.exc c mm)),rfl,S5,(jv.le le).set dv j,(Out.ai (ho.from le)).mono λw6 F l6 S6 q=>?_⟩
  ·exact hd
  ·cases F with
   |nx J=>exact fun G e'=>aB S6 q (G.set j ϋ) (e'.unset j)
   |rt d=>have z:=aB S6 q;exact z
   |bk J=>exact q.elim
   |ct J=>exact q.elim
end
end DI
namespace L2
open PySem PySem.Spec PyProof.Rows
end L2
namespace DI
open PySem L2
end DI
namespace L2
open PySem PySem.Spec PyProof.Rows
end L2
namespace DI
open PySem L2
def xB (f:ě->Option D):List ě->Option (List D)
 | []=>ϊ []
 |e::Z=>match f e,xB f Z with
  |some d,ϊ Y=>if notStar e=ό then ϊ (d::Y) else ϋ
  |_,_=>ϋ
def cst:Nat->ě->Option D
 |0,_=>ϋ
 |n+1,e=>match e with
  | .Constant (.str x) _ _=>ϊ (.str x)
  | .Constant (.int i) _ _=>ϊ (.int i)
  | .Constant (.bool b) _ _=>ϊ (.bl b)
  | .Constant .none _ _=>ϊ .au
  | .UnaryOp .USub (.Constant (.int i) _ _) _=>ϊ (.int (-i))
  | .Tuple Y _ _=>match xB (cst n) Y with
   |some Z=>if Z.length<=100 then ϊ (.tup Z) else ϋ
   |none=>ϋ
  | .List Y _=>match xB (cst n) Y with
   |some Z=>if Z.length<=100 then ϊ (.lst Z) else ϋ
   |none=>ϋ
  |_=>ϋ
def aC (ds:List D):aez (List D):=λ_ s=>ok ds s
def aaY {ds:List D} (h:ds.length<=100):cY (aC ds)=eC (.tup ds):=by
 funext env s;show jf ds (ok (D.tup ds) s)=_;exact Ñ (Ý h (by decide))
def aaZ {ds:List D} (h:ds.length<=100):fc (aC ds)=eC (.lst ds):=by
 funext env s;show jf ds (ok (D.lst ds) s)=_;exact Ñ (Ý h (by decide))
section
variable {X:Cx} {Ξ:Wd->bg->Prop}
theorem Ed {f:ě->Option D} (hf:∀e d,f e=ϊ d->PE X e (tE X.K Ξ (eC d))):∀{es:List ě} {ds:List D},xB f es=ϊ ds->PA X es (tA X.K Ξ (aC ds))
 | [],ds,h=>by cases h;exact dS
 |e::es,ds,h=>by
  delta xB at h;split at h
  ·rename_i d Y e1 e2
   split at h
   ·rename_i Z
    cases h;exact fU (hf e d e1) (Ed hf e2) Z
   ·cases h
  ·cases h
theorem Ee:∀(n:Nat) {e:ě} {d:D},cst n e=ϊ d->PE X e (tE X.K Ξ (eC d))
 |0,e,d,h=>by cases h
 |n+1,e,d,h=>by
  delta cst at h;split at h
  ·cases h;exact aF
  ·cases h;exact az
  ·cases h;exact gE
  ·cases h;exact D1
  ·cases h;exact Ao zW az
  ·split at h
   ·rename_i W Z
    split at h
    ·rename_i Y
     cases h;rw[<- aaY Y];exact eQ (Ed (λe d=>Ee n) Z)
    ·cases h
   ·cases h
  ·split at h
   ·rename_i W Z
    split at h
    ·rename_i Y
     cases h;rw[<- aaZ Y];exact hX (Ed (λe d=>Ee n) Z)
    ·cases h
   ·cases h
  ·cases h
end
end DI
namespace L2
open PySem PySem.Spec PySem.Calls PyProof.Rows PySem.W PySem.Builtin PySem.Builtin.ObjectAttr PySem.Builtin.Getset_descriptor
end L2
namespace DI
open PySem L2 PySem.W
end DI
namespace L2
open PySem PySem.Spec PyProof.Rows PySem.W
end L2
namespace DI
open PySem L2 PySem.W
def qP {α:Type} (f:Str) (v:α):List (Str×α)->List (Str×α)
 | []=>[(f,v)]
 |(g,x)::r=>if g=f then (g,v)::r else (g,x)::qP f v r
def jj (c:Str) (d:D) (s:ae):Option (Nat×List (Str×D)):=match d with
 | .aj k=>(match s[k]? with
  |some (.ins Z fs)=>if ώ (Z=c)=ό then ϊ (k,fs) else ϋ
  |_=>ϋ)
 |_=>ϋ
def zm {c:Str} {d:D} {s:ae} {k:Nat} {fs:List (Str×D)} (h:jj c d s=ϊ (k,fs)):d=.aj k/\s[k]?=ϊ (.ins c fs):=by
 delta jj at h;split at h
 ·split at h
  ·rename_i e
   split at h
   ·rename_i Z
    cases h;rw[æ Z] at e;exact⟨rfl,e⟩
   ·cases h
  ·cases h
 ·cases h
section
variable {K:đ} {w:Wd}
theorem LO:∀{fs:List (Str×D)} {vs:List (Str×V)} {f:Str} {d:D},vs.map (·.1)=fs.map (·.1)->ar K w (fs.map (·.2)) (vs.map (·.2))->fs.lookup f=ϊ d->∃v,vs.lookup f=ϊ v/\DV K w d v
 | [],vs,f,d,_,_,h=>by cases h
 |(g,x)::fs,vs,f,d,e,Y,h=>by
  cases vs with
  |nil=>cases e
  |cons p vs =>
   obtain⟨X,v⟩:=p;erw[à,Ÿ] at e;obtain⟨rfl,e⟩:=e;obtain⟨T,r,e1,W,U⟩:=Y;cases e1;rw[ē] at h |-
   cases Z:f==X with
   |true =>
    rw[Z] at h;cases h;exact⟨v,rfl,W⟩
   |false =>
    rw[Z] at h;exact LO e U h
theorem CJ:∀{fs:List (Str×D)} {vs:List (Str×V)} {f:Str},vs.map (·.1)=fs.map (·.1)->fs.lookup f=ϋ->vs.lookup f=ϋ
 | [],vs,f,e,_=>by
  cases vs with
  |nil=>rfl
  |cons _ _=>cases e
 |(g,x)::fs,vs,f,e,h=>by
  cases vs with
  |nil=>cases e
  |cons p vs =>
   obtain⟨Y,v⟩:=p;erw[à,Ÿ] at e;obtain⟨rfl,e⟩:=e;rw[ē] at h |-
   cases Z:f==Y with
   |true=>rw[Z] at h;cases h
   |false =>
    rw[Z] at h;exact CJ e h
theorem MV {f:Str} {d:D} {v:V} (dv:DV K w d v):∀{fs:List (Str×D)} {vs:List (Str×V)},vs.map (·.1)=fs.map (·.1)->ar K w (fs.map (·.2)) (vs.map (·.2))->(fJ f v vs).map (·.1)=(qP f d fs).map (·.1)/\ar K w ((qP f d fs).map (·.2)) ((fJ f v vs).map (·.2))
 | [],vs,e,_=>by
  cases vs with
  |nil=>exact⟨rfl,ar.one dv⟩
  |cons _ _=>cases e
 |(g,x)::fs,vs,e,X=>by
  cases vs with
  |nil=>cases e
  |cons p vs =>
   obtain⟨W,u⟩:=p;erw[à,Ÿ] at e;obtain⟨rfl,e⟩:=e;obtain⟨R,r,e1,U,Y⟩:=X;cases e1;delta fJ qP;by_cases Z:W=f
   ·rw[Ñ Z,Ñ Z]
    exact⟨by erw[à,e],⟨v,_,rfl,dv,Y⟩⟩
   ·rw[Ú Z,Ú Z]
    obtain⟨T,S⟩:=MV dv e Y;exact⟨by erw[à,T],⟨u,_,rfl,U,S⟩⟩
def zF {c:Str} {k:Nat} {fs:List (Str×D)} {v:V} (S:aT K w) (dv:DV K w (.aj k) v) (e:w.aJ[k]?=ϊ (.ins c fs)):∃a C dx vs,w.ρ[k]?=ϊ a/\v=.ref a/\nsIn K Ò c=ϊ (ϊ (.ref C))/\w.H a=ϊ (.ins C dx vs)/\vs.map (·.1)=fs.map (·.1)/\ar K w (fs.map (·.2)) (vs.map (·.2)):=by
 erw[DV] at dv;obtain⟨a,e1,rfl⟩:=dv;obtain⟨C,dx,vs,Z,Y,X,W⟩:=S.cell k a _ e1 e;exact⟨a,C,dx,vs,e1,rfl,Z,Y,X,W⟩
end
def xC (K:đ) (c f:Str):Prop:=∃C,nsIn K Ò c=ϊ (ϊ (.ref C))/\kF K C/\nv K C f
def ig (c f:Str) (d:D) (s:ae):Res D:=match jj c d s with
 |some (_,fs)=>(match fs.lookup f with
  |some x=>ok x s
  |none=>ϋ)
 |none=>ϋ
def qD (c f:Str) (fv fo:aez D):aez Fl:=λenv s=>ai (fv env s) λv s=>ai (fo env s) λo s=>match jj c o s with
 |some (k,fs)=>if ώ (fs.length<1000)=ό then ok (.nx env) (s.set k (.ins c (qP f v fs))) else ϋ
 |none=>ϋ
section
variable {X:Cx} {Ξ:Wd->bg->Prop} {e o value:ě} {pos pos':Pos} {g fo fv:aez D} {c f:Str}
def oH (hF:xC X.K c f) (he:PE X e (tE X.K Ξ g)) (hb:İ e f X.env (ķ e X.env)=ķ e X.env:=by rfl):PE X (.Attribute e f pos) (tE X.K Ξ (e1 (ig c f) g)) :=
 cm (Yq he hb) fun σ H Q V=>by
  obtain⟨w,env,U,S,T,h⟩:=V;subst U;refine⟨w,env,rfl,S,T,(Out.ai h).mono λB d A Y Z v R=>?_⟩;obtain⟨C,P,O,N⟩:=hF;delta ig at Z;split at Z
  ·rename_i k fs e1
   obtain⟨rfl,M⟩:=zm e1;split at Z
   ·rename_i x e2
    obtain⟨a,z,L,J,_,rfl,W,I,G,F⟩:=zF Y R M;rw[P] at W;cases W;obtain⟨u,E,D⟩:=LO G F e2;exact⟨a,C,L,J,u,rfl,I,O,N,E,aB Y Z _ D⟩
   ·exact Z.elim
  ·exact Z.elim
def N2 (hF:xC X.K c f) (ho:PE X o (tE X.K Ξ fo)) (hv:PE X value (tE X.K Ξ fv)) (hs:swapsWith value (ϊ (.Attribute o f pos')) pos.line X.env=pure ύ:=by rfl):PS X (.Assign [.Attribute o f pos'] value pos) (tS X.K Ξ (qD c f fv fo)) :=
 kY (Yr ho hv hs) λj σ H F=>by
  obtain⟨w,env,E,S,U,h⟩:=F;subst E;refine⟨w,env,rfl,S,U,(Out.ai h).mono λD y O B A u x=>?_⟩;refine⟨D,env,rfl,B,U.le O,(Out.ai A).mono λi d N T Z v t=>?_⟩;obtain⟨C,M,s,r⟩:=hF;split at Z
  ·rename_i k fs e1
   obtain⟨rfl,R⟩:=zm e1;split at Z
   ·rename_i Q
    have Q:=æ Q;obtain⟨a,g,W,V,L,rfl,J,q,I,p⟩:=zF T t R;rw[M] at J;cases J;have Y:V.length=fs.length:=by have:=Ń List.length I;simpa using this
    refine⟨a,C,W,V,rfl,q,s,r,by rw[Y];exact Q,?_⟩;have G:(Cell.ins c fs)≠.dead:=by intro z;cases z
    have P:=(Fw.put (K:=X.K) (o:=.ins C W (fJ f u V)) (c:=.ins c (qP f y fs)) T L R G).le;obtain⟨n,m⟩:=MV (N _ _ x) I p;have l:=T.xp (o:=.ins C W (fJ f u V)) (c:=.ins c (qP f y fs)) L R G ⟨C,W,_,M,cO,n,P.all m⟩;exact Z _ P l rfl σ (U.le (O.trans (N.trans P)))
   ·exact Z.elim
  ·exact Z.elim
end
structure Gm (K:đ) (c m q:Str) (st:ad2) (ps:List Str) (f:ß) (fd:Ĩ):Prop where
 fn:pq K m q st f fd
 b:Binds K fd ps []
def GM (K:đ) (c m q:Str) (st:ad2) (ps:List Str):Prop:=∃C f fd,nsIn K Ò c=ϊ (ϊ (.ref C))/\kF K C/\Meth K C m f/\Gm K c m q st ps f fd
abbrev kL (P:å) (w:Ą) (K:đ) (mg:Str->Option Ç) (base:ĺ) (c m q:Str) (st:ad2) (ps:List Str) (k:Nat) (fn:List D->ae->Res D):Prop:=∀{f:ß} {fd:Ĩ},Gm K c m q st ps f fd->cV P w K mg base (fB P w) k f fd ps (pL mg K fn)
def ox {P:å} {w:Ą} {K:đ} {mg:Str->Option Ç} {base:ĺ} {c m q:Str} {st:ad2} {f:ß} {fd:Ĩ} {ps:List Str} {k:Nat} {b:aez Fl} (G:Gm K c m q st ps f fd) (N:List Str) (S:oX N ps (cz st)=ό)
  (hb:N.Nodup->∀(aY:Ç) (A:í) (outer:List PySem.Env) (s:Â) (H:Hp) (E:XK),bK k (A.deeper (ŀ q (cz st) s.heap.objs.size f aY))->Lv (ia (fB P w) P w K mg base N q (cz st) f aY A outer s H E) E->dg (ia (fB P w) P w K mg base N q (cz st) f aY A outer s H E) (gr st) (tS K (fC mg E) b)) :
  cV P w K mg base (fB P w) (k+1) f fd ps (pL mg K (aD ps.length N.length b)):=by
 obtain⟨J,I,kV,doc,pm,an,aY,ct,F,rfl,lk,V⟩:=G.fn.ex;refine zU lk V (j7 S) (λU H Q E h=>?_) λA outer s H U Q E T h=>?_
 ·obtain⟨w,R,rfl,S,Y,h⟩:=h
  rw[<- Y.length];delta aD at h;split at h
  ·assumption
  ·exact h.elim
 ·obtain⟨X,R,rfl,O,Y,h⟩:=h
  refine⟨_,hb (j7 S).nd aY A outer s X.H E T ⟨rfl,rfl,rfl,rfl⟩,?_⟩;delta aD at h;split at h
  ·rename_i M
   rw[<- M] at h;refine⟨X,_,rfl,O,Y.env N.length,(Out.ai h).mono λD L C W Z=>?_⟩
   cases L with
   |nx env=>intro B _;exact aB W Z _ rfl
   |rt d=>have q:=aB W Z;exact q
   |bk env=>exact Z.elim
   |ct env=>exact Z.elim
  ·exact h.elim
def eR (c m:Str) (fn:List D->ae->Res D) (fo:aez D) (fa:aez (List D)):aez D:=λenv s=>ai (fo env s) λo s=>match jj c o s with
 |some (_,fs)=>if (fs.lookup m).isNone=ό then ai (fa env s) λZ s=>fn (o::Z) s else ϋ
 |none=>ϋ
def oy (c m:Str) (fn:List D->ae->Res D) (fo:aez D) (fa:aez (List D)):aez D:=eR c m (λZ s=>ne (fn Z s)) fo fa
def oI (c:Str) (fn:List D->ae->Res D):aez D:=λ_ s=>ai (ne (fn [.aj s.length] (s++[.ins c []]))) λd Z=>match d with
 | .au=>ok (.aj s.length) Z
 |_=>ϋ
def GK (K:đ) (mg:Str->Option Ç) (c q:Str) (st:ad2) (ps:List Str):Prop:=∃C f fd,nsIn K Ò c=ϊ (ϊ (.ref C))/\mg c=ϊ (.ref C)/\Mk K C f/\Gm K c "__init__" q st ps f fd
section
variable {X:Cx} {E:XK} {Ξ:Wd->bg->Prop} {e o:ě} {es:List ě} {pos apos:Pos} {fo:aez D} {fa:aez (List D)} {c m q:Str} {st:ad2} {ps:List Str} {k n:Nat} {fn:List D->ae->Res D} {pl:Sem Bool}
def KZ {C:ß} {σ:St} {H:Hp} {Q:VK} {t:TA} (hC:nsIn X.K Ò c=ϊ (ϊ (.ref C))) (ht:∀w' env (R:List V->Hp->Prop),aT X.K w'->bX X.K w' env σ->Out X.K (fC X.mg E) w' (fa env w'.aJ) (λw1 ds=>∀vs,ar X.K w1 ds vs->R vs w1.H)->t σ w'.H R)
  (aw:tE X.K (fC X.mg E) (eR c m fn fo fa) σ H Q):zT C m (pL X.mg X.K fn) [] E (tE X.K (fC X.mg E) fo) t σ H Q:=by
 obtain⟨w,env,P,S,Y,h⟩:=aw;subst P;refine⟨w,env,rfl,S,Y,(Out.ai h).mono λw1 d O W Z v U=>?_⟩;split at Z
 ·rename_i k fs e1
  obtain⟨rfl,N⟩:=zm e1;split at Z
  ·rename_i M
   obtain⟨a,z,L,vs,y,rfl,T,J,I,x⟩:=zF W U N;rw[hC] at T;cases T;refine⟨a,L,vs,rfl,J,CJ I (ac8.mp M),?_⟩;refine ht w1 env _ W (Y.le O) ((Out.ai Z).mono λG ds F D B u A=>?_);rw[ĥ];exact⟨G,.aj k::ds,rfl,D,⟨_,_,rfl,F _ _ U,A⟩,B⟩
  ·exact Z.elim
 ·exact Z.elim
def tK (hM:GM X.K c m q st ps) (F:kL X.prog X.w X.K X.mg X.base c m q st ps k fn) (L:Passes (fB X.prog X.w) X E) (hr:bK n X.A) (ho:PE X o (tE X.K (fC X.mg E) fo)) (ha:PA X (e::es) (tA X.K (fC X.mg E) fa)) (hk:k<=n:=by decide)
  (jS:Í (e::es) X.env=(ύ,ķ e X.env)::Í es X.env:=by rfl) (bN:(ī pos (Í es X.env)).any (·.1)=ύ:=by rfl)
  (ht:ķ (.Call (.Attribute o m apos) (e::es) [] pos) X.env=(do
   let ov <- ķ o X.env
   adh apos.atName
   let (f,first) <- acY [ov] (aeq ov m pl)
   callWith pos f first (ī pos (Í (e::es) X.env)) (ada pos (Ŗ [] X.env))):=by rfl) :
  PE X (.Call (.Attribute o m apos) (e::es) [] pos) (tE X.K (fC X.mg E) (eR c m fn fo fa)):=by
 obtain⟨C,f,fd,Z,Y,W,G⟩:=hM;exact cm (Lq ho Y W (F G) (hr.mono hk) G.b .nil L ha jS bN ht) fun σ H Q h=>KZ Z (λV env R U T S=>⟨V,env,rfl,U,T,S⟩) h
def zG (hM:GM X.K c m q st ps) (F:kL X.prog X.w X.K X.mg X.base c m q st ps k fn) (L:Passes (fB X.prog X.w) X E) (hr:bK n X.A) (ho:PE X o (tE X.K (fC X.mg E) fo)) (hk:k<=n:=by decide)
  (ht:ķ (.Call (.Attribute o m apos) [] [] pos) X.env=(do
   let ov <- ķ o X.env
   adh apos.atName
   let (f,first) <- acY [ov] (aeq ov m pl)
   callWith pos f first (ī pos (Í [] X.env)) (ada pos (Ŗ [] X.env))):=by rfl) :
  PE X (.Call (.Attribute o m apos) [] [] pos) (tE X.K (fC X.mg E) (eR c m fn fo ah)):=by
 obtain⟨C,f,fd,Z,Y,W,G⟩:=hM;exact cm (UH ho Y W (F G) (hr.mono hk) G.b .nil L ht) fun σ H Q h=>KZ Z (λT env R V S U=>aB V (a:=([]:List D)) U _ rfl) h
def TM {C:ß} {σ:St} {H:Hp} {Q:VK} {t:TA} (hC:nsIn X.K Ò c=ϊ (ϊ (.ref C))) (ht:∀w' env (R:List V->Hp->Prop),aT X.K w'->bX X.K w' env σ->Out X.K Ξ w' (fa env w'.aJ) (λw1 ds=>∀vs,ar X.K w1 ds vs->R vs w1.H)->t σ w'.H R)
  (aw:tE X.K Ξ (oy c m fn fo fa) σ H Q):zT C m (pL X.mg X.K fn) [] E0 (tE X.K Ξ fo) t σ H Q:=by
 obtain⟨w,env,P,S,Y,h⟩:=aw;subst P;delta oy eR at h;refine⟨w,env,rfl,S,Y,(Out.ai h).mono λw1 d O W Z v U=>?_⟩;split at Z
 ·rename_i k fs e1
  obtain⟨rfl,N⟩:=zm e1;split at Z
  ·rename_i M
   obtain⟨a,A,L,vs,z,rfl,T,J,I,y⟩:=zF W U N;rw[hC] at T;cases T;refine⟨a,L,vs,rfl,J,CJ I (ac8.mp M),?_⟩;refine ht w1 env _ W (Y.le O) ((Out.ai Z).mono λG ds F E D x B=>?_);rw[ĥ];exact⟨G,.aj k::ds,rfl,E,⟨_,_,rfl,F _ _ U,B⟩,MQ D.ne⟩
  ·exact Z.elim
 ·exact Z.elim
def z9 (hM:GM X.K c m q st ps) (F:kL X.prog X.w X.K X.mg X.base c m q st ps k fn) (hr:bK n X.A) (ho:PE X o (tE X.K Ξ fo)) (ha:PA X (e::es) (tA X.K Ξ fa)) (hk:k<=n:=by decide)
  (jS:Í (e::es) X.env=(ύ,ķ e X.env)::Í es X.env:=by rfl) (bN:(ī pos (Í es X.env)).any (·.1)=ύ:=by rfl)
  (ht:ķ (.Call (.Attribute o m apos) (e::es) [] pos) X.env=(do
   let ov <- ķ o X.env
   adh apos.atName
   let (f,first) <- acY [ov] (aeq ov m pl)
   callWith pos f first (ī pos (Í (e::es) X.env)) (ada pos (Ŗ [] X.env))):=by rfl) :
  PE X (.Call (.Attribute o m apos) (e::es) [] pos) (tE X.K Ξ (oy c m fn fo fa)):=by
 obtain⟨C,f,fd,Z,Y,W,G⟩:=hM;exact cm (Lq ho Y W (F G) (hr.mono hk) G.b .nil MR ha jS bN ht) fun σ H Q h=>TM Z (λV env R U T S=>⟨V,env,rfl,U,T,S⟩) h
def Ef {p:Pos} (hM:GK X.K X.mg c q st ps) (F:kL X.prog X.w X.K X.mg X.base c "__init__" q st ps k fn) (hr:bK n X.A) (hk:k+1<=n:=by decide) (hg:Gl X c:=by rfl) (dQ:(c==("__debug__":Str))=ύ:=by decide) :
  PE X (.Call (.Name c p) [] [] pos) (tE X.K Ξ (oI c fn)):=by
 obtain⟨C,f,fd,R,P,M,G⟩:=hM;refine cm (UJ M (F G) (hr.mono hk) hg P G.b .nil MR dQ) fun σ H Q O=>?_;obtain⟨w,env,N,S,u,h⟩:=O;subst N;intro x Z L Y ne;have W:(w.grow Z (.own x)).H x=ϋ:=by show upd w.H Z _ x=ϋ;rw[bt (ź ne)];exact L
 have V:=S.grow (o:=.own x) Y;have J:=(Fw.grow (K:=X.K) (o:=.own x) Y).le;have I:=(Fw.cell (K:=X.K) (o:=.ins C Z []) (c:=.ins c []) V W).le;have E:=V.ND (o:=.ins C Z []) (c:=.ins c []) W ⟨C,Z,[],R,cO,rfl,rfl⟩;have U:DV X.K ((w.grow Z (.own x)).cell x (.ins C Z []) (.ins c [])) (.aj w.aJ.length) (.ref x):=by
  refine⟨x,?_,rfl⟩;show (w.ρ++[x])[w.aJ.length]?=ϊ x;rw[<- S.len];simp
 refine⟨_,[.aj w.aJ.length],rfl,E,ar.one U,?_⟩;have D:Out X.K Ξ ((w.grow Z (.own x)).cell x (.ins C Z []) (.ins c [])) _ _:=(Out.ai h).from (J.trans I);refine MQ (D.ne.mono λt d B z T v y=>?_)
 cases d with
 |au=>exact⟨y,aB z T _ (B _ _ U)⟩
 |_=>exact T.elim
end
end DI
namespace ST
open PySem PySem.W PyProof.Rows
section
variable {α:Type} {O:Ord α} {x:Nat->α} {prog:å} {w:Ą} {A:í} {E:Ç->Â->Prop} {s:Â}
def VE {l:ß} {us:List Ç} {Q:List Ç->Â->Prop} (ht:IsTup s.heap l us.toArray) (hz:us.length<=Õ)
  (h:∀h1,s.heap.objs.size<=h1.objs.size->(∀c o,s.heap.get? c=ϊ o->h1.get? c=ϊ o)->Q us { s with heap:=h1 }):á (é prog w) A (collect (.ref l)) Q E s:=by
 obtain⟨o,X,W,n,V⟩:=ht;have Y:(s.heap.push (adI "list" #[] 0)).get? l=ϊ o:=Á _ X;have Z:(s.heap.push (adI "list" #[] 0)).get? s.heap.objs.size=ϊ (adI "list" #[] 0):=Î _ rfl;delta collect;refine À (wpAny_runValue (ň entry_proto_collect' ?_));show á _ _ (newList [] >>= λm=>again (.builtin "list.__iadd__" ⟨[m,.ref l],[]⟩)) _ _ s;refine À (wpAny_newList (Ã ⟨adC _ nofun,ň entry_list_iadd' ?_⟩))
 show á _ _ (Š (.ref s.heap.objs.size) (.ref l) _) _ _ { s with heap:=s.heap.push (adI "list" #[] 0) }
 delta Š;refine À (adq (T:="tuple") ⟨o,Y,W⟩ ?_);rw[Ñ (by rw[show (Ť "tuple"==Ť "tuple")=ό from rfl];simp)];refine À (listItems_at Y V (À (listItems_at (xs:=#[]) (n:=0) Z rfl ?_)));rw[Ú ∅];refine À (listUpdate_at (xs:=#[]) (n:=0) Z rfl (Ã ?_) (Ē _) (by show (#[]++us.toArray).size<=Õ+1;erw[Array.size_append,Ü,ă];omega))
 show á (é prog w) A (load s.heap.objs.size >>= _) Q E { s with heap:=(s.heap.push (adI "list" #[] 0)).update s.heap.objs.size (ŝ (·++us.toArray)) }
 refine À (wpAny_load (get?_update_seq Z _) ?_);show á _ _ (pure ((#[]:Array Ç)++us.toArray).toList) Q E _;rw[show ((#[]:Array Ç)++us.toArray).toList=us by simp];refine Ã (h _ ?_ λc o e=>?_)
 ·rw[Heap.size_update,size_push'];exact adj _
 ·rw[adm _ _ _ _ (ã (Ð e))]
  exact Á _ e
def Sm {l:ß} {us:List Ç} {Q:Ç->Â->Prop} (hl:IsTup s.heap l us.toArray) (hz:us.length<64)
  (hk:2<=us.length->∀h1,(∀c o,s.heap.get? c=ϊ o->h1.get? c=ϊ o)->Ax prog w A.in1.in1 O x us { s with heap:=h1 })
  (hQ:∀(q:Array Nat) h' b e,Pm us.length q->Up O (ky x q) us.length->(∀c o,s.heap.get? c=ϊ o->h'.get? c=ϊ o)->s.heap.objs.size<=b->h'.get? b=ϊ (adI "list" (q.toList.map λi=>us.getD i Value.none).toArray e)->Q (.ref b) { s with heap:=h' }) :
  á (é prog w) A (call (.builtin "sorted") [.ref l]) Q E s:=by
 have line:us.length<=Õ:=by rw[ŭ];omega
 refine Calls.call_function_entry kind_sorted plain_sorted entry_sorted (args_sorted1 _) ?_;delta ŗ.«sorted»;refine À (m:=checkCount "sorted" 1 1 _) (Ã (À (VE hl line λh1 W Y=>À (wpAny_newList ?_ line))))
 show á _ _ _ _ _ { s with heap:=h1.push (adI "list" us.toArray 0) }
 have X:(h1.push (adI "list" us.toArray 0)).get? h1.objs.size=ϊ (adI "list" us.toArray 0):=Î _ rfl;have old:∀c o,s.heap.get? c=ϊ o->c≠h1.objs.size/\(h1.push (adI "list" us.toArray 0)).get? c=ϊ o:=λc o e=>⟨ã (Ð (Y c o e)),Á _ (Y c o e)⟩;refine À (ą (Ď slot_list_sort ⟨_,X,rfl⟩ entry_list_sort (Q0 X hz (λz h' Z=>hk z h' λc o e=>Z c o (old c o e).1 (old c o e).2) λq h' e V U Z T=>⟨_,rfl,?_⟩) (args_list_sort _)));exact Ã ⟨_,rfl,hQ q h' _ e V U (λc o e=>Z c o (old c o e).1 (old c o e).2) W T⟩
end
end ST
namespace TK
open PySem PySem.W PyProof.Rows DI L2
def vX (ds:List D) (s:ae):Res D:=match ds with
 | [.tup Z]=>if Z.length<64 then bS (wR Z) s else ϋ
 |_=>ϋ
def VF {X:Cx} {Ξ:Wd->bg->Prop} {k:Nat} (hr:bK k X.A):cT X (.builtin "sorted") (rC X.K Ξ vX):=by
 intro m s σ H N l Q I r zzz;obtain⟨w,j,rfl,S,Y,h⟩:=zzz;delta vX at h;split at h
 ·rename_i F
  obtain⟨v,rfl,M⟩:=ou Y;erw[DI.DV] at M;obtain⟨a,N,rfl,E,Y⟩:=M;split at h
  ·rename_i g
   obtain⟨f,e2,h⟩:=gu h;obtain⟨u,rfl,D⟩:=vals1 r;cases D;obtain⟨its,W,C,B⟩:=I.tuple E;have R:its.length=F.length:=W.length.symm.trans Y.length.symm;have V:=e2;delta wR at V;split at V
   ·rename_i Z
    obtain⟨U,z⟩:=Z;clear V;subst z;rw[KS] at e2;cases e2;have L:U.length=its.length:=by rw[R,É]
    refine ST.Sm (O:=cw) (x:=λi=>U.getD i (.de 0 0 0)) C ⋯ (λy c P=>Vp (gp.keep (λb o T _ _=>P b o T) _ _ (Du I _ _ _ (Xa U) Y W)) y (by have:=hr.un;show X.A.units+1+1+100<cLine;have:cLine=9900:=rfl;omega) _) λq h' b e Z J P T t=>?_;have G:∀i∈q.toList,i<(U.map Pg.d).length:=λi p=>by rw[<- R];exact Ċ.mp (Z.2.mem_iff.mp p)
    rw[<- L] at Z J;have n:=I.aI.fresh T;refine⟨.ref b,_,I.laid (o:=.lst (q.toList.map λi=>N.getD i .au)) (t':=s.toks) P T ⟨?_,_,e,TB W (by rw[R];exact G),t⟩,rfl,?_⟩
    ·rw[É,ö,Z.1,L,W.length.symm];exact B
    ·refine Au S ?_ h b n
     rw[<- Vm Z J];exact Vl Y G
   ·cases V
  ·exact h.elim
 ·exact h.elim
end TK
namespace DI
open PySem L2
section
variable {X:Cx} {Ξ:Wd->bg->Prop} {f:aez D}
def xD (d:D) (s:ae):Res D:=match d with
 | .aj k=>match s[k]? with
  |some (.lst Z)=>match Z[Z.length-1]? with
   |some x=>ok x (s.set k (.lst Z.dropLast))
   |none=>ϋ
  |_=>ϋ
 |_=>ϋ
theorem ar.dropLast {K:đ} {w:Wd} {ds:List D} {xs:List V} (h:ar K w ds xs):ar K w ds.dropLast xs.dropLast:=by
 rw[List.dropLast_eq_take,List.dropLast_eq_take,h.length];exact h.take _
def Zk {o:ě} {apos ba:Pos} (ho:PE X o (tE X.K Ξ f)) (hV:İ o "pop" X.env (ķ o X.env)=ķ o X.env:=by rfl) (hW:(apos.endLine==ba.line)=ό:=by rfl) :
  PE X (.Call (.Attribute o "pop" apos) [] [] ba) (tE X.K Ξ (e1 xD f)) :=
 cm (Mw ſ PySem.F.slot_list_pop PySem.F.type_list_pop Yx ho hV hW) fun σ H Q N=>by
  obtain⟨w,env,M,S,L,h⟩:=N;subst M;refine⟨w,env,rfl,S,L,(Out.ai h).mono λE d D Y Z v J=>?_⟩;delta xD at Z;split at Z
  ·rename_i k
   split at Z
   ·rename_i T W
    split at Z
    ·rename_i x I
     obtain⟨a,e1,rfl⟩:=J;obtain⟨V,R,U⟩:=Y.cell k a _ e1 W;obtain⟨y,P,G⟩:=U.get' _ x I;rw[U.length] at P;refine⟨.inl ⟨rfl,V,bY.of R⟩,a,V,y,rfl,rfl,R,P,?_⟩;have O:(Cell.lst T)≠.dead:=by intro z;cases z
     have le:=(Fw.put (K:=X.K) (o:=.lst V.dropLast) (c:=.lst T.dropLast) Y e1 W O).le;exact Z _ le (Y.xp e1 W O ⟨_,cO,le.all U.dropLast⟩) rfl _ (le _ _ G)
    ·exact Z.elim
   ·exact Z.elim
  ·exact Z.elim
end
end DI
namespace L2
open PySem PySem.Spec PyProof.Rows PySem.W
end L2
namespace DI
open PySem L2 PySem.W
end DI
namespace L2
open PySem PySem.Spec PyProof.Rows
def G6 (x:Str):It:=⟨λi _=>i<x.cps.size,λi H v Z=>Z=H/\∃c,x.cps[i]?=ϊ c/\v=.str ⟨#[c]⟩,λi _=>x.cps.size<=i⟩
def K0 {P:å} {w:Ą} {K:đ} {tg:ě} (it:ß) (x:Str) (t:Tok) (b:Bool):Turn P w K tg (G6 x) [it] it (λi h=>h.IsStrIter it (if b then "str_ascii_iterator" else "str_iterator") x t i) where
 mem:=by simp
 obj:=λi h Y c T=>by
  have e:c=it:=by simpa using T
  subst e;obtain⟨o,S,y,L⟩:=Y;exact⟨o,S,λv z=>by rw[L] at z;cases z⟩
 keep:=λi h Z Y k=>let ⟨o,S,r⟩:=Y;⟨o,k it ∅ o S,r⟩
 item:=by
  intro X J hw G T i F s σ H E I O Y D;subst J hw G;obtain⟨f0,f1,f2,N,f4,M⟩:=O it ∅;have p:i<x.cps.size:=D;have V:x.cps[i]?=ϊ x.cps[i]:=by simp[p]
  have go:∀Z,Z.IsStrIter it (if b then "str_ascii_iterator" else "str_iterator") x t (i+1)->Ĭ it s.heap Z->∃u,ϊ (Value.str ⟨#[x.cps[i]]⟩ s.toks)=ϊ u /\
    á (é X.prog X.w) X.A (Œ tg (.ref it) u) (λ_ q=>∃v C,Inv X F σ C q/\RelV v u/\(G6 x).uE i H v C/\q.heap.IsStrIter it (if b then "str_ascii_iterator" else "str_iterator") x t (i+1)/\∀b∈[it],C b=ϋ) E { s with heap:=Z,toks:=s.toks+1 }:=λZ U R=>by
   have m:Inv X F σ H { s with heap:=Z,toks:=s.toks+1 }:=I.turned (λb o W e=>R.extBut b o (by simpa using W) e) f0 f1 N f4 M
   obtain⟨o,S,y,L⟩:=id U
   refine⟨_,rfl,wC (s:={ s with heap:=Z,toks:=s.toks+1 }) (n:=if b then "str_ascii_iterator" else "str_iterator") S y L (by cases b<;>decide) ⟨.str ⟨#[x.cps[i]]⟩,H,m,⟨_,rfl⟩,⟨rfl,_,V,rfl⟩,U,λb W=>(O b W).1⟩⟩
  cases b with
  |true=>exact wpAny_pyNext_ascii_item Y V λZ U R=>go Z U R
  |false=>exact wpAny_pyNext_wide_item Y V λZ U R=>go Z U R
 done:=by
  intro X J hw G T i F s σ H E I O Y D;subst J hw G;obtain⟨f0,f1,f2,N,f4,M⟩:=O it ∅;have V:x.cps[i]?=ϋ:=by simp;exact D
  cases b with
  |true=>exact wpAny_pyNext_ascii_end (I.ok.hd T) Y V λZ B=>⟨rfl,I.turned (t':=s.toks) (λb o W e=>B b o W e) f0 f1 N f4 M⟩
  |false=>exact wpAny_pyNext_wide_end (I.ok.hd T) Y V λZ B=>⟨rfl,I.turned (t':=s.toks) (λb o W e=>B b o W e) f0 f1 N f4 M⟩
 self:=λA i s Q E Y h=>by
  cases b with
  |true=>exact wpAny_pyIter_striter_ascii Y h
  |false=>exact wpAny_pyIter_striter_wide Y h
def acy (tl:TE):TI:=fun σ H R=>tl σ H λx Z=>∃y,x=.str y/\R (G6 y) Z
def Zl {X:Cx} {tg l:ě} {tl:TE} (hl:PE X l tl):PI X tg l (acy tl):=by
 intro V s σ H R I h;refine aO (hl V s σ H _ I h) λv Z ⟨x,W,Y,S,Q⟩=>?_;obtain⟨y,e,q⟩:=Q;subst e;obtain⟨t,rfl⟩:=S;have U:∀b∈[Z.heap.objs.size],gk X V W b:=λb P=>by
  have e:b=Z.heap.objs.size:=by simpa using P
  subst e;exact Y.tU (aeD _) (Y.aI.fresh (aeD _))
 cases T:y.cps.all (· < 128) with
 |true=>exact wpAny_pyIter_ascii T ⟨Z.heap.objs.size,[Z.heap.objs.size],_,_,W,rfl,Y.kept (t':=Z.toks) λb o e=>Á _ e,K0 _ y t ό,⟨_,Î _ rfl,rfl,rfl⟩,U,q⟩
 |false=>exact wpAny_pyIter_wide T ⟨Z.heap.objs.size,[Z.heap.objs.size],_,_,W,rfl,Y.kept (t':=Z.toks) λb o e=>Á _ e,K0 _ y t ύ,⟨_,Î _ rfl,rfl,rfl⟩,U,q⟩
section
variable {X:Cx}
def rJoin (K:đ):V->List V->Hp->VK->Prop:=λx Z H Q=>∃(y:Str) (a:ß) (zs:List Str),x=.str y/\Z=[.ref a]/\bY K H a (zs.map V.str)/\JoinOk y zs=ό/\Q (.str (š y zs)) H
theorem Ke:∀{zs:List Str} {us:List Ç},Vals (zs.map V.str) us->∃l:List (Str×Tok),us=strValues l/\l.map (·.1)=zs
 | [],_,.nil=>⟨[],rfl,rfl⟩
 |z::zs,_,.cons r Z=>by
  obtain⟨t,rfl⟩:=r;obtain⟨l,rfl,e⟩:=Ke Z;exact⟨(z,t)::l,rfl,by simp[e]⟩
def Xh:ra X "str.join" (rJoin X.K):=by
 intro R s σ H x P v O Q I W V h;obtain⟨y,a,zs,rfl,rfl,U,Y,q⟩:=h;obtain⟨t,rfl⟩:=W;obtain⟨u,rfl,T⟩:=V.one;cases T;obtain⟨its,r,p,N⟩:=I.list U;obtain⟨l,rfl,e⟩:=Ke r;subst e;have Z:=Y;delta JoinOk at Z;rw[ł] at Z;refine η F.slot_str_join (adL s y t) F.entry_str_join (F.args_str_join_2 _ _) (meets_str_join_list y t a l Z) ⟨p.isList,post_join l ⟨joinOk_length Y,λS k=>?_⟩⟩;refine⟨.str _,H,I.tok k,⟨S,rfl⟩,?_⟩;show Q (.str (Txt.join y (l.map (·.1)))) H;rw[show Txt.join y (l.map (·.1))=š y (l.map (·.1)) from StrLaws.glued_eq_join _ _];exact q
def Zm:V->List V->Hp->VK->Prop:=λx Z H Q=>∃(a y:Str),x=.str a/\Z=[.str y]/\(y.length==0)=ύ/\a.length+2<=Õ/\∀p,H p=ϋ->Q (.ref p) (upd H p (.lst ((Ī a y).map V.str)))
theorem IF:∀(zs:List Str) (tk:Nat),Vals (zs.map V.str) (strsFrom tk zs)
 | [],_=>.nil
 |z::zs,tk=>.cons ⟨_,rfl⟩ (IF zs (tk+1))
def VG:ra X "str.split" Zm:=by
 intro R s σ H x M v L Q I P O h;obtain⟨a,y,rfl,rfl,T,S,q⟩:=h;obtain⟨t,rfl⟩:=P;obtain⟨u,rfl,N⟩:=O.one;obtain⟨U,rfl⟩:=N;have fresh:=I.aI.fresh (aeD s.heap.objs.size)
 have fin:∀(its:List Ç) (k:Nat),Vals ((Ī a y).map V.str) its->EP X R σ Q (.ref s.heap.objs.size) { s with heap:=s.heap.push { cls:=.type "list",data:=.seq its.toArray },toks:=k }:=λits k r=>by
  have Y:((Ī a y).map V.str).length<=Õ:=by rw[É];exact Ý (ad1 a y) S
  refine⟨.ref s.heap.objs.size,_,I.laid (o:=.lst ((Ī a y).map V.str)) (t':=k) (λb o e=>Á _ e) (aeD _) ⟨Y,its,0,r,Î _ rfl⟩,rfl,q _ fresh⟩
 by_cases Z:(ώ (a.length<y.length)||ώ (Builtin.Str.strKind a<Builtin.Str.strKind y))=ό
 ·refine η F.slot_str_split (adL s a t) F.entry_str_split (F.args_str_split_2 _ _) (meets_str_split_cannot_occur a y t U Z) ?_
  have e:Ī a y=[a]:=by delta Ī;rw[Ñ Z]
  have:=fin [.str a t] s.toks (by rw[e];exact .cons ⟨_,rfl⟩ .nil);exact this
 ·by_cases W:(ġ a y 0 a.length (a.length+1)).isEmpty=ό
  ·refine η F.slot_str_split (adL s a t) F.entry_str_split (F.args_str_split_2 _ _) (meets_str_split_not_found a y t U (by simpa using Z) T W) ?_
   have e:Ī a y=[a]:=by delta Ī;rw[Ú Z,Ñ W]
   have:=fin [.str a t] s.toks (by rw[e];exact .cons ⟨_,rfl⟩ .nil);exact this
  ·have e:Ī a y=Builtin.Str.partsBetween a (ġ a y 0 a.length (a.length+1)) y.length:=by delta Ī;rw[Ú Z,Ú W]
   refine η F.slot_str_split (adL s a t) F.entry_str_split (F.args_str_split_2 _ _) (meets_str_split_sep a y t U (by simpa using Z) T (by simpa using W) ⋯ (by rw[<- e];exact Ý (ad1 a y) S)) ?_;have:=fin (strsFrom s.toks (Ī a y)) (s.toks+(Ī a y).length) (IF _ _);rw[e] at this;exact this
def Q3:cT X (.type "int") (λxs H Q=>∃(x:Str) (n:Int),xs=[.str x]/\x.length<=640/\ac9 x=ϊ n/\Q (.int n) H):=by
 intro U s σ H xs T Q I r h;obtain⟨x,n,rfl,Z,Y,q⟩:=h;obtain⟨u,rfl,V⟩:=vals1 r;obtain⟨t,rfl⟩:=V;exact PySem.W.KIN.call_text Y Z ⟨.int n,H,I.tok _,⟨_,rfl⟩,q⟩
end
section
variable {prog:å} {w:Ą} {A:í} {E:Ç->Â->Prop} {s:Â}
theorem Kf {it l:ß} {items:Array Ç} (gU:l≠it):∀(n i:Nat) (s:Â) (Q:List Ç->Â->Prop),s.heap.IsListIter it l i->s.heap.IsList l items->i+n<=items.size ->
  (∀h',h'.IsListIter it l (i+n)->Ĭ it s.heap h'->Q ((items.toList.drop i).take n) { s with heap:=h' })->á (é prog w) A (draw (.ref it) n) Q E s
 |0,i,s,Q,hit,_,_,Z=>by
  show á _ _ (pure []) Q E s;exact Ã (by simpa using Z s.heap hit (Heap.SameBut.refl ..))
 |n+1,i,s,Q,hit,W,hle,Z=>by
  have V:i<items.size:=by omega
  have T:items.toList.drop i=items[i]::items.toList.drop (i+1):=by simp[ů,V]
  show á _ _ (ac0 (.ref it) >>= _) Q E s;refine À (wpAny_pyNext_list_item hit W (x:=items[i]) (by simp[V]) λS R U=>?_)
  have P:S.IsList l items:=let ⟨o,e,r⟩:=W;⟨o,U.extBut l o gU e,r⟩
  refine À (ą (Kf gU n (i+1) _ _ R P ⋯ λO Y X=>Ã ?_));have z:=Z O (by rw[show i+(n+1)=i+1+n by omega];exact Y) (U.trans X);rw[T,List.take_succ_cons] at z;exact z
def Rv {l:ß} {items:Array Ç} {targets:List (Bool×(Ç->Sem Unit))} {Q:Unit->Â->Prop} (hh:A.handled=ϋ) (hl:s.heap.IsList l items) (hn:targets.length=items.size) (hs:targets.findIdx? (·.1)=ϋ)
  (h:∀h',adl s.heap.objs.size s.heap h'->á (é prog w) A (adt (targets.map (·.2)) items.toList) Q E { s with heap:=h' }):á (é prog w) A (unpack (.ref l) targets) Q E s:=by
 have Y:l≠s.heap.objs.size:=by obtain⟨o,U,_⟩:=hl;exact ã (Ð U)
 have X:∀o,(s.heap.push o).IsList l items:=λo=>let ⟨u,e,r⟩:=hl;⟨u,Á _ e,r⟩
 delta unpack;rw[hn,hs];refine À (ą ?_);delta unpackItems;refine À ?_;delta notIterableAtAll;refine À (wpAny_specialOf hl.typeIs slot_list_iter.lookup (Ã ?_));rw[Ú (by decide)];refine À (ą (ŵ hl (À (ą (Kf Y items.size 0 _ _ ⟨_,Î _ rfl,rfl,rfl⟩ (X _) ⋯ λT S W=>?_)))));rw[List.drop_zero,show List.take items.size items.toList=items.toList from List.take_of_length_le ∅,Ú ∅]
 have R:T.IsList l items:=let ⟨o,e,r⟩:=X _;⟨o,W.extBut l o Y e,r⟩
 refine À (ą (wpAny_pyNext_list_end hh S R ∅ λP Z=>?_));rw[Ú (by decide)];exact Ã (h P λb o V e=>Z b o V (W.extBut b o V (Á _ e)))
end
section
variable {X:Cx}
def acz (K:đ) (n:Nat) (t:jR):TG:=λv σ H Q=>∃a Z,v=.ref a/\bY K H a Z/\Z.length=n/\t Z σ H Q
def Zn {es:List ě} {k:Nat} {pos:Pos} {t:jR} {n:Nat} (hc:X.calm=ό) (h:kE X es t)
  (hn:(ō es X.env).length=n:=by rfl) (jS:(ō es X.env).findIdx? (·.1)=ϋ:=by rfl):PG X (.Tuple es k pos) (acz X.K n t):=by
 intro Z s σ H v u Q I r hw;obtain⟨a,W,e1,V,U,hw⟩:=hw;subst e1;cases r;obtain⟨its,Y,T,O⟩:=I.list V;rw[assign_Tuple];refine À (Ż (Rv (I.ok.hd hc) T.isList (by simp[hn,<- U,Y.length]) jS λS R=>?_))
 have P:Inv X Z σ H { s with heap:=S }:=I.kept (t':=s.toks) λb o e=>R b o (ã (Ð e)) e
 exact h Z _ σ H W _ Q P (by simpa using Y) hw
end
end L2
namespace DI
open PySem L2
section
variable {X:Cx} {Ξ:Wd->bg->Prop} {e a b o:ě} {es:List ě} {pos:Pos} {f g:aez D}
def gL (gs:List (D->Env->Option Env)):D->Env->Option Env:=λd env=>match d with
 | .lst Z=>gQ gs Z env
 |_=>ϋ
def Ei {gl:List (D->Env->Option Env)} {k:Nat} (hc:X.calm=ό) (h:kE X es (uR X.K (gQ gl))) (hn:(ō es X.env).length=gl.length:=by rfl) (jS:(ō es X.env).findIdx? (·.1)=ϋ:=by rfl):PG X (.Tuple es k pos) (gD X.K (gL gl)) :=
 Dh (Zn hc h hn jS) λv σ H Q U=>by
  obtain⟨w,env,d,Z,T,S,R,W,Y,k⟩:=U
  cases d with
  |lst P =>
   erw[DV] at W;obtain⟨p,O,e1,N,V⟩:=W;subst T;exact⟨p,O,e1,N.sq,by rw[<- V.length];exact yS Y,w,env,P,Z,rfl,S,R,V,Y,k⟩
  |_=>cases Y
def G7 (x:Str):List D:=x.cps.toList.map λc=>D.str ⟨#[c]⟩
def tL (f:aez D):aez (List D):=λenv s=>ai (f env s) λd s=>match d with
 | .str x=>ok (G7 x) s
 |_=>ϋ
def Ej {tg:ě} (hl:PE X a (tE X.K Ξ f)):PI X tg a (fO X.K Ξ (tL f)) :=
 sP (Zl hl) fun σ H R V=>by
  obtain⟨w,env,U,S,T,h⟩:=V;subst U;refine⟨w,env,rfl,S,T,(Out.ai h).mono λL d J Q W v P=>?_⟩
  cases d with
  |str x =>
   have e:v=.str x:=P;refine⟨x,e,aB Q W _ λO I N i=>⟨λd Z=>?_,λhl=>?_⟩⟩
   ·delta G7 at Z
    rw[ê] at Z;obtain⟨c,Y,rfl⟩:=adJ.mp Z;rw[į] at Y;refine⟨(Array.getElem?_eq_some_iff.mp Y).1,λz G ⟨e1,F,e2,M⟩=>⟨O,e1.symm,Le.refl _,N,rfl,?_⟩⟩;rw[Y] at e2;cases e2;exact M
   ·show x.cps.size<=i
    delta G7 at hl;rw[É,ö] at hl;exact hl
  |_=>exact W.elim
def strs?:List D->Option (List Str)
 | []=>ϊ []
 | .str x::r=>(strs? r).map (x::·)
 |_=>ϋ
theorem LP {K:đ} {w:Wd}:∀{ds:List D} {zs:List Str} {vs:List V},strs? ds=ϊ zs->ar K w ds vs->vs=zs.map V.str
 | [],zs,vs,h,Z=>by cases h;exact Z
 |d::ds,zs,vs,h,Z=>by
  obtain⟨v,r,rfl,Y,X⟩:=Z
  cases d with
  |str x =>
   delta strs? at h;obtain⟨W,U,rfl⟩:=adJ.mp h;rw[LP U X,show v=.str x from Y];rfl
  |_=>cases h
theorem K1 {K:đ} {w:Wd}:∀zs:List Str,ar K w (zs.map D.str) (zs.map V.str)
 | []=>rfl
 |z::zs=>⟨.str z,_,rfl,rfl,K1 zs⟩
def dW (m:Str->D->ae->Res D) (f g:aez D):aez D:=λenv s=>ai (f env s) λd s=>match d with
 | .str y=>ai (g env s) λx s=>m y x s
 |_=>ϋ
def iP (y:Str) (x:D) (s:ae):Res D:=match res x s with
 | .lst Z=>match strs? Z with
  |some zs=>if JoinOk y zs=ό then ok (.str (š y zs)) s else ϋ
  |none=>ϋ
 |_=>ϋ
def jb (a:Str) (x:D) (s:ae):Res D:=match x with
 | .str y=>if (!(y.length==0)&&ώ (a.length+2<=Õ))=ό then ok (.lst ((Ī a y).map D.str)) s else ϋ
 |_=>ϋ
def sQ {apos ba:Pos} (ho:PE X o (tE X.K Ξ f)) (ha:PE X a (tE X.K Ξ g))
  (hV:İ o "join" X.env (ķ o X.env)=ķ o X.env:=by rfl)
  (lh:((ī ba (Í [a] X.env)).all (λx=>!x.1)&&(ada ba (Ŗ [] X.env)).all (λx=>x.1.isSome)
   && ώ (([a]:List ě).length+([]:List acZ).length+(if ([]:List acZ).isEmpty then 0 else 1)<30))=ό:=by rfl)
  (hW:(apos.endLine==ba.line)=ό:=by rfl) (hs:Í [a] X.env=(ύ,ķ a X.env)::Í [] X.env:=by rfl) (iN:(ī ba (Í [] X.env)).any (·.1)=ύ:=by rfl) :
  PE X (.Call (.Attribute o "join" apos) [a] [] ba) (tE X.K Ξ (dW iP f g)) :=
 cm (wD adK PySem.F.slot_str_join PySem.F.type_str_join Xh ho (kP ha l8 hs) hV lh hW hs iN) fun σ H Q T=>by
  obtain⟨w,env,R,S,Y,h⟩:=T;subst R;refine⟨w,env,rfl,S,Y,(Out.ai h).mono λP d O N W v M=>?_⟩
  cases d with
  |str y =>
   have e:v=.str y:=M;subst e;refine⟨rfl,P,env,rfl,N,Y.le O,(Out.ai W).mono λD x C V Z u L=>?_⟩;delta iP at Z;split at Z
   ·rename_i B J
    split at Z
    ·rename_i zs I
     split at Z
     ·rename_i G
      obtain⟨p,A,rfl,U,E⟩:=kR V L J;rw[LP I E] at U;exact⟨y,p,zs,rfl,rfl,bY.of U,G,aB V Z _ rfl⟩
     ·exact Z.elim
    ·exact Z.elim
   ·exact Z.elim
  |_=>exact W.elim
def qd {apos ba:Pos} (ho:PE X o (tE X.K Ξ f)) (ha:PE X a (tE X.K Ξ g))
  (hV:İ o "split" X.env (ķ o X.env)=ķ o X.env:=by rfl)
  (lh:((ī ba (Í [a] X.env)).all (λx=>!x.1)&&(ada ba (Ŗ [] X.env)).all (λx=>x.1.isSome)
   && ώ (([a]:List ě).length+([]:List acZ).length+(if ([]:List acZ).isEmpty then 0 else 1)<30))=ό:=by rfl)
  (hW:(apos.endLine==ba.line)=ό:=by rfl) (hs:Í [a] X.env=(ύ,ķ a X.env)::Í [] X.env:=by rfl) (iN:(ī ba (Í [] X.env)).any (·.1)=ύ:=by rfl) :
  PE X (.Call (.Attribute o "split" apos) [a] [] ba) (tE X.K Ξ (dW jb f g)) :=
 cm (wD adK PySem.F.slot_str_split PySem.F.type_str_split VG ho (kP ha l8 hs) hV lh hW hs iN) fun σ H Q N=>by
  obtain⟨w,env,M,S,T,h⟩:=N;subst M;refine⟨w,env,rfl,S,T,(Out.ai h).mono λL d J I R v G=>?_⟩
  cases d with
  |str y =>
   have e:v=.str y:=G;subst e;refine⟨rfl,L,env,rfl,I,T.le J,(Out.ai R).mono λP x D O Y u E=>?_⟩;delta jb at Y;split at Y
   ·rename_i z
    split at Y
    ·rename_i W
     rw[Å,ł,Ë] at W;have e:u=.str z:=E;subst e;refine⟨y,z,rfl,rfl,W.1,W.2,λp U=>?_⟩;exact Y (P.grow p (.lst ((Ī y z).map V.str))) (Fw.grow U).le (O.grow U) rfl (.ref p) ⟨p,_,rfl,⟨(show ¬ P.Z p from ma O U),cO⟩,K1 _⟩
    ·exact Y.elim
   ·exact Y.elim
  |_=>exact R.elim
def qQ (ds:List D) (s:ae):Res D:=match ds with
 | [.int i]=>if ώ (i.natAbs.log2<1920)=ό then ok (.str (toString i)) s else ϋ
 |_=>ϋ
def N3:cT X (.type "str") (rC X.K Ξ qQ):=by
 intro Z s σ H T Y Q I r zzz;obtain⟨w,R,rfl,S,W,h⟩:=zzz;delta qQ at h;split at h
 ·rename_i i
  split at h
  ·rename_i V
   obtain⟨v,rfl,U⟩:=ou W;have e:v=.int i:=U;subst e;exact QP Z s σ w.H _ Y Q I r ⟨i,rfl,æ V,aB S h _ rfl⟩
  ·exact h.elim
 ·exact h.elim
def jK (ds:List D) (s:ae):Res D:=match ds with
 | [.str x]=>if ώ (x.length<=640)=ό then (match ac9 x with
  |some n=>ok (.int n) s
  |none=>ϋ) else ϋ
 |_=>ϋ
def sR:cT X (.type "int") (rC X.K Ξ jK):=by
 intro Z s σ H R Y Q I r zzz;obtain⟨w,P,rfl,S,W,h⟩:=zzz;delta jK at h;split at h
 ·rename_i x
  split at h
  ·rename_i V
   split at h
   ·rename_i n U
    obtain⟨v,rfl,T⟩:=ou W;have e:v=.str x:=T;subst e;exact Q3 Z s σ w.H _ Y Q I r ⟨x,n,rfl,æ V,U,aB S h _ rfl⟩
   ·exact h.elim
  ·exact h.elim
 ·exact h.elim
def Ek (x y:D) (s:ae):Res D:=match x,y with
 | .str i,.str j=>ok (.bl (!(ġ j i 0 j.length 1).isEmpty)) s
 |_,_=>ϋ
def aa3:bM X (ĕ .In) (rO X.K Ξ Ek):=by
 intro Z s σ H x y v u Q I Y W zzz;obtain⟨w,T,R,rfl,S,V,U,h⟩:=zzz;delta Ek at h;split at h
 ·rename_i i j
  have e1:x=.str i:=V;have e2:y=.str j:=U;subst e1 e2;exact SX Z s σ w.H _ _ v u Q I Y W ⟨i,j,rfl,rfl,aB S h _ rfl⟩
 ·exact h.elim
def oZ (f g:aez D):aez D:=λenv s=>ai (f env s) λd s=>match d with
 | .str x=>if ώ (x.length<=Õ)=ό then (if (x.length==0)=ό then g env s else ok (.str x) s) else ϋ
 |_=>ϋ
def El {rest:List ě} (ha:PE X a (tE X.K Ξ f)) (hb:PE X (.BoolOp .Or (b::rest) pos) (tE X.K Ξ g)):PE X (.BoolOp .Or (a::b::rest) pos) (tE X.K Ξ (oZ f g)):=by
 intro T s σ H Q I J;obtain⟨w,env,G,S,R,h⟩:=J;subst G
 refine PyProof.Rows.BoolOp_or (aO (ha T s σ w.H (λv V=>∃x,v=.str x/\x.length<=Õ/\if (x.length==0)=ό then tE X.K Ξ g σ V Q else Q (.str x) V) I ⟨w,env,rfl,S,R,(Out.ai h).mono λU d F P Z v E=>?_⟩) λv D ⟨x,V,C,O,W⟩=>?_)
 ·cases d with
  |str x =>
   have e:v=.str x:=E;subst e
   have Z:Out X.K Ξ U (if ώ (x.length<=Õ)=ό then (if (x.length==0)=ό then g env U.aJ else ok (.str x) U.aJ) else ϋ) (λN d=>∀v,DV X.K N d v->Q v N.H):=Z
   split at Z
   ·rename_i B
    refine⟨x,rfl,æ B,?_⟩;split at Z
    ·rename_i Y
     rw[Ñ Y];exact⟨U,env,rfl,P,R.le F,Z⟩
    ·rename_i Y
     rw[Ú Y];exact aB P Z _ rfl
   ·exact Z.elim
  |_=>exact Z.elim
 ·obtain⟨y,rfl,A,W⟩:=W
  refine ė (C9 T D σ V (.str y) v (λk z=>z=V/\k=((y.length:Int) != 0)) C O ⟨_,⟨A,rfl⟩,rfl,rfl⟩) (λk u ⟨M,L,e2,t⟩=>?_) λ_ _ h=>h;subst e2 t
  cases Y:((y.length:Int) != 0) with
  |true =>
   have:(y.length==0)=ύ:=by
    cases r:(y.length==0) with
    |false=>rfl
    |true=>rw[show y.length=0 by simpa using r] at Y;simp at Y
   rw[this,Ú Ä] at W;exact⟨.str y,M,L,O,W⟩
  |false =>
   have:(y.length==0)=ό:=by
    have q:y.length=0:=by simpa using Y
    rw[q];rfl
   rw[this,Ñ rfl] at W;exact hb T u σ M Q L W
def xE {x y:Str} (h:∃t,X.mg x=ϊ (.str y t)) (hg:Gl X x) (hd:(x==("__debug__":Str))=ύ:=by decide):PE X (.Name x pos) (tE X.K Ξ (eC (.str y))):=by
 obtain⟨t,e⟩:=h;exact qv (v:=.str y) (Cp hg e ⟨t,rfl⟩ hd) λ_=>rfl
def fM (d:D) (s:ae):Res D:=match d with
 | .str x=>if ώ (x.length<=Õ)=ό then ok (.str x) s else ϋ
 | .int i=>if ώ (i.natAbs.log2<1920)=ό then ok (.str (toString i)) s else ϋ
 |_=>ϋ
def qE (ha:PE X a (tE X.K Ξ f)):PE X (.FormattedValue a (-1) ϋ pos) (tE X.K Ξ (e1 fM f)):=by
 intro P s σ H Q I O;obtain⟨w,env,N,S,M,h⟩:=O;subst N;refine wpAny_FormattedValue_plain (aO (ha P s σ w.H (λv Y=>(∃x,v=.str x/\x.length<=Õ/\Q (.str x) Y)\/∃i,v=.int i/\i.natAbs.log2<1920/\Q (.str (toString i)) Y) I ⟨w,env,rfl,S,M,(Out.ai h).mono λF d E U Z v T=>?_⟩) λv D ⟨x,Y,W,R,L⟩=>?_)
 ·delta fM at Z
  split at Z
  ·rename_i x
   split at Z
   ·rename_i V
    exact .inl ⟨x,T,æ V,aB U Z _ rfl⟩
   ·exact Z.elim
  ·rename_i i
   split at Z
   ·rename_i V
    exact .inr ⟨i,T,æ V,aB U Z _ rfl⟩
   ·exact Z.elim
  ·exact Z.elim
 ·rcases L with ⟨y,rfl,J,q⟩ | ⟨i,rfl,G,q⟩
  ·obtain⟨t,rfl⟩:=R
   exact wpAny_formatField_str ⟨.str y,Y,W,⟨_,rfl⟩,q⟩ ⟨.str y,Y,W.tok _,⟨_,rfl⟩,q⟩ J
  ·obtain⟨t,rfl⟩:=R
   exact wpAny_formatField_int G ⟨.str (toString i),Y,W.tok _,⟨_,rfl⟩,q⟩
def jX:List (aez D)->Str->aez D
 | [],Z,env,s=>if ώ (Z.length<=Õ)=ό then ok (.str Z) s else ϋ
 |f::fs,Z,env,s=>ai (f env s) λd s=>match d with
  | .str y=>if ώ ((Z++y).length<=Õ)=ό then jX fs (Z++y) env s else ϋ
  |_=>ϋ
inductive gI (X:Cx) (Ξ:Wd->bg->Prop):List ě->List (aez D)->Prop
 |nil:gI X Ξ [] []
 |cons {e es f fs} (h:PE X e (tE X.K Ξ f)) (r:gI X Ξ es fs):gI X Ξ (e::es) (f::fs)
def VH {π:List (ß×Obj)} {σ:St} {Q:VK} {env:Env}:∀{es:List ě} {fs:List (aez D)},gI X Ξ es fs->∀{acc:Str} {w:Wd} {s:Â},Inv X π σ w.H s->aT X.K w->bX X.K w env σ ->
  Out X.K Ξ w (jX fs acc env w.aJ) (λw' d=>∀v,DV X.K w' d v->Q v w'.H)->Joins (é X.prog X.w) X.A X.xe (evalEach es X.env) acc (λout bJ=>out.length<=Õ/\EP X π σ Q (.str out bJ.toks) { bJ with toks:=bJ.toks+1 }) s:=by
 intro es fs P
 induction P with
 |nil =>
  intro acc w s I S W h;delta jX at h;split at h
  ·rename_i V
   exact⟨æ V,.str acc,w.H,I.tok _,⟨_,rfl⟩,aB S h _ rfl⟩
  ·exact h.elim
 |cons R r ih =>
  rename_i e es f fs;intro acc w s I S W h;refine aO (R π s σ w.H (λv T=>∃y Z,v=.str y/\Z.H=T/\aT X.K Z/\bX X.K Z env σ/\(acc++y).length<=Õ/\Out X.K Ξ Z (jX fs (acc++y) env Z.aJ) (λw' d=>∀v,DV X.K w' d v->Q v w'.H)) I ⟨w,env,rfl,S,W,(Out.ai h).mono λZ d O U Y v N=>?_⟩) λv E ⟨x,T,M,L,J⟩=>?_
  ·cases d with
   |str y =>
    have Y:Out X.K Ξ Z (if ώ ((acc++y).length<=Õ)=ό then jX fs (acc++y) env Z.aJ else ϋ) _:=Y
    split at Y
    ·rename_i V
     exact⟨y,Z,N,rfl,U,W.le O,æ V,Y⟩
    ·exact Y.elim
   |_=>exact Y.elim
  ·obtain⟨y,Z,rfl,rfl,U,G,F,Y⟩:=J
   obtain⟨t,rfl⟩:=L;exact⟨y,t,rfl,F,ih M U G Y⟩
def MW {e':ě} {fs:List (aez D)} (h:gI X Ξ (e::e'::es) fs):PE X (.JoinedStr (e::e'::es) pos) (tE X.K Ξ (jX fs χ)):=by
 intro U s σ H Q I Z;obtain⟨w,env,Y,S,W,V⟩:=Z;subst Y;exact wpAny_JoinedStr (VH h I S W V)
end
end DI
namespace L2
open PySem PySem.Spec PyProof.Rows
def ik (st:Int) (x:Str) (lo hi:Option Int):Str:=if (st==1&&(Ě lo hi st x.length).length==x.length)=ό then x else ⟨((Ě lo hi st x.length).filterMap λi=>x.cps[i]?).toArray⟩
section
variable {X:Cx} {e:ě} {te:TE} {p2 p3 p4 pos:Pos}
def made_str {x:Str} {t:Tok} {l u st:Option (Int×Tok)} {i:Int} {Q:VK} {π:List (ß×Obj)} {σ:St} {H:Hp} {s:Â} (I:Inv X π σ H s) (hi:(st.map (·.1)).getD 1=i) (hz:(ik i x (l.map (·.1)) (u.map (·.1))).length<=Õ) (q:Q (.str (ik i x (l.map (·.1)) (u.map (·.1)))) H):(sliceMade x t l u st).post (EP X π σ Q) s:=by
 subst hi;delta ik at q hz;delta sliceMade slicePicked;split
 ·rename_i h
  rw[Ñ h] at q;exact⟨.str x,H,I,⟨_,rfl⟩,q⟩
 ·rename_i h
  rw[Ú h] at q hz;exact⟨hz,.str _,H,I.tok _,⟨_,rfl⟩,q⟩
def part_of (h:IsPart v o):∃l:Option (Int×Tok),v=partValue l/\l.map (·.1)=o:=by
 cases h with
 |none=>exact⟨ϋ,rfl,rfl⟩
 |int i t=>exact⟨ϊ (i,t),rfl,rfl⟩
def acA:V->Option Int->Option Int->Hp->VK->Prop:=λx lo Z H Q=>∃y,x=.str y/\(ik 1 y lo Z).length<=Õ/\Q (.str (ik 1 y lo Z)) H
def Zo:qZ X acA:=by
 intro U s σ H x v T S lo R sl Q I Z Y W pu h;obtain⟨y,rfl,V,q⟩:=h;obtain⟨t,rfl⟩:=Z;obtain⟨l,rfl,rfl⟩:=part_of W;obtain⟨u,rfl,rfl⟩:=part_of pu;exact⟨"str",_,F.slot_str_getitem.lookup,adL s y t,wpAny_getItem_str_slice (st:=ϋ) Y rfl (made_str I rfl V q)⟩
def aa4 (te:TE):TE:=fun σ H Q=>te σ H λx Z=>∃y,x=.str y/\(ik (-1) y ϋ ϋ).length<=Õ/\Q (.str (ik (-1) y ϋ ϋ)) Z
def Xi (he:PE X e te):PE X (.Subscript e (.Slice ϋ ϋ (ϊ (.UnaryOp .USub (.Constant (.int 1) 0 p4) p3)) p2) pos) (aa4 te):=by
 intro Y s σ H Q I h;refine Subscript_ (aO (he Y s σ H _ I h) λv T ⟨x,U,S,R,P⟩=>?_);obtain⟨y,rfl,O,q⟩:=P;obtain⟨t,rfl⟩:=R;refine wpAny_Slice ?_;rw[evalPart_none];refine Ã (Ã ?_);have step:PE X (.UnaryOp .USub (.Constant (.int 1) 0 p4) p3) (Pc (rU λi=>.int (-i)) (tC (.int 1))):=Nw Mr Mp;rw[evalPart_some];refine aO (step Y T σ U (λy W=>y=.int (-1)/\W=U) S ⟨1,rfl,rfl,rfl⟩) λu Z ⟨J,W,N,M,e1,e2⟩=>?_;subst e1 e2;obtain⟨V,rfl⟩:=M
 have L:Inv X Y σ W { Z with heap:=Z.heap.push { cls:=.type "slice",data:=.fields #[.none,.none,.int (-1) V] } }:=N.kept (t':=Z.toks) λb G q=>Á _ q
 have K:Heap.IsSlice (Z.heap.push { cls:=.type "slice",data:=.fields #[.none,.none,.int (-1) V] }) Z.heap.objs.size ϋ ϋ (ϊ (-1,V)):=Heap.IsSliceOf.new ..;exact tail_any (ops:=[.str y t,.ref Z.heap.objs.size]) (adL _ y t) F.slot_str_getitem.lookup (wpAny_getItem_str_slice K rfl (made_str L rfl O q)) (by with_unfolding_all rfl)
def rUp:V->List V->Hp->VK->Prop:=λx Z H Q=>∃y,x=.str y/\Z=[]/\y.length<=5592405/\((aei y).length<=3*y.length->Q (.str (aei y)) H)
def VI:ra X "str.upper" rUp:=by
 intro U s σ H x T v S Q I Z Y h;obtain⟨y,rfl,rfl,W,q⟩:=h;obtain⟨t,rfl⟩:=Z;cases Y;exact SCL.upper W λV=>⟨.str _,H,I.tok _,⟨_,rfl⟩,q V⟩
def aa5:R2:=λx y H Q=>∃a n,x=.str a/\y=.int n/\MulOk a n/\Q (.str (adS a n)) H
def Xj:bM X (ņ .Mult) aa5:=by
 intro V s σ H x y v u Q I Z Y h;obtain⟨a,n,rfl,rfl,W,q⟩:=h;obtain⟨t,rfl⟩:=Z;obtain⟨U,rfl⟩:=Y;exact SB.mul W λT k=>⟨.str _,H,I.tok _,⟨_,rfl⟩,q⟩
end
end L2
namespace DI
open PySem L2
section
variable {X:Cx} {Ξ:Wd->bg->Prop} {e a b o:ě} {lo hi:Option ě} {p2 p3 p4 pos:Pos} {f g:aez D}
def G8 (d:D) (lo hi:Option Int) (s:ae):Res D:=match d with
 | .str x=>if ώ ((ik 1 x lo hi).length<=Õ)=ό then ok (.str (ik 1 x lo hi)) s else ϋ
 |_=>ϋ
def mE (f:aez D) (l h:aez (Option Int)):aez D:=λenv s=>ai (f env s) λd s=>ai (l env s) λlo s=>ai (h env s) λhi s=>G8 d lo hi s
def Xk:qZ X (λx lo hi H Q=>∃w dx,w.H=H/\aT X.K w/\DV X.K w dx x/\Out X.K Ξ w (G8 dx lo hi w.aJ) λw' d=>∀v,DV X.K w' d v->Q v w'.H):=by
 intro Z s σ H x v Y W lo hi sl Q I V U T pu zzz;obtain⟨w,dx,rfl,S,R,h⟩:=zzz
 cases dx with
 |str y =>
  have e1:x=.str y:=R;subst e1;delta G8 at h;dsimp only at h;split at h
  ·rename_i P
   exact Zo Z s σ w.H _ v Y W lo hi sl Q I V U T pu ⟨y,rfl,æ P,aB S h _ rfl⟩
  ·exact h.elim
 |_=>exact h.elim
def qF (he:PE X e (tE X.K Ξ f)) (hl:PO X lo (tP X.K Ξ fl)) (hu:PO X hi (tP X.K Ξ fh)):PE X (.Subscript e (.Slice lo hi ϋ p2) pos) (tE X.K Ξ (mE f fl fh)) :=
 cm (Ky (Xk (Ξ:=Ξ)) he hl hu) fun σ H Q V=>by
  obtain⟨w,env,U,S,Z,h⟩:=V;subst U;exact⟨w,env,rfl,S,Z,(Out.ai h).mono λT d Y R P v O=>⟨T,env,rfl,R,Z.le Y,(Out.ai P).mono λN i W M L=>⟨N,env,rfl,M,Z.le (Y.trans W),(Out.ai L).mono λJ j I G F=>⟨J,d,rfl,G,(W.trans I) _ _ O,F⟩⟩⟩⟩
def xy (d:D) (s:ae):Res D:=match d with
 | .str x=>if ώ ((ik (-1) x ϋ ϋ).length<=Õ)=ό then ok (.str (ik (-1) x ϋ ϋ)) s else ϋ
 |_=>ϋ
def Zp (he:PE X e (tE X.K Ξ f)):PE X (.Subscript e (.Slice ϋ ϋ (ϊ (.UnaryOp .USub (.Constant (.int 1) 0 p4) p3)) p2) pos) (tE X.K Ξ (e1 xy f)):=cm (Xi he) fun σ H Q Y=>by
 obtain⟨w,env,W,S,V,h⟩:=Y;subst W;refine⟨w,env,rfl,S,V,(Out.ai h).mono λP d O U Z v T=>?_⟩
 cases d with
 |str y =>
  have e1:v=.str y:=T;subst e1;delta xy at Z;dsimp only at Z;split at Z
  ·rename_i R
   exact⟨y,rfl,æ R,aB U Z _ rfl⟩
  ·exact Z.elim
 |_=>exact Z.elim
def A7 (d:D) (s:ae):Res D:=match d with
 | .str x=>if (ώ (x.length<=5592405))=ό then ok (.str (aei x)) s else ϋ
 |_=>ϋ
def Xl {apos ba:Pos} (ho:PE X o (tE X.K Ξ f)) (hV:İ o "upper" X.env (ķ o X.env)=ķ o X.env:=by rfl) (hW:(apos.endLine==ba.line)=ό:=by rfl) :
  PE X (.Call (.Attribute o "upper" apos) [] [] ba) (tE X.K Ξ (e1 A7 f)) :=
 cm (Mw adK PySem.F.slot_str_upper PySem.F.type_str_upper VI ho hV hW) fun σ H Q Y=>by
  obtain⟨w,env,W,S,V,h⟩:=Y;subst W;refine⟨w,env,rfl,S,V,(Out.ai h).mono λP d O U Z v T=>?_⟩
  cases d with
  |str y =>
   have e1:v=.str y:=T;subst e1;delta A7 at Z;dsimp only at Z;split at Z
   ·rename_i R
    exact⟨rfl,y,rfl,rfl,æ R,λ_=>aB U Z _ rfl⟩
   ·exact Z.elim
  |_=>exact Z.elim
open Classical in
def fI (x y:D) (s:ae):Res D:=match x,y with
 | .str a,.int n=>if MulOk a n then ok (.str (adS a n)) s else ϋ
 |_,_=>ϋ
def wx:bM X (ņ .Mult) (rO X.K Ξ fI):=by
 intro Z s σ H x y v u Q I Y W zzz;obtain⟨w,R,P,rfl,S,V,U,h⟩:=zzz;delta fI at h;split at h
 ·rename_i i j
  have e1:x=.str i:=V;have e2:y=.int j:=U;subst e1 e2;split at h
  ·rename_i T
   exact Xj Z s σ w.H _ _ v u Q I Y W ⟨i,j,rfl,rfl,T,aB S h _ rfl⟩
  ·exact h.elim
 ·exact h.elim
def yV (x y:D) (s:ae):Res D:=match x,y with
 | .str a,.str b=>ok (.bl ((ġ b a 0 b.length 1).isEmpty)) s
 |_,_=>ϋ
def VJ:bM X (ĕ .NotIn) (rO X.K Ξ yV):=by
 intro U s σ H x y v u Q I Z Y zzz;obtain⟨w,T,R,rfl,S,W,V,h⟩:=zzz;delta yV at h;split at h
 ·rename_i i j
  have e1:x=.str i:=W;have e2:y=.str j:=V;subst e1 e2;obtain⟨t,rfl⟩:=Z;obtain⟨P,rfl⟩:=Y;refine SB.notContains ⟨.bl _,w.H,I,rfl,?_⟩;have q:=aB S h _ rfl;delta Txt.contains;simpa using q
 ·exact h.elim
end
end DI
namespace DI.cD
open PySem L2 DI
noncomputable section
def bT:List Str:=["NoMould","NoDay","NoSheet","NoPage","NoBook","NoRow","NoDeed","Clash"]
def yW:List D->ae->Res D:=aD 2 3 (aq (bc (aG vA (af (aa 0) (af (aa 1) ah))) (gN 2)) (aq (aM (aV (e2 xr (aa 2) (e2 wL (eC (.int 10)) (eC (.int 18))))) (aA (eNew (af (e2 wI (aa 2) (e2 wL (eC (.int 10)) (eC (.int 18)))) (af (eC (.bl ό)) ah)))) bH) (aA (eNew (af (e2 nF (aa 2) (eC (.int 2147483647))) (af (eC (.bl ύ)) ah))))))
def JE:List D->ae->Res D:=aD 1 2 (aq (bc (fc (af (e1 (ee bT (isNm "NoMarks")) (aa 0)) (af (e1 (ee bT (isNm "NoSheet")) (aa 0)) (af (e1 (ee bT (isNm "NoPage")) (aa 0)) (af (e1 (ee bT (isNm "NoBook")) (aa 0)) ah))))) (gN 1)) (aq (bc (e2 bh (aa 1) (fc (af (e1 (ee bT (isNm "NoMould")) (aa 0)) (af (e1 (ee bT (isNm "NoDay")) (aa 0)) (af (e1 (ee bT (isNm "NoSort")) (aa 0)) (af (e1 (ee bT (isNm "NoNumber")) (aa 0)) ah)))))) (gN 1)) (aq (bc (e2 bh (aa 1) (fc (af (e1 (ee bT (isNm "NoSheets")) (aa 0)) (af (e1 (ee bT (isNm "NoRun")) (aa 0)) (af (e1 (ee bT (isNm "NoLaying")) (aa 0)) (af (e1 (ee bT (isNm "NoHeap")) (aa 0)) ah)))))) (gN 1)) (aq (bc (e2 bh (aa 1) (fc (af (e1 (ee bT (isNm "NoCount")) (aa 0)) (af (e1 (ee bT (isNm "Clash")) (aa 0)) (af (e1 (ee bT (isNm "NoDeed")) (aa 0)) (af (e1 (ee bT (isNm "NoText")) (aa 0)) ah)))))) (gN 1)) (aA (e2 bh (aa 1) (fc (af (e1 (ee bT (isNm "NoRow")) (aa 0)) (af (e1 (ee bT (isNm "TooMany")) (aa 0)) (af (e1 (ee bT (isNm "Lacking")) (aa 0)) ah))))))))))
def vf:List D->ae->Res D:=aD 1 1 (aA (cN (pH lu lu (eC (.int 1)) (eB cI (af (aa 0) ah)) (eC (.int (30)))) (eB mw (af (cL 1 [] (tL (aa 0)) (gN 0) cS (e2 Ek (aa 0) (eC (.str "0123456789")))) ah))))
def yw:List D->ae->Res D:=aD 1 2 (aq (bc (dW jb (aa 0) (eC (.str "/"))) (gN 1)) (aA (cN (e2 aW (eB cI (af (aa 1) ah)) (eC (.int 2))) (eB mw (af (cL 1 [] (cH (aa 1)) (gN 0) cS (lR (e2 aW (aa 0) (eC (.str "-"))) (aG vf (af (aa 0) ah)))) ah)))))
def mW:List D->ae->Res D:=aD 1 1 (aA (cN (aG vf (af (aa 0) ah)) (lR (e2 dZ (e2 ay (aa 0) (eC (.int 0))) (eC (.str "0"))) (e2 aW (aa 0) (eC (.str "0"))))))
def vd:List D->ae->Res D:=aD 1 5 (aq (aM (aV (e2 dZ (eB cI (af (aa 0) ah)) (eC (.int 4)))) (aA (eC (.bl ύ))) bH) (aq (bc (aa 0) (gL [(gN 1),(gN 2),(gN 3),(gN 4)])) (aq (aM (eT (cU (cq (aG mW (af (aa 2) ah)))) (cU (cq (aG mW (af (aa 3) ah))))) (aA (eC (.bl ύ))) bH) (aq (aM (aV (e2 aW (aa 1) (eC (.str "made")))) (aA (aG yw (af (aa 4) ah))) bH) (aA (cN (e2 aW (aa 1) (eC (.str "mended"))) (aG mW (af (aa 4) ah))))))))
def sv:List D->ae->Res D:=aD 1 3 (aq (xt 1 2 (af (e2 ay (aa 0) (eC (.int 0))) (af (gn (aa 0) (cJ (eC (.int 1))) fk) ah))) (aq (aM (aV (e2 aW (aa 1) (eC (.str "out")))) (aA (aG vd (af (aa 2) ah))) bH) (aq (aM (aV (e2 aW (aa 1) (eC (.str "surely")))) (aA (cN (e2 aW (eB cI (af (aa 2) ah)) (eC (.int 2))) (eB mw (af (cL 1 [] (cH (aa 2)) (gN 0) cS (aG mW (af (aa 0) ah))) ah)))) bH) (aq (aM (aV (e2 aW (aa 1) (eC (.str "where")))) (aA (cN (e2 aW (eB cI (af (aa 2) ah)) (eC (.int 1))) (aG yw (af (e2 ay (aa 2) (eC (.int 0))) ah)))) bH) (aq (aM (eT (aV (e2 aW (aa 1) (eC (.str "undo")))) (aV (e2 aW (aa 1) (eC (.str "book"))))) (aA (e2 aW (aa 2) (fc ah))) bH) (aA (aG vd (af (aa 0) ah))))))))
def iM:List D->ae->Res D:=aD 1 1 (aq (aM (eT (cU (cq (eB gR (af (aa 0) (af (eC (.ty "str")) ah))))) (cU (cq (aG sv (af (dW jb (aa 0) (eC (.str " "))) ah))))) (mf "NoRow" (af (eC (.str "a row tells a page, out and a page, undo, book, surely or where")) ah)) bH) (aA (dW jb (aa 0) (eC (.str " ")))))
def rX:List D->ae->Res D:=aD 1 1 (aq (aM (aV (e2 aW (aa 0) (eC (.str "-")))) (aA (cY ah)) bH) (aA (eB md (af (cL 1 [] (tL (aa 0)) (gN 0) cS (eB jK (af (aa 0) ah))) ah))))
def rY:List D->ae->Res D:=aD 1 3 (aq (bc (dW jb (aa 0) (eC (.str "/"))) (gL [(gN 1),(gN 2)])) (aA (cY (af (aG rX (af (aa 1) ah)) (af (aG rX (af (aa 2) ah)) ah)))))
def pV:List D->ae->Res D:=aD 1 6 (aq (bc (aa 0) (gL [(gN 1),(gN 2),(gN 3),(gN 4)])) (aq (bc (uQ (aV (e2 aW (aa 1) (eC (.str "made")))) (aG rY (af (aa 4) ah)) (eB jK (af (aa 4) ah))) (gN 5)) (aA (cY (af (aa 1) (af (eB jK (af (aa 2) ah)) (af (eB jK (af (aa 3) ah)) (af (aa 5) ah))))))))
def vm:List D->ae->Res D:=aD 1 1 (aA (oZ (dW iP (eC (.str "")) (cL 1 [] (cH (aa 0)) (gN 0) cS (eB qQ (af (aa 0) ah)))) (eC (.str "-"))))
def vn:List D->ae->Res D:=aD 1 3 (aq (bc (aa 0) (gT [(gN 1),(gN 2)])) (aA (e2 bh (e2 bh (aG vm (af (aa 1) ah)) (eC (.str "/"))) (aG vm (af (aa 2) ah)))))
def yA:List D->ae->Res D:=aD 1 1 (aA (oZ (dW iP (eC (.str " ")) (cL 3 [] (cH (aa 0)) (gT [gN 0,gN 1,gN 2]) cS (jX [(e1 fM (aa 0)),(eC (.str ",")),(e1 fM (aa 1)),(eC (.str ",")),(e1 fM (aa 2))] χ))) (eC (.str "none"))))
def pR:List D->ae->Res D:=aD 1 1 (aM (cU (cq (aG si (af (aa 0) ah)))) (mf "NoBook" (af (eC (.str "a book is laid pages without faults")) ah)) bH)
def yI:List D->ae->Res D:=aD 1 6 (aq (bc (aa 0) (gT [(gN 1),(gN 2),(gN 3),(gN 4)])) (aq (bc (uQ (aV (e2 aW (aa 1) (eC (.str "made")))) (aG vn (af (aa 4) ah)) (eB qQ (af (aa 4) ah))) (gN 5)) (aA (jX [(e1 fM (aa 1)),(eC (.str " ")),(e1 fM (aa 2)),(eC (.str " ")),(e1 fM (aa 3)),(eC (.str " ")),(e1 fM (aa 5))] χ))))
def vv:List D->ae->Res D:=aD 1 1 (aq (cE (dJ pR (af (aa 0) ah))) (aA (dW iP (eC (.str "")) (cL 1 [] (cH (aa 0)) (gN 0) cS (e2 bh (aG yI (af (aa 0) ah)) (eC (.str "\n")))))))
def yD:List D->ae->Res D:=aD 1 1 (aM (cU (cq (aG rW (af (aa 0) ah)))) (mf "NoMould" (af (eC (.str "a mould is a whole number from 0 to 3")) ah)) bH)
def yN:List D->ae->Res D:=aD 1 1 (aM (cU (cq (aG su (af (aa 0) ah)))) (mf "NoDay" (af (eC (.str "a day is a whole number from 0 to 30")) ah)) bH)
def vJ:List D->ae->Res D:=aD 3 3 (aq (cE (dJ pR (af (aa 0) ah))) (aq (cE (dJ yD (af (aa 1) ah))) (aq (cE (dJ yN (af (aa 2) ah))) (aA (e2 ay (aG rK (af (aa 0) (af (aa 1) ah))) (aa 2))))))
def rL:List D->ae->Res D:=aD 1 1 (aM (cU (cq (aG pS (af (aa 0) ah)))) (mf "NoSheet" (af (eC (.str "a sheet is a tuple of two marks, no mark in both")) ah)) bH)
def vw:List D->ae->Res D:=aD 1 3 (aq (bc (eNew ah) (gN 1)) (aq (lr (iI (af (eB cI (af (aa 0) ah)) ah)) (gN 2) (aM (jg (cq (e2 ay (aa 0) (aa 2))) (jg (aV (e2 Av (aa 2) (eC (.int 0)))) (cq (e2 ay (aa 0) (e2 wI (aa 2) (eC (.int 1))))))) (oV (cY (af (e2 ay (e2 ay (aa 1) (e1 qy (eC (.int 1)))) (eC (.int 0))) (af (aa 2) ah))) (aa 1) (e1 qy (eC (.int 1)))) (aM (cq (e2 ay (aa 0) (aa 2))) (cE (mx (aa 1) (cY (af (aa 2) (af (aa 2) ah))))) bH))) (aA (oS (aa 1)))))
def vY:List D->ae->Res D:=aD 2 2 (aA (cN (aG rM (af (e2 ay (aa 0) (eC (.int (0)))) (af (e2 ay (aa 1) (eC (.int (1)))) ah))) (aG rM (af (e2 ay (aa 0) (eC (.int (1)))) (af (e2 ay (aa 1) (eC (.int (0)))) ah)))))
def rN:List D->ae->Res D:=aD 2 2 (aq (cE (dJ pR (af (aa 0) ah))) (aq (cE (dJ rL (af (aa 1) ah))) (aA (Dp 3 [1,0] (iI (af (eC (.int (4))) ah)) (gN 0) cS (cH (aG vw (af (cL 1 [3] (cH (aG rK (af (aa 4) (af (aa 0) ah)))) (gN 0) cS (aG vY (af (aa 1) (af (aa 0) ah)))) ah))) (gT [gN 1,gN 2]) cS (cY (af (aa 0) (af (aa 1) (af (aa 2) ah))))))))
def kO:List D->ae->Res D:=aD 2 2 (aq (aM (aV (e2 aW (e2 ay (aa 1) (eC (.int 0))) (eC (.str "surely")))) (aA (aG vn (af (dJ vJ (af (aa 0) (af (eB jK (af (e2 ay (aa 1) (eC (.int 1))) ah)) (af (eB jK (af (e2 ay (aa 1) (eC (.int 2))) ah)) ah)))) ah))) bH) (aq (aM (aV (e2 aW (e2 ay (aa 1) (eC (.int 0))) (eC (.str "where")))) (aA (aG yA (af (dJ rN (af (aa 0) (af (aG rY (af (e2 ay (aa 1) (eC (.int 1))) ah)) ah))) ah))) bH) (aA (oZ (dJ vv (af (aa 0) ah)) (eC (.str "-"))))))
def vo:List D->ae->Res D:=aD 1 1 (aq (aM (aV (e2 aW (eB cI (af (e1 (ig "Diary" "books") (aa 0)) ah)) (eC (.int 1)))) (mf "NoDeed" (af (eC (.str "no deed stands")) ah)) bH) (cE (e1 xD (e1 (ig "Diary" "books") (aa 0)))))
def mZ:List D->ae->Res D:=aD 1 1 (aM (cU (cq (aG sh (af (aa 0) ah)))) (mf "NoPage" (af (eC (.str "a page is a tuple of made or mended, a mould, a day, and a sheet or a mark")) ah)) bH)
def lX:List D->ae->Res D:=aD 1 1 (aA (e2 ay (e1 (ig "Diary" "books") (aa 0)) (e1 qy (eC (.int 1)))))
def vp:List D->ae->Res D:=aD 2 2 (aq (aM (cU (cq (aG si (af (aa 1) ah)))) (mf "Clash" (af (eC (.str "no book comes of this deed")) ah)) bH) (cE (mx (e1 (ig "Diary" "books") (aa 0)) (aa 1))))
def rH:List D->ae->Res D:=aD 2 3 (aq (cE (dJ mZ (af (aa 1) ah))) (aq (bc (eR "Diary" "book_now" lX (aa 0) ah) (gN 2)) (aq (aM (aV (e2 fT (aa 1) (aa 2))) (mf "Clash" (af (eC (.str "the page isn't there")) ah)) bH) (cE (eR "Diary" "keep" vp (aa 0) (af (eB md (af (cL 1 [1] (cH (aa 2)) (gN 0) (aV (e2 dZ (aa 0) (aa 1))) (aa 0)) ah)) ah))))))
def oi:List D->ae->Res D:=aD 2 2 (aq (cE (dJ mZ (af (aa 1) ah))) (cE (eR "Diary" "keep" vp (aa 0) (af (eB md (af (eB TK.vX (af (e2 bh (eR "Diary" "book_now" lX (aa 0) ah) (cY (af (aa 1) ah))) ah)) ah)) ah))))
def ifs:aez Fl:=(aM (aV (e2 aW (e2 ay (aa 2) (eC (.int 0))) (eC (.str "undo")))) (cE (eR "Diary" "undo" vo (e1 (ig "Desk" "diary") (aa 0)) ah)) (aM (aV (e2 aW (e2 ay (aa 2) (eC (.int 0))) (eC (.str "out")))) (cE (eR "Diary" "strike" rH (e1 (ig "Desk" "diary") (aa 0)) (af (aG pV (af (gn (aa 2) (cJ (eC (.int 1))) fk) ah)) ah))) (aM (eT (aV (e2 aW (e2 ay (aa 2) (eC (.int 0))) (eC (.str "made")))) (aV (e2 aW (e2 ay (aa 2) (eC (.int 0))) (eC (.str "mended"))))) (cE (eR "Diary" "tell" oi (e1 (ig "Desk" "diary") (aa 0)) (af (aG pV (af (aa 2) ah)) ah))) (aA (dJ kO (af (eR "Diary" "book_now" lX (e1 (ig "Desk" "diary") (aa 0)) ah) (af (aa 2) ah)))))))
def fS:List D->ae->Res D:=aD 2 3 (aq (bc (dJ iM (af (aa 1) ah)) (gN 2)) (aq ifs (aA (eC (.str "ok")))))
def hU (cl:D) (th:ae->Res D):List D->ae->Res D:=aD 1 3 (oG bT "told" (u0 cl th 0) 1 (aq (bc (aG JE (af (aa 1) ah)) (gN 2)) (aq (aM (eT (cU (cq (e1 (ee bT anyS) (aa 1)))) (aV (e2 Ec (e1 Fh (aa 2)) (eC (.int 1))))) (aA (cY (af (eC (.str "other")) (af (eC .au) ah)))) bH) (aq (aM (cq (e2 ay (aa 2) (eC (.int 17)))) (aA (cY (af (eC (.str "many")) (af G4 ah)))) bH) (aq (aM (cq (e2 ay (aa 2) (eC (.int 18)))) (aA (cY (af (eC (.str "lacking")) (af G4 ah)))) bH) (aA (cY (af (eC (.str "refused")) (af (e1 GX (aa 2)) ah)))))))))
def j6:List D->ae->Res D:=aD 2 4 (aq (aM (cq (e2 ay (aa 0) (eC (.int 1)))) (aq (bc (e2 nF (e2 ay (aa 0) (eC (.int 0))) (aa 1)) (gN 2)) (aq (oV (e2 wK (e2 ay (aa 0) (eC (.int 0))) (aa 1)) (aa 0) (eC (.int 0))) (aA (aa 2)))) bH) (aq (oV (e2 nF (e2 bh (e2 jI (e2 ay (aa 0) (eC (.int 0))) (eC (.int 48271))) (eC (.int 29))) (eC (.int 2147483647))) (aa 0) (eC (.int 0))) (aq (bc (e2 nF (e2 bh (e2 bh (e2 jI (e2 ay (aa 0) (eC (.int 0))) (e2 ay (aa 0) (eC (.int 0)))) (e2 jI (eC (.int 39373)) (e2 ay (aa 0) (eC (.int 0))))) (eC (.int 7))) (eC (.int 2147483629))) (gN 3)) (aq (bc (e2 nF (e2 bh (e2 jI (aa 3) (aa 3)) (e2 jI (eC (.int 16807)) (aa 3))) (eC (.int 2147483587))) (gN 3)) (aA (e2 nF (e2 wK (aa 3) (eC (.int 8))) (aa 1)))))))
def yX:List D->ae->Res D:=aD 2 9 (aq (bc (eC (.str " !\"#$&'()*+,-./0123456789:;<=>?@ABCDEFGHIJKLMNOPQRSTUVWXYZ[\\]^_`abcdefghijklmnopqrstuvwxyz{|}~\t\n")) (gN 2)) (aq (bc (e2 bh (aa 2) (e2 fI (eC (.str "0123456789 -/")) (eC (.int 2)))) (gN 2)) (aq (Ay 3 4 5 (af (e2 ay (aa 2) (aG j6 (af (aa 0) (af (eB cI (af (aa 2) ah)) ah)))) (af (aG j6 (af (aa 0) (af (e2 bh (eB cI (af (aa 1) ah)) (eC (.int 1))) ah))) (af (aG j6 (af (aa 0) (af (eC (.int 8)) ah))) ah)))) (aq (bc (dW jb (aa 1) (eC (.str " "))) (gN 6)) (aq (bc (aG j6 (af (aa 0) (af (eB cI (af (aa 6) ah)) ah))) (gN 7)) (aq (aM (aV (e2 kB (aa 5) (eC (.int 2)))) (aA (e2 bh (e2 bh (mE (aa 1) fk (cJ (aa 4))) (aa 3)) (mE (aa 1) (cJ (e2 bh (aa 4) (aa 5))) fk))) bH) (aq (aM (aV (e2 aW (aa 5) (eC (.int 2)))) (aA (e2 bh (mE (aa 1) fk (cJ (aa 4))) (mE (aa 1) (cJ (e2 bh (aa 4) (eC (.int 1)))) fk))) bH) (aq (aM (aV (e2 aW (aa 5) (eC (.int 3)))) (aA (e2 bh (e2 bh (mE (aa 1) fk (cJ (aa 4))) (e1 xy (mE (aa 1) (cJ (aa 4)) (cJ (e2 bh (aa 4) (eC (.int 2))))))) (mE (aa 1) (cJ (e2 bh (aa 4) (eC (.int 2)))) fk))) bH) (aq (aM (aV (e2 aW (aa 5) (eC (.int 4)))) (aA (dW iP (eC (.str " ")) (e2 bh (gn (aa 6) fk (cJ (aa 7))) (gn (aa 6) (cJ (e2 bh (aa 7) (eC (.int 1)))) fk)))) bH) (aq (aM (aV (e2 aW (aa 5) (eC (.int 5)))) (aA (dW iP (eC (.str " ")) (e2 bh (e2 bh (gn (aa 6) fk (cJ (aa 7))) (gn (aa 6) (cJ (aa 7)) (cJ (e2 bh (aa 7) (eC (.int 1)))))) (gn (aa 6) (cJ (aa 7)) fk)))) bH) (aq (aM (aV (e2 aW (aa 5) (eC (.int 6)))) (aq (bc (fc (af (e2 fI (eC (.str "9")) (eC (.int 30))) (af (e2 bh (eC (.str "1")) (e2 fI (eC (.str "0")) (eC (.int 30)))) (af (eC (.str "-0")) (af (eC (.str "07")) (af (eC (.str "+1")) (af (eC (.str "")) (af (eC (.str "-")) (af (eC (.str "0/1")) (af (eC (.str "0/")) (af (eC (.str "/")) (af (eC (.str "0/1/2")) ah)))))))))))) (gN 8)) (aq (bc (e2 bh (aa 8) (fc (af (e2 bh (e2 fI (eC (.str "7")) (eC (.int 31))) (eC (.str "/-"))) (af (e2 bh (eC (.str "-/")) (e2 fI (eC (.str "0")) (eC (.int 30)))) ah)))) (gN 8)) (aA (dW iP (eC (.str " ")) (e2 bh (e2 bh (gn (aa 6) fk (cJ (aa 7))) (fc (af (e2 ay (aa 8) (aG j6 (af (aa 0) (af (eC (.int 13)) ah)))) ah))) (gn (aa 6) (cJ (e2 bh (aa 7) (eC (.int 1)))) fk)))))) bH) (aA (e2 ay (fc (af (e2 bh (aa 1) (eC (.str " 1"))) (af (e2 bh (eC (.str " ")) (aa 1)) (af (e2 bh (aa 1) (eC (.str " "))) (af (e2 bh (aa 1) (eC (.str "\n"))) (af (e1 A7 (aa 1)) (af (eC (.str "")) (af (eC (.str "out")) (af (e2 bh (eC (.str "out ")) (aa 1)) ah))))))))) (aG j6 (af (aa 0) (af (eC (.int 8)) ah))))))))))))))))
def yJ:List D->ae->Res D:=aD 1 2 (aq (bc (eC (.lst [.str "made 0 3 01/2",.str "made 1 30 -/-",.str "mended 0 4 1",.str "out made 0 1 0/1",.str "out mended 0 2 0",.str "undo",.str "book"])) (gN 1)) (aq (bc (e2 bh (aa 1) (fc (af (eC (.str "surely 0 2")) (af (eC (.str "surely 3 30")) (af (eC (.str "where 0/-")) (af (eC (.str "where -/1")) (af (eC (.str "made 2 0 -/07")) (af (eC (.str "out made 0 1 -/-")) ah)))))))) (gN 1)) (aA (e2 ay (aa 1) (aG j6 (af (aa 0) (af (eC (.int 13)) ah)))))))
def yO:List D->ae->Res D:=aD 1 1 (aA (cN (pH lu lu (eC (.int 1)) (eB cI (af (aa 0) ah)) (eC (.int 30))) (e2 aW (cL 1 [] (tL (aa 0)) (gN 0) (aV (e2 yV (aa 0) (eC (.str "0123456789")))) (aa 0)) (fc ah))))
def yK:List D->ae->Res D:=aD 1 2 (aq (bc (dW jb (aa 0) (eC (.str "/"))) (gN 1)) (aA (cN (e2 aW (eB cI (af (aa 1) ah)) (eC (.int 2))) (e2 fT (eC (.bl ύ)) (cL 1 [] (cH (aa 1)) (gN 0) cS (lR (e2 aW (aa 0) (eC (.str "-"))) (aG yO (af (aa 0) ah))))))))
def lY:List D->ae->Res D:=aD 1 1 (aA (cN (aG yO (af (aa 0) ah)) (lR (e2 dZ (e2 ay (aa 0) (eC (.int 0))) (eC (.str "0"))) (e2 aW (aa 0) (eC (.str "0"))))))
def G9:aez Fl:=(aq (aM (eT (aV (e2 dZ (eB cI (af (aa 1) ah)) (eC (.int 4)))) (eT (cU (cq (aG lY (af (e2 ay (aa 1) (eC (.int 1))) ah)))) (cU (cq (aG lY (af (e2 ay (aa 1) (eC (.int 2))) ah)))))) (aA (eC (.bl ύ))) bH) (aA (uQ (aV (e2 aW (e2 ay (aa 1) (eC (.int 0))) (eC (.str "made")))) (aG yK (af (e2 ay (aa 1) (eC (.int 3))) ah)) (aG lY (af (e2 ay (aa 1) (eC (.int 3))) ah)))))
def yQ:List D->ae->Res D:=aD 1 2 (aq (bc (dW jb (aa 0) (eC (.str " "))) (gN 1)) (aq (aM (aV (e2 aW (e2 ay (aa 1) (eC (.int 0))) (eC (.str "out")))) (aq (bc (gn (aa 1) (cJ (eC (.int 1))) fk) (gN 1)) (aM (eT (aV (e2 aW (aa 1) (fc ah))) (aV (e2 fT (e2 ay (aa 1) (eC (.int 0))) (cY (af (eC (.str "made")) (af (eC (.str "mended")) ah)))))) (aA (eC (.bl ύ))) bH)) bH) (aq (aM (aV (e2 fe (e2 ay (aa 1) (eC (.int 0))) (cY (af (eC (.str "made")) (af (eC (.str "mended")) ah))))) G9 bH) (aq (aM (aV (e2 aW (e2 ay (aa 1) (eC (.int 0))) (eC (.str "surely")))) (aA (cN (e2 aW (eB cI (af (aa 1) ah)) (eC (.int 3))) (cN (aG lY (af (e2 ay (aa 1) (eC (.int 1))) ah)) (aG lY (af (e2 ay (aa 1) (eC (.int 2))) ah))))) bH) (aq (aM (aV (e2 aW (e2 ay (aa 1) (eC (.int 0))) (eC (.str "where")))) (aA (cN (e2 aW (eB cI (af (aa 1) ah)) (eC (.int 2))) (aG yK (af (e2 ay (aa 1) (eC (.int 1))) ah)))) bH) (aA (e2 fe (aa 0) (cY (af (eC (.str "undo")) (af (eC (.str "book")) ah))))))))))
def vq:List D->ae->Res D:=aD 1 1 (qD "Diary" "books" (eNew (af (cY ah) ah)) (aa 0))
def rP:List D->ae->Res D:=aD 1 1 (qD "Desk" "diary" (oI "Diary" vq) (aa 0))
def Dy:aez Fl:=(cE (oy "Desk" "say" fS (aa 3) (af (aa 5) ah)))
def Em:aez Fl:=(aq (aM (eT (aV (e2 dZ (e2 aW (aa 8) (cY (af (eC (.str "refused")) (af (eC (.int 16)) ah)))) (t6 (aG yQ (af (aa 5) ah))))) (aV (e2 aW (e2 ay (aa 8) (eC (.int 0))) (eC (.str "other"))))) (aA (eC (.bl ύ))) bH) (aM (jg (aV (e2 dZ (e2 ay (aa 8) (eC (.int 0))) (eC (.str "told")))) (aV (e2 dZ (oy "Desk" "say" fS (aa 3) (af (eC (.str "book")) ah)) (aa 7)))) (aA (eC (.bl ύ))) bH))
def Dz:aez Fl:=(aq (bc (cY (af (aG yX (af (aa 2) (af (aG yJ (af (aa 2) ah)) ah))) (af (oy "Desk" "say" fS (aa 3) (af (eC (.str "book")) ah)) ah))) (gT [(gN 5),(gN 7)])) (aq (bc (mC "law" [5,3] (eR "Desk" "say" fS (aa 1) (af (aa 0) ah)) hU) (gN 8)) Em))
def DA:aez Fl:=(aM (aV (e2 dZ (mC "law" [9,3] (eR "Desk" "say" fS (aa 1) (af (aa 0) ah)) hU) (cY (af (eC (.str "refused")) (af (eC (.int 16)) ah))))) (aA (eC (.bl ύ))) bH)
def DB:aez Fl:=(aq (bc (aG yW (af (aa 0) (af (aa 1) ah))) (gN 2)) (aq (bc (cY (af (oI "Desk" rP) (af (oI "Desk" rP) ah))) (gT [(gN 3),(gN 4)])) (aq (lr (cH (fc (af (eC (.str "made 0 1 0/1")) (af (eC (.str "mended 0 2 0")) (af (eC (.str "made 0 3 1/0")) ah))))) (gN 5) Dy) (aq (lr (iI (af (eC (.int 20)) ah)) (gN 6) Dz) (aq (lr (cH (fc (af (eC .au) (af (eC (.int 0)) (af (fc (af (eC (.str "book")) ah)) (af (cY (af (eC (.str "book")) ah)) (af (eC (.bl ό)) (af (eC (.cy [])) ah)))))))) (gN 9) DA) (aM (aV (e2 dZ (oy "Desk" "say" fS (aa 4) (af (eC (.str "book")) ah)) (eC (.str "-")))) (aA (eC (.bl ύ))) bH))))))
def Aa:List D->ae->Res D:=aD 1 10 (aq (lr (iI (af (eB wN (af (eC (.int 1)) (af (eB wO (af (eB cI (af (aa 0) ah)) (af (eC (.int 2)) ah))) ah))) ah)) (gN 1) DB) (aA (eC (.bl ό))))
end
end DI.cD
namespace DI
open PySem L2
def Wp {α:Type} (r:Res α) (Q:α->ae->Prop):Prop:=∃a s,r=ϊ (.ok a,s)/\Q a s
section
variable {α β:Type} {r:Res α} {k:α->ae->Res β} {Q Q':α->ae->Prop} {R:β->ae->Prop} {env:Env} {s:ae}
theorem Wp.ok {a:α} (h:Q a s):Wp (DI.ok a s) Q:=⟨a,s,rfl,h⟩
def Wp.mono (h:Wp r Q) (i:∀a s,Q a s->Q' a s):Wp r Q':=by
 obtain⟨a,s,e,q⟩:=h;exact⟨a,s,e,i a s q⟩
theorem Wp.ai (h:Wp r λa s=>Wp (k a s) R):Wp (DI.ai r k) R:=by
 obtain⟨a,s,e,b,Z,Y,q⟩:=h;exact⟨b,Z,by rw[e];exact Y,q⟩
theorem Wp.ne (h:Wp r Q):Wp (DI.ne r) Q:=by
 obtain⟨a,s,e,q⟩:=h;exact⟨a,s,by rw[e];rfl,q⟩
def aeA (e:r=ϊ (.ok a,s)) (h:Q a s):Wp r Q:=⟨a,s,e,h⟩
def Wp.seq {f g:aez Fl} {Q:Fl->ae->Prop} (h:Wp (f env s) λfl s=>match fl with
  | .nx env=>Wp (g env s) Q
  |fl=>Q fl s):Wp (aq f g env s) Q:=by
 obtain⟨fl,Z,e,h⟩:=h;delta aq;rw[e]
 cases fl with
 |nx env=>exact h
 |rt d=>exact⟨_,_,rfl,h⟩
 |bk e=>exact⟨_,_,rfl,h⟩
 |ct e=>exact⟨_,_,rfl,h⟩
def Wp.qR {Q:Fl->ae->Prop} (I:Nat->Env->ae->Prop) (all:List D) (h0:I 0 env s)
 (step:∀i d env s,all[i]?=ϊ d->I i env s->∃env',g d env=ϊ env'/\Wp (b env' s) λfl s=>match fl with
   | .nx e=>I (i+1) e s
   | .ct e=>I (i+1) e s
   | .bk e=>Q (.nx e) s
   | .rt d=>Q (.rt d) s) (fin:∀env s,I all.length env s->Q (.nx env) s):Wp (ml g b all env s) Q:=by
 have key:∀(Z:List D) (i:Nat) (env:Env) (s:ae),all.drop i=Z->i<=all.length->I i env s->Wp (ml g b Z env s) Q:=by
  intro Z
  induction Z with
  |nil =>
   intro i env s Y U h;have e:i=all.length:=by
    have:=Ń List.length Y;simp at this;omega
   subst e;exact Wp.ok (fin _ _ h)
  |cons d Z ih =>
   intro i env s Y U h;have X:all[i]?=ϊ d:=by
    have:=Ń (λl=>l[0]?) Y;simpa using this
   have W:all.drop (i+1)=Z:=by
    have:=Ń (List.drop 1) Y;simpa [List.drop_drop] using this
   obtain⟨env',T,S⟩:=step i d env s X h;have V:=(Ô.mp X).1;delta ml;rw[T];refine Wp.ai (S.mono λfl s q=>?_)
   cases fl with
   |nx e=>exact ih (i+1) e s W V q
   |ct e=>exact ih (i+1) e s W V q
   |bk e=>exact Wp.ok q
   |rt d=>exact Wp.ok q
 exact key all 0 env s rfl (Ē _) h0
def Xm {nt:Nat} {t:aez Bool} {Q:List D->ae->Prop} (I:Nat->List D->ae->Prop) (all:List D) (h0:I 0 [] s)
 (step:∀i d acc s,all[i]?=ϊ d->I i acc s->∃env,g d (Ö nt ϋ++caps)=ϊ env/\Wp (t env s) λb s=>if b=ό then Wp (f env s) λx s=>I (i+1) (acc++[x]) s else I (i+1) acc s)
 (fin:∀acc s,I all.length acc s->Q acc s):Wp (iC nt caps g t f all s) Q:=by
 have key:∀(Z:List D) (i:Nat) (acc:List D) (s:ae),all.drop i=Z->i<=all.length->I i acc s->Wp (iC nt caps g t f Z s) λX s=>Q (acc++X) s:=by
  intro Z
  induction Z with
  |nil =>
   intro i acc s Y S h;have e:i=all.length:=by
    have:=Ń List.length Y;simp at this;omega
   subst e;exact Wp.ok (by rw[ĥ];exact fin _ _ h)
  |cons d Z ih =>
   intro i acc s Y S h;have W:all[i]?=ϊ d:=by
    have:=Ń (λl=>l[0]?) Y;simpa using this
   have V:all.drop (i+1)=Z:=by
    have:=Ń (List.drop 1) Y;simpa [List.drop_drop] using this
   obtain⟨U,R,P⟩:=step i d acc s W h;have T:=(Ô.mp W).1;delta iC;rw[R];refine Wp.ai (Wp.ne (P.mono λb s q=>?_))
   cases b with
   |true =>
    rw[Ñ rfl] at q |-;refine Wp.ai (Wp.ne (q.mono λx s q=>?_));refine Wp.ai ((ih (i+1) (acc++[x]) s V T q).mono λX s q=>Wp.ok ?_);rw[Ĳ] at q;exact q
   |false =>
    rw[Ú Ä] at q |-;exact ih (i+1) acc s V T q
 have:=key all 0 [] s rfl (Ē _) h0;simpa using this
end
section
variable {α β:Type} {Q:D->ae->Prop} {QL:List D->ae->Prop} {QB:Bool->ae->Prop} {QF:Fl->ae->Prop} {QO:Option Int->ae->Prop} {env:Env} {s:ae} {f g h:aez D} {fa:aez (List D)} {c c':aez Bool} {st cf:aez Fl} {o o':D->D->ae->Res D} {u:D->ae->Res D} {bf:List D->ae->Res D}
def bF {a:α} {Q:α->ae->Prop}:Wp (ok a s) Q=Q a s:=propext ⟨λ⟨b,Z,e,q⟩=>by cases e;exact q,λq=>⟨a,s,rfl,q⟩⟩
def Zq {Q:α->ae->Prop}:Wp (ϊ (Except.ok a,s)) Q=Q a s:=bF
def bP {r:Res α} {k:α->ae->Res β} {R:β->ae->Prop}:Wp (ai r k) R=Wp r λa s=>Wp (k a s) R:=propext ⟨λ⟨b,Z,e,q⟩=>by
 obtain⟨a,s,e1,e2⟩:=sm e;exact⟨a,s,e1,b,Z,e2,q⟩,λh=>Wp.ai h⟩
def Ab {Q:α->ae->Prop}:Wp (ne r) Q=Wp r Q:=propext ⟨λ⟨b,Z,e,q⟩=>⟨b,Z,CF e,q⟩,λh=>h.ne⟩
def aR {a:D} {r:Env}:Wp (aa 0 (ϊ a::r) s) Q=Q a s:=by rw[show aa 0 (ϊ a::r) s=ok a s from rfl,bF]
def bx {i:Nat} {a:Option D} {r:Env}:Wp (aa (i+1) (a::r) s) Q=Wp (aa i r s) Q:=by rw[show aa (i+1) (a::r) s=aa i r s from rfl]
def bA:Wp (eC d env s) Q=Q d s:=by rw[show eC d env s=ok d s from rfl,bF]
def oJ:Wp (e1 u f env s) Q=Wp (f env s) λx s=>Wp (u x s) Q:=by delta e1;rw[bP]
def bj:Wp (e2 o f g env s) Q=Wp (f env s) λx s=>Wp (g env s) λy s=>Wp (o x y s) Q:=by delta e2;erw[bP]
def aP:Wp (ah env s) QL=QL [] s:=by delta ah;rw[bF]
def aL:Wp (af f fa env s) QL=Wp (f env s) λx s=>Wp (fa env s) λxs s=>QL (x::xs) s:=by delta af;erw[bP,bF]
def c8:Wp (eB bf fa env s) Q=Wp (fa env s) λds s=>Wp (bf ds s) Q:=by delta eB;rw[bP]
def wp_call:Wp (aG fn fa env s) Q=Wp (fa env s) λds s=>Wp (fn ds s) Q:=by delta aG;erw[bP,Ab]
def vK {Q:α->ae->Prop}:Wp (jf ds r) Q=(ds.length<=Õ/\Wp r Q):=propext ⟨λ⟨b,Z,e,q⟩=>by
 delta jf at e;split at e
 ·exact⟨by assumption,b,Z,e,q⟩
 ·(cases e),λ⟨Y,b,Z,e,q⟩=>⟨b,Z,by delta jf;rw[Ñ Y];exact e,q⟩⟩
def iD:Wp (cY fa env s) Q=Wp (fa env s) λds s=>ds.length<=Õ/\Q (.tup ds) s:=by delta cY;erw[bP,vK,bF]
def j9:Wp (fc fa env s) Q=Wp (fa env s) λds s=>ds.length<=Õ/\Q (.lst ds) s:=by delta fc;erw[bP,vK,bF]
def DC:Wp (eNew fa env s) Q=Wp (fa env s) λds s=>ds.length<=Õ/\Q (.aj s.length) (s++[.lst ds]):=by delta eNew;erw[bP,vK,bF]
def MX:Wp (oS f env s) Q=Wp (f env s) λd s=>Wp (bo d s) Q:=by delta oS;rw[bP]
def eJ:Wp (aV f env s) QB=Wp (f env s) λd s=>Wp (iT d s) QB:=by delta aV;rw[bP]
def cB {b:Bool}:Wp (iT (.bl b) s) QB=QB b s:=by rw[show iT (.bl b) s=ok b s from rfl,bF]
def qm:Wp (cq f env s) QB=Wp (f env s) λd s=>Wp (truth d s) QB:=by delta cq;rw[bP]
def kT {b:Bool}:Wp (truth (.bl b) s) QB=QB b s:=by rw[show truth (.bl b) s=ok b s from rfl,bF]
def CK:Wp (jg c c' env s) QB=Wp (c env s) λb s=>if b=ό then Wp (c' env s) QB else QB ύ s:=by
 delta jg;rw[bP];congr 1;funext b s
 cases b<;>simp[bF]
def kc:Wp (eT c c' env s) QB=Wp (c env s) λb s=>if b=ό then QB ό s else Wp (c' env s) QB:=by
 delta eT;rw[bP];congr 1;funext b s
 cases b<;>simp[bF]
def vZ:Wp (cU c env s) QB=Wp (c env s) λb s=>QB (!b) s:=by delta cU;erw[bP,bF]
def kU:Wp (cN f g env s) Q=Wp (f env s) λx s=>Wp (iT x s) λb s=>if b=ό then Wp (g env s) Q else Q (.bl ύ) s:=by
 delta cN;rw[bP];congr 1;funext x s;rw[bP];congr 1;funext b s
 cases b<;>simp[bF]
def DD:Wp (lR f g env s) Q=Wp (f env s) λx s=>Wp (iT x s) λb s=>if b=ό then Q (.bl ό) s else Wp (g env s) Q:=by
 delta lR;rw[bP];congr 1;funext x s;rw[bP];congr 1;funext b s
 cases b<;>simp[bF]
def LQ:Wp (t6 f env s) Q=Wp (f env s) λx s=>Wp (iT x s) λb s=>Q (.bl (!b)) s:=by delta t6;erw[bP,bF]
def sS:Wp (uQ c f g env s) Q=Wp (c env s) λb s=>if b=ό then Wp (f env s) Q else Wp (g env s) Q:=by
 delta uQ;rw[bP];congr 1;funext b s
 cases b<;>simp
def MY:Wp (pH o o' f g h env s) Q=Wp (f env s) λx s=>Wp (g env s) λy s=>Wp (o x y s) λz s=>Wp (iT z s) λb s=>if b=ό then Wp (h env s) λu s=>Wp (o' y u s) Q else Q (.bl ύ) s:=by
 delta pH;erw[bP];congr 1;funext x s;congr 1;funext y s;congr 1;funext z s;congr 1;funext b s
 cases b<;>simp[bF,bP]
def dD:Wp (bH env s) QF=QF (.nx env) s:=by delta bH;rw[bF]
def bW:Wp (aA f env s) QF=Wp (f env s) λd s=>QF (.rt d) s:=by delta aA;erw[bP,bF]
def pW:Wp (cE f env s) QF=Wp (f env s) λ_ s=>QF (.nx env) s:=by delta cE;erw[bP,bF]
def VL:Wp (NF env s) QF=QF (.ct env) s:=by delta NF;rw[bF]
def fE (st:aez Fl) (Q:Fl->ae->Prop):Fl->ae->Prop:=λfl s=>match fl with
 | .nx env=>Wp (st env s) Q
 |fl=>Q fl s
def oq:Wp (aq st cf env s) QF=Wp (st env s) (fE cf QF):=propext ⟨λh=>by
 delta aq at h;rw[bP] at h;refine h.mono λZ s q=>?_
 cases Z with
 |nx e=>exact q
 |rt d=>have q:Wp (ok (Fl.rt d) s) QF:=q;rw[bF] at q;exact q
 |bk d=>have q:Wp (ok (Fl.bk d) s) QF:=q;rw[bF] at q;exact q
 |ct d=>have q:Wp (ok (Fl.ct d) s) QF:=q;rw[bF] at q;exact q,λh=>Wp.seq (h.mono λZ s q=>by cases Z<;>exact q)⟩
def aeC (h:∀R,R=cf->Wp (st env s) (fE R QF)):Wp (aq st cf env s) QF:=by rw[oq];exact h _ rfl
def bz:fE st QF (.nx env) s=Wp (st env s) QF:=rfl
def ke:fE st QF (.rt d) s=QF (.rt d) s:=rfl
def Zr:fE st QF (.ct env) s=QF (.ct env) s:=rfl
def oz:Wp (aM c st cf env s) QF=Wp (c env s) λb s=>if b=ό then Wp (st env s) QF else Wp (cf env s) QF:=by
 delta aM;rw[bP];congr 1;funext b s
 cases b<;>simp
def eG {gd:D->Env->Option Env}:Wp (bc f gd env s) QF=Wp (f env s) λd s=>∃e,gd d env=ϊ e/\QF (.nx e) s:=by
 delta bc;rw[bP];congr 1;funext d s
 cases h:gd d env with
 |none=>exact propext ⟨λ⟨_,_,e,_⟩=>(by cases e),λ⟨_,e,_⟩=>(by cases e)⟩
 |some e=>rw[bF];exact propext ⟨λq=>⟨e,rfl,q⟩,λ⟨Z,z,q⟩=>by cases z;exact q⟩
def gb {i:Nat} {P:Env->Prop}:(∃e,gN i d env=ϊ e/\P e)=P (env.set i (ϊ d)):=propext ⟨λ⟨e,z,q⟩=>by cases z;exact q,λq=>⟨_,rfl,q⟩⟩
def aa6 {P:Env->Prop}:(∃e,gT gs (.tup ds) env=ϊ e/\P e)=∃e,gQ gs ds env=ϊ e/\P e:=rfl
def Xn {P:Env->Prop}:(∃e,gQ [] [] env=ϊ e/\P e)=P env:=propext ⟨λ⟨e,z,q⟩=>by cases z;exact q,λq=>⟨_,rfl,q⟩⟩
def VM {i:Nat} {P:Env->Prop}:(∃e,gQ (gN i::gs) (d::ds) env=ϊ e/\P e)=∃e,gQ gs ds (env.set i (ϊ d))=ϊ e/\P e:=rfl
def LR {i j:Nat}:Wp (xt i j fa env s) QF=Wp (fa env s) λds s=>∃x y,ds=[x,y]/\QF (.nx ((env.set i (ϊ x)).set j (ϊ y))) s:=by
 delta xt;rw[bP];congr 1;funext ds s
 match ds with
 | [x,y] =>
  show Wp (ok (Fl.nx ((env.set i (ϊ x)).set j (ϊ y))) s) QF=_;rw[bF];exact propext ⟨λq=>⟨x,y,rfl,q⟩,λ⟨Z,Y,e,q⟩=>by cases e;exact q⟩
 | []=>exact propext ⟨λ⟨_,_,e,_⟩=>(by cases e),λ⟨_,_,e,_⟩=>(by cases e)⟩
 | [_]=>exact propext ⟨λ⟨_,_,e,_⟩=>(by cases e),λ⟨_,_,e,_⟩=>(by cases e)⟩
 |_::_::_::_=>exact propext ⟨λ⟨_,_,e,_⟩=>(by cases e),λ⟨_,_,e,_⟩=>(by cases e)⟩
def Zs {P:D->D->Prop}:(∃x' y',[x,y]=[x',y']/\P x' y')=P x y:=propext ⟨λ⟨_,_,e,q⟩=>by cases e;exact q,λq=>⟨x,y,rfl,q⟩⟩
def sH:Wp (lr it gd st env s) QF=Wp (it env s) λds s=>Wp (ml gd st ds env s) QF:=by delta lr;rw[bP]
def LS {fo fi:aez D}:Wp (oV f fo fi env s) QF=Wp (f env s) λx s=>Wp (fo env s) λd s=>Wp (fi env s) λn s=>∃s',my d n x s=ϊ s'/\QF (.nx env) s':=by
 delta oV;erw[bP];congr 1;funext x s;congr 1;funext d s;congr 1;funext n s
 cases h:my d n x s with
 |none=>exact propext ⟨λ⟨_,_,e,_⟩=>(by cases e),λ⟨_,e,_⟩=>(by cases e)⟩
 |some e=>erw[bF];exact propext ⟨λq=>⟨e,rfl,q⟩,λ⟨Z,z,q⟩=>by cases z;exact q⟩
def MZ:Wp (mx f g env s) Q=Wp (f env s) λd s=>lD d s=ό/\Wp (g env s) λx s=>Wp (lC d x s) Q:=by
 delta mx;rw[bP];congr 1;funext d s
 cases h:lD d s with
 |true=>rw[Ñ rfl,bP];simp
 |false=>rw[Ú Ä];exact propext ⟨λ⟨_,_,e,_⟩=>(by cases e),λ⟨e,_⟩=>(by cases e)⟩
def o7 (Q:D->ae->Prop):Fl->ae->Prop:=λZ s=>match Z with
 | .rt d=>Q d s
 | .nx _=>Q .au s
 |_=>False
def dO:Wp (aD np ns st ds s) Q=(ds.length=np/\Wp (st (ds.map ϊ++Ö (ns-np) ϋ) s) (o7 Q)):=by
 delta aD;by_cases h:ds.length=np
 ·rw[Ñ h,bP]
  refine propext ⟨λq=>⟨h,q.mono λZ s q=>?_⟩,λ⟨_,q⟩=>q.mono λZ s q=>?_⟩
  ·cases Z with
   |rt d=>exact(show Wp (ok d s) Q from q) |> λz=>by rw[bF] at z;exact z
   |nx e=>exact(show Wp (ok D.au s) Q from q) |> λz=>by rw[bF] at z;exact z
   |bk e=>obtain⟨_,_,e,_⟩:=q;cases e
   |ct e=>obtain⟨_,_,e,_⟩:=q;cases e
  ·cases Z with
   |rt d=>exact Wp.ok q
   |nx e=>exact Wp.ok q
   |bk e=>exact q.elim
   |ct e=>exact q.elim
 ·rw[Ú h]
  exact propext ⟨λ⟨_,_,e,_⟩=>(by cases e),λ⟨e,_⟩=>absurd e h⟩
def jE:o7 Q (.rt d) s=Q d s:=rfl
def Zt:o7 Q (.nx env) s=Q .au s:=rfl
def jB:Wp (cL nt cap it gd c f env s) Q=Wp (it env s) λds s=>ds.length<=Õ/\Wp (iC nt (iO cap env) gd c f ds s) λxs s=>Q (.lst xs) s:=by
 delta cL;erw[bP,vK,bF]
def Ad:Wp (gn f l' h' env s) Q=Wp (f env s) λd s=>Wp (l' env s) λlo s=>Wp (h' env s) λhi s=>Wp (qk d lo hi s) Q:=by delta gn;erw[bP]
def zH:Wp (fk env s) QO=QO ϋ s:=by delta fk;rw[bF]
def LU {i:Int} (hi:f env s=ok (.int i) s):Wp (cJ f env s) QO=QO (ϊ i) s:=by delta cJ;rw[hi,bU,bF]
end
open DI.cD
def Xo {cl:D} {th:ae->Res D} {r:Env} {s:ae}:u0 cl th 0 (ϊ cl::r) s=th s:=Ñ rfl
def N4 (b:aez Fl) (cl:D) (r:Res D) (s:ae):Res D:=ai (oG bT "told" (λ_ _=>r) 1 b [ϊ cl,ϋ,ϋ] s) λZ s=>match Z with
 | .rt d=>ok d s
 | .nx _=>ok .au s
 |_=>ϋ
def sI {cl:D} {th:ae->Res D} {s:ae} {b:aez Fl}:aD 1 3 (oG bT "told" (u0 cl th 0) 1 b) [cl] s=N4 b cl (th s) s:=by
 show ai (oG bT "told" (u0 cl th 0) 1 b [ϊ cl,ϋ,ϋ] s) _=_;delta oG;rw[Xo];rfl
def DE {cl d:D} {th:ae->Res D} {s s':ae} (h:th s=ϊ (.ok d,s')):hU cl th [cl] s=ok (.tup [.str "told",d]) s':=by
 delta hU;rw[sI,h];rfl
def eI {cl:D} {th:ae->Res D} {s s':ae} {m:Option Int} {c:Str} {n:Int} (hc:c="NoMould"/\n=4\/c="NoDay"/\n=5\/c="NoSheet"/\n=1\/c="NoPage"/\n=2\/c="NoBook"/\n=3\/c="NoRow"/\n=16\/c="NoDeed"/\n=14\/c="Clash"/\n=13) (h:th s=ϊ (.error ⟨c,m⟩,s')):hU cl th [cl] s=ok (.tup [.str "refused",.int n]) s':=by
 rcases hc with ⟨rfl,rfl⟩ | ⟨rfl,rfl⟩ | ⟨rfl,rfl⟩ | ⟨rfl,rfl⟩ | ⟨rfl,rfl⟩ | ⟨rfl,rfl⟩ | ⟨rfl,rfl⟩ | ⟨rfl,rfl⟩
 all_goals (delta hU;rw[sI,h];kernel_rfl)
def K2 (cl:D) (th:ae->Res D) (s:ae):hU cl th [cl] s=hU .au th [.au] s:=by
 cases h:th s with
 |none=>delta hU;rw[sI,sI,h];rfl
 |some q =>
  obtain⟨q,Y⟩:=q
  cases q with
  |ok d=>rw[DE h,DE h]
  |error x =>
   obtain⟨c,m⟩:=x;by_cases Z:ώ (c∈bT)=ό
   ·rw[Ë] at Z
    have e1:c="NoMould"\/c="NoDay"\/c="NoSheet"\/c="NoPage"\/c="NoBook"\/c="NoRow"\/c="NoDeed"\/c="Clash":=by simpa [bT] using Z
    rcases e1 with rfl|rfl|rfl|rfl|rfl|rfl|rfl|rfl
    ·rw[eI (n:=4) ∅ h,eI (n:=4) ∅ h]
    ·rw[eI (n:=5) ∅ h,eI (n:=5) ∅ h]
    ·rw[eI (n:=1) ∅ h,eI (n:=1) ∅ h]
    ·rw[eI (n:=2) ∅ h,eI (n:=2) ∅ h]
    ·rw[eI (n:=3) ∅ h,eI (n:=3) ∅ h]
    ·rw[eI (n:=16) ∅ h,eI (n:=16) ∅ h]
    ·rw[eI (n:=14) ∅ h,eI (n:=14) ∅ h]
    ·rw[eI (n:=13) ∅ h,eI (n:=13) ∅ h]
   ·delta hU
    rw[sI,sI,h];delta N4 oG;dsimp only;rw[Ú Z,Ú Z]
end DI
namespace DI.cD
open PySem L2 DI
def top (i:Nat):ad2:=PySem.Challenge.pw_twinmoulds_k52_rows_of_a_desk_refused.main.body.getD i (.Pass ⟨0,0,0,0⟩)
def eV (c:ad2) (j:Nat):ad2:=match c with
 | .ClassDef _ _ _ b _ _ _ _ _ _ _=>b.getD j (.Pass ⟨0,0,0,0⟩)
 |_=>.Pass ⟨0,0,0,0⟩
abbrev xF:List Str:=[aeF,"_law_k"]
abbrev OV:List Str:=["_law_e"]
abbrev jO:List Str:=["word"]
abbrev uu:List Str:=["words"]
abbrev Fj:List Str:=["row"]
abbrev Fm:List Str:=["marks"]
abbrev OW:List Str:=["sheet"]
abbrev Fn:List Str:=["places"]
abbrev Fo:List Str:=["things"]
abbrev cx:List Str:=["thing"]
abbrev En:List Str:=["thing","many"]
abbrev Eo:List Str:=["marks","others"]
abbrev Ep:List Str:=["pages","mould","mark","half"]
abbrev wZ:List Str:=["pages","mould","mark"]
abbrev Er:List Str:=["days","day","later"]
abbrev Es:List Str:=["pages"]
abbrev N5:List Str:=["page"]
abbrev Et:List Str:=["book"]
abbrev Ae:List Str:=["book","mould","mark"]
abbrev Eu:List Str:=["days_by_mark","day"]
abbrev N6:List Str:=["book","mould"]
abbrev Ew:List Str:=["book","mould","day"]
abbrev N7:List Str:=["holds"]
abbrev Ey:List Str:=["sheet","sure"]
abbrev Ez:List Str:=["book","sheet"]
abbrev EA:List Str:=["book","words"]
abbrev kj:List Str:=["self"]
abbrev EB:List Str:=["self","pages"]
abbrev w9:List Str:=["self","page"]
abbrev N8:List Str:=["self","row"]
abbrev N9:List Str:=["_law_call"]
abbrev Oa:List Str:=[aeG,"_law_many"]
abbrev Ob:List Str:=[aeG,aeH]
abbrev Oc:List Str:=[aeG]
abbrev oK:List Str:=[aeI]
abbrev Od:List Str:=[aeH]
abbrev Oe:List Str:=[aeF]
structure bq (K:đ) (mg:Str->Option Ç):Prop where
 Qz:mg "ValueError"=ϋ
 sT:mg "all"=ϋ
 M0:mg "any"=ϋ
 Xp:mg "bool"=ϋ
 qo:mg "int"=ϋ
 dI:mg "isinstance"=ϋ
 fV:mg "len"=ϋ
 Zu:mg "max"=ϋ
 Zv:mg "min"=ϋ
 jA:mg "range"=ϋ
 Rw:mg "reversed"=ϋ
 Zw:mg "set"=ϋ
 Kg:mg "sorted"=ϋ
 DF:mg "str"=ϋ
 om:mg "tuple"=ϋ
 Zx:mg "zip"=ϋ
 Sn:fQ K mg bT "NoMarks"
 So:fQ K mg bT "NoSheet"
 TN:fQ K mg bT "NoPage"
 TQ:fQ K mg bT "NoBook"
 Sq:fQ K mg bT "NoMould"
 VN:fQ K mg bT "NoDay"
 TR:fQ K mg bT "NoSort"
 Rx:fQ K mg bT "NoNumber"
 Ry:fQ K mg bT "NoSheets"
 VO:fQ K mg bT "NoRun"
 Rz:fQ K mg bT "NoLaying"
 TU:fQ K mg bT "NoHeap"
 Sr:fQ K mg bT "NoCount"
 VP:fQ K mg bT "Clash"
 TV:fQ K mg bT "NoDeed"
 TX:fQ K mg bT "NoText"
 VQ:fQ K mg bT "NoRow"
 Ss:fQ K mg bT "TooMany"
 Su:fQ K mg bT "Lacking"
 QA:sG K bT (.type "ValueError") anyS
 Sv:mB K mg "NoMould"
 VR:mB K mg "NoDay"
 Sw:mB K mg "NoSheet"
 TY:mB K mg "NoPage"
 TZ:mB K mg "NoBook"
 VS:mB K mg "NoRow"
 T4:mB K mg "NoDeed"
 K3:mB K mg "Clash"
 QC:PX K mg bT "MouldError"
 pX:∃t,mg "MARKS"=ϊ (.int (8) t)
 vE:∃t,mg "MOULDS"=ϊ (.int (4) t)
 qe:∃t,mg "DAYS"=ϊ (.int (31) t)
 Ca:∃t,mg "PAGES"=ϊ (.int (24) t)
 sU:∃t,mg "HAS"=ϊ (.int (0) t)
 sx:∃t,mg "LACKS"=ϊ (.int (1) t)
 BB:∃t,mg "LONGEST"=ϊ (.int (30) t)
 rZ:∃t,mg "NOTHING"=ϊ (.str "-" t)
 BC:∃t,mg "FIGURES"=ϊ (.str "0123456789" t)
 ve:xC K "Diary" "books"
 vh:xC K "Desk" "diary"
 QD:GM K "Diary" "undo" "Diary.undo" (eV (top 52) 3) kj
 Bi:GM K "Diary" "book_now" "Diary.book_now" (eV (top 52) 4) kj
 IG:GM K "Diary" "keep" "Diary.keep" (eV (top 52) 5) EB
 Qf:GM K "Diary" "strike" "Diary.strike" (eV (top 52) 2) w9
 QE:GM K "Diary" "tell" "Diary.tell" (eV (top 52) 1) w9
 rQ:GM K "Desk" "say" "Desk.say" (eV (top 78) 1) N8
 VT:GK K mg "Diary" "Diary.__init__" (eV (top 52) 0) kj
 LV:GK K mg "Desk" "Desk.__init__" (eV (top 78) 0) kj
 RA:GG K mg "_law_cell_at" (top 84) xF
 T5:GG K mg "_law_state" (top 85) xF
 RB:GG K mg "_law_classes" (top 87) OV
 Iy:GG K mg "are_figures" (top 73) jO
 Iv:GG K mg "is_sheet_word" (top 72) jO
 yt:GG K mg "is_number_word" (top 71) jO
 Iq:GG K mg "are_page_words" (top 70) uu
 T6:GG K mg "is_row" (top 80) uu
 RC:GG K mg "words_of" (top 79) Fj
 Jl:GG K mg "marks_of" (top 76) jO
 Jm:GG K mg "sheet_of" (top 75) jO
 JF:GG K mg "page_of" (top 74) uu
 IH:GG K mg "marks_text" (top 67) Fm
 II:GG K mg "sheet_text" (top 68) OW
 Qo:GG K mg "places_text" (top 82) Fn
 IV:GG K mg "is_rising" (top 30) Fo
 Q4:GG K mg "is_number" (top 25) cx
 Bx:GG K mg "is_below" (top 26) En
 JG:GG K mg "is_mark" (top 27) cx
 IW:GG K mg "are_marks" (top 37) cx
 Bo:GG K mg "are_apart" (top 39) Eo
 Jn:GG K mg "is_sheet" (top 38) cx
 Jo:GG K mg "is_mould" (top 28) cx
 Kh:GG K mg "is_day" (top 29) cx
 JH:GG K mg "is_page" (top 40) cx
 RD:GG K mg "are_laid" (top 41) cx
 yE:GG K mg "days_seen" (top 46) Ep
 Bl:GG K mg "days_mended" (top 47) wZ
 Qc:GG K mg "is_any_behind" (top 45) Er
 Sx:GG K mg "clashes" (top 44) wZ
 Q5:GG K mg "faults_of" (top 43) Es
 JI:GG K mg "is_book" (top 42) cx
 Bp:GG K mg "need_book" (top 50) cx
 Q6:GG K mg "page_text" (top 69) N5
 Q7:GG K mg "book_text" (top 66) Et
 QG:GG K mg "need_mould" (top 31) cx
 RE:GG K mg "need_day" (top 32) cx
 Qg:GG K mg "days_present" (top 58) Ae
 Qp:GG K mg "days_absent" (top 59) Ae
 Jp:GG K mg "marks_on" (top 57) Eu
 Iz:GG K mg "sure_sheets" (top 56) N6
 T7:GG K mg "surely" (top 54) Ew
 QH:GG K mg "need_sheet" (top 48) cx
 Q8:GG K mg "stretches" (top 61) N7
 VU:GG K mg "agree" (top 60) Ey
 Q9:GG K mg "places_of" (top 55) Ez
 T8:GG K mg "answer" (top 81) EA
 IY:GG K mg "need_page" (top 49) cx
 LW:GG K mg "_law_met" (top 88) N9
 pY:GG K mg "_law_take" (top 86) Oa
 T9:GG K mg "_law_other" (top 94) Ob
 Ra:GG K mg "_law_some_row" (top 93) Oc
 Jq:GG K mg "_law_figures" (top 89) oK
 IZ:GG K mg "_law_is_sheet" (top 91) oK
 vi:GG K mg "_law_is_number" (top 90) oK
 Sy:GG K mg "_law_is_row" (top 92) Od
section
variable {P:å} {w:Ą} {K:đ} {mg:Str->Option Ç} {base:ĺ}
def RF (F:bq K mg):bZ P w K mg base "_law_cell_at" (top 84) xF 1 vA:=λ{_ _} G =>
 cb G xF (by kernel_rfl) λY _ _ _ _ _ _ Z=>(aH (bL (bC (xx Z) (ag 1) (cA fX rfl F.fV fZ (ao (ag 0))) (aZ _)) (ax (aQ (bw (ag 0) (ag 1)))) bR) (ax (aQ az)))
def Ua (F:bq K mg):bZ P w K mg base "_law_state" (top 85) xF 2 yW:=λ{_ _} G =>
 cb G [aeF,"_law_k","_law_cell"] (by kernel_rfl) λZ _ _ _ _ _ _ Y=>(aH (ck 2 Z (aS F.RA (RF F) Y (bI (ag 0) (ag 1)))) (aH (bL (bC OM (ag 2) (bu NJ az az) (aZ _)) (ax (aQ (tw (bI (bu NH (ag 2) (bu NJ az az)) gE)))) bR) (ax (aQ (tw (bI (bu tF (ag 2) az) gE))))))
def RG (F:bq K mg):PY P w K mg base "_law_classes" (top 87) OV 1 JE:=λ{_ _} G =>
 aaV G ["_law_e","_law_found"] (by kernel_rfl) λZ _ _ _ _ _ _ Y=>(aH (ck 1 Z (hX (bB (gw F.Sn (ag 0) F.dI) (bB (gw F.So (ag 0) F.dI) (bB (gw F.TN (ag 0) F.dI) (bB (gw F.TQ (ag 0) F.dI) dS)))))) (aH (ck 1 Z (bu cp (ag 1) (hX (bB (gw F.Sq (ag 0) F.dI) (bB (gw F.VN (ag 0) F.dI) (bB (gw F.TR (ag 0) F.dI) (bB (gw F.Rx (ag 0) F.dI) dS))))))) (aH (ck 1 Z (bu cp (ag 1) (hX (bB (gw F.Ry (ag 0) F.dI) (bB (gw F.VO (ag 0) F.dI) (bB (gw F.Rz (ag 0) F.dI) (bB (gw F.TU (ag 0) F.dI) dS))))))) (aH (ck 1 Z (bu cp (ag 1) (hX (bB (gw F.Sr (ag 0) F.dI) (bB (gw F.VP (ag 0) F.dI) (bB (gw F.TV (ag 0) F.dI) (bB (gw F.TX (ag 0) F.dI) dS))))))) (ax (aQ (bu cp (ag 1) (hX (j8 (gw F.VQ (ag 0) F.dI) (gw F.Ss (ag 0) F.dI) (gw F.Su (ag 0) F.dI))))))))))
def IA (F:bq K mg):bZ P w K mg base "are_figures" (top 73) jO 1 vf:=λ{_ _} G =>
 cb G jO (by kernel_rfl) λZ _ _ _ _ _ _ Y=>(ax (aQ (dM (CC uh uh az (cA fX rfl F.fV fZ (ao (ag 0))) (ff F.BB rfl)) (cZ (cA (tG rfl) rfl F.sT tH (ao (gm ["sign"] (Ej (ag 0)) (λ_ _ _ _ _ _=>⟨eZ,(dw aa3 (ag 0) (xE F.BC rfl) rfl)⟩))))))))
def Iw (F:bq K mg):bZ P w K mg base "is_sheet_word" (top 72) jO 2 yw:=λ{_ _} G =>
 cb G ["word","halves"] (by kernel_rfl) λY _ _ _ _ _ _ Z=>(aH (ck 1 Y (qd (ag 0) aF)) (ax (aQ (dM (dw (bQ Z) (cA fX rfl F.fV fZ (ao (ag 1))) az (aZ _)) (cZ (cA (tG rfl) rfl F.sT tH (ao (gm ["half"] (gB (ag 1)) (λ_ _ _ _ _ _=>⟨eZ,(ua (dw (bQ Z) (ag 0) (xE F.rZ rfl) (aZ _)) (cZ (aS F.Iy (IA F) Z (ao (ag 0)))))⟩)))))))))
def yu (F:bq K mg):bZ P w K mg base "is_number_word" (top 71) jO 2 mW:=λ{_ _} G =>
 cb G jO (by kernel_rfl) λY _ _ _ _ _ _ Z=>(ax (aQ (dM (aS F.Iy (IA F) Z (ao (ag 0))) (cZ (ua (dw (kA Z) (bw (ag 0) az) aF (aZ _)) (cZ (dw (bQ Z) (ag 0) aF (aZ _))))))))
def Ir (F:bq K mg):bZ P w K mg base "are_page_words" (top 70) uu 3 vd:=λ{_ _} G =>
 cb G ["words","word","mould","day","what"] (by kernel_rfl) λY _ _ _ _ _ _ Z=>(aH (bL (bC (kA Z) (cA fX rfl F.fV fZ (ao (ag 0))) az (aZ _)) (ax (aQ gE)) bR) (aH (nE (ag 0) (Ei rfl (dR (cP 1 Y) (dR (cP 2 Y) (dR (cP 3 Y) (dR (cP 4 Y) ny)))))) (aH (bL (PW.pt (w_or (gO (dU (aS F.yt (yu F) Z (ao (ag 2))))) (jH (gO (dU (aS F.yt (yu F) Z (ao (ag 3)))))))) (ax (aQ gE)) bR) (aH (bL (bC (bQ Z) (ag 1) aF (aZ _)) (ax (aQ (aS F.Iv (Iw F) Z (ao (ag 4))))) bR) (ax (aQ (dM (dw (bQ Z) (ag 1) aF (aZ _)) (cZ (aS F.yt (yu F) Z (ao (ag 4)))))))))))
def Ub (F:bq K mg):bZ P w K mg base "is_row" (top 80) uu 4 sv:=λ{_ _} G =>
 cb G ["words","head","rest"] (by kernel_rfl) λY _ _ _ _ _ _ Z=>(aH (YW 1 2 rfl Y (bI (bw (ag 0) az) (lB (ag 0) (fY az) iF))) (aH (bL (bC (bQ Z) (ag 1) aF (aZ _)) (ax (aQ (aS F.Iq (Ir F) Z (ao (ag 2))))) bR) (aH (bL (bC (bQ Z) (ag 1) aF (aZ _)) (ax (aQ (dM (dw (bQ Z) (cA fX rfl F.fV fZ (ao (ag 2))) az (aZ _)) (cZ (cA (tG rfl) rfl F.sT tH (ao (gm ["word"] (gB (ag 2)) (λ_ _ _ _ _ _=>⟨eZ,(aS F.yt (yu F) Z (ao (ag 0)))⟩)))))))) bR) (aH (bL (bC (bQ Z) (ag 1) aF (aZ _)) (ax (aQ (dM (dw (bQ Z) (cA fX rfl F.fV fZ (ao (ag 2))) az (aZ _)) (cZ (aS F.Iv (Iw F) Z (ao (bw (ag 2) az))))))) bR) (aH (bL (PW.pt (w_or (bC (bQ Z) (ag 1) aF (aZ _)) (jH (bC (bQ Z) (ag 1) aF (aZ _))))) (ax (aQ (dw (bQ Z) (ag 2) (hX dS) (aZ _)))) bR) (ax (aQ (aS F.Iq (Ir F) Z (ao (ag 0))))))))))
def RH (F:bq K mg):lT P w K mg base "words_of" (top 79) Fj 5 iM:=λ{_ _} G =>
 mh G Fj (by kernel_rfl) λY _ _ _ _ _ _ Z L=>(aH (bL (PW.pt (w_or (gO (dU (cA qz rfl F.dI mY (bI (ag 0) (qN D7 rfl F.DF))))) (jH (gO (dU (aS F.T6 (Ub F) Z (ao (qd (ag 0) aF)))))))) (ax (nk L F.VS (ao aF))) bR) (ax (aQ (qd (ag 0) aF))))
def Jr (F:bq K mg):bZ P w K mg base "marks_of" (top 76) jO 1 rX:=λ{_ _} G =>
 cb G jO (by kernel_rfl) λY _ _ _ _ _ _ Z=>(aH (bL (bC (bQ Z) (ag 0) (xE F.rZ rfl) (aZ _)) (ax (aQ (eQ dS))) bR) (ax (aQ (j4 zj rfl F.om oo (ao (gm ["figure"] (Ej (ag 0)) (λ_ _ _ _ _ _=>⟨eZ,(j4 sR rfl F.qo qB (ao (ag 0)))⟩)))))))
def Js (F:bq K mg):bZ P w K mg base "sheet_of" (top 75) jO 2 rY:=λ{_ _} G =>
 cb G ["word","has","lacks"] (by kernel_rfl) λZ _ _ _ _ _ _ Y=>(aH (nE (qd (ag 0) aF) (Ei rfl (dR (cP 1 Z) (dR (cP 2 Z) ny)))) (ax (aQ (eQ (bI (aS F.Jl (Jr F) Y (ao (ag 1))) (aS F.Jl (Jr F) Y (ao (ag 2))))))))
def JJ (F:bq K mg):bZ P w K mg base "page_of" (top 74) uu 3 pV:=λ{_ _} G =>
 cb G ["words","word","mould","day","what","last"] (by kernel_rfl) λZ _ _ _ _ _ _ Y=>(aH (nE (ag 0) (Ei rfl (dR (cP 1 Z) (dR (cP 2 Z) (dR (cP 3 Z) (dR (cP 4 Z) ny)))))) (aH (ck 5 Z (E3 (bC (bQ Y) (ag 1) aF (aZ _)) (aS F.Jm (Js F) Y (ao (ag 4))) (j4 sR rfl F.qo qB (ao (ag 4))))) (ax (aQ (eQ (bB (ag 1) (bB (j4 sR rfl F.qo qB (ao (ag 2))) (bB (j4 sR rfl F.qo qB (ao (ag 3))) (bB (ag 5) dS)))))))))
def IJ (F:bq K mg):bZ P w K mg base "marks_text" (top 67) Fm 1 vm:=λ{_ _} G =>
 cb G Fm (by kernel_rfl) λZ _ _ _ _ _ _ Y=>(ax (aQ (El (sQ aF (gm ["mark"] (gB (ag 0)) (λ_ _ _ _ _ _=>⟨eZ,(j4 N3 rfl F.DF D7 (ao (ag 0)))⟩))) (cZ (xE F.rZ rfl)))))
def IK (F:bq K mg):bZ P w K mg base "sheet_text" (top 68) OW 2 vn:=λ{_ _} G =>
 cb G ["sheet","has","lacks"] (by kernel_rfl) λZ _ _ _ _ _ _ Y=>(aH (nE (ag 0) (tB rfl (dR (cP 1 Z) (dR (cP 2 Z) ny)))) (ax (aQ (bu cp (bu cp (aS F.IH (IJ F) Y (ao (ag 1))) aF) (aS F.IH (IJ F) Y (ao (ag 2)))))))
def Qq (F:bq K mg):bZ P w K mg base "places_text" (top 82) Fn 1 yA:=λ{_ _} G=>by
 have Z:(["mould","first","last"]:List Str).Nodup:=nofun
 exact cb G Fn (by kernel_rfl) λY _ _ _ _ _ _ X=>(ax (aQ (El (sQ aF (CH (N:=["mould","first","last"]) (nt:=3) (cap:=[]) rfl (D8 (by kernel_rfl)) (zy (ng 0 (ng 1 (ng 2 zi)))) (gB (ag 0)) (λcl C s H ex W=>⟨(v8 rfl (l7 (iB (i:=0) Z rfl (ο rfl)) (l7 (iB (i:=1) Z rfl (ο rfl)) (l7 (iB (i:=2) Z rfl (ο rfl)) vO)))),eZ,(MW (gI.cons (qE (ag 0)) (gI.cons aF (gI.cons (qE (ag 1)) (gI.cons aF (gI.cons (qE (ag 2)) gI.nil))))))⟩))) (cZ aF))))
def I0 (F:bq K mg):bZ P w K mg base "is_rising" (top 30) Fo 1 pQ:=λ{_ _} G=>by
 have Z:(["ahead","behind"]:List Str).Nodup:=nofun
 exact cb G Fo (by kernel_rfl) λX _ _ _ _ _ _ Y=>(ax (aQ (cA (tG rfl) rfl F.sT tH (ao (CH (N:=["ahead","behind"]) (nt:=2) (cap:=[]) rfl (D8 (by kernel_rfl)) (zy (ng 0 (ng 1 zi))) (aay rfl F.Zx (bI (ag 0) (lB (ag 0) (fY az) iF))) (λcl C s H ex W=>⟨(v8 rfl (l7 (iB (i:=0) Z rfl (ο rfl)) (l7 (iB (i:=1) Z rfl (ο rfl)) vO))),eZ,(dw (xx Y) (ag 0) (ag 1) (aZ _))⟩))))))
def Rb (F:bq K mg):bZ P w K mg base "is_number" (top 25) cx 1 Bw:=λ{_ _} G =>
 cb G cx (by kernel_rfl) λZ _ _ _ _ _ _ Y=>(ax (aQ (dM (cA qz rfl F.dI mY (bI (ag 0) (qN qB rfl F.qo))) (dM (D3 (cA qz rfl F.dI mY (bI (ag 0) (qN YX rfl F.Xp)))) (cZ (dw OM (ag 0) az (aZ _)))))))
def By (F:bq K mg):bZ P w K mg base "is_below" (top 26) En 2 rT:=λ{_ _} G =>
 cb G En (by kernel_rfl) λY _ _ _ _ _ _ Z=>(ax (aQ (dM (aS F.Q4 (Rb F) Z (ao (ag 0))) (cZ (dw (xx Z) (ag 0) (ag 1) (aZ _))))))
def JK (F:bq K mg):bZ P w K mg base "is_mark" (top 27) cx 3 se:=λ{_ _} G =>
 cb G cx (by kernel_rfl) λY _ _ _ _ _ _ Z=>(ax (aQ (aS F.Bx (By F) Z (bI (ag 0) (ff F.pX rfl)))))
def Ja (F:bq K mg):bZ P w K mg base "are_marks" (top 37) cx 4 vt:=λ{_ _} G =>
 cb G cx (by kernel_rfl) λY _ _ _ _ _ _ Z=>(ax (aQ (dM (cA qz rfl F.dI mY (bI (ag 0) (qN oo rfl F.om))) (dM (cA (tG rfl) rfl F.sT tH (ao (gm ["mark"] (gB (ag 0)) (λ_ _ _ _ _ _=>⟨eZ,(aS F.JG (JK F) Z (ao (ag 0)))⟩)))) (cZ (aS F.IV (I0 F) Z (ao (ag 0))))))))
def Bq (F:bq K mg):bZ P w K mg base "are_apart" (top 39) Eo 1 rM:=λ{_ _} G =>
 cb G Eo (by kernel_rfl) λY _ _ _ _ _ _ Z=>(ax (aQ (D3 (cA (NK rfl) rfl F.M0 NP (ao (gm ["mark","others"] (gB (ag 0)) (λ_ _ _ _ _ _=>⟨eZ,(dw (lA Z) (ag 0) (ag 1) rfl)⟩)))))))
def Jt (F:bq K mg):bZ P w K mg base "is_sheet" (top 38) cx 5 pS:=λ{_ _} G =>
 cb G ["thing","has","lacks"] (by kernel_rfl) λY _ _ _ _ _ _ Z=>(aH (bL (PW.pt (w_or (gO (dU (cA qz rfl F.dI mY (bI (ag 0) (qN oo rfl F.om))))) (jH (bC (kA Z) (cA fX rfl F.fV fZ (ao (ag 0))) az (aZ _))))) (ax (aQ gE)) bR) (aH (nE (ag 0) (tB rfl (dR (cP 1 Y) (dR (cP 2 Y) ny)))) (ax (aQ (dM (aS F.IW (Ja F) Z (ao (ag 1))) (dM (aS F.IW (Ja F) Z (ao (ag 2))) (cZ (aS F.Bo (Bq F) Z (bI (ag 1) (ag 2))))))))))
def Ju (F:bq K mg):bZ P w K mg base "is_mould" (top 28) cx 3 rW:=λ{_ _} G =>
 cb G cx (by kernel_rfl) λY _ _ _ _ _ _ Z=>(ax (aQ (aS F.Bx (By F) Z (bI (ag 0) (ff F.vE rfl)))))
def Ki (F:bq K mg):bZ P w K mg base "is_day" (top 29) cx 3 su:=λ{_ _} G =>
 cb G cx (by kernel_rfl) λY _ _ _ _ _ _ Z=>(ax (aQ (aS F.Bx (By F) Z (bI (ag 0) (ff F.qe rfl)))))
def JL (F:bq K mg):bZ P w K mg base "is_page" (top 40) cx 6 sh:=λ{_ _} G =>
 cb G ["thing","word","mould","day","what"] (by kernel_rfl) λY _ _ _ _ _ _ Z=>(aH (bL (PW.pt (w_or (gO (dU (cA qz rfl F.dI mY (bI (ag 0) (qN oo rfl F.om))))) (jH (bC (kA Z) (cA fX rfl F.fV fZ (ao (ag 0))) az (aZ _))))) (ax (aQ gE)) bR) (aH (nE (ag 0) (tB rfl (dR (cP 1 Y) (dR (cP 2 Y) (dR (cP 3 Y) (dR (cP 4 Y) ny)))))) (aH (bL (PW.pt (w_or (gO (dU (aS F.Jo (Ju F) Z (ao (ag 2))))) (jH (gO (dU (aS F.Kh (Ki F) Z (ao (ag 3)))))))) (ax (aQ gE)) bR) (aH (bL (bC (bQ Z) (ag 1) aF (aZ _)) (ax (aQ (aS F.Jn (Jt F) Z (ao (ag 4))))) bR) (ax (aQ (dM (dw (bQ Z) (ag 1) aF (aZ _)) (cZ (aS F.JG (JK F) Z (ao (ag 4)))))))))))
def RI (F:bq K mg):bZ P w K mg base "are_laid" (top 41) cx 7 yM:=λ{_ _} G =>
 cb G cx (by kernel_rfl) λY _ _ _ _ _ _ Z=>(ax (aQ (dM (cA qz rfl F.dI mY (bI (ag 0) (qN oo rfl F.om))) (dM (dw uh (cA fX rfl F.fV fZ (ao (ag 0))) (ff F.Ca rfl) (aZ _)) (dM (cA (tG rfl) rfl F.sT tH (ao (gm ["page"] (gB (ag 0)) (λ_ _ _ _ _ _=>⟨eZ,(aS F.JH (JL F) Z (ao (ag 0)))⟩)))) (cZ (aS F.IV (I0 F) Z (ao (ag 0)))))))))
def yF (F:bq K mg):bZ P w K mg base "days_seen" (top 46) Ep 1 l0:=λ{_ _} G =>
 cb G Ep (by kernel_rfl) λY _ _ _ _ _ _ Z=>(ax (aQ (gm ["page","mould","mark","half"] (gB (ag 0)) (λ_ _ _ _ _ _=>⟨(tD (PW.pt (w_and (bC (bQ Z) (bw (ag 0) az) aF (aZ _)) (w_and (bC (bQ Z) (bw (ag 0) az) (ag 1) (aZ _)) (sO (bC (lA Z) (ag 2) (bw (bw (ag 0) az) (ag 3)) rfl)))))),(bw (ag 0) az)⟩))))
def Bm (F:bq K mg):bZ P w K mg base "days_mended" (top 47) wZ 1 rJ:=λ{_ _} G =>
 cb G wZ (by kernel_rfl) λY _ _ _ _ _ _ Z=>(ax (aQ (gm ["page","mould","mark"] (gB (ag 0)) (λ_ _ _ _ _ _=>⟨(tD (PW.pt (w_and (bC (bQ Z) (bw (ag 0) az) aF (aZ _)) (w_and (bC (bQ Z) (bw (ag 0) az) (ag 1) (aZ _)) (sO (bC (bQ Z) (bw (ag 0) az) (ag 2) (aZ _))))))),(bw (ag 0) az)⟩))))
def Qd (F:bq K mg):bZ P w K mg base "is_any_behind" (top 45) Er 1 yv:=λ{_ _} G =>
 cb G Er (by kernel_rfl) λY _ _ _ _ _ _ Z=>(ax (aQ (cA (NK rfl) rfl F.M0 NP (ao (gm ["other","day","later"] (gB (ag 0)) (λ_ _ _ _ _ _=>⟨eZ,(CC (xx Z) uh (ag 1) (ag 0) (ag 2))⟩))))))
def Sz (F:bq K mg):bZ P w K mg base "clashes" (top 44) wZ 2 vD:=λ{_ _} G=>by
 have Y:(["day","later","lacked","mended"]:List Str).Nodup:=nofun
 exact cb G ["pages","mould","mark","lacked","mended"] (by kernel_rfl) λX _ _ _ _ _ _ Z=>(aH (ck 3 X (aS F.yE (yF F) Z (bB (ag 0) (bB (ag 1) (bB (ag 2) (bB (ff F.sx rfl) dS)))))) (aH (ck 4 X (aS F.Bl (Bm F) Z (j8 (ag 0) (ag 1) (ag 2)))) (ax (aQ (LI (N:=["day","later","lacked","mended"]) (nt:=2) (cap:=[3,4]) rfl (DY (by kernel_rfl)) (sD 0) (vV 0) (sD 1) (vV 1) (gB (Sd (aS F.yE (yF F) Z (bB (ag 0) (bB (ag 1) (bB (ag 2) (bB (ff F.sU rfl) dS))))) rfl rfl F.Kg KO rfl F.Zw aaB)) (λcl C s H ex W=>⟨(iB (i:=0) Y rfl (ο rfl)),eZ,(YM rfl F.jA (bI (ag 0) (ff F.qe rfl))),(iB (i:=1) Y rfl (ο rfl)),(tD (PW.pt (w_and (PW.pt (w_or (bC (lA Z) (ag 1) (ag 2) rfl) (jH (PW.pt (w_and (bC (bQ Z) (ag 1) (ag 0) (aZ _)) (sO (bC (lA Z) (ag 0) (ag 3) rfl))))))) (sO (gO (dU (aS F.Qc (Qd F) Z (j8 (ag 3) (ag 0) (ag 1))))))))),(eQ (bI (ag 0) (ag 1)))⟩))))))
def Rc (F:bq K mg):bZ P w K mg base "faults_of" (top 43) Es 3 yH:=λ{_ _} G=>by
 have Z:(["mould","mark","day","later","pages"]:List Str).Nodup:=nofun
 exact cb G Es (by kernel_rfl) λX _ _ _ _ _ _ Y=>(ax (aQ (W4 (N:=["mould","mark","day","later","pages"]) (nt:=4) (cap:=[0]) rfl (DY (by kernel_rfl)) (sD 0) (vV 0) (sD 1) (vV 1) (zy (ng 2 (ng 3 zi))) (zu [2,3]) (kZ rfl F.jA (ao (ff F.vE rfl))) (λcl C s H ex W=>⟨(iB (i:=0) Z rfl (ο rfl)),eZ,(kZ rfl F.jA (ao (ff F.pX rfl))),(iB (i:=1) Z rfl (ο rfl)),eZ,(gB (aS F.Sx (Sz F) Y (j8 (ag 4) (ag 0) (ag 1)))),(v8 rfl (l7 (iB (i:=2) Z rfl (ο rfl)) (l7 (iB (i:=3) Z rfl (ο rfl)) vO))),eZ,(eQ (bB (ag 0) (bB (ag 1) (bB (ag 2) (bB (ag 3) dS)))))⟩))))
def JM (F:bq K mg):bZ P w K mg base "is_book" (top 42) cx 8 si:=λ{_ _} G =>
 cb G cx (by kernel_rfl) λY _ _ _ _ _ _ Z=>(ax (aQ (dM (aS F.RD (RI F) Z (ao (ag 0))) (cZ (TK.Y3 (aS F.Q5 (Rc F) Z (ao (ag 0))))))))
def Br (F:bq K mg):lT P w K mg base "need_book" (top 50) cx 9 pR:=λ{_ _} G =>
 mh G cx (by kernel_rfl) λY _ _ _ _ _ _ Z L=>(ax (bL (gO (dU (aS F.JI (JM F) Z (ao (ag 0))))) (ax (nk L F.TZ (ao aF))) bR))
def Rf (F:bq K mg):bZ P w K mg base "page_text" (top 69) N5 3 yI:=λ{_ _} G =>
 cb G ["page","word","mould","day","what","last"] (by kernel_rfl) λZ _ _ _ _ _ _ Y=>(aH (nE (ag 0) (tB rfl (dR (cP 1 Z) (dR (cP 2 Z) (dR (cP 3 Z) (dR (cP 4 Z) ny)))))) (aH (ck 5 Z (E3 (bC (bQ Y) (ag 1) aF (aZ _)) (aS F.II (IK F) Y (ao (ag 4))) (j4 N3 rfl F.DF D7 (ao (ag 4))))) (ax (aQ (MW (gI.cons (qE (ag 1)) (gI.cons aF (gI.cons (qE (ag 2)) (gI.cons aF (gI.cons (qE (ag 3)) (gI.cons aF (gI.cons (qE (ag 5)) gI.nil))))))))))))
def Rg (F:bq K mg):lT P w K mg base "book_text" (top 66) Et 10 vv:=λ{_ _} G =>
 mh G Et (by kernel_rfl) λY _ _ _ _ _ _ Z L=>(aH (gv (jJ F.Bp (Br F) (eY L) Z (ao (ag 0)))) (ax (aQ (sQ aF (gm ["page"] (gB (ag 0)) (λ_ _ _ _ _ _=>⟨eZ,(bu cp (aS F.Q6 (Rf F) Z (ao (ag 0))) aF)⟩))))))
def QI (F:bq K mg):lT P w K mg base "need_mould" (top 31) cx 4 yD:=λ{_ _} G =>
 mh G cx (by kernel_rfl) λY _ _ _ _ _ _ Z L=>(ax (bL (gO (dU (aS F.Jo (Ju F) Z (ao (ag 0))))) (ax (nk L F.Sv (ao aF))) bR))
def RJ (F:bq K mg):lT P w K mg base "need_day" (top 32) cx 4 yN:=λ{_ _} G =>
 mh G cx (by kernel_rfl) λY _ _ _ _ _ _ Z L=>(ax (bL (gO (dU (aS F.Kh (Ki F) Z (ao (ag 0))))) (ax (nk L F.VR (ao aF))) bR))
def Qh (F:bq K mg):bZ P w K mg base "days_present" (top 58) Ae 2 yx:=λ{_ _} G =>
 cb G ["book","mould","mark","shown","mended","present","stays","day"] (by kernel_rfl) λZ _ _ _ _ _ _ Y=>(aH (ck 3 Z (aS F.yE (yF F) Y (bB (ag 0) (bB (ag 1) (bB (ag 2) (bB (ff F.sU rfl) dS)))))) (aH (ck 4 Z (aS F.Bl (Bm F) Y (j8 (ag 0) (ag 1) (ag 2)))) (aH (ck 5 Z (tw dS)) (aH (ck 6 Z gE) (aH (qx Ź rfl (kZ rfl F.jA (ao (ff F.qe rfl))) (cP 7 Z) (aH (ck 6 Z (ua (dw (lA Y) (ag 7) (ag 3) rfl) (cZ (dM (ag 6) (cZ (dw (vU Y) (ag 7) (ag 4) rfl)))))) (ax (bL (dU (ag 6)) (ax (gv (zX (ag 5) (ag 7)))) bR)))) (ax (aQ (D2 (ag 5)))))))))
def Qr (F:bq K mg):bZ P w K mg base "days_absent" (top 59) Ae 2 yz:=λ{_ _} G =>
 cb G ["book","mould","mark","lacked","mended","absent","barred","day"] (by kernel_rfl) λZ _ _ _ _ _ _ Y=>(aH (ck 3 Z (aS F.yE (yF F) Y (bB (ag 0) (bB (ag 1) (bB (ag 2) (bB (ff F.sx rfl) dS)))))) (aH (ck 4 Z (aS F.Bl (Bm F) Y (j8 (ag 0) (ag 1) (ag 2)))) (aH (ck 5 Z (tw dS)) (aH (ck 6 Z gE) (aH (qx Ź rfl (aaF rfl F.Rw rfl F.jA (ao (ff F.qe rfl))) (cP 7 Z) (aH (bL (PW.pt (w_or (dU (ag 6)) (w_or (bC (lA Y) (ag 7) (ag 3) rfl) (jH (bC (lA Y) (ag 7) (ag 4) rfl))))) (ax (gv (zX (ag 5) (ag 7)))) bR) (ax (ck 6 Z (dM (ua (ag 6) (cZ (dw (lA Y) (ag 7) (ag 3) rfl))) (cZ (dw (vU Y) (ag 7) (ag 4) rfl))))))) (ax (aQ (D2 (ag 5)))))))))
def Jv (F:bq K mg):bZ P w K mg base "marks_on" (top 57) Eu 1 vB:=λ{_ _} G =>
 cb G Eu (by kernel_rfl) λY _ _ _ _ _ _ Z=>(ax (aQ (j4 zj rfl F.om oo (ao (gm ["mark","day","days_by_mark"] (kZ rfl F.jA (ao (ff F.pX rfl))) (λ_ _ _ _ _ _=>⟨(tD (bC (lA Z) (ag 1) (bw (ag 2) (ag 0)) rfl)),(ag 0)⟩))))))
def IC (F:bq K mg):bZ P w K mg base "sure_sheets" (top 56) N6 3 rK:=λ{_ _} G =>
 cb G ["book","mould","present","absent"] (by kernel_rfl) λY _ _ _ _ _ _ Z=>(aH (ck 2 Y (gm ["mark","book","mould"] (kZ rfl F.jA (ao (ff F.pX rfl))) (λ_ _ _ _ _ _=>⟨eZ,(aS F.Qg (Qh F) Z (j8 (ag 1) (ag 2) (ag 0)))⟩))) (aH (ck 3 Y (gm ["mark","book","mould"] (kZ rfl F.jA (ao (ff F.pX rfl))) (λ_ _ _ _ _ _=>⟨eZ,(aS F.Qp (Qr F) Z (j8 (ag 1) (ag 2) (ag 0)))⟩))) (ax (aQ (gm ["day","present","absent"] (kZ rfl F.jA (ao (ff F.qe rfl))) (λ_ _ _ _ _ _=>⟨eZ,(eQ (bI (aS F.Jp (Jv F) Z (bI (ag 1) (ag 0))) (aS F.Jp (Jv F) Z (bI (ag 2) (ag 0)))))⟩))))))
def Uc (F:bq K mg):lT P w K mg base "surely" (top 54) Ew 10 vJ:=λ{_ _} G =>
 mh G Ew (by kernel_rfl) λY _ _ _ _ _ _ Z L=>(aH (gv (jJ F.Bp (Br F) (eY L) Z (ao (ag 0)))) (aH (gv (jJ F.QG (QI F) (eY L) Z (ao (ag 1)))) (aH (gv (jJ F.RE (RJ F) (eY L) Z (ao (ag 2)))) (ax (aQ (bw (aS F.Iz (IC F) Z (bI (ag 0) (ag 1))) (ag 2)))))))
def QJ (F:bq K mg):lT P w K mg base "need_sheet" (top 48) cx 6 rL:=λ{_ _} G =>
 mh G cx (by kernel_rfl) λY _ _ _ _ _ _ Z L=>(ax (bL (gO (dU (aS F.Jn (Jt F) Z (ao (ag 0))))) (ax (nk L F.Sw (ao aF))) bR))
def Rh (F:bq K mg):bZ P w K mg base "stretches" (top 61) N7 1 vw:=λ{_ _} G =>
 cb G ["holds","told","at"] (by kernel_rfl) λZ _ _ _ _ _ _ Y=>(aH (ck 1 Z (tw dS)) (aH (qx Ź rfl (kZ rfl F.jA (ao (cA fX rfl F.fV fZ (ao (ag 0))))) (cP 2 Z) (ax (bL (PW.pt (w_and (dU (bw (ag 0) (ag 2))) (w_and (bC acd (ag 2) az (aZ _)) (sO (dU (bw (ag 0) (bu NH (ag 2) az))))))) (ax (D4 (eQ (bI (bw (bw (ag 1) (Ao zW az)) az) (ag 2))) (ag 1) (Ao zW az))) (ax (bL (dU (bw (ag 0) (ag 2))) (ax (gv (zX (ag 1) (eQ (bI (ag 2) (ag 2)))))) bR))))) (ax (aQ (D2 (ag 1))))))
def VV (F:bq K mg):bZ P w K mg base "agree" (top 60) Ey 2 vY:=λ{_ _} G =>
 cb G Ey (by kernel_rfl) λY _ _ _ _ _ _ Z=>(ax (aQ (dM (aS F.Bo (Bq F) Z (bI (bw (ag 0) (ff F.sU rfl)) (bw (ag 1) (ff F.sx rfl)))) (cZ (aS F.Bo (Bq F) Z (bI (bw (ag 0) (ff F.sx rfl)) (bw (ag 1) (ff F.sU rfl))))))))
def Ri (F:bq K mg):lT P w K mg base "places_of" (top 55) Ez 10 rN:=λ{_ _} G=>by
 have Y:(["mould","first","last","sheet","book"]:List Str).Nodup:=nofun
 exact mh G Ez (by kernel_rfl) λX _ _ _ _ _ _ Z L=>(aH (gv (jJ F.Bp (Br F) (eY L) Z (ao (ag 0)))) (aH (gv (jJ F.QH (QJ F) (eY L) Z (ao (ag 1)))) (ax (aQ (LI (N:=["mould","first","last","sheet","book"]) (nt:=3) (cap:=[1,0]) rfl (DY (by kernel_rfl)) (sD 0) (vV 0) (zy (ng 1 (ng 2 zi))) (zu [1,2]) (kZ rfl F.jA (ao (ff F.vE rfl))) (λcl C s H ex W=>⟨(iB (i:=0) Y rfl (ο rfl)),eZ,(gB (aS F.Q8 (Rh F) Z (ao (gm ["sure","sheet"] (gB (aS F.Iz (IC F) Z (bI (ag 4) (ag 0)))) (λ_ _ _ _ _ _=>⟨eZ,(aS F.VU (VV F) Z (bI (ag 1) (ag 0)))⟩))))),(v8 rfl (l7 (iB (i:=1) Y rfl (ο rfl)) (l7 (iB (i:=2) Y rfl (ο rfl)) vO))),eZ,(eQ (j8 (ag 0) (ag 1) (ag 2)))⟩))))))
def Ud (F:bq K mg):lT P w K mg base "answer" (top 81) EA 11 kO:=λ{_ _} G =>
 mh G EA (by kernel_rfl) λY _ _ _ _ _ _ Z L=>(aH (bL (bC (bQ Z) (bw (ag 1) az) aF (aZ _)) (ax (aQ (aS F.II (IK F) Z (ao (jJ F.T7 (Uc F) (eY L) Z (j8 (ag 0) (j4 sR rfl F.qo qB (ao (bw (ag 1) az))) (j4 sR rfl F.qo qB (ao (bw (ag 1) az))))))))) bR) (aH (bL (bC (bQ Z) (bw (ag 1) az) aF (aZ _)) (ax (aQ (aS F.Qo (Qq F) Z (ao (jJ F.Q9 (Ri F) (eY L) Z (bI (ag 0) (aS F.Jm (Js F) Z (ao (bw (ag 1) az))))))))) bR) (ax (aQ (El (jJ F.Q7 (Rg F) (eY L) Z (ao (ag 0))) (cZ (xE F.rZ rfl)))))))
def QK (F:bq K mg):kL P w K mg base "Diary" "undo" "Diary.undo" (eV (top 52) 3) kj 1 vo:=λ{_ _} G =>
 ox G kj (by kernel_rfl) λY _ _ _ _ _ _ Z L=>(aH (bL (bC (bQ Z) (cA fX rfl F.fV fZ (ao (oH F.ve (ag 0)))) az (aZ _)) (ax (nk L F.T4 (ao aF))) bR) (ax (gv (Zk (oH F.ve (ag 0))))))
def Jb (F:bq K mg):lT P w K mg base "need_page" (top 49) cx 7 mZ:=λ{_ _} G =>
 mh G cx (by kernel_rfl) λY _ _ _ _ _ _ Z L=>(ax (bL (gO (dU (aS F.JH (JL F) Z (ao (ag 0))))) (ax (nk L F.TY (ao aF))) bR))
def Bj (F:bq K mg):kL P w K mg base "Diary" "book_now" "Diary.book_now" (eV (top 52) 4) kj 1 lX:=λ{_ _} G =>
 ox G kj (by kernel_rfl) λZ _ _ _ _ _ _ Y L=>(ax (aQ (bw (oH F.ve (ag 0)) (Ao zW az))))
def IL (F:bq K mg):kL P w K mg base "Diary" "keep" "Diary.keep" (eV (top 52) 5) EB 9 vp:=λ{_ _} G =>
 ox G EB (by kernel_rfl) λY _ _ _ _ _ _ Z L=>(aH (bL (gO (dU (aS F.JI (JM F) Z (ao (ag 1))))) (ax (nk L F.K3 (ao aF))) bR) (ax (gv (zX (oH F.ve (ag 0)) (ag 1)))))
def Qi (F:bq K mg):kL P w K mg base "Diary" "strike" "Diary.strike" (eV (top 52) 2) w9 10 rH:=λ{_ _} G =>
 ox G ["self","page","book"] (by kernel_rfl) λY _ _ _ _ _ _ Z L=>(aH (gv (jJ F.IY (Jb F) (eY L) Z (ao (ag 1)))) (aH (ck 2 Y (zG F.Bi (Bj F) (eY L) Z (ag 0))) (aH (bL (bC (vU Z) (ag 1) (ag 2) rfl) (ax (nk L F.K3 (ao aF))) bR) (ax (gv (tK F.IG (IL F) (eY L) Z (ag 0) (ao (j4 zj rfl F.om oo (ao (gm ["other","page"] (gB (ag 2)) (λ_ _ _ _ _ _=>⟨(tD (bC (kA Z) (ag 0) (ag 1) (aZ _))),(ag 0)⟩)))))))))))
def QM (F:bq K mg):kL P w K mg base "Diary" "tell" "Diary.tell" (eV (top 52) 1) w9 10 oi:=λ{_ _} G =>
 ox G w9 (by kernel_rfl) λY _ _ _ _ _ _ Z L=>(aH (gv (jJ F.IY (Jb F) (eY L) Z (ao (ag 1)))) (ax (gv (tK F.IG (IL F) (eY L) Z (ag 0) (ao (j4 zj rfl F.om oo (ao (cA (TK.VF Z) rfl F.Kg KO (ao (bu cp (zG F.Bi (Bj F) (eY L) Z (ag 0)) (eQ (ao (ag 1)))))))))))))
def rR (F:bq K mg):kL P w K mg base "Desk" "say" "Desk.say" (eV (top 78) 1) N8 12 fS:=λ{_ _} G =>
 ox G ["self","row","words"] (by kernel_rfl) λY _ _ _ _ _ _ Z L=>(aH (ck 2 Y (jJ F.RC (RH F) (eY L) Z (ao (ag 1)))) (aH (bL (bC (bQ Z) (bw (ag 2) az) aF (aZ _)) (ax (gv (zG F.QD (QK F) (eY L) Z (oH F.vh (ag 0))))) (ax (bL (bC (bQ Z) (bw (ag 2) az) aF (aZ _)) (ax (gv (tK F.Qf (Qi F) (eY L) Z (oH F.vh (ag 0)) (ao (aS F.JF (JJ F) Z (ao (lB (ag 2) (fY az) iF))))))) (ax (bL (PW.pt (w_or (bC (bQ Z) (bw (ag 2) az) aF (aZ _)) (jH (bC (bQ Z) (bw (ag 2) az) aF (aZ _))))) (ax (gv (tK F.QE (QM F) (eY L) Z (oH F.vh (ag 0)) (ao (aS F.JF (JJ F) Z (ao (ag 2))))))) (ax (aQ (jJ F.T8 (Ud F) (eY L) Z (bI (zG F.Bi (Bj F) (eY L) Z (oH F.vh (ag 0))) (ag 2)))))))))) (ax (aQ aF))))
def LX (F:bq K mg):PL P w K mg "_law_met" (top 88) N9 14 13 hU:=λ{_ _ _ _ _ _} T {_ _} G =>
 aaQ G ["_law_call","_law_e","_law_some"] (by kernel_rfl) λZ _ _ _ _ _ _ X Y=>(ax (Zj T X (Y.mono (by decide)) F.QC (λ_=>(aH (ck 2 Z (aaW F.RB (RG F) (Y.h.held _) (ao (ag 1)))) (aH (bL (PW.pt (w_or (gO (dU (Zh F.QA (ag 1) F.dI F.Qz))) (jH (bC aaX (Zf (ag 2)) az (aZ _))))) (ax (aQ (eQ (bI aF D1)))) bR) (aH (bL (dU (bw (ag 2) az)) (ax (aQ (eQ (bI aF OU)))) bR) (aH (bL (dU (bw (ag 2) az)) (ax (aQ (eQ (bI aF OU)))) bR) (ax (aQ (eQ (bI aF (aaS (ag 2))))))))))) Z))
def pZ (F:bq K mg):bZ P w K mg base "_law_take" (top 86) Oa 1 j6:=λ{_ _} G =>
 cb G [aeG,"_law_many","_law_found","_law_mixed"] (by kernel_rfl) λZ _ _ _ _ _ _ Y=>(aH (bL (dU (bw (ag 0) az)) (aH (ck 2 Z (bu tF (bw (ag 0) az) (ag 1))) (aH (D4 (bu NI (bw (ag 0) az) (ag 1)) (ag 0) az) (ax (aQ (ag 2))))) bR) (aH (D4 (bu tF (bu cp (bu wM (bw (ag 0) az) az) az) az) (ag 0) az) (aH (ck 3 Z (bu tF (bu cp (bu cp (bu wM (bw (ag 0) az) (bw (ag 0) az)) (bu wM az (bw (ag 0) az))) az) az)) (aH (ck 3 Z (bu tF (bu cp (bu wM (ag 3) (ag 3)) (bu wM az (ag 3))) az)) (ax (aQ (bu tF (bu NI (ag 3) az) (ag 1))))))))
def Ue (F:bq K mg):bZ P w K mg base "_law_other" (top 94) Ob 2 yX:=λ{_ _} G =>
 cb G [aeG,aeH,"_law_signs","_law_sign","_law_at","_law_way","_law_words","_law_spot","_law_news"] (by kernel_rfl) λY _ _ _ _ _ _ Z=>(aH (ck 2 Y aF) (aH (ck 2 Y (bu cp (ag 2) (bu wx aF az))) (aH (Y5 3 4 5 rfl Y (j8 (bw (ag 2) (aS F.pY (pZ F) Z (bI (ag 0) (cA fX rfl F.fV fZ (ao (ag 2)))))) (aS F.pY (pZ F) Z (bI (ag 0) (bu cp (cA fX rfl F.fV fZ (ao (ag 1))) az))) (aS F.pY (pZ F) Z (bI (ag 0) az)))) (aH (ck 6 Y (qd (ag 1) aF)) (aH (ck 7 Y (aS F.pY (pZ F) Z (bI (ag 0) (cA fX rfl F.fV fZ (ao (ag 6)))))) (aH (bL (bC (xx Z) (ag 5) az (aZ _)) (ax (aQ (bu cp (bu cp (qF (ag 1) iF (fY (ag 4))) (ag 3)) (qF (ag 1) (fY (bu cp (ag 4) (ag 5))) iF)))) bR) (aH (bL (bC (bQ Z) (ag 5) az (aZ _)) (ax (aQ (bu cp (qF (ag 1) iF (fY (ag 4))) (qF (ag 1) (fY (bu cp (ag 4) az)) iF)))) bR) (aH (bL (bC (bQ Z) (ag 5) az (aZ _)) (ax (aQ (bu cp (bu cp (qF (ag 1) iF (fY (ag 4))) (Zp (qF (ag 1) (fY (ag 4)) (fY (bu cp (ag 4) az))))) (qF (ag 1) (fY (bu cp (ag 4) az)) iF)))) bR) (aH (bL (bC (bQ Z) (ag 5) az (aZ _)) (ax (aQ (sQ aF (bu cp (lB (ag 6) iF (fY (ag 7))) (lB (ag 6) (fY (bu cp (ag 7) az)) iF))))) bR) (aH (bL (bC (bQ Z) (ag 5) az (aZ _)) (ax (aQ (sQ aF (bu cp (bu cp (lB (ag 6) iF (fY (ag 7))) (lB (ag 6) (fY (ag 7)) (fY (bu cp (ag 7) az)))) (lB (ag 6) (fY (ag 7)) iF))))) bR) (aH (bL (bC (bQ Z) (ag 5) az (aZ _)) (aH (ck 8 Y (by refine' Xd ?_ ?_ ?_ ?_ ?_ ?_ ?_ ?_ ?_ ?_ ?_;exact(bu wx aF az);exact(bu cp aF (bu wx aF az));exact aF;exact aF;exact aF;exact aF;exact aF;exact aF;exact aF;exact aF;exact aF)) (aH (ck 8 Y (bu cp (ag 8) (hX (bI (bu cp (bu wx aF az) aF) (bu cp aF (bu wx aF az)))))) (ax (aQ (sQ aF (bu cp (bu cp (lB (ag 6) iF (fY (ag 7))) (hX (ao (bw (ag 8) (aS F.pY (pZ F) Z (bI (ag 0) az)))))) (lB (ag 6) (fY (bu cp (ag 7) az)) iF))))))) bR) (ax (aQ (bw (by refine' Y6 ?_ ?_ ?_ ?_ ?_ ?_ ?_ ?_;exact(bu cp (ag 1) aF);exact(bu cp aF (ag 1));exact(bu cp (ag 1) aF);exact(bu cp (ag 1) aF);exact(Xl (ag 1));exact aF;exact aF;exact(bu cp aF (ag 1))) (aS F.pY (pZ F) Z (bI (ag 0) az))))))))))))))))
def Rj (F:bq K mg):bZ P w K mg base "_law_some_row" (top 93) Oc 2 yJ:=λ{_ _} G =>
 cb G [aeG,"_law_some"] (by kernel_rfl) λZ _ _ _ _ _ _ Y=>(@aH _ _ _ _ _ _ (@ck _ _ _ _ _ 1 _ _ Z (@Ee _ _ 2 _ _ rfl) rfl (ο rfl) rfl (ο rfl)) (aH (ck 1 Z (bu cp (ag 1) (hX (bB aF (bB aF (bB aF (bB aF (bB aF (bB aF dS))))))))) (ax (aQ (bw (ag 1) (aS F.pY (pZ F) Y (bI (ag 0) az)))))))
def Jw (F:bq K mg):bZ P w K mg base "_law_figures" (top 89) oK 1 yO:=λ{_ _} G =>
 cb G oK (by kernel_rfl) λY _ _ _ _ _ _ Z=>(ax (aQ (dM (CC uh uh az (cA fX rfl F.fV fZ (ao (ag 0))) az) (cZ (dw (bQ Z) (gm ["_law_sign"] (Ej (ag 0)) (λ_ _ _ _ _ _=>⟨(tD (bC VJ (ag 0) aF rfl)),(ag 0)⟩)) (hX dS) (aZ _))))))
def Jc (F:bq K mg):bZ P w K mg base "_law_is_sheet" (top 91) oK 2 yK:=λ{_ _} G =>
 cb G [aeI,"_law_parts"] (by kernel_rfl) λY _ _ _ _ _ _ Z=>(aH (ck 1 Y (qd (ag 0) aF)) (ax (aQ (dM (dw (bQ Z) (cA fX rfl F.fV fZ (ao (ag 1))) az (aZ _)) (cZ (dw (vU Z) gE (gm ["_law_part"] (gB (ag 1)) (λ_ _ _ _ _ _=>⟨eZ,(ua (dw (bQ Z) (ag 0) aF (aZ _)) (cZ (aS F.Jq (Jw F) Z (ao (ag 0)))))⟩)) rfl))))))
def vj (F:bq K mg):bZ P w K mg base "_law_is_number" (top 90) oK 2 lY:=λ{_ _} G =>
 cb G oK (by kernel_rfl) λY _ _ _ _ _ _ Z=>(ax (aQ (dM (aS F.Jq (Jw F) Z (ao (ag 0))) (cZ (ua (dw (kA Z) (bw (ag 0) az) aF (aZ _)) (cZ (dw (bQ Z) (ag 0) aF (aZ _))))))))
def SA (F:bq K mg):bZ P w K mg base "_law_is_row" (top 92) Od 3 yQ:=λ{_ _} G =>
 cb G [aeH,"_law_words"] (by kernel_rfl) λY _ _ _ _ _ _ Z=>(aH (ck 1 Y (qd (ag 0) aF)) (aH (bL (bC (bQ Z) (bw (ag 1) az) aF (aZ _)) (aH (ck 1 Y (lB (ag 1) (fY az) iF)) (ax (bL (PW.pt (w_or (bC (bQ Z) (ag 1) (hX dS) (aZ _)) (jH (bC (vU Z) (bw (ag 1) az) (eQ (bI aF aF)) rfl)))) (ax (aQ gE)) bR))) bR) (aH (bL (bC (lA Z) (bw (ag 1) az) (eQ (bI aF aF)) rfl) (aH (bL (PW.pt (w_or (bC (kA Z) (cA fX rfl F.fV fZ (ao (ag 1))) az (aZ _)) (w_or (gO (dU (aS F.vi (vj F) Z (ao (bw (ag 1) az))))) (jH (gO (dU (aS F.vi (vj F) Z (ao (bw (ag 1) az))))))))) (ax (aQ gE)) bR) (ax (aQ (E3 (bC (bQ Z) (bw (ag 1) az) aF (aZ _)) (aS F.IZ (Jc F) Z (ao (bw (ag 1) az))) (aS F.vi (vj F) Z (ao (bw (ag 1) az))))))) bR) (aH (bL (bC (bQ Z) (bw (ag 1) az) aF (aZ _)) (ax (aQ (dM (dw (bQ Z) (cA fX rfl F.fV fZ (ao (ag 1))) az (aZ _)) (dM (aS F.vi (vj F) Z (ao (bw (ag 1) az))) (cZ (aS F.vi (vj F) Z (ao (bw (ag 1) az)))))))) bR) (aH (bL (bC (bQ Z) (bw (ag 1) az) aF (aZ _)) (ax (aQ (dM (dw (bQ Z) (cA fX rfl F.fV fZ (ao (ag 1))) az (aZ _)) (cZ (aS F.IZ (Jc F) Z (ao (bw (ag 1) az))))))) bR) (ax (aQ (dw (lA Z) (ag 0) (eQ (bI aF aF)) rfl))))))))
def QN (F:bq K mg):kL P w K mg base "Diary" "__init__" "Diary.__init__" (eV (top 52) 0) kj 1 vq:=λ{_ _} G =>
 ox G kj (by kernel_rfl) λZ _ _ _ _ _ _ Y L=>(ax (N2 F.ve (ag 0) (tw (ao (eQ dS)))))
def Jd (F:bq K mg):kL P w K mg base "Desk" "__init__" "Desk.__init__" (eV (top 78) 0) kj 3 rP:=λ{_ _} G =>
 ox G kj (by kernel_rfl) λY _ _ _ _ _ _ Z L=>(ax (N2 F.vh (ag 0) (Ef F.VT (QN F) Z)))
def Zy (F:bq K mg) {c T:ß} (ht:aev K "law"=ϊ (c,T)) (hC:PySem.W.codeHdIn K c T=ό) (hB:base.BuiltinsAt mg T) {f:ß} {fd:Ĩ} (G:Gd K mg "law" (top 95) Oe f fd) (hx:ì K Ò "law"=ϊ (ϊ (.ref f))):cV P w K mg base eD 15 f fd Oe (lS K Aa):=by
 exact aaT G hx ht [aeF,"_law_k",aeG,"_law_desk","_law_other_here",aeH,"_law_turn","_law_ahead","_law_told","_law_thing"] (by kernel_rfl) λY _ _ _ _ _ Z=>(aH (qx Ź rfl (kZ rfl F.jA (ao (cA (YR rfl) rfl F.Zu aaC (bI az (cA (YS rfl) rfl F.Zv aaD (bI (cA fX rfl F.fV fZ (ao (ag 0))) az)))))) (cP 1 Y) (aH (ck 2 Y (aS F.T5 (Ua F) Z (bI (ag 0) (ag 1)))) (aH (nE (eQ (bI (Ef F.LV (Jd F) Z) (Ef F.LV (Jd F) Z))) (tB rfl (dR (cP 3 Y) (dR (cP 4 Y) ny)))) (aH (qx Ź rfl (gB (hX (j8 aF aF aF))) (cP 5 Y) (ax (gv (z9 F.rQ (rR F) Z (ag 3) (ao (ag 5)))))) (aH (qx Ź rfl (kZ rfl F.jA (ao az)) (cP 6 Y) (aH (nE (eQ (bI (aS F.T9 (Ue F) Z (bI (ag 2) (aS F.Ra (Rj F) Z (ao (ag 2))))) (z9 F.rQ (rR F) Z (ag 3) (ao aF)))) (tB rfl (dR (cP 5 Y) (dR (cP 7 Y) ny)))) (aH (ck 8 Y (NX [aeH,"_law_desk"] rfl rfl ht hC hB F.LW (LX F) K2 Z (λ_ _ _ _ _ _ _ _ _ _ Z L=>(tK F.rQ (rR F) (eY L) Z (ag 1) (ao (ag 0)))))) (aH (bL (PW.pt (w_or (bC (kA Z) (dw (bQ Z) (ag 8) (eQ (bI aF az)) (aZ _)) (D3 (aS F.Sy (SA F) Z (ao (ag 5)))) (aZ _)) (jH (bC (bQ Z) (bw (ag 8) az) aF (aZ _))))) (ax (aQ gE)) bR) (ax (bL (PW.pt (w_and (bC (kA Z) (bw (ag 8) az) aF (aZ _)) (sO (bC (kA Z) (z9 F.rQ (rR F) Z (ag 3) (ao aF)) (ag 7) (aZ _))))) (ax (aQ gE)) bR)))))) (aH (qx Ź rfl (gB (hX (bB D1 (bB az (bB (hX (ao aF)) (bB (eQ (ao aF)) (bB gE (bB Y4 dS)))))))) (cP 9 Y) (ax (bL (bC (kA Z) (NX ["_law_thing","_law_desk"] rfl rfl ht hC hB F.LW (LX F) K2 Z (λ_ _ _ _ _ _ _ _ _ _ Z L=>(tK F.rQ (rR F) (eY L) Z (ag 1) (ao (ag 0))))) (eQ (bI aF az)) (aZ _)) (ax (aQ gE)) bR))) (ax (bL (bC (kA Z) (z9 F.rQ (rR F) Z (ag 4) (ao aF)) aF (aZ _)) (ax (aQ gE)) bR)))))))) (ax (aQ gE)))
end
end DI.cD
namespace DI
open PySem L2
structure Ex (k:Nat) (s s':ae):Prop where
 len:s.length<=s'.length
 val:∀j,j<s.length->j≠k->s'[j]?=s[j]?
theorem Ex.trans (h:Ex k a b) (g:Ex k b c):Ex k a c:=⟨Ý h.len g.len,λj Z Y=>(g.val j (Ê Z h.len) Y).trans (h.val j Z Y)⟩
theorem Ex.set (k:Nat) (s:ae) (c:Cell):Ex k s (s.set k c):=⟨by simp,λj _ Z=>õ (ź Z)⟩
def Ex.app (k:Nat) (s:ae) (c:List Cell):Ex k s (s++c):=⟨by simp,λj Z _=>ç Z⟩
def Ha (x y:D) (k:Nat) (s:ae) (h:s[k]?=ϊ (.lst [x,y])):ay (.aj k) (.int 0) s=ok x s:=by
 simp[ay,kJ,res,h,cW,gG,bS]
def P1 (x y:D) (k:Nat) (s:ae) (h:s[k]?=ϊ (.lst [x,y])):ay (.aj k) (.int 1) s=ok y s:=by
 simp[ay,kJ,res,h,cW,gG,bS]
def OX (x y z:D) (k:Nat) (s:ae) (h:s[k]?=ϊ (.lst [x,y])):my (.aj k) (.int 0) z s=ϊ (s.set k (.lst [z,y])):=by
 simp[my,h,gG]
@[simp] theorem zI {a:D} {r:Env} {s:ae}:aa 0 (ϊ a::r) s=ok a s:=rfl
@[simp] theorem zJ {i:Nat} {a:Option D} {r:Env} {s:ae}:aa (i+1) (a::r) s=aa i r s:=rfl
def ltI (i j:Int) (s:ae):kB (.int i) (.int j) s=ok (.bl (ώ (i<j))) s:=rfl
def gtI (i j:Int) (s:ae):Av (.int i) (.int j) s=ok (.bl (ώ (j<i))) s:=rfl
def geI (i j:Int) (s:ae):xr (.int i) (.int j) s=ok (.bl (ώ (j<=i))) s:=rfl
def leI (i j:Int) (s:ae):lu (.int i) (.int j) s=ok (.bl (ώ (i<=j))) s:=rfl
def OY (i j:Int) (s:ae):bh (.int i) (.int j) s=ok (.int (i+j)) s:=rfl
def acB (i j:Int) (s:ae):wI (.int i) (.int j) s=ok (.int (i-j)) s:=rfl
def eqI (i j:Int) (s:ae):aW (.int i) (.int j) s=ok (.bl (i==j)) s:=rfl
def neI (i j:Int) (s:ae):dZ (.int i) (.int j) s=ok (.bl (!(i==j))) s:=rfl
def uw {i j:Int} (s:ae) (h:0<j):nF (.int i) (.int j) s=ok (.int (i % j)) s:=by
 simp[nF,E7,h,bS]
def OZ (s:ae) (h:0<j) (h2:j<1073741824):wK (.int i) (.int j) s=ok (.int (i / j)) s:=by
 simp[wK,E8,h,h2,bS]
def xG (s:ae) (h:wJ i j=ό):jI (.int i) (.int j) s=ok (.int (i*j)) s:=by
 simp[jI,E6,h,bS]
def mulOk_of (h1:-(2 ^ 64)<i) (h2:i<2 ^ 64):wJ i j=ό:=by
 delta wJ;rw[È h1,È h2];rfl
def le_size (h:n<=1000000):n<=Õ:=Ý h (by decide)
def Cb (h1:-1000000<=j) (h2:j<=1000000):kh j=ό:=by
 delta kh;rw[È (show -(2 ^ 62)<=j by omega),È (show j<2 ^ 62 by omega)];rfl
def nB {α:Type} {xs:List α} {i:Int} (h0:0<=i) (h1:i<xs.length):∃x,cW xs i=ϊ x/\xs[i.toNat]?=ϊ x:=by
 have Z:i.toNat<xs.length:=by omega
 refine⟨xs[i.toNat],?_,Ø Z⟩;delta cW gG;rw[Ñ h0,Ñ h1];exact Ø Z
def Xq {ns:List Int} {i:Int} {s:ae} (h0:0<=i):∃c:Int,vA [.bO ns,.int i] s=ok (.int c) s:=by
 by_cases h:i<(ns.length:Int)
 ·obtain⟨x,Z,_⟩:=nB h0 h
  refine⟨x,?_⟩;have Y:ay (.bO ns) (.int i) s=ok (.int x) s:=by simp[ay,kJ,res,Z,bS]
  erw[vA,aD,aq,aM,aV,e2,eB,af,ah,cI,nN,res,bS,zI,zJ,eC,bU,à,ŋ,Ħ,Ļ,â,ă,ò,ltI,iT,È h,aA,Y,Ö]
 ·refine⟨0,?_⟩
  erw[vA,aD,aq,aM,aV,e2,eB,af,ah,cI,nN,res,bS,zI,zJ,eC,bU,à,ŋ,Ħ,Ļ,â,ă,ò,ltI,iT,Ì h,Æ,ï,bH,aA,Ö]
structure iy (m:Nat) (ns:List Int):Prop where
 lo:∀x∈ns,0<=x/\x<m
 up:ns.Pairwise (· < ·)
abbrev mD (ns:List Int):D:=.tup (ns.map D.int)
def iy.len (h:iy m ns):ns.length<=m:=by
 have key:∀(l:List Int) (b:Int),l.Pairwise (· < ·)->(∀x∈l,b<=x/\x<m)->(l.length:Int)<=m-b\/l=[]:=by
  intro l
  induction l with
  |nil=>intro b _ _;exact .inr rfl
  |cons x l ih =>
   intro b X Z;obtain⟨W,V⟩:=ø.mp X;have U:=Z x Þ;left
   rcases ih (x+1) V (λy Y=>⟨by have:=W y Y;omega,(Z y (Ï _ Y)).2⟩) with h|h
   ·rw[â];omega
   ·subst h
    simp;omega
 rcases key ns 0 h.up h.lo with h'|h'
 ·omega
 ·subst h';simp
def mj (h:fa env s=ok [.int n] s1) (hn:n<=1000000):iI fa env s=ok (df 0 n) s1:=by
 delta iI;rw[h,bU]
 show (if kh (n:Int)=ό then ok (df 0 (n:Int).toNat) s1 else ϋ)=_
 rw[Ñ (Cb ⋯ ⋯),ĳ]
def Zz (h:fa env s=ok [.int i,.int j] s1) (h1:-1000000<=i) (h2:i<=1000000) (h3:-1000000<=j) (h4:j<=1000000):AS fa env s=ok (df i (j-i).toNat) s1:=by
 delta AS;rw[h,bU]
 show (if (kh i&&kh j)=ό then ok (df i (j-i).toNat) s1 else ϋ)=_
 rw[Ñ (by rw[Cb h1 h2,Cb h3 h4];rfl)]
def M6:Wp (kB (.int i) (.int j) s) Q=Q (.bl (ώ (i<j))) s:=by rw[ltI,bF]
def M7:Wp (Av (.int i) (.int j) s) Q=Q (.bl (ώ (j<i))) s:=by rw[gtI,bF]
def ZA:Wp (xr (.int i) (.int j) s) Q=Q (.bl (ώ (j<=i))) s:=by rw[geI,bF]
def zK:Wp (lu (.int i) (.int j) s) Q=Q (.bl (ώ (i<=j))) s:=by rw[leI,bF]
def Xr:Wp (bh (.int i) (.int j) s) Q=Q (.int (i+j)) s:=by rw[OY,bF]
def LY:Wp (wI (.int i) (.int j) s) Q=Q (.int (i-j)) s:=by rw[acB,bF]
def qp:Wp (aW (.int i) (.int j) s) Q=Q (.bl (i==j)) s:=by rw[eqI,bF]
def zL:Wp (dZ (.int i) (.int j) s) Q=Q (.bl (!(i==j))) s:=by rw[neI,bF]
end DI
def DI.VCr:=ë @DI.bF <| ë @DI.Zq <| ë @DI.Ab <| ë @DI.aR <| ë @DI.bx <| ë @DI.bA <| ë @DI.oJ <| ë @DI.bj <| ë @DI.aP <| ë @DI.aL <| ë @DI.c8 <| ë @DI.wp_call <| ë @DI.iD <| ë @DI.j9 <| ë @DI.DC <| ë @DI.MX <| ë @DI.eJ <| ë @DI.cB <| ë @DI.qm <| ë @DI.kT <| ë @DI.CK <| ë @DI.kc <| ë @DI.vZ <| ë @DI.kU <| ë @DI.DD <| ë @DI.LQ <| ë @DI.sS <| ë @DI.MY <| ë @DI.dD <| ë @DI.bW <| ë @DI.pW <| ë @DI.VL <| ë @DI.oq <| ë @DI.oz <| ë @DI.eG <| ë @DI.gb <| ë @DI.Xn <| ë @DI.LR <| ë @DI.Zs <| ë @DI.sH <| ë @DI.LS <| ë @DI.MZ <| ë @DI.dO <| ë @DI.jB <| ë @DI.Ad <| ë @DI.zH <| ë @DI.M6 <| ë @DI.M7 <| ë @DI.ZA <| ë @DI.zK <| ë @DI.Xr <| ë @DI.LY <| ë @DI.qp <| @DI.zL
local macro_rules | `(tactic| simp only[VC])=>`(tactic| simp only[VC,true_and])
local macro_rules | `(tactic| simp only[VC,$xs,*])=>`(tactic| simp only[DI.VCr,DI.bz,DI.ke,DI.Zr,DI.aa6,DI.VM,DI.jE,DI.Zt,List.map_cons,List.map_nil,List.cons_append,List.nil_append,List.length_cons,List.length_nil,List.set_cons_succ,List.set_cons_zero,List.replicate,true_and,Nat.reduceSub,Nat.reduceAdd,$xs,*])
namespace DI
open PySem L2
def aeB {α:Type} {r:Res α} {d:α} {s:ae} (h:Wp r λa s'=>a=d/\s'=s):r=DI.ok d s:=by
 obtain⟨a,s',e,rfl,rfl⟩:=h;exact e
def nh {f:aez D} {env:Env} {s s1:ae} {ds:List D} (h:f env s=ok (.tup ds) s1):cH f env s=ok ds s1:=by
 delta cH;rw[h];rfl
def ni (h:f env s=ok (.lst ds) s1):cH f env s=ok ds s1:=by
 delta cH;rw[h];rfl
theorem yR:∀(ns:List Int),cQ (ns.map D.int)=ό
 | []=>rfl
 |n::ns=>by erw[à,cQ,lay,yR ns,ĵ]
def LZ (x:Int) (ns:List Int):((ns.map D.int).any λy=>beq y (.int x))=ώ (x∈ns):=by
 induction ns with
 |nil=>simp
 |cons n ns ih =>
  erw[à,List.any_cons,ih,beq];by_cases h:n=x
  ·subst h;simp
  ·have Z:¬ x=n:=λe=>h e.symm
   simp[h,Z]
def zo {x:Int} {ns:List Int} {s:ae}:fe (.int x) (mD ns) s=ok (.bl (ώ (x∈ns))) s:=by
 have Z:nG 100 (.int x) (ns.map D.int)=ό:=by erw[nG,lay,yR,dep,ĵ,Ē,Ķ]
 have e:inD (.int x) (ns.map D.int)=ϊ (ώ (x∈ns)):=by delta inD;rw[Ñ Z,LZ]
 delta fe;rw[show nH (mD ns) s=ϊ (ns.map D.int) from rfl];erw[e];rfl
def SD:fT (.int x) (mD ns) s=ok (.bl (!ώ (x∈ns))) s:=by
 have Z:nG 100 (.int x) (ns.map D.int)=ό:=by erw[nG,lay,yR,dep,ĵ,Ē,Ķ]
 have e:inD (.int x) (ns.map D.int)=ϊ (ώ (x∈ns)):=by delta inD;rw[Ñ Z,LZ]
 delta fT;rw[show nH (mD ns) s=ϊ (ns.map D.int) from rfl];erw[e];rfl
def sub (a b:List Int):Bool:=a.all λx=>ώ (x∈b)
def qf {α:Type} (p:α->Bool) (xs:List α) (s:ae):mw [.lst (xs.map λx=>D.bl (p x))] s=ok (.bl (xs.all p)) s:=by
 have e:iu (xs.map λx=>D.bl (p x))=ϊ (xs.map p):=by
  have:=W2 (bs:=xs.map p);rw[Ġ] at this;exact this
 show bS ((iu (xs.map λx=>D.bl (p x))).map λ(bs:List Bool)=>D.bl (bs.all id)) s=_;rw[e];show ok (D.bl ((xs.map p).all id)) s=_;rw[List.all_map];rfl
def filter_tt {α:Type} (xs:List α):xs.filter (λ_=>ό)=xs:=by simp
def vF {nt:Nat} {caps:Env} {g:D->Env->Option Env} {t:aez Bool} {f:aez D} {s:ae} (p:Int->Bool) (h:Int->D) (ns:List Int) (hh:∀n∈ns,∃env,g (.int n) (Ö nt ϋ++caps)=ϊ env/\t env s=ok (p n) s/\(p n=ό->f env s=ok (h n) s)) :
  iC nt caps g t f (ns.map D.int) s=ok ((ns.filter p).map h) s:=by
 induction ns with
 |nil=>rfl
 |cons n ns ih =>
  obtain⟨env,Y,X,W⟩:=hh n Þ;have ih:=ih λV U=>hh V (Ï _ U);rw[à];delta iC;rw[Y];erw[X,qw,bU]
  cases Z:p n with
  |true=>erw[ò,W Z,qw,bU,ih,Ŧ,Z,à]
  |false=>erw[Æ,ï,ih,Ŧ,Z]
def comp_map {α:Type} (d:α->D) (p:α->Bool) (h:α->D) (xs:List α) (hh:∀x∈xs,∃env,g (d x) (Ö nt ϋ++caps)=ϊ env/\t env s=ok (p x) s/\(p x=ό->f env s=ok (h x) s)) :
  iC nt caps g t f (xs.map d) s=ok ((xs.filter p).map h) s:=by
 induction xs with
 |nil=>rfl
 |cons n T ih =>
  obtain⟨env,Y,X,W⟩:=hh n Þ;have ih:=ih λV U=>hh V (Ï _ U);rw[à];delta iC;rw[Y];erw[X,qw,bU]
  cases Z:p n with
  |true=>erw[ò,W Z,qw,bU,ih,Ŧ,Z,à]
  |false=>erw[Æ,ï,ih,Ŧ,Z]
def Ug:Bw [.int i] s=ok (.bl (ώ (0<=i))) s:=by
 rfl
def sj:rT [.int i,.int m] s=ok (.bl (ώ (0<=i)&&ώ (i<m))) s:=by
 refine aeB ?_;delta rT;simp only[VC,Ug];by_cases h:0<=i
 ·simp[h]
 ·simp[h]
def L0:se [.int i] s=ok (.bl (ώ (0<=i)&&ώ (i<8))) s:=by
 refine aeB ?_;delta se;simp only[VC,sj,true_and]
def K4 (xs:List D):cutD xs (ϊ 1) ϋ=xs.drop 1:=by
 delta cutD HT.bp
 cases xs with
 |nil=>simp
 |cons x xs =>
  erw[â]
  have e:(if (1:Int)<0 then (1+((xs.length+1:Nat):Int)).toNat else min (1:Int).toNat (xs.length+1))=1:=by simp
  simp
def rise:List Int->Bool
 | []=>ό
 | [_]=>ό
 |a::b::r=>ώ (a<b)&&rise (b::r)
def Xs (h:ns.Pairwise (· < ·)):rise ns=ό:=by
 induction ns with
 |nil=>rfl
 |cons a ns ih =>
  cases ns with
  |nil=>rfl
  |cons b r =>
   obtain⟨Z,Y⟩:=ø.mp h;erw[rise,ih Y,ad8];exact È (Z b Þ)
theorem K5:∀(ns:List Int),((ns.zip (ns.drop 1)).all λp=>ώ (p.1<p.2))=rise ns
 | []=>rfl
 | [_]=>rfl
 |a::b::r=>by
  have ih:=K5 (b::r);erw[List.drop_succ_cons,List.drop_zero,Ĺ,List.all_cons,rise] at ih |-;rw[ih]
def Uh (xs ys:List Int):jh (xs.map D.int) (ys.map D.int)=(xs.zip ys).map λp=>D.tup [.int p.1,.int p.2]:=by
 delta jh;rw[List.zip_map,Ġ];rfl
def K6 (h:fa env s=ok [.tup xs,.tup ys] s1):ue fa env s=ok (jh xs ys) s1:=by
 delta ue;rw[h];rfl
def Ui (hl:ns.length<=1000000):pQ [mD ns] s=ok (.bl (rise ns)) s:=by
 refine aeB ?_;delta pQ;simp only[VC];have Z:ue (af (aa 0) (af (gn (aa 0) (cJ (eC (.int 1))) fk) ah)) [ϊ (mD ns)] s=ok (jh (ns.map D.int) ((ns.drop 1).map D.int)) s:=by
  refine K6 (aeB ?_);simp only[VC];rw[LU (i:=1) rfl]
  try simp only[VC]
  refine aeA (show qk (mD ns) (ϊ 1) ϋ s=ok (.tup (cutD (ns.map D.int) (ϊ 1) ϋ)) s from rfl) ⟨?_,rfl⟩;rw[K4,List.map_drop]
 refine aeA Z ⟨le_size (by rw[BY];erw[É];omega),?_⟩;rw[Uh];refine aeA (comp_map (λp:Int×Int=>D.tup [.int p.1,.int p.2]) (λ_=>ό) (λp=>.bl (ώ (p.1<p.2))) _ λp _=>⟨[ϊ (.int p.1),ϊ (.int p.2)],rfl,rfl,λ_=>rfl⟩) ?_;rw[filter_tt];exact aeA (qf _ _ _) ⟨by rw[K5],rfl⟩
def L3 (lo:Int) (n:Nat):df lo n=(è n).map λi:Nat=>D.int (lo+i):=rfl
def ZC (rs:List (List Int)) (laid:List Int) (m:Int):Bool:=((è laid.length).filter λi=>laid.getD i 0==m).all λi=>sub (rs.getD i []) (rs.getD laid.length [])
def sV {α:Type} (d:α->D) (p:α->Bool) (h:α->List D) (xs:List α) (hh:∀x∈xs,∃env,g (d x) kq=ϊ env/\t env s=ok (p x) s/\(p x=ό->act env s=ok (h x) s)) :
  iV g t act kq (xs.map d) s=ok ((xs.filter p).flatMap h) s:=by
 induction xs with
 |nil=>rfl
 |cons n T ih =>
  obtain⟨env,Y,X,W⟩:=hh n Þ;have ih:=ih λV U=>hh V (Ï _ U);rw[à];delta iV;rw[Y];erw[X,qw,bU]
  cases Z:p n with
  |true=>erw[ò,W Z,qw,bU,ih,Ŧ,Z,List.flatMap_cons]
  |false=>erw[Æ,ï,ih,Ŧ,Z]
def Cc :
  Wp (wo nt cap it gd c act env s) Q=Wp (it env s) λds s=>Wp (iV gd c act (Ö nt ϋ++iO cap env) ds s) λxs s=>xs.length<=Õ/\Q (.lst xs) s:=by
 delta wo;erw[bP,Ab,vK,bF]
def step (rs:List (List Int)) (told:List (List Int)):List (List Int):=told.flatMap λlaid=>([0,1].filter λm=>ZC rs laid m).map λm=>laid++[m]
open TK
def markB (i:Int):Bool:=ώ (0<=i)&&ώ (i<8)
def kf (i:Int):Bool:=ώ (0<=i)&&ώ (i<4)
def jk (i:Int):Bool:=ώ (0<=i)&&ώ (i<31)
def fW (ns:List Int):Bool:=ns.all markB&&rise ns
def kg (a b:List Int):Bool:=!(a.any λx=>ώ (x∈b))
def dX:Pg->Bool
 | .made m d h l=>kf m&&jk d&&(fW h&&(fW l&&kg h l))
 | .de m d k=>kf m&&jk d&&markB k
def jm:Pg->Prop
 | .made _ _ h l=>h.length<=1000/\l.length<=1000
 | .de _ _ _=>True
def VW:iu (bs.map D.bl)=ϊ bs:=by
 induction bs with
 |nil=>rfl
 |cons b bs ih=>erw[à,iu,ih];rfl
def K7 {α:Type} (p:α->Bool) (xs:List α) (s:ae):ui [.lst (xs.map λx=>D.bl (p x))] s=ok (.bl (xs.any p)) s:=by
 have e:iu (xs.map λx=>D.bl (p x))=ϊ (xs.map p):=by
  have:=VW (bs:=xs.map p);rw[Ġ] at this;exact this
 erw[ui,res,e,bS,abI,List.any_map,Ş,id]
def K8 (hl:ns.length<=1000):vt [mD ns] s=ok (.bl (fW ns)) s:=by
 refine aeB ?_;delta vt;simp only[VC];refine aeA (show gR [mD ns,.ty "tuple"] s=ok (.bl ό) s from rfl) ?_;simp only[VC,ò];refine aeA (nh rfl) ⟨le_size (by rw[É];omega),?_⟩;refine aeA (vF (λ_=>ό) (λx=>.bl (markB x)) ns λn _=>⟨[ϊ (.int n)],rfl,rfl,λ_=>?_⟩) ?_
 ·refine aeB ?_
  simp only[VC,L0,markB,true_and]
 ·rw[filter_tt]
  refine aeA (qf _ _ _) ?_;simp only[VC];delta fW
  cases e:ns.all markB with
  |true =>
   erw[ò,ú];exact aeA (Ui ⋯) ⟨rfl,rfl⟩
  |false=>simp
def Cd (ha:a.length<=1000):rM [mD a,mD b] s=ok (.bl (kg a b)) s:=by
 refine aeB ?_;delta rM;simp only[VC];refine aeA (nh rfl) ⟨le_size (by rw[É];omega),?_⟩;refine aeA (vF (λ_=>ό) (λx=>.bl (ώ (x∈b))) a λn _=>⟨[ϊ (.int n),ϊ (mD b)],rfl,rfl,λ_=>?_⟩) ?_
 ·refine aeB ?_
  simp only[VC,zo,true_and]
 ·rw[filter_tt]
  refine aeA (K7 _ _ _) ?_;simp only[VC];exact⟨rfl,trivial⟩
def Ce (h1:h.length<=1000) (h2:l.length<=1000):pS [.tup [mD h,mD l]] s=ok (.bl (fW h&&(fW l&&kg h l))) s:=by
 refine aeB ?_;delta pS;simp only[VC];refine aeA (show gR [.tup [mD h,mD l],.ty "tuple"] s=ok (.bl ό) s from rfl) ?_;simp only[VC,ý,Æ,ï];refine aeA (show cI [.tup [mD h,mD l]] s=ok (.int 2) s from rfl) ?_;simp only[VC];simp only[VC,Ė,ý,Æ,ï];refine aeA (K8 h1) ?_;simp only[VC]
 cases fW h with
 |false=>simp
 |true =>
  erw[ò,ú];refine aeA (K8 h2) ?_;simp only[VC]
  cases fW l with
  |false=>simp
  |true =>
   erw[ò,ú];exact aeA (Cd h1) ⟨rfl,rfl⟩
def K9:rW [.int i] s=ok (.bl (kf i)) s:=by
 refine aeB ?_;delta rW;simp only[VC,sj,kf,ģ]
def M8:su [.int i] s=ok (.bl (jk i)) s:=by
 refine aeB ?_;delta su;simp only[VC,sj,jk,ģ]
def mR:aW (.str x) (.str y) s=ok (.bl (ώ (x=y))) s:=by
 show ok (D.bl (x==y)) s=_
 by_cases e:x=y<;>simp[e]
def Xt:¬ (Ĉ "made"=Ĉ "mended"):=nofun
def CL:¬ (Ĉ "mended"=Ĉ "made"):=nofun
def A8:aez Fl:=aq (aM (aV (e2 aW (aa 1) (eC (.str "made")))) (aA (aG pS (af (aa 4) ah))) bH) (aA (cN (e2 aW (aa 1) (eC (.str "mended"))) (aG se (af (aa 4) ah))))
def L4 {x:Str} {m d:Int} {w:D} {s:ae} {b:Bool} (h:Wp (A8 [ϊ (.tup [.str x,.int m,.int d,w]),ϊ (.str x),ϊ (.int m),ϊ (.int d),ϊ w] s) (o7 λd s'=>d=.bl b/\s'=s)):sh [.tup [.str x,.int m,.int d,w]] s=ok (.bl (kf m&&jk d&&b)) s:=by
 refine aeB ?_;show Wp (aD 1 5 (aq _ (aq _ (aq _ A8))) _ s) _;simp only[VC];refine aeA (show gR [.tup [.str x,.int m,.int d,w],.ty "tuple"] s=ok (.bl ό) s from rfl) ?_;simp only[VC,ý,Æ,ï];refine aeA (show cI [.tup [.str x,.int m,.int d,w]] s=ok (.int 4) s from rfl) ?_;simp only[VC,Ė,ý,Æ,ï];refine aeA K9 ?_;simp only[VC]
 cases kf m with
 |false=>simp[ke,jE,bW,bA]
 |true =>
  erw[ý,Æ,ï,ú];refine aeA M8 ?_;simp only[VC]
  cases jk d with
  |false=>simp[ke,jE,bW,bA]
  |true =>
   simp only[VC,ý,Æ,ï,ú];exact h
def CN (hf:jm p):sh [p.d] s=ok (.bl (dX p)) s:=by
 cases p with
 |made m d h l =>
  refine L4 ?_;delta A8;simp only[VC];refine aeA mR ?_;simp only[VC,Ķ,ò];exact aeA (Ce hf.1 hf.2) ⟨rfl,rfl⟩
 |de m d k =>
  refine L4 ?_;delta A8;simp only[VC];refine aeA mR ?_;simp only[VC,Ì CL,Æ,ï];refine aeA mR ?_;simp only[VC,Ķ,ò];exact aeA L0 ⟨rfl,rfl⟩
abbrev bD (ps:List Pg):D:=.tup (ps.map Pg.d)
def ZD:kB p.d q.d s=ok (.bl (cw.lt p q)) s:=by
 delta kB;rw[Ñ (by rw[ql _ (zY p),ql _ (zY q)];erw[ĵ,ú,Ë];have:=zz p;omega),NW];rfl
def xa (ps:List Pg):Bool:=(ps.zip (ps.drop 1)).all λp=>cw.lt p.1 p.2
def VX (xs ys:List Pg):jh (xs.map Pg.d) (ys.map Pg.d)=(xs.zip ys).map λp=>D.tup [p.1.d,p.2.d]:=by
 delta jh;rw[List.zip_map,Ġ];rfl
def SE (hl:ps.length<=1000):pQ [bD ps] s=ok (.bl (xa ps)) s:=by
 refine aeB ?_;delta pQ;simp only[VC];have Z:ue (af (aa 0) (af (gn (aa 0) (cJ (eC (.int 1))) fk) ah)) [ϊ (bD ps)] s=ok (jh (ps.map Pg.d) ((ps.drop 1).map Pg.d)) s:=by
  refine K6 (aeB ?_);simp only[VC];rw[LU (i:=1) rfl]
  try simp only[VC]
  refine aeA (show qk (bD ps) (ϊ 1) ϋ s=ok (.tup (cutD (ps.map Pg.d) (ϊ 1) ϋ)) s from rfl) ⟨?_,rfl⟩;rw[K4,List.map_drop]
 refine aeA Z ⟨le_size (by rw[BY];erw[É];omega),?_⟩;rw[VX];refine aeA (comp_map (λp:Pg×Pg=>D.tup [p.1.d,p.2.d]) (λ_=>ό) (λp=>.bl (cw.lt p.1 p.2)) _ λp _=>⟨[ϊ p.1.d,ϊ p.2.d],rfl,rfl,λ_=>?_⟩) ?_
 ·refine aeB ?_
  simp only[VC,ZD,ģ]
 rw[filter_tt];exact aeA (qf _ _ _) ⟨rfl,rfl⟩
def nJ (ps:List Pg):Bool:=ώ (ps.length<=24)&&(ps.all dX&&xa ps)
def Xu (hl:ps.length<=1000) (hf:∀p∈ps,jm p):yM [bD ps] s=ok (.bl (nJ ps)) s:=by
 refine aeB ?_;delta yM nJ;simp only[VC];refine aeA (show gR [bD ps,.ty "tuple"] s=ok (.bl ό) s from rfl) ?_;simp only[VC,ò];refine aeA (show cI [bD ps] s=ok (.int ps.length) s from by show ok (D.int (ps.map Pg.d).length) s=_;rw[É]) ?_;simp only[VC];by_cases h:ps.length<=24
 ·have Z:(ps.length:Int)<=24:=by omega
  erw[h,Z,Ķ,ò,ú];refine aeA (nh rfl) ⟨le_size (by rw[É];omega),?_⟩;refine aeA (comp_map Pg.d (λ_=>ό) (λp=>.bl (dX p)) ps λp Y=>⟨[ϊ p.d],rfl,rfl,λ_=>?_⟩) ?_
  ·refine aeB ?_
   simp only[VC,CN (hf p Y),ģ]
  ·rw[filter_tt]
   refine aeA (qf _ _ _) ?_;simp only[VC]
   cases ps.all dX with
   |false=>simp
   |true =>
    erw[ò,ú];exact aeA (SE hl) ⟨rfl,rfl⟩
 ·have Z:¬ (ps.length:Int)<=24:=by omega
  simp[h,Z]
def _root_.TK.Pg.day:Pg->Int
 | .made _ d _ _=>d
 | .de _ d _=>d
def A9 (m k:Int):Pg->Bool
 | .made Z _ h _=>ώ (Z=m)&&ώ (k∈h)
 |_=>ύ
def Ba (m k:Int):Pg->Bool
 | .made Z _ _ l=>ώ (Z=m)&&ώ (k∈l)
 |_=>ύ
def Bb (m k:Int):Pg->Bool
 | .de Z _ Y=>ώ (Z=m)&&ώ (Y=k)
 |_=>ύ
def shown (ps:List Pg) (m k:Int):List Int:=(ps.filter (A9 m k)).map Pg.day
def fu (ps:List Pg) (m k:Int):List Int:=(ps.filter (Ba m k)).map Pg.day
def dF (ps:List Pg) (m k:Int):List Int:=(ps.filter (Bb m k)).map Pg.day
abbrev lI (ns:List Int):D:=.lst (ns.map D.int)
def kM (a b c d:D) (s:ae):ay (.tup [a,b,c,d]) (.int 0) s=ok a s/\ay (.tup [a,b,c,d]) (.int 1) s=ok b s/\ay (.tup [a,b,c,d]) (.int 2) s=ok c s/\ay (.tup [a,b,c,d]) (.int 3) s=ok d s:=⟨rfl,rfl,rfl,rfl⟩
def u4 (a b:D) (s:ae):ay (.tup [a,b]) (.int 0) s=ok a s/\ay (.tup [a,b]) (.int 1) s=ok b s:=⟨rfl,rfl⟩
def Hb (p:Pg) (s:ae):ay p.d (.int 1) s=ok (.int (match p with | .made m _ _ _=>m | .de m _ _=>m)) s/\ay p.d (.int 2) s=ok (.int p.day) s:=by cases p<;>exact⟨rfl,rfl⟩
def zp (hl:ps.length<=1000):l0 [bD ps,.int m,.int k,.int 0] s=ok (lI (shown ps m k)) s/\l0 [bD ps,.int m,.int k,.int 1] s=ok (lI (fu ps m k)) s:=by
 constructor
 ·refine aeB ?_
  delta l0;simp only[VC];refine aeA (nh rfl) ⟨le_size (by rw[É];omega),?_⟩;refine aeA (comp_map Pg.d (A9 m k) (λp=>.int p.day) ps λp Y=>⟨[ϊ p.d,ϊ (.int m),ϊ (.int k),ϊ (.int 0)],rfl,?_,λ_=>?_⟩) ?_
  ·refine aeB ?_
   cases p with
   |made Z d h l =>
    simp only[VC,Pg.d];rw[(kM _ _ _ _ s).1];simp only[VC,mR,Ķ,ò];rw[(kM _ _ _ _ s).2.1];simp only[VC,A9];by_cases e:Z=m
    ·erw[e,Ė,ò,Ķ,ú]
     rw[(kM _ _ _ _ s).2.2.2];simp only[VC];rw[(u4 _ _ s).1];simp only[VC];refine aeA (zo (ns:=h)) ?_;simp only[VC,ģ]
    ·simp[e]
   |de Z d X =>
    simp only[VC,Pg.d];rw[(kM _ _ _ _ s).1];simp only[VC,mR,Ì CL,Æ,ï,A9,ģ]
  ·refine aeB ?_
   simp only[VC,(Hb p s).2,ģ]
  ·erw[shown,lI,Ġ,Ş,ģ]
 ·refine aeB ?_
  delta l0;simp only[VC];refine aeA (nh rfl) ⟨le_size (by rw[É];omega),?_⟩;refine aeA (comp_map Pg.d (Ba m k) (λp=>.int p.day) ps λp Y=>⟨[ϊ p.d,ϊ (.int m),ϊ (.int k),ϊ (.int 1)],rfl,?_,λ_=>?_⟩) ?_
  ·refine aeB ?_
   cases p with
   |made Z d h l =>
    simp only[VC,Pg.d];rw[(kM _ _ _ _ s).1];simp only[VC,mR,Ķ,ò];rw[(kM _ _ _ _ s).2.1];simp only[VC,Ba];by_cases e:Z=m
    ·erw[e,Ė,ò,Ķ,ú]
     rw[(kM _ _ _ _ s).2.2.2];simp only[VC];rw[(u4 _ _ s).2];simp only[VC];refine aeA (zo (ns:=l)) ?_;simp only[VC,ģ]
    ·simp[e]
   |de Z d X =>
    simp only[VC,Pg.d];rw[(kM _ _ _ _ s).1];simp only[VC,mR,Ì CL,Æ,ï,Ba,ģ]
  ·refine aeB ?_
   simp only[VC,(Hb p s).2,ģ]
  ·erw[fu,lI,Ġ,Ş,ģ]
def CO (hl:ps.length<=1000):rJ [bD ps,.int m,.int k] s=ok (lI (dF ps m k)) s:=by
 refine aeB ?_;delta rJ;simp only[VC];refine aeA (nh rfl) ⟨le_size (by rw[É];omega),?_⟩;refine aeA (comp_map Pg.d (Bb m k) (λp=>.int p.day) ps λp X=>⟨[ϊ p.d,ϊ (.int m),ϊ (.int k)],rfl,?_,λ_=>?_⟩) ?_
 ·refine aeB ?_
  cases p with
  |de Z d Y =>
   simp only[VC,Pg.d];rw[(kM _ _ _ _ s).1];simp only[VC,mR,Ķ,ò];rw[(kM _ _ _ _ s).2.1];simp only[VC,Bb];by_cases e:Z=m
   ·erw[e,Ė,ò,Ķ,ú]
    rw[(kM _ _ _ _ s).2.2.2];simp only[VC]
    by_cases e:Y=k<;>simp[e]
   ·simp[e]
  |made Z d h l =>
   simp only[VC,Pg.d];rw[(kM _ _ _ _ s).1];simp only[VC,mR,Ì Xt,Æ,ï,Bb,ģ]
 ·refine aeB ?_
  simp only[VC,(Hb p s).2,ģ]
 ·erw[dF,lI,Ġ,Ş,ģ]
def M9 (h:n<=1000):n<=Õ:=le_size ⋯
def xb:fe (.int x) (lI ns) s=ok (.bl (ώ (x∈ns))) s:=by
 show fe (.int x) (mD ns) s=_;exact zo
def yY:fT (.int x) (lI ns) s=ok (.bl (!ώ (x∈ns))) s:=by
 show fT (.int x) (mD ns) s=_;exact SD
def O0 (ds:List Int) (a b:Int):Bool:=ds.any λx=>ώ (a<x)&&ώ (x<=b)
def Uj (hl:ds.length<=1000):yv [lI ds,.int a,.int b] s=ok (.bl (O0 ds a b)) s:=by
 refine aeB ?_;delta yv;simp only[VC];refine aeA (ni rfl) ⟨M9 (by rw[É];omega),?_⟩;refine aeA (vF (λ_=>ό) (λx=>.bl (ώ (a<x)&&ώ (x<=b))) ds λn _=>⟨[ϊ (.int n),ϊ (.int a),ϊ (.int b)],rfl,rfl,λ_=>?_⟩) ?_
 ·refine aeB ?_
  simp only[VC]
  by_cases e:a<n<;>simp[e,bF,zK,bx,aR]
 ·rw[filter_tt]
  exact aeA (K7 _ _ _) ⟨rfl,rfl⟩
def Bc (ps:List Pg) (m k d l:Int):Bool:=(ώ (l∈fu ps m k)||(ώ (l=d)&&ώ (d∈dF ps m k)))&&!O0 (dF ps m k) d l
def qq (d:Int):List Int:=(è (31-d).toNat).map λi:Nat=>d+(i:Int)
def oB (ps:List Pg) (m k:Int):List (Int×Int):=(gC (shown ps m k)).flatMap λd=>((qq d).filter (Bc ps m k d)).map λl=>(d,l)
def yZ {ps:List Pg} {f:Pg->Bool}:((ps.filter f).map Pg.day).length<=ps.length:=by rw[É];exact ū _ _
theorem sy {α β:Type} {f:α->List β} {b:Nat}:∀{l:List α},(∀x∈l,(f x).length<=b)->(l.flatMap f).length<=l.length*b
 | [],_=>by simp
 |x::l,h=>by
  rw[List.flatMap_cons,ä,â,Nat.succ_mul];have Y:=h x Þ;have X:=sy (l:=l) λy Z=>h y (Ï _ Z);omega
def JN (d:Int) (h:0<=d):(qq d).length<=31:=by delta qq;rw[É,List.length_range];omega
structure ux (ps:List Pg):Prop where
 len:ps.length<=24
 lo:∀p∈ps,0<=p.day/\p.day<31
def ux.of (h:ux ps) (hx:x∈(ps.filter f).map Pg.day):0<=x/\x<31:=by
 obtain⟨p,Z,rfl⟩:=Č.mp hx;exact h.lo p (Ĥ.mp Z).1
def SF {ps:List Pg} {m k:Int} {s:ae} (h:ux ps):vD [bD ps,.int m,.int k] s=ok (.lst ((oB ps m k).map λp=>D.tup [.int p.1,.int p.2])) s:=by
 have Y:=h.len;have R:(shown ps m k).length<=24:=Ý yZ Y;have Q:(fu ps m k).length<=24:=Ý yZ Y;have P:(dF ps m k).length<=24:=Ý yZ Y;refine aeB ?_;delta vD;simp only[VC];refine aeA (zp ⋯).2 ?_;refine aeA (CO ⋯) ?_;rw[Cc];have T:cH (e1 sk (aG l0 (af (aa 0) (af (aa 1) (af (aa 2) (af (eC (.int (0))) ah)))))) [ϊ (bD ps),ϊ (.int m),ϊ (.int k),ϊ (lI (fu ps m k)),ϊ (lI (dF ps m k))] s=ok ((gC (shown ps m k)).map D.int) s:=by
  refine ni (aeB ?_);simp only[VC];refine aeA (zp ⋯).1 ?_;refine aeA (show sk (lI (shown ps m k)) s=ok (lI (gC (shown ps m k))) s from ?_) ⟨rfl,rfl⟩;delta sk;erw[Tu];rw[Ñ (by have:=BI (shown ps m k);rw[Ë];omega)]
 refine aeA T ?_;have day:∀d∈gC (shown ps m k),0<=d/\d<31:=λd Z=>h.of (vC.mp Z);refine aeA (sV D.int (λ_=>ό) (λd=>((qq d).filter (Bc ps m k d)).map λl=>D.tup [.int d,.int l]) _ λd Z=>⟨[ϊ (.int d),ϋ,ϊ (lI (fu ps m k)),ϊ (lI (dF ps m k))],rfl,rfl,λ_=>?_⟩) ?_
 ·have Z:=day d Z
  delta more;rw[Zz (i:=d) (j:=31) rfl ⋯ ⋯ ⋯ ⋯,bU];have S:df d (31-d).toNat=(qq d).map D.int:=by delta qq;rw[L3,Ġ];rfl
  rw[S];rw[sV D.int (Bc ps m k d) (λl=>[D.tup [.int d,.int l]]) (qq d) λl Y=>⟨[ϊ (.int d),ϊ (.int l),ϊ (lI (fu ps m k)),ϊ (lI (dF ps m k))],rfl,?_,λ_=>?_⟩]
  ·rw[<- aej]
  ·refine aeB ?_
   simp only[VC,xb];delta Bc;have X:=Uj (ds:=dF ps m k) (a:=d) (b:=l) (s:=s) ⋯;by_cases W:l∈fu ps m k
   ·simp only[VC,W,Ķ,ò,Bool.true_or,ú]
    exact aeA X (by simp only[VC,ģ])
   ·erw[W,decide_false,Æ,ï,Bool.false_or]
    by_cases V:l=d
    ·subst V
     simp only[VC,Ė,ò,Ķ,ú];by_cases U:l∈dF ps m k
     ·erw[U,Ķ,ò,ú]
      exact aeA X (by simp only[VC,ģ])
     ·simp[U]
    ·simp[V]
  ·refine aeB ?_
   delta emit;rw[bP];simp only[VC];exact⟨by decide,trivial⟩
 ·rw[filter_tt]
  refine⟨?_,?_,rfl⟩
  ·refine M9 (Ý (sy (b:=31) λd Z=>?_) ?_)
   ·rw[É]
    exact Ý (ū _ _) (JN d (day d Z).1)
   ·have:=BI (shown ps m k)
    have:(gC (shown ps m k)).length<=24:=by omega
    omega
  ·delta oB
   erw[List.map_flatMap,Ġ,Ş]
def m4:List Int:=(è 4).map λi:Nat=>(i:Int)
def k8:List Int:=(è 8).map λi:Nat=>(i:Int)
def sW (ps:List Pg):List (Int×Int×Int×Int):=m4.flatMap λm=>k8.flatMap λk=>(oB ps m k).map λp=>(m,k,p.1,p.2)
def fD (p:Int×Int×Int×Int):D:=.tup [.int p.1,.int p.2.1,.int p.2.2.1,.int p.2.2.2]
def Uk {ps:List Pg} (h:ux ps) (m k:Int):(oB ps m k).length<=744:=by
 have Y:(shown ps m k).length<=24:=Ý yZ h.len;have:=BI (shown ps m k);refine Ý (sy (b:=31) λd Z=>?_) ⋯;rw[É];exact Ý (ū _ _) (JN d (h.of (vC.mp Z)).1)
def Ul {ps:List Pg} {s:ae} (h:ux ps):yH [bD ps] s=ok (.lst ((sW ps).map fD)) s:=by
 refine aeB ?_;delta yH;erw[dO,bW,jE,à,ŋ,Ħ,Ļ,â,ă,Ö,true_and,Nat.reduceSub,Nat.reduceAdd];rw[Cc];refine aeA (mj (n:=4) rfl (by decide)) ?_;have Z:df 0 4=m4.map D.int:=rfl;have Y:df 0 8=k8.map D.int:=rfl;rw[Z];refine aeA (sV D.int (λ_=>ό) (λm=>k8.flatMap λk=>(oB ps m k).map λp=>fD (m,k,p.1,p.2)) m4 λm X=>⟨[ϊ (.int m),ϋ,ϋ,ϋ,ϊ (bD ps)],rfl,rfl,λ_=>?_⟩) ?_
 ·delta more
  rw[mj (n:=8) rfl (by decide),bU,Y];rw[sV D.int (λ_=>ό) (λk=>(oB ps m k).map λp=>fD (m,k,p.1,p.2)) k8 λk W=>⟨[ϊ (.int m),ϊ (.int k),ϋ,ϋ,ϊ (bD ps)],rfl,rfl,λ_=>?_⟩]
  ·rw[filter_tt]
  ·have V:cH (aG vD (af (aa 4) (af (aa 0) (af (aa 1) ah)))) [ϊ (.int m),ϊ (.int k),ϋ,ϋ,ϊ (bD ps)] s=ok ((oB ps m k).map λp=>D.tup [.int p.1,.int p.2]) s:=by
    refine ni (aeB ?_);simp only[VC];exact aeA (SF h) ⟨rfl,rfl⟩
   rw[V,bU];rw[sV (λp:Int×Int=>D.tup [.int p.1,.int p.2]) (λ_=>ό) (λp=>[fD (m,k,p.1,p.2)]) (oB ps m k) λp U=>⟨[ϊ (.int m),ϊ (.int k),ϊ (.int p.1),ϊ (.int p.2),ϊ (bD ps)],rfl,rfl,λ_=>?_⟩]
   ·rw[filter_tt,<- aej]
   ·refine aeB ?_
    delta emit;rw[bP];simp only[VC];exact⟨by decide,rfl,trivial⟩
 ·rw[filter_tt]
  refine⟨?_,?_,rfl⟩
  ·refine le_size (Ý (sy (b:=8*744) λm X=>?_) (by decide))
   refine Ý (sy (b:=744) λk W=>?_) (by decide);rw[É];exact Uk h m k
  ·delta sW
   erw[List.map_flatMap,Ġ,Ş]
def dG (ps:List Pg):Bool:=nJ ps&&(sW ps).isEmpty
def Um (h:nJ ps=ό):ux ps:=by
 delta nJ at h;erw[Å,Ë,ô] at h;refine⟨h.1,λp Z=>?_⟩;have:=h.2.1 p Z
 cases p<;>erw[dX,jk,Å,Ë] at this<;>exact this.1.2
def L5 (hl:ps.length<=1000) (hf:∀p∈ps,jm p):si [bD ps] s=ok (.bl (dG ps)) s:=by
 refine aeB ?_;delta si;simp only[VC];refine aeA (Xu hl hf) ?_;simp only[VC];delta dG
 cases h:nJ ps with
 |false=>simp
 |true =>
  erw[ò,ú];delta Ea;simp only[VC,bP];refine aeA (Ul (Um h)) ?_;refine aeA (show truth (.lst ((sW ps).map fD)) s=ok (!((sW ps).map fD).isEmpty) s from rfl) ?_;erw[bF];refine⟨?_,trivial⟩
  cases sW ps<;>rfl
def Na:m∈k8↔0<=m/\m<8:=by
 delta k8;rw[Č];constructor
 ·rintro ⟨i,Z,rfl⟩
  have:=Ċ.mp Z;omega
 ·rintro ⟨Y,X⟩
  exact⟨m.toNat,Ċ.mpr ⋯,by omega⟩
section
variable (s l m:Nat->Bool)
def pr:Nat->Bool
 |0=>s 0
 |d+1=>s (d+1)||(pr d&&!m (d+1))
def iz:Nat->Bool
 |0=>ύ
 |n+1=>(iz n||l (30-n))&&!m (30-n)
def br (d:Nat):Bool:=iz l m (31-d)
def ab (d:Nat):Bool:=br l m (d+1)||(l d||m d)
def f0 (d:Nat):Bool:=!s d
def t0 (d:Nat):Bool:=!m d&&!l d
def Xv:Prop:=∀d e,s d=ό->d<=e->e<=30->(l e=ό\/(e=d/\m d=ό))->∃x,d<x/\x<=e/\m x=ό
variable {s l m}
section
variable (N:Xv s l m)
include N
end
end
theorem L6:∀{ns:List Int},rise ns=ό->ns.Pairwise (· < ·)
 | [],_=>.nil
 | [a],_=>by simp
 |a::b::r,h=>by
  erw[rise,Å,Ë] at h;have ih:=L6 h.2;refine ø.mpr ⟨λx hx=>?_,ih⟩
  rcases Û.mp hx with rfl|hx
  ·exact h.1
  ·have:=(ø.mp ih).1 x hx
   omega
def sd (h:fW ns=ό):iy 8 ns:=by
 delta fW at h;rw[Å,ô] at h;refine⟨λx Z=>?_,L6 h.2⟩;have:=h.1 x Z;delta markB at this;erw[Å,Ë] at this;exact this
def JO (h:iy n ns) (hn:n<=8):fW ns=ό:=by
 delta fW;rw[Å,ô];refine⟨λx Z=>?_,Xs h.up⟩;have:=h.lo x Z;delta markB;erw[Å,Ë];omega
theorem iy.filter (h:iy n ns) (p:Int->Bool):iy n (ns.filter p):=⟨λx Z=>h.lo x (Ĥ.mp Z).1,h.up.filter p⟩
def BN (h:dX p=ό):jm p:=by
 cases p with
 |made m d Z l =>
  erw[dX,Å] at h;exact⟨by have:=(sd h.2.1).len;omega,by have:=(sd h.2.2.1).len;omega⟩
 |de m d k=>trivial
def VY (h:ps.Nodup):(ST.dA cw ps).Pairwise λa b=>cw.lt a b=ό:=by
 have Y:=ST.KQ (O:=cw) ps;have X:(ST.dA cw ps).Nodup:=(ST.rV ps).nodup_iff.mpr h;refine(Y.and X).imp λ{a b} Z=>?_
 cases W:cw.lt a b with
 |true=>rfl
 |false=>exact(Z.2 (cw.yk a b W Z.1)).elim
def Wp.aa7 (h:Wp (fa env s) λds s=>∃x y z,ds=[x,y,z]/\QF (.nx (((env.set i (ϊ x)).set j (ϊ y)).set k (ϊ z))) s):Wp (Ay i j k fa env s) QF:=by
 delta Ay;refine Wp.ai (h.mono λds s ⟨x,y,z,e,q⟩=>?_);subst e;exact Wp.ok q
structure Laid (ps:List Pg):Prop where
 pg:∀p∈ps,dX p=ό
 up:ps.Pairwise λa b=>cw.lt a b=ό
def Laid.sub (h:Laid ps) (hs:qs.Sublist ps):Laid qs:=⟨λp Z=>h.pg p (hs.subset Z),h.up.sublist hs⟩
section
variable (ps:List Pg) (m k:Int)
def sN (d:Nat):Bool:=ώ ((d:Int)∈shown ps m k)
def lN (d:Nat):Bool:=ώ ((d:Int)∈fu ps m k)
def mN (d:Nat):Bool:=ώ ((d:Int)∈dF ps m k)
def iA:List Int:=((è 31).filter λd=>pr (sN ps m k) (mN ps m k) d).map λd:Nat=>(d:Int)
def gJ:List Int:=((è 31).filter λn=>ab (lN ps m k) (mN ps m k) (30-n)).map λn:Nat=>((30-n:Nat):Int)
end
def Xw {m k:Int} {d:Nat} (h:d<=30):ώ ((d:Int)∈iA ps m k)=pr (sN ps m k) (mN ps m k) d:=by
 have:(d:Int)∈iA ps m k↔pr (sN ps m k) (mN ps m k) d=ό:=by
  delta iA;rw[Č];constructor
  ·rintro ⟨e,Y,X⟩
   have:e=d:=by omega
   rw[<- this];exact(Ĥ.mp Y).2
  ·intro Z
   exact⟨d,Ĥ.mpr ⟨Ċ.mpr ⋯,Z⟩,rfl⟩
 cases Z:pr (sN ps m k) (mN ps m k) d with
 |true=>exact È (this.mpr Z)
 |false=>exact Ì λz=>by rw[this.mp z] at Z;cases Z
def Xx {m k:Int} {d:Nat} (h:d<=30):ώ ((d:Int)∈gJ ps m k)=ab (lN ps m k) (mN ps m k) d:=by
 have:(d:Int)∈gJ ps m k↔ab (lN ps m k) (mN ps m k) d=ό:=by
  delta gJ;rw[Č];constructor
  ·rintro ⟨e,Y,V⟩
   obtain⟨X,W⟩:=Ĥ.mp Y;have:=Ċ.mp X;have:30-e=d:=by omega
   rw[<- this];exact W
  ·intro Z
   exact⟨30-d,Ĥ.mpr ⟨Ċ.mpr ⋯,by rw[show 30-(30-d)=d by omega];exact Z⟩,by omega⟩
 cases Z:ab (lN ps m k) (mN ps m k) d with
 |true=>exact È (this.mpr Z)
 |false=>exact Ì λz=>by rw[this.mp z] at Z;cases Z
def L7 {s:ae} {ns:List Int} {x:Int} (hn:ns.length<1000):lD (.aj s.length) (s++[.lst (ns.map D.int)])=ό/\lC (.aj s.length) (.int x) (s++[.lst (ns.map D.int)])=ok .au (s++[.lst ((ns++[x]).map D.int)]):=by
 have e:(s++[Cell.lst (ns.map D.int)])[s.length]?=ϊ (.lst (ns.map D.int)):=by simp
 refine⟨by erw[lD,e],?_⟩;delta lC;erw[e];rw[Ñ (by rw[Ë,É];exact Ê hn (le_size (by decide)))];simp[acQ]
def L8 {s:ae} {ns:List Int}:bo (.aj s.length) (s++[.lst (ns.map D.int)])=ok (lI ns) (s++[.dead]):=by
 have e:(s++[Cell.lst (ns.map D.int)])[s.length]?=ϊ (.lst (ns.map D.int)):=by simp
 erw[bo,e];simp[acQ]
def JP {p:Nat->Bool} {f:Nat->Int} {i:Nat}:((è (i+1)).filter p).map f=((è i).filter p).map f++(if p i=ό then [f i] else []):=by
 rw[List.range_succ,List.filter_append,ħ];congr 1
 cases h:p i<;>simp[h]
def Kj {p:Nat->Bool} {f:Nat->Int} {i:Nat}:(((è i).filter p).map f).length<=i:=by
 rw[É];exact Ý (ū _ _) (by rw[List.length_range];exact aeD _)
def pv (s m:Nat->Bool):Nat->Bool
 |0=>ύ
 |i+1=>pr s m i
def SH (hl:ps.length<=1000):yx [bD ps,.int m,.int k] s=ok (lI (iA ps m k)) (s++[.dead]):=by
 refine aeB ?_;delta yx;simp only[VC];refine aeA (zp hl).1 ?_;refine aeA (CO hl) ?_
 try simp only[VC]
 refine⟨by decide,?_⟩;refine aeA (mj (n:=31) rfl (by decide)) ?_;refine Wp.qR (λi env Y=>i<=31->∃Z,env=[ϊ (bD ps),ϊ (.int m),ϊ (.int k),ϊ (lI (shown ps m k)),ϊ (lI (dF ps m k)),ϊ (.aj s.length),ϊ (.bl (pv (sN ps m k) (mN ps m k) i)),Z]/\Y=s++[.lst ((((è i).filter λd=>pr (sN ps m k) (mN ps m k) d).map λd:Nat=>(d:Int)).map D.int)]) _ (λ_=>⟨_,rfl,rfl⟩) (λi d env Y W V=>?_) (λenv Y V=>?_)
 ·rw[sE] at W
  split at W
  ·rename_i O
   cases W;obtain⟨Z,rfl,rfl⟩:=V ⋯;refine⟨_,rfl,?_⟩;have U:(0:Int)+(i:Int)=i:=by omega
   have key:(ώ ((i:Int)∈shown ps m k)||(pv (sN ps m k) (mN ps m k) i&&!ώ ((i:Int)∈dF ps m k)))=pr (sN ps m k) (mN ps m k) i:=by
    cases i with
    |zero=>simp[pv,pr,sN]
    |succ i=>rfl
   have fin:∀c:Bool,c=pr (sN ps m k) (mN ps m k) i->if c=ό then lD (.aj s.length) (s++[.lst ((((è i).filter λd=>pr (sN ps m k) (mN ps m k) d).map λd:Nat=>(d:Int)).map D.int)])=ό/\Wp (lC (.aj s.length) (.int (0+(i:Int))) (s++[.lst ((((è i).filter λd=>pr (sN ps m k) (mN ps m k) d).map λd:Nat=>(d:Int)).map D.int)])) λx Y=>i+1<=31->∃Z,([ϊ (bD ps),ϊ (.int m),ϊ (.int k),ϊ (lI (shown ps m k)),ϊ (lI (dF ps m k)),ϊ (.aj s.length),ϊ (.bl c),ϊ (.int (0+(i:Int)))]:Env)=[ϊ (bD ps),ϊ (.int m),ϊ (.int k),ϊ (lI (shown ps m k)),ϊ (lI (dF ps m k)),ϊ (.aj s.length),ϊ (.bl (pv (sN ps m k) (mN ps m k) (i+1))),Z]/\Y=s++[.lst ((((è (i+1)).filter λd=>pr (sN ps m k) (mN ps m k) d).map λd:Nat=>(d:Int)).map D.int)]
     else i+1<=31->∃Z,([ϊ (bD ps),ϊ (.int m),ϊ (.int k),ϊ (lI (shown ps m k)),ϊ (lI (dF ps m k)),ϊ (.aj s.length),ϊ (.bl c),ϊ (.int (0+(i:Int)))]:Env)=[ϊ (bD ps),ϊ (.int m),ϊ (.int k),ϊ (lI (shown ps m k)),ϊ (lI (dF ps m k)),ϊ (.aj s.length),ϊ (.bl (pv (sN ps m k) (mN ps m k) (i+1))),Z]/\s++[.lst ((((è i).filter λd=>pr (sN ps m k) (mN ps m k) d).map λd:Nat=>(d:Int)).map D.int)]=s++[.lst ((((è (i+1)).filter λd=>pr (sN ps m k) (mN ps m k) d).map λd:Nat=>(d:Int)).map D.int)]:=λc T=>by
    rw[JP];have R:pv (sN ps m k) (mN ps m k) (i+1)=c:=T.symm;rw[R,<- T]
    cases c with
    |true =>
     rw[Ñ rfl];obtain⟨Q,P⟩:=L7 (s:=s) (ns:=((è i).filter λd=>pr (sN ps m k) (mN ps m k) d).map λd:Nat=>(d:Int)) (x:=0+(i:Int)) (ς Kj ⋯);exact⟨Q,aeA P λ_=>⟨_,rfl,by rw[U];rfl⟩⟩
    |false =>
     rw[Ú Ä];exact λ_=>⟨_,rfl,by simp⟩
   simp only[VC,xb,U];rw[U] at fin;by_cases X:(i:Int)∈shown ps m k
   ·erw[X,Ķ,ò]
    exact fin ό (by rw[<- key,È X];rfl)
   ·erw[X,decide_false,Æ,ï]
    cases S:pv (sN ps m k) (mN ps m k) i with
    |false =>
     simp only[VC,Æ,ï];exact fin ύ (by rw[<- key,Ì X,S];rfl)
    |true =>
     simp only[VC,ò,yY];exact fin _ (by rw[<- key,Ì X,S];rfl)
  ·cases W
 ·rw[qc] at V
  obtain⟨Z,rfl,rfl⟩:=V (aeD _);simp only[VC];exact aeA L8 ⟨rfl,rfl⟩
def downs:List D:=(è 31).map λn:Nat=>D.int ((30-n:Nat):Int)
def ZE:GC (af (eC (.int 31)) ah) env s=ok downs s:=by
 have:(df 0 31).reverse=downs:=by rfl
 rw[<- this];rfl
def Uo:downs[i]?=if i<31 then ϊ (.int ((30-i:Nat):Int)) else ϋ:=by
 delta downs;rw[ê];by_cases h:i<31
 ·rw[Ñ h,Ŀ h];rfl
 ·rw[Ú h,ğ (by simpa using h)];rfl
abbrev jx (ps:List Pg) (m k:Int) (i:Nat):List Int:=((è i).filter λn=>ab (lN ps m k) (mN ps m k) (30-n)).map λn:Nat=>((30-n:Nat):Int)
def Uq (hl:ps.length<=1000):yz [bD ps,.int m,.int k] s=ok (lI (gJ ps m k)) (s++[.dead]):=by
 refine aeB ?_;delta yz;simp only[VC];refine aeA (zp hl).2 ?_;refine aeA (CO hl) ?_
 try simp only[VC]
 refine⟨by decide,?_⟩;refine aeA ZE ?_;refine Wp.qR (λi env Z=>i<=31->∃W,env=[ϊ (bD ps),ϊ (.int m),ϊ (.int k),ϊ (lI (fu ps m k)),ϊ (lI (dF ps m k)),ϊ (.aj s.length),ϊ (.bl (iz (lN ps m k) (mN ps m k) i)),W]/\Z=s++[.lst ((jx ps m k i).map D.int)]) _ (λ_=>⟨_,rfl,rfl⟩) (λi d env Z X U=>?_) (λenv Z U=>?_)
 ·rw[Uo] at X
  split at X
  ·rename_i J
   cases X;obtain⟨W,rfl,rfl⟩:=U ⋯;refine⟨_,rfl,?_⟩;generalize X:((30-i:Nat):Int)=d;have L:ab (lN ps m k) (mN ps m k) (30-i)=(iz (lN ps m k) (mN ps m k) i||(ώ (d∈fu ps m k)||ώ (d∈dF ps m k))):=by
    delta ab br lN mN;rw[show 31-(30-i+1)=i by omega,X]
   have K:iz (lN ps m k) (mN ps m k) (i+1)=((iz (lN ps m k) (mN ps m k) i||ώ (d∈fu ps m k))&&!ώ (d∈dF ps m k)):=by
    show ((iz _ _ i||lN ps m k (30-i))&&!mN ps m k (30-i))=_;delta lN mN;rw[X]
   have sec:∀Y,Y=s++[.lst ((jx ps m k (i+1)).map D.int)]->Wp (bc (cN (lR (aa 6) (e2 fe (aa 7) (aa 3))) (e2 fT (aa 7) (aa 4))) (gN 6) [ϊ (bD ps),ϊ (.int m),ϊ (.int k),ϊ (lI (fu ps m k)),ϊ (lI (dF ps m k)),ϊ (.aj s.length),ϊ (.bl (iz (lN ps m k) (mN ps m k) i)),ϊ (.int d)] Y) λT Z=>match T with
     | .nx env=>i+1<=31->∃W,env=[ϊ (bD ps),ϊ (.int m),ϊ (.int k),ϊ (lI (fu ps m k)),ϊ (lI (dF ps m k)),ϊ (.aj s.length),ϊ (.bl (iz (lN ps m k) (mN ps m k) (i+1))),W]/\Z=s++[.lst ((jx ps m k (i+1)).map D.int)]
     | .ct env=>i+1<=31->∃W,env=[ϊ (bD ps),ϊ (.int m),ϊ (.int k),ϊ (lI (fu ps m k)),ϊ (lI (dF ps m k)),ϊ (.aj s.length),ϊ (.bl (iz (lN ps m k) (mN ps m k) (i+1))),W]/\Z=s++[.lst ((jx ps m k (i+1)).map D.int)]
     | .bk env=>fE (aA (oS (aa 5))) (o7 λa Z=>a=lI (gJ ps m k)/\Z=s++[.dead]) (.nx env) Z
     | .rt d=>fE (aA (oS (aa 5))) (o7 λa Z=>a=lI (gJ ps m k)/\Z=s++[.dead]) (.rt d) Z:=λY S=>by
    simp only[VC,xb,yY];rw[K]
    cases iz (lN ps m k) (mN ps m k) i with
    |true =>
     simp only[VC,ò,yY];exact λ_=>⟨ϊ (.int d),by simp,S⟩
    |false =>
     erw[Æ,ï,Bool.false_or];by_cases c:d∈fu ps m k
     ·simp only[VC,c,Ķ,ò,yY]
      exact λ_=>⟨ϊ (.int d),by simp,S⟩
     ·erw[c,decide_false,Æ,ï]
      exact λ_=>⟨ϊ (.int d),by simp,S⟩
   have P:=L7 (s:=s) (ns:=jx ps m k i) (x:=d) (ς Kj ⋯)
   have O:jx ps m k (i+1)=jx ps m k i++(if ab (lN ps m k) (mN ps m k) (30-i)=ό then [d] else []):=by
    rw[<- X];exact JP
   have yes:ab (lN ps m k) (mN ps m k) (30-i)=ό->Wp (cE (mx (aa 5) (aa 7)) [ϊ (bD ps),ϊ (.int m),ϊ (.int k),ϊ (lI (fu ps m k)),ϊ (lI (dF ps m k)),ϊ (.aj s.length),ϊ (.bl (iz (lN ps m k) (mN ps m k) i)),ϊ (.int d)] (s++[.lst ((jx ps m k i).map D.int)])) λT Z=>T=.nx [ϊ (bD ps),ϊ (.int m),ϊ (.int k),ϊ (lI (fu ps m k)),ϊ (lI (dF ps m k)),ϊ (.aj s.length),ϊ (.bl (iz (lN ps m k) (mN ps m k) i)),ϊ (.int d)]/\Z=s++[.lst ((jx ps m k (i+1)).map D.int)]:=λR=>by
    simp only[VC];refine⟨P.1,aeA P.2 ?_⟩;rw[O,R];simp
   have no:ab (lN ps m k) (mN ps m k) (30-i)=ύ->s++[Cell.lst ((jx ps m k i).map D.int)]=s++[Cell.lst ((jx ps m k (i+1)).map D.int)]:=λR=>by
    rw[O,R];simp
   have go:∀{c:Bool},c=ab (lN ps m k) (mN ps m k) (30-i)->∀{Q:Fl->ae->Prop},(∀Y,Y=s++[.lst ((jx ps m k (i+1)).map D.int)]->Q (.nx [ϊ (bD ps),ϊ (.int m),ϊ (.int k),ϊ (lI (fu ps m k)),ϊ (lI (dF ps m k)),ϊ (.aj s.length),ϊ (.bl (iz (lN ps m k) (mN ps m k) i)),ϊ (.int d)]) Y)->if c=ό then Wp (cE (mx (aa 5) (aa 7)) [ϊ (bD ps),ϊ (.int m),ϊ (.int k),ϊ (lI (fu ps m k)),ϊ (lI (dF ps m k)),ϊ (.aj s.length),ϊ (.bl (iz (lN ps m k) (mN ps m k) i)),ϊ (.int d)] (s++[.lst ((jx ps m k i).map D.int)])) Q else Wp (bH [ϊ (bD ps),ϊ (.int m),ϊ (.int k),ϊ (lI (fu ps m k)),ϊ (lI (dF ps m k)),ϊ (.aj s.length),ϊ (.bl (iz (lN ps m k) (mN ps m k) i)),ϊ (.int d)] (s++[.lst ((jx ps m k i).map D.int)])) Q:=λ{c} N {Q} q=>by
    cases c with
    |true =>
     rw[Ñ rfl];exact(yes N.symm).mono λT Y ⟨e1,e2⟩=>by subst e1;exact q Y e2
    |false =>
     rw[Ú Ä,dD];exact q _ (no N.symm)
   rw[oq,oz];erw[kc,qm,aR,bx,kT,eJ,bj,xb,bF,cB,Ĝ,ĝ];rw[L] at go
   cases M:iz (lN ps m k) (mN ps m k) i with
   |true =>
    erw[ò];rw[M] at go sec;exact go (c:=ό) rfl λY V=>sec Y V
   |false =>
    erw[Æ,ï];rw[M] at go sec;by_cases c:d∈fu ps m k
    ·erw[c,Ķ,ò]
     exact go (c:=ό) (by simp[c]) λY V=>sec Y V
    ·erw[c,decide_false,Æ,ï]
     exact go (by simp[c]) λY V=>sec Y V
  ·cases X
 ·rw[show downs.length=31 from rfl] at U
  obtain⟨W,rfl,rfl⟩:=U (aeD _);simp only[VC];exact aeA L8 ⟨rfl,rfl⟩
def rA (F:Int->List Int):D:=.lst (k8.map λk=>lI (F k))
def ZF (h:0<=k/\k<8):ay (rA F) (.int k) s=ok (lI (F k)) s:=by
 obtain⟨x,e1,e2⟩:=nB (xs:=k8.map λk=>lI (F k)) h.1 (by show k<8;exact h.2);have:x=lI (F k):=by
  rw[ê] at e2;have Z:k8[k.toNat]?=ϊ k:=by
   delta k8;rw[ê,Ŀ ⋯];simp;omega
  rw[Z] at e2;exact(aeE e2).symm
 subst this;erw[ay,kJ,res,rA,e1,bS]
def acC:df 0 8=k8.map D.int:=rfl
def Of:vB [rA F,.int d] s=ok (mD (k8.filter λk=>ώ (d∈F k))) s:=by
 refine aeB ?_;delta vB;simp only[VC];refine aeA (mj (n:=8) rfl (by decide)) ⟨by rw[qc];exact le_size (by decide),?_⟩;rw[acC];refine aeA (vF (λk=>ώ (d∈F k)) (λk=>.int k) k8 λk Z=>⟨[ϊ (.int k),ϊ (.int d),ϊ (rA F)],rfl,?_,λ_=>rfl⟩) ?_
 ·refine aeB ?_
  simp only[VC];refine aeA (ZF (Na.mp Z)) ?_;simp only[VC,xb,ģ]
 ·exact aeA (show md [.lst ((k8.filter λk=>ώ (d∈F k)).map λk=>.int k)] s=ok (mD (k8.filter λk=>ώ (d∈F k))) s from rfl) ⟨rfl,rfl⟩
def i9:List Int:=(è 31).map λi:Nat=>(i:Int)
def aa8:df 0 31=i9.map D.int:=by delta i9;rw[L3,Ġ];congr 1;funext i;simp
def kl (P A:Int->List Int) (d:Int):D:=.tup [mD (k8.filter λk=>ώ (d∈P k)),mD (k8.filter λk=>ώ (d∈A k))]
def L9 (hf:∀k s,fn [b,.int mu,.int k] s=ok (lI (F k)) (s++[.dead])) (e0:env[0]?=ϊ (ϊ b)) (e1:env[1]?=ϊ (ϊ (.int mu))) (q:∀c,Q (rA F) (s++c)) :
  Wp (cL 1 [0,1] (iI (af (eC (.int (8))) ah)) (gN 0) cS (aG fn (af (aa 1) (af (aa 2) (af (aa 0) ah)))) env s) Q:=by
 rw[jB];refine aeA (mj (n:=8) rfl (by decide)) ⟨by rw[qc];exact le_size (by decide),?_⟩;have V:iO [0,1] env=[ϊ b,ϊ (.int mu)]:=by simp[iO,e0,e1]
 rw[V];refine Xm (λi Z W=>i<=8->Z=((è i).map λi:Nat=>(i:Int)).map (λk=>lI (F k))/\∃c,W=s++c) (df 0 8) (λ_=>⟨rfl,[],by simp⟩) (λi d Z W Y X=>?_) λZ W X=>?_
 ·rw[sE] at Y
  split at Y
  ·rename_i U
   cases Y;obtain⟨rfl,c,rfl⟩:=X ⋯;refine⟨[ϊ (.int (0+i)),ϊ b,ϊ (.int mu)],rfl,?_⟩;refine aeA (show cS _ _=ok ό _ from rfl) ?_;rw[Ñ rfl];simp only[VC];refine aeA (hf (0+(i:Int)) _) λ_=>⟨?_,c++[.dead],by simp⟩;rw[List.range_succ,ħ,ħ];simp
  ·cases Y
 ·rw[qc] at X
  obtain⟨rfl,c,rfl⟩:=X (aeD _);exact q c
def Ma (hl:ps.length<=1000):Wp (rK [bD ps,.int m] s) λd s'=>d=.lst (i9.map (kl (iA ps m) (gJ ps m)))/\∃c,s'=s++c:=by
 delta rK;rw[dO];refine⟨rfl,?_⟩;rw[oq,eG];refine L9 (b:=bD ps) (mu:=m) (λk s=>SH hl) rfl rfl λc=>?_;erw[gb,à,ŋ,Ħ,Ļ,Ö,Nat.reduceSub,Ĝ,ĝ,bz];rw[oq,eG];refine L9 (b:=bD ps) (mu:=m) (λk s=>Uq hl) rfl rfl λZ=>?_;erw[gb,Ĝ,ĝ,bz,bW,jB,jE];refine aeA (mj (n:=31) rfl (by decide)) ⟨by rw[qc];exact le_size (by decide),?_⟩;rw[aa8];refine aeA (vF (λ_=>ό) (kl (iA ps m) (gJ ps m)) i9 λd Y=>⟨[ϊ (.int d),ϊ (rA (iA ps m)),ϊ (rA (gJ ps m))],rfl,rfl,λ_=>?_⟩) ?_
 ·refine aeB ?_
  simp only[VC];refine aeA Of ?_;refine aeA Of ?_;exact⟨by decide,rfl,rfl⟩
 ·rw[filter_tt]
  exact⟨rfl,c++Z,by simp⟩
abbrev jd (F:Nat->Bool):Cell:=.lst ((è 32).map λd=>D.bl (F d))
def Xy {α:Type} {n:Nat} {f:Nat->α} {d:Int} (h0:0<=d) (h1:d<n):cW ((è n).map f) d=ϊ (f d.toNat):=by
 obtain⟨x,e1,e2⟩:=nB (xs:=(è n).map f) h0 (by simpa using h1);rw[ê,Ŀ ⋯] at e2;rw[e1];exact e2.symm
section
variable (b:Nat->Bool)
def jY (n:Nat):Bool:=ώ (0<n)&&b (n-1)
def cu:Nat->List (Nat×Nat)
 |0=>[]
 |n+1=>if (b n&&jY b n)=ό then (cu n).dropLast++[(((cu n).getLast?.getD (0,0)).1,n)] else if b n=ό then cu n++[(n,n)] else cu n
def xH:Nat->Nat->Nat
 |0,e=>e
 |f+1,e=>if b (e+1)=ό then xH f (e+1) else e
def jZ (n:Nat):Bool:=b n&&!jY b n
def Fp (f n:Nat):List (Nat×Nat):=((è n).filter (jZ b)).map λd=>(d,xH b f d)
variable {b}
theorem Mb:∀{f d e:Nat},d<=e->(∀x,d<x->x<=e->b x=ό)->b (e+1)=ύ->e-d<f->xH b f d=e
 |0,_,_,_,_,_,h=>by omega
 |f+1,d,e,W,Z,Y,V=>by
  delta xH;by_cases h:d=e
  ·subst h
   rw[Y];simp
  ·rw[Ñ (Z (d+1) ⋯ ⋯)]
   exact Mb ⋯ (λx U X=>Z x ⋯ X) Y ⋯
def Told (b:Nat->Bool) (f n:Nat):Prop :=
 (jY b n=ύ/\cu b n=Fp b f n)\/(jY b n=ό/\∃S d,(è n).filter (jZ b)=S++[d]/\d<n/\(∀x,d<=x->x<n->b x=ό)/\cu b n=(S.map λd=>(d,xH b f d))++[(d,n-1)])
theorem Og (f:Nat):∀n,n<=f->Told b f n
 |0,_=>.inl ⟨rfl,rfl⟩
 |n+1,N=>by
  have Y:(è (n+1)).filter (jZ b)=(è n).filter (jZ b)++if jZ b n=ό then [n] else []:=by
   rw[List.range_succ,List.filter_append];congr 1
   by_cases h:jZ b n=ό<;>simp[Ŧ,h]
  have W:jY b (n+1)=b n:=by simp[jY]
  rcases Og f n ⋯ with ⟨X,h⟩ | ⟨X,S,d,U,M,T,R⟩
  ·cases Z:b n with
   |false =>
    refine .inl ⟨by rw[W,Z],?_⟩;erw[cu,Z,Ŭ,Æ,ï,h];delta Fp;rw[Y,show jZ b n=ύ by simp[jZ,Z]];simp
   |true =>
    refine .inr ⟨by rw[W,Z],(è n).filter (jZ b),n,?_,by omega,λx V Q=>?_,?_⟩
    ·rw[Y,show jZ b n=ό by simp[jZ,Z,X]]
     simp
    ·rw[show x=n by omega];exact Z
    ·erw[cu,Z,X,Bool.and_false,Æ,ï,ò,h]
     rfl
  ·have P:jZ b n=ύ:=by simp[jZ,X]
   rw[P] at Y;erw[Æ,ï,ĥ] at Y;have L:0<n:=by omega
   cases Z:b n with
   |false =>
    refine .inl ⟨by rw[W,Z],?_⟩;erw[cu,Z,Ŭ,Æ,ï,R];delta Fp;rw[Y,U,ħ];erw[à,ŋ];rw[Mb (f:=f) (d:=d) (e:=n-1) ⋯ (λx V Q=>T x ⋯ ⋯) (by rw[show n-1+1=n by omega];exact Z) ⋯]
   |true =>
    refine .inr ⟨by rw[W,Z],S,d,by rw[Y,U],by omega,λx V Q=>?_,?_⟩
    ·by_cases O:x=n
     ·rw[O];exact Z
     ·exact T x V ⋯
    ·erw[cu,Z,X,ĵ,ò,R]
     simp
end
abbrev sg (x:Str):List Nat:=x.cps.toList
def Mc {x y:Str} (h:sg x=sg y):x=y:=Str.ext' (Array.toList_inj.mp h)
def sX (x y:Str):sg (x++y)=sg x++sg y:=by show (x.cps++y.cps).toList=_;simp
def jF (x:Str):x.length=(sg x).length:=by show x.cps.size=_;simp
def jl (c:Nat):List (List Nat)->List Nat
 | []=>[]
 | [x]=>x
 |x::y::r=>x++c::jl c (y::r)
theorem CP (c:Nat):∀zs:List Str,sg (š ⟨#[c]⟩ zs)=jl c (zs.map sg)
 | []=>rfl
 | [x]=>rfl
 |x::y::r=>by
  show sg (x++⟨#[c]⟩++š ⟨#[c]⟩ (y::r))=_;rw[sX,sX,CP c (y::r),Ĳ];rfl
theorem Cf:∀zs:List Str,sg (š "" zs)=(zs.map sg).flatten
 | []=>rfl
 | [x]=>by show sg x=_;simp
 |x::y::r=>by
  show sg (x++""++š "" (y::r))=_;rw[sX,sX,Cf (y::r)];simp[show sg ""=[] from rfl]
def Ur {y:Str} {zs:List Str} (hy:y.length<=10) (hn:zs.length<=1000) (hz:∀z∈zs,z.length<=1000):JoinOk y zs=ό:=by
 delta JoinOk Builtin.Str.tooLong;rw[StrLaws.joinTotal];have Z:∀{zs:List Str},(∀z∈zs,z.length<=1000)->(zs.map (·.length)).sum<=zs.length*1000:=by
  intro zs
  induction zs with
  |nil=>intro _;simp
  |cons z r ih =>
   intro h;have a:=h z ∅;have b:=ih λx Y=>h x (Ï _ Y);erw[à,List.sum_cons,â];omega
 have Z:=Z hz;have X:zs.length*y.length<=1000*10:=Nat.mul_le_mul hn hy;have W:(Õ:Nat)=16777216:=ŭ;erw[ł,decide_eq_false_iff_not];omega
def Nb {c:Nat}:(!(ġ "0123456789" ⟨#[c]⟩ 0 (Str.length "0123456789") 1).isEmpty)=ώ (48<=c/\c<=57):=by
 rw[StrLaws.found_one];rw[ĭ];erw[Ë];have e:sg "0123456789"=[48,49,50,51,52,53,54,55,56,57]:=nofun
 show c∈sg "0123456789"↔_;rw[e];erw[Û,ć,or_false];omega
def brk (l:List Int):List Int:=((è (l.length-1)).filter λi=>l.getD (i+1) 0==l.getD i 0).map λi:Nat=>1+(i:Int)
def ZG (h:xs≠[]):ay (.lst xs) (.int (-1)) s=ok (xs.getLast h) s:=by
 have e:cW xs (-1)=ϊ (xs.getLast h):=by
  conv=>lhs;rw[<- List.dropLast_concat_getLast h]
  exact UL _ _
 delta ay kJ;rw[show res (.lst xs) s=.lst xs from rfl];erw[e];rfl
def Xz {c:ae} {ds:List D}:bo (.aj c.length) (c++[.lst ds])=ok (.lst ds) (c++[.dead]):=by
 delta bo;have e:(c++[Cell.lst ds])[c.length]?=ϊ (.lst ds):=by simp
 erw[e];rw[acQ _ _ (aeD _)];simp
def Ex.get (h:Ex k s s') (e:s[j]?=ϊ c) (hj:j≠k):s'[j]?=ϊ c:=by
 rw[h.val j (Ô.mp e).1 hj];exact e
open DI.cD
section
variable {s:ae} {l:List Int} {i:Int} {env:Env}
abbrev num (i:Int):Str:=Ĉ (toString i)
def Kk (h0:0<=i) (h1:i<1000):i.natAbs.log2<1920:=ς (Nat.log2_le_self _) ⋯
def Nc (h0:0<=i) (h1:i<1000):qQ [.int i] s=ok (.str (num i)) s:=by
 show (if ώ (i.natAbs.log2<1920)=ό then ok (D.str (toString i)) s else ϋ)=_
 rw[Ñ (È (Kk h0 h1))]
def acD:∀n:Fin 8,num (n.val:Int)=⟨#[48+n.val]⟩:=nofun
def La (h0:0<=i) (h1:i<8):num i=⟨#[48+i.toNat]⟩:=by
 obtain⟨n,rfl⟩:=Int.eq_ofNat_of_zero_le h0;exact acD ⟨n,by omega⟩
def u5 (l:List Int):Str:=⟨(l.map λi=>48+i.toNat).toArray⟩
def gK (l:List Int):Str:=if l=[] then "-" else u5 l
def DG:sg (u5 l)=l.map λi=>48+i.toNat:=by delta u5;simp
def VZ (h:∀i∈l,0<=i/\i<8):š "" (l.map num)=u5 l:=by
 refine Mc ?_;rw[Cf,DG]
 induction l with
 |nil=>rfl
 |cons i r ih =>
  have Z:=h i ∅;rw[à,à,ŏ,ih λj Y=>h j (Ï _ Y),La Z.1 Z.2];rfl
theorem strs_map:∀zs:List Str,strs? (zs.map D.str)=ϊ zs
 | []=>rfl
 |z::zs=>by show (strs? (zs.map D.str)).map (z::·)=_;rw[strs_map zs];rfl
def xc (hy:y.length<=10) (hn:zs.length<=1000) (hz:∀z∈zs,z.length<=1000):iP y (.lst (zs.map D.str)) s=ok (.str (š y zs)) s:=by
 delta iP;rw[show res (.lst (zs.map D.str)) s=.lst (zs.map D.str) from rfl];dsimp only;rw[strs_map];dsimp only;rw[Ñ (Ur hy hn hz)]
def sY (e:f env s=ok (.str y) s):Wp (dW m f g env s) Q=Wp (g env s) λx s=>Wp (m y x s) Q:=by
 delta dW;rw[e,bU,bP]
def XA (he:cH (aa 0) ea s=ok (l.map D.int) s) (hl:l.length<=100) (h:∀i∈l,0<=i/\i<8):dW iP (eC (.str "")) (cL 1 [] (cH (aa 0)) (gN 0) cS (eB qQ (af (aa 0) ah))) ea s=ok (.str (u5 l)) s:=by
 refine aeB ?_;rw[sY rfl,jB];refine aeA he ⟨le_size (by rw[É];omega),?_⟩;refine aeA (comp_map D.int (λ_=>ό) (λi=>D.str (num i)) l λi Z=>⟨[ϊ (.int i)],rfl,rfl,λ_=>aeB ?_⟩) ?_
 ·have:=h i Z
  erw[c8,aL,aP,aR];exact aeA (Nc this.1 ⋯) ⟨rfl,rfl⟩
 rw[Ő.mpr (λ_ _=>rfl),show (l.map λi=>D.str (num i))=(l.map num).map D.str by rw[Ġ];rfl];refine aeA (xc (by decide) (by rw[É];omega) λz Y=>?_) ?_
 ·obtain⟨i,Z,rfl⟩:=Č.mp Y
  have:=h i Z;rw[La this.1 this.2];show 1<=1000;decide
 rw[VZ h];exact⟨rfl,rfl⟩
def CQ:(u5 l).length=l.length:=by rw[jF,DG,É]
def Lb (hl:l.length<=100) (h:∀i∈l,0<=i/\i<8):vm [mD l] s=ok (.str (gK l)) s:=by
 refine aeB ?_;delta vm;refine dO.symm ▸ ⟨rfl,?_⟩;rw[bW];have e:oZ (dW iP (eC (.str "")) (cL 1 [] (cH (aa 0)) (gN 0) cS (eB qQ (af (aa 0) ah)))) (eC (.str "-")) [ϊ (mD l)] s=ok (.str (gK l)) s:=by
  delta oZ;rw[XA (nh rfl) hl h,bU];dsimp only;rw[Ñ (È (by rw[CQ];exact le_size ⋯)),CQ];delta gK
  cases l with
  |nil=>rfl
  |cons i r=>rfl
 exact aeA e ⟨rfl,rfl⟩
end
section
variable {s:ae} {l h:List Int} {i:Int} {env:Env} {p:Pg} {x y:Str}
def xI (hl:x.length+y.length<=1000000):bh (.str x) (.str y) s=ok (.str (x++y)) s:=by
 show bS (if ώ (x.length+y.length<=Õ)=ό then ϊ (D.str (x++y)) else ϋ) s=_
 rw[Ñ (È (le_size hl))];rfl
def fH (x y:Str):(x++y).length=x.length+y.length:=Str.length_append x y
def zq:(gK l).length<=l.length+1:=by
 delta gK;split
 ·exact Nat.le_add_left 1 _
 ·rw[CQ];omega
def xg:Pg->Str
 | .made _ _ h l=>gK h++"/"++gK l
 | .de _ _ k=>num k
def tM:Pg->Str
 | .made ..=>"made"
 | .de ..=>"mended"
def xJ:Pg->Int
 | .made m ..=>m
 | .de m ..=>m
def iQ (p:Pg):Str:=tM p++" "++num (xJ p)++" "++num p.day++" "++xg p
def jy:Pg->Prop
 | .made m d h l=>(0<=m/\m<4)/\(0<=d/\d<31)/\iy 8 h/\iy 8 l
 | .de m d k=>(0<=m/\m<4)/\(0<=d/\d<31)/\0<=k/\k<8
def zM (h:dX p=ό):jy p:=by
 cases p with
 |made m d a b =>
  erw[dX,kf,jk,Å,Ë] at h;exact⟨h.1.1,h.1.2,sd h.2.1,sd h.2.2.1⟩
 |de m d k =>
  erw[dX,kf,jk,markB,Å,Ë] at h;exact⟨h.1.1,h.1.2,h.2⟩
def sZ (h:iy 8 ns):∀i∈ns,0<=i/\i<8:=λi Z=>by have:=h.lo i Z;omega
def aa9:∀n:Fin 31,(num (n.val:Int)).length<=2:=nofun
def kW (h0:0<=i) (h1:i<31):(num i).length<=2:=by
 obtain⟨n,rfl⟩:=Int.eq_ofNat_of_zero_le h0;exact aa9 ⟨n,by omega⟩
def Lc (h:jy p):(xg p).length<=20:=by
 cases p with
 |made m d a b =>
  have Z:=h.2.2.1.len;have Y:=h.2.2.2.len;have X:=zq (l:=a);have W:=zq (l:=b);show (gK a++"/"++gK b).length<=20;rw[fH,fH];show (gK a).length+1+(gK b).length<=20;omega
 |de m d k=>exact Ý (kW h.2.2.1 (by have:=h.2.2.2;omega)) (by decide)
def IM (ha:iy 8 a) (hb:iy 8 b):vn [.tup [mD a,mD b]] s=ok (.str (gK a++"/"++gK b)) s:=by
 have Z:=ha.len;have Y:=hb.len;have X:=zq (l:=a);have W:=zq (l:=b);refine aeB ?_;delta vn;simp only[VC];refine aeA (Lb ⋯ (sZ ha)) ?_;refine aeA (xI (show (gK a).length+1<=1000000 by omega)) ?_;refine aeA (Lb ⋯ (sZ hb)) ?_;refine aeA (xI (by rw[fH];show (gK a).length+1 + _<=1000000;omega)) ⟨rfl,rfl⟩
def j5 (e:f env s=ok (.str y) s) (hl:acc.length+y.length<=1000000):jX (f::fs) acc env s=jX fs (acc++y) env s:=by
 show ai (f env s) _=_;rw[e,bU];dsimp only;rw[Ñ (È (by rw[fH];exact le_size hl))]
def xK (h0:0<=i) (h1:i<1000):fM (.int i) s=ok (.str (num i)) s:=by
 show (if ώ (i.natAbs.log2<1920)=ό then ok (D.str (toString i)) s else ϋ)=_
 rw[Ñ (È (Kk h0 h1))]
def O1 (hl:x.length<=1000000):fM (.str x) s=ok (.str x) s:=Ñ (È (le_size hl))
def Ld:(tM p).length<=6:=by
 cases p
 ·show Str.length "made"<=6;decide +kernel
 ·show Str.length "mended"<=6;decide +kernel
def tj (h:jy p):0<=xJ p/\xJ p<4:=by cases p<;>exact h.1
def tm (h:jy p):0<=p.day/\p.day<31:=by cases p<;>exact h.2.1
def Cg (h:jy p):(iQ p).length<=50:=by
 have Z:=Ld (p:=p);have Y:=kW (tj h).1 (by have:=(tj h).2;omega);have X:=kW (tm h).1 (tm h).2;have W:=Lc h;delta iQ;erw[fH];show (tM p).length+1 + _ + 1 + _ + 1 + _<=50;omega
def Kl (h:jy p):jX [e1 fM (aa 1),eC (.str " "),e1 fM (aa 2),eC (.str " "),e1 fM (aa 3),eC (.str " "),e1 fM (aa 5)] χ [a0,ϊ (.str (tM p)),ϊ (.int (xJ p)),ϊ (.int p.day),a1,ϊ (.str (xg p))] s=ok (.str (iQ p)) s:=by
 have Z:=Ld (p:=p);have Y:=kW (tj h).1 (by have:=(tj h).2;omega);have X:=kW (tm h).1 (tm h).2;have W:=Lc h;have m:=tj h;have d:=tm h;rw[j5 (y:=tM p) (O1 ⋯) (by show 0 + _<=_;omega),Str.empty_append];rw[j5 (y:=" ") rfl (by show _ + 1<=_;omega)];rw[j5 (y:=num (xJ p)) (xK m.1 ⋯) (by rw[fH];show _ + 1 + _<=_;omega)];rw[j5 (y:=" ") rfl (by erw[fH];show _ + 1 + _ + 1<=_;omega)];rw[j5 (y:=num p.day) (xK d.1 ⋯) (by erw[fH];show _ + 1 + _ + 1 + _<=_;omega)];rw[j5 (y:=" ") rfl (by erw[fH];show _ + 1 + _ + 1 + _ + 1<=_;omega)];rw[j5 (y:=xg p) (O1 ⋯) (by erw[fH];show _ + 1 + _ + 1 + _ + 1 + _<=_;omega)];have V:=Cg h
 show (if ώ ((iQ p).length<=Õ)=ό then ok (D.str (iQ p)) s else ϋ)=_
 rw[Ñ (È (le_size ⋯))]
def V0 (h:jy p):yI [p.d] s=ok (.str (iQ p)) s:=by
 refine aeB ?_;delta yI;refine dO.symm ▸ ⟨rfl,aeC λR Z=>?_⟩
 cases p with
 |made m d a b =>
  refine aeA (show bc (aa 0) (gT [gN 1,gN 2,gN 3,gN 4]) _ s=ok (.nx [ϊ (Pg.made m d a b).d,ϊ (.str "made"),ϊ (.int m),ϊ (.int d),ϊ (.tup [mD a,mD b]),ϋ]) s from rfl) ?_;rw[bz];subst Z;refine aeC λR Z=>?_;erw[eG,gb,sS,eJ,bj,aR,bx,bA];refine aeA (show aW (.str "made") (.str "made") s=ok (.bl ό) s from rfl) ?_;erw[cB,ò,wp_call,aL,aP,aR,bx];refine aeA (IM h.2.2.1 h.2.2.2) ?_;erw[Ĝ,ĝ];rw[bz];subst Z;rw[bW];exact aeA (Kl h) ⟨rfl,rfl⟩
 |de m d k =>
  refine aeA (show bc (aa 0) (gT [gN 1,gN 2,gN 3,gN 4]) _ s=ok (.nx [ϊ (Pg.de m d k).d,ϊ (.str "mended"),ϊ (.int m),ϊ (.int d),ϊ (.int k),ϋ]) s from rfl) ?_;rw[bz];subst Z;refine aeC λR Z=>?_;erw[eG,gb,sS,eJ,bj,aR,bx,bA];refine aeA (show aW (.str "mended") (.str "made") s=ok (.bl ύ) s from rfl) ?_;erw[cB,Æ,ï,c8,aL,aP,aR,bx];refine aeA (Nc h.2.2.1 (by have:=h.2.2.2;omega)) ?_;erw[Ĝ,ĝ];rw[bz];subst Z;rw[bW];exact aeA (Kl h) ⟨rfl,rfl⟩
def mS (c:Nat):Bool:=ώ (48<=c/\c<=57)
def jn (x:Str):Bool:=(ώ (1<=x.length)&&ώ (x.length<=30))&&(sg x).all mS
def Fq (hl:x.length<=1000000):cI [.str x] s=ok (.int x.length) s:=by
 show bS (nN (.str x) s) s=_;delta nN
 show bS (if ώ (x.length<=Õ)=ό then ϊ (D.int x.length) else ϋ) s=_
 rw[Ñ (È (le_size hl))];rfl
def CS (e:f env s=ok (.str x) s):tL f env s=ok ((sg x).map λc=>D.str ⟨#[c]⟩) s:=by
 delta tL;rw[e,bU];rfl
def Md {T:aez D} (hl:x.length<=1000000) (hT:T [ϊ (.str x)] s=ok (.bl ((sg x).all mS)) s):aD 1 1 (aA (cN (pH lu lu (eC (.int 1)) (eB cI (af (aa 0) ah)) (eC (.int 30))) T)) [.str x] s=ok (.bl (jn x)) s:=by
 refine aeB ?_;refine dO.symm ▸ ⟨rfl,?_⟩;show Wp (aA _ [ϊ (.str x)] s) _;rw[bW,kU,MY,bA];erw[c8,aL,aP,aR];refine aeA (Fq hl) ?_;erw[zK,cB];delta jn;by_cases Z:1<=x.length
 ·rw[È (show (1:Int)<=x.length by omega),È Z,Ñ rfl]
  erw[bA,zK,cB];by_cases Y:x.length<=30
  ·rw[È (show (x.length:Int)<=30 by omega),È Y,Ñ rfl]
   exact aeA hT ⟨by simp,rfl⟩
  ·rw[Ì (show ¬ (x.length:Int)<=30 by omega),Ì Y,Ú Ä]
   exact⟨rfl,rfl⟩
 ·rw[Ì (show ¬ (1:Int)<=x.length by omega),Ì Z,Ú Ä]
  erw[cB,Æ,ï];exact⟨rfl,rfl⟩
def CU (hl:x.length<=1000000):vf [.str x] s=ok (.bl (jn x)) s:=Md hl (aeB (by
 rw[c8,aL,jB];refine aeA (CS rfl) ⟨le_size (by rw[É,<- jF];exact hl),?_⟩;refine aeA (comp_map (λc=>D.str ⟨#[c]⟩) (λ_=>ό) (λc=>D.bl (mS c)) (sg x) λc _=>⟨[ϊ (.str ⟨#[c]⟩)],rfl,rfl,λ_=>?_⟩) ?_
 ·show ok (D.bl (!(ġ "0123456789" ⟨#[c]⟩ 0 (Str.length "0123456789") 1).isEmpty)) s=_
  rw[Nb];rfl
 rw[Ő.mpr (λ_ _=>rfl),aP];exact aeA (qf mS (sg x) s) ⟨rfl,rfl⟩))
def b9 (x:Str):Bool:=jn x&&(ώ ((sg x).head?≠ϊ 48)||ώ (x="0"))
def uy:aW (.str x) (.str y) s=ok (.bl (ώ (x=y))) s:=mR
def AB:dZ (.str x) (.str y) s=ok (.bl (!ώ (x=y))) s:=by
 have e:=uy (x:=x) (y:=y) (s:=s);delta aW at e;delta dZ
 cases h:ki (res (.str x) s) (res (.str y) s) with
 |none=>rw[h] at e;cases e
 |some c =>
  rw[h] at e
  injection e with e
  injection e with e1 _
  injection e1 with e1
  injection e1 with e1
  rw[e1]
def P5:((⟨#[c]⟩:Str)="0")↔c=48:=by
 have e:("0":Str)=⟨#[48]⟩:=nofun
 rw[e];constructor
 ·intro h
  have:=Ń sg h;simpa [sg] using this
 ·rintro rfl;rfl
def vz (hl:x.length<=1000000):mW [.str x] s=ok (.bl (b9 x)) s:=by
 refine aeB ?_;delta mW;refine dO.symm ▸ ⟨rfl,?_⟩;show Wp (aA _ [ϊ (.str x)] s) _;rw[bW,kU];erw[wp_call,aL,aP,aR];refine aeA (CU hl) ?_;erw[cB];delta b9
 cases Y:jn x with
 |false=>exact⟨rfl,rfl⟩
 |true =>
  rw[Ñ rfl,ú,DD];erw[bj,aR,bA];have X:1<=x.length:=by delta jn at Y;erw[Å,Ë] at Y;exact Y.1.1
  obtain⟨c,r,W⟩:∃c r,sg x=c::r:=by
   cases V:sg x with
   |nil=>rw[jF,V] at X;simp at X
   |cons c r=>exact⟨c,r,rfl⟩
  refine aeA (show ay (.str x) (.int 0) s=ok (.str ⟨#[c]⟩) s from ?_) ?_
  ·show bS (if ώ (x.length<=Õ)=ό then (cW (sg x) 0).map λc=>D.str ⟨#[c]⟩ else ϋ) s=_
   rw[Ñ (È (le_size hl)),W];have:cW (c::r) (0:Int)=ϊ c:=by
    obtain⟨y,e1,e2⟩:=nB (xs:=c::r) (i:=0) (by decide) ∅;rw[e1];simpa using e2.symm
   rw[this];rfl
  refine aeA AB ?_;erw[cB];rw[W];by_cases Z:c=48
  ·rw[È (P5.mpr Z)]
   erw[ý,Æ,ï];refine aeA uy ⟨?_,rfl⟩;rw[Z];simp
  ·rw[Ì (λz=>Z (P5.mp z))]
   erw[ι,ò];refine⟨?_,rfl⟩;simp[Z]
def Oh:("/":Str)=⟨#[47]⟩:=nofun
def blank:(" ":Str)=⟨#[32]⟩:=nofun
def vL (hz:z=⟨#[c]⟩) (e:f env s=ok (.str x) s) (hl:x.length<=1000000):dW jb f (eC (.str z)) env s=ok (.lst ((Ī x ⟨#[c]⟩).map D.str)) s:=by
 subst hz;refine aeB ?_;rw[sY e,bA]
 show Wp (if (!((⟨#[c]⟩:Str).length==0)&&ώ (x.length+2<=Õ))=ό then ok (D.lst ((Ī x ⟨#[c]⟩).map D.str)) s else ϋ) _
 rw[Ñ (by
  rw[È (show x.length+2<=Õ by rw[ŭ];omega)];rfl),bF]
 exact⟨rfl,rfl⟩
def acE:∀n:Fin 10,ac9 ⟨#[48+n.val]⟩=ϊ (n.val:Int):=nofun
def XB (h:mS c=ό):jK [.str ⟨#[c]⟩] s=ok (.int ((c:Int)-48)) s:=by
 delta mS at h;rw[Ë] at h;have e:=acE ⟨c-48,by omega⟩;rw[show 48+(c-48)=c by omega] at e
 show (if ώ ((⟨#[c]⟩:Str).length<=640)=ό then (match ac9 ⟨#[c]⟩ with|some n=>ok (D.int n) s|none=>ϋ) else ϋ)=_
 rw[Ñ (È (show (⟨#[c]⟩:Str).length<=640 from (show 1<=640 by decide))),e];show ok (D.int ((c-48:Nat):Int)) s=_;rw[show ((c-48:Nat):Int)=(c:Int)-48 by omega]
end
section
variable {s:ae} {l h:List Int} {i:Int} {env:Env} {p:Pg} {x y:Str} {ps ds:List Pg}
def textOf (ps:List Pg):Str:=š "" (ps.map λp=>iQ p++"\n")
def Km (h:jy p):(iQ p++"\n").length<=51:=by rw[fH];have:=Cg h;show _ + 1<=51;omega
def text_len (h:∀p∈ps,jy p):(textOf ps).length<=ps.length*51:=by
 rw[jF];delta textOf;rw[Cf]
 induction ps with
 |nil=>exact aeD 0
 |cons p r ih =>
  have Z:=Km (h p ∅);rw[jF] at Z;have X:=ih λq Y=>h q (Ï _ Y);rw[à,à,ŏ,ä,â];omega
def V1 (h:jy p) (hg:g [p.d] s=ok (.str (iQ p)) s):e2 bh (aG g (af (aa 0) ah)) (eC (.str "\n")) [ϊ p.d] s=ok (.str (iQ p++"\n")) s:=by
 refine aeB ?_;erw[bj,wp_call,aL,aP,aR,bA];refine aeA hg (aeA (xI (by have:=Cg h;show _ + 1<=_;omega)) ⟨rfl,rfl⟩)
def SI (hi:it env s=ok (ps.map Pg.d) s) (hl:ps.length<=100) (h:∀p∈ps,jy p) (hg:∀p,jy p->g [p.d] s=ok (.str (iQ p)) s):cL 1 [] it (gN 0) cS (e2 bh (aG g (af (aa 0) ah)) (eC (.str "\n"))) env s=ok (.lst ((ps.map λp=>iQ p++"\n").map D.str)) s:=by
 refine aeB ?_;rw[jB];refine aeA hi ⟨le_size (by rw[É];omega),?_⟩;refine aeA (comp_map Pg.d (λ_=>ό) (λp=>D.str (iQ p++"\n")) ps λp Z=>⟨[ϊ p.d],rfl,rfl,λ_=>V1 (h p Z) (hg p (h p Z))⟩) ?_;rw[Ő.mpr (λ_ _=>rfl),Ġ];exact⟨rfl,rfl⟩
def ZH (hl:ps.length<=100) (h:∀p∈ps,jy p):iP "" (.lst ((ps.map λp=>iQ p++"\n").map D.str)) s=ok (.str (textOf ps)) s:=xc (by decide) (by rw[É];omega) λz Z=>by
 obtain⟨p,Y,rfl⟩:=Č.mp Z;have:=Km (h p Y);omega
def y0 (hl:ps.length<=1000) (hf:∀p∈ps,jm p) (hb:dG ps=ό):cD.pR [bD ps] s=ok .au s:=by
 refine aeB ?_;delta cD.pR;simp only[VC];refine aeA (L5 hl hf) ?_;rw[hb];simp only[VC,ý,Æ,ï,ģ]
def DH (hb:dG ps=ό):(∀p∈ps,dX p=ό)/\ps.length<=24:=by
 delta dG nJ at hb;erw[Å,Ë,ô] at hb;exact⟨hb.1.2.1,hb.1.1⟩
def V2 (hb:dG ps=ό):vv [bD ps] s=ok (.str (textOf ps)) s:=by
 obtain⟨Z,X⟩:=DH hb;refine aeB ?_;delta vv;refine dO.symm ▸ ⟨rfl,aeC λR Y=>?_⟩;show Wp (cE _ [ϊ (bD ps)] s) _;rw[pW];refine aeA (show dJ cD.pR (af (aa 0) ah) [ϊ (bD ps)] s=ok .au s from y0 ⋯ (λp h=>BN (Z p h)) hb) ?_;rw[bz];subst Y;rw[bW,sY rfl];refine aeA (SI (ps:=ps) (nh rfl) ⋯ (λp h=>zM (Z p h)) λp h=>V0 h) ?_;exact aeA (ZH ⋯ λp h=>zM (Z p h)) ⟨rfl,rfl⟩
end
def Sf (s:ae) (k:Nat):Prop:=∃(a:Int) (b:Bool),s[k]?=ϊ (.lst [.int a,.bl b])/\0<=a/\(b=ύ->a<2147483647)
def ZI (h:Sf s k) (h1:0<m) (h2:m<1073741824):Wp (cD.j6 [.aj k,.int m] s) λd s'=>∃r:Int,d=.int r/\0<=r/\r<m/\Sf s' k/\Ex k s s':=by
 obtain⟨a,b,e,V,Y⟩:=h;have X:=(Ô.mp e).1
 cases b with
 |true =>
  have Z:(s.set k (.lst [.int (a / m),.bl ό]))[k]?=ϊ (.lst [.int (a / m),.bl ό]):=ù X;refine⟨.int (a % m),s.set k (.lst [.int (a / m),.bl ό]),?_,a % m,rfl,adF _ ⋯,υ _ h1,⟨a / m,ό,Z,Int.ediv_nonneg V ⋯,λz=>by cases z⟩,Ex.set _ _ _⟩;erw[cD.j6,aD,aq,aM,cq,truth,e2,zI,zJ,eC,bU,à,ŋ,Ħ,Ļ,Ha _ _ k s e,P1 _ _ k s e,â,ă,ò,bc,gN,uw s h1,oV,OZ s h1 h2,OX _ _ _ k s e,aA,Ĝ,ĝ,Ö]
 |false =>
  have Y:=Y rfl;have ex:0<=(a*48271+29) % 2147483647/\(a*48271+29) % 2147483647<2147483647:=⟨adF _ (by decide),υ _ (by decide)⟩;generalize U:(a*48271+29) % 2147483647=x at ex;have Z:(s.set k (.lst [.int x,.bl ύ]))[k]?=ϊ (.lst [.int x,.bl ύ]):=ù X;generalize W:(x*x+39373*x+7) % 2147483629=y;have N:0<=y/\y<2147483629:=by rw[<- W];exact⟨adF _ (by decide),υ _ (by decide)⟩
  generalize T:(y*y+16807*y) % 2147483587=z;refine⟨.int (z / 8 % m),s.set k (.lst [.int x,.bl ύ]),?_,_,rfl,adF _ ⋯,υ _ h1,⟨x,ύ,Z,ex.1,λ_=>ex.2⟩,Ex.set _ _ _⟩;have S:jI (.int a) (.int 48271) s=ok (.int (a*48271)) s:=xG s (mulOk_of ⋯ ⋯);have R:∀s',jI (.int x) (.int x) s'=ok (.int (x*x)) s':=λs'=>xG s' (mulOk_of ⋯ ⋯);have Q:∀s',jI (.int 39373) (.int x) s'=ok (.int (39373*x)) s':=λs'=>xG s' (mulOk_of (by decide) (by decide));have m4:∀s',jI (.int y) (.int y) s'=ok (.int (y*y)) s':=λs'=>xG s' (mulOk_of ⋯ ⋯);have P:∀s',jI (.int 16807) (.int y) s'=ok (.int (16807*y)) s':=λs'=>xG s' (mulOk_of (by decide) (by decide));have O:∀n:Int,ay (.aj k) (.int 0) (s.set k (.lst [.int x,.bl ύ]))=ok (.int x) (s.set k (.lst [.int x,.bl ύ])):=λ_=>Ha _ _ k _ Z;erw[cD.j6,aD,aq,aM,cq,truth,e2,zI,zJ,eC,bU,à,ŋ,Ħ,Ļ,Ha _ _ k s e,P1 _ _ k s e,â,ă,Æ,ï,ò,bH,bc,gN,oV,OX _ _ _ k s e,aA,Ĝ,ĝ,Ö,S,R,Q,m4,P,OY,uw _ (show (0:Int)<2147483647 by decide),uw _ (show (0:Int)<2147483629 by decide),uw _ (show (0:Int)<2147483587 by decide),OZ _ (show (0:Int)<8 by decide) (by decide),uw _ h1,U,W,T,O 0]
def XC (h0:0<=i):Wp (cD.yW [.bO ns,.int i] s) λd s'=>d=.aj s.length/\Sf s' s.length/\∃c,s'=s++[c]:=by
 obtain⟨c,Y⟩:=Xq (ns:=ns) (s:=s) h0;have Z:∀s,wL (.int 10) (.int 18) s=ok (.int (10 ^ 18)) s:=λs=>by
  have e:E9 (.int 10) (.int 18)=ϊ (.int (10 ^ 18)):=by
   show (if (ώ ((0:Int)<=18)&&ώ ((18:Int)<=1000000)&&ώ ((10:Int).natAbs<2 ^ 64))=ό then ϊ (D.int (10 ^ (18:Int).toNat)) else ϋ)=_
   rw[Ñ (by decide)];rfl
  erw[wL,e,bS]
 delta cD.yW;simp only[VC,Y,Z];by_cases h:(10:Int) ^ 18<=c
 ·rw[È h]
  simp only[VC,Z,ò];exact⟨by decide,⟨_,ό,by simp;rfl,by omega,λz=>by cases z⟩,_,rfl⟩
 ·rw[Ì h]
  simp only[VC,Æ,ï,uw _ (show (0:Int)<2147483647 by decide)];exact⟨by decide,⟨_,ύ,by simp;rfl,adF _ (by decide),λ_=>υ _ (by decide)⟩,_,rfl⟩
def Oi (h0:0<=r) (h1:r<ds.length):∃d∈ds,ay (.lst ds) (.int r) s=ok d s:=by
 obtain⟨x,e,e2⟩:=nB h0 h1;exact⟨x,ű e2,by erw[ay,kJ,res,e,bS]⟩
def Kp (s s':ae):Prop:=s.length<=s'.length/\∀j,j<s.length->s'[j]?=s[j]?
def Kp.app (s c:ae):Kp s (s++c):=⟨by simp,λj Z=>ç Z⟩
def Kp.get (h:Kp s s') {k:Nat} (e:s[k]?=ϊ c):s'[k]?=ϊ c:=by rw[h.2 k (Ô.mp e).1];exact e
def Kp.sf {k:Nat} (h:Kp s s') (g:Sf s k):Sf s' k:=by
 obtain⟨a,b,e,r⟩:=g;exact⟨a,b,h.get e,r⟩
def XD (h:s[j]?=ϊ (.lst ds)) (hl:ds.length<=1000):lD (.aj j) s=ό/\lC (.aj j) x s=ok .au (s.set j (.lst (ds++[x]))):=by
 refine⟨by erw[lD,h],?_⟩;delta lC;erw[h,È (ς hl (show 1000<Õ by decide)),ò]
def V3 {α:Type} {f:α->Bool} (xs:List α):DI.cQ (xs.map λx=>D.bl (f x))=ό:=by
 induction xs with
 |nil=>rfl
 |cons a r ih=>erw[à,DI.cQ,lay,ih,ĵ]
def XE {α:Type} {f:α->Bool} {xs:List α} {s:ae}:fT (.bl ύ) (.lst (xs.map λx=>D.bl (f x))) s=ok (.bl (xs.all f)) s:=by
 delta fT inD;rw[show nH (.lst (xs.map λx=>D.bl (f x))) s=ϊ (xs.map λx=>D.bl (f x)) from rfl];simp only[];rw[Ñ (by delta nG;rw[V3];rfl)];show ok (D.bl (!(xs.map λx=>D.bl (f x)).any λy=>beq y (.bl ύ))) s=_;congr 3
 have e:∀b,beq (.bl b) (.bl ύ)=!b:=λb=>by cases b<;>rfl
 rw[List.any_map];erw[Ş,e,List.not_any_eq_all_not,Bool.not_not]
section
variable {s s':ae} {ps qs:List Pg} {p q:Pg} {a b:Nat} {bs:List (List Pg)} {env env':Env} {st cf:aez Fl} {d x:D} {y:bg}
def eqB (p q:Pg):Bool:=beq p.d q.d
def zN (p:Pg):lay p.d=ό:=by
 have Z:Ó "made"=ό:=nofun
 have Y:Ó "mended"=ό:=nofun
 cases p with
 |made m d a b=>erw[Pg.d,lay,DI.cQ,ti,yR,Z,ĵ]
 |de m d k=>erw[Pg.d,lay,DI.cQ,Y,ĵ]
def V4 (ps:List Pg):DI.cQ (ps.map Pg.d)=ό:=by
 induction ps with
 |nil=>rfl
 |cons p r ih=>erw[à,DI.cQ,zN,ih,ĵ]
def rB (p:Pg) (ps:List Pg):Bool:=ps.any λq=>eqB q p
def XF:fe p.d (bD ps) s=ok (.bl (rB p ps)) s/\fT p.d (bD ps) s=ok (.bl (!rB p ps)) s:=by
 have e:inD p.d (ps.map Pg.d)=ϊ (rB p ps):=by
  delta inD;have Z:=zz p;rw[Ñ (by delta nG;rw[V4,zN,È (show dep p.d<=100 by omega)];rfl),List.any_map];rfl
 delta fe fT;rw[show nH (bD ps) s=ϊ (ps.map Pg.d) from rfl];erw[e];exact⟨rfl,rfl⟩
def Nd:res p.d s=p.d:=by cases p<;>rfl
def ZJ:pK p.d=ύ:=by cases p<;>rfl
def aba:dZ p.d q.d s=ok (.bl (!eqB p q)) s:=by
 delta dZ ki;have Z:=zz p;rw[Nd,Nd,ZJ,Ŭ,Ú Ä,Ñ (by rw[zN,zN,È (show min (dep p.d) (dep q.d)<=100 by omega)];rfl)];rfl
def V5 (hl:ps.length<=1000):bh (bD ps) (.tup [p.d]) s=ok (bD (ps++[p])) s:=by
 have e:bh (.tup (ps.map Pg.d)) (.tup [p.d]) s=ok (.tup (ps.map Pg.d++[p.d])) s:=by
  show bS (if oU (ps.map Pg.d) [p.d]=ό then ϊ (D.tup (ps.map Pg.d++[p.d])) else ϋ) s=_
  rw[Ñ (show oU (ps.map Pg.d) [p.d]=ό from È (le_size (by rw[É];show ps.length+1<=1000000;omega)))];rfl
 rw[show bD (ps++[p])=.tup (ps.map Pg.d++[p.d]) by show D.tup _=_;rw[ħ];rfl];exact e
structure Bk (ps:List Pg):Prop where
 laid:Laid ps
 book:dG ps=ό
def Bk.len (h:Bk ps):ps.length<=24:=by
 have:=h.book;delta dG nJ at this;erw[Å,Ë] at this;exact this.1.1
theorem Bk.nil:Bk []:=⟨⟨λ_ h=>absurd h ć,.nil⟩,by decide +kernel⟩
def V6 (h:Laid ps):ps.Nodup:=h.up.imp λ{a b} Z e=>by
 subst e;rw[cw.yj] at Z;cases Z
def Ko (h:Laid ps) (hp:dX p=ό) (hi:p∉ps):Laid (ST.dA cw (ps++[p])):=by
 refine⟨λq Y=>?_,VY ?_⟩
 ·rcases ó.mp ((ST.rV _).mem_iff.mp Y) with h'|h'
  ·exact h.pg q h'
  ·rw[Đ.mp h'];exact hp
 ·rw[adR]
  exact⟨V6 h,by simp,λx X y Z e=>hi (by rw[Đ] at Z;rw[<- Z,<- e];exact X)⟩
theorem Lf:∀{ps:List Pg},xa ps=ό->ps.Pairwise λa b=>cw.lt a b=ό
 | [],_=>.nil
 | [a],_=>by simp
 |a::b::r,h=>by
  delta xa at h;erw[List.drop_succ_cons,List.drop_zero,Ĺ,List.all_cons,Å] at h;have ih:=Lf (ps:=b::r) (by delta xa;exact h.2);refine ø.mpr ⟨λx hx=>?_,ih⟩
  rcases Û.mp hx with rfl|hx
  ·exact h.1
  ·exact cw.tr _ _ _ h.1 ((ø.mp ih).1 x hx)
def JQ (hi:p∈ps):dG (ST.dA cw (ps++[p]))=ύ:=by
 cases h:dG (ST.dA cw (ps++[p])) with
 |false=>rfl
 |true =>
  exfalso;delta dG nJ at h;erw[Å,Ë] at h;have up:=Lf h.1.2.2;have Z:(ST.dA cw (ps++[p])).Nodup:=up.imp λ{a b} Y e=>by
   subst e;rw[cw.yj] at Y;cases Y
  rw[(ST.rV _).nodup_iff,adR] at Z;exact Z.2.2 p hi p ∅ rfl
def RK (h:Laid ps):Laid (ps.filter λq=>!eqB q p):=h.sub List.filter_sublist
def Lg (h:∀p∈ps,dX p=ό):∀p∈ps,jm p:=λp Z=>BN (h p Z)
end
section
variable {s s':ae} {ps book:List Pg} {p q:Pg} {a b:Nat} {aN bs:List (List Pg)} {env env':Env} {st cf:aez Fl} {d x:D} {y:bg}
def gy (h:st env s=ok (.nx env') s'):aq st cf env s=cf env' s':=by delta aq;rw[h];rfl
def jc (h:st env s=ϊ (.error y,s')):aq st cf env s=ϊ (.error y,s'):=by delta aq;rw[h];rfl
structure Di (s:ae) (a b:Nat) (aN:List (List Pg)) (book:List Pg):Prop where
 ha:s[a]?=ϊ (.ins "Diary" [("books",.aj b)])
 hb:s[b]?=ϊ (.lst ((aN++[book]).map bD))
 ln:aN.length<=500
 bk:∀ps∈aN++[book],Bk ps
def Di.last (h:Di s a b aN book):Bk book:=h.bk book ∅
def Di.ex (h:Di s a b aN book) (x:Ex k s s') (ka:a≠k) (kb:b≠k):Di s' a b aN book:=⟨x.get h.ha ka,x.get h.hb kb,h.ln,h.bk⟩
def Di.kp (h:Di s a b aN book) (x:Kp s s'):Di s' a b aN book:=⟨x.get h.ha,x.get h.hb,h.ln,h.bk⟩
def O2 (ha:s[a]?=ϊ (.ins "Diary" [("books",.aj b)])):jj "Diary" (.aj a) s=ϊ (a,([("books",.aj b)]:List (Str×D))):=by
 delta jj;dsimp only;rw[ha];dsimp only;rw[Ñ (È rfl)]
def zO (ha:s[a]?=ϊ (.ins "Diary" [("books",.aj b)])):ig "Diary" "books" (.aj a) s=ok (.aj b) s:=by
 delta ig;rw[O2 ha];rfl
def oM (ha:s[a]?=ϊ (.ins "Diary" [("books",.aj b)])) (hm:(([("books",D.aj b)]:List (Str×D)).lookup f).isNone=ό) (he:fo env s=ok (.aj a) s) (hf:fa env s=ok ds s):eR "Diary" f fn fo fa env s=fn (.aj a::ds) s:=by
 delta eR;rw[he,bU,O2 ha];dsimp only;rw[hm,Ñ rfl,hf,bU]
def Me (h:s[b]?=ϊ (.lst ds)):res (.aj b) s=.lst ds:=by delta res;dsimp only;rw[h]
def XG:ay (.lst (xs++[x])) (.int (-1)) s=ok x s:=by
 rw[ZG (xs:=xs++[x]) ∅,List.getLast_append_of_ne_nil _ ∅];rfl
def XH:ay (.lst ((aN++[book]).map bD)) (.int (-1)) s=ok (bD book) s:=by
 rw[ħ];exact XG
def abb (h:Di s a b aN book):ay (.aj b) (.int (-1)) s=ok (bD book) s:=by
 have e:ay (.aj b) (.int (-1)) s=ay (.lst ((aN++[book]).map bD)) (.int (-1)) s:=by
  delta ay kJ;rw[Me h.hb];rfl
 rw[e,XH]
def acF:qy (.int 1) s=ok (.int (-1)) s:=rfl
def DJ (h:Di s a b aN book):lX [.aj a] s=ok (bD book) s:=by
 refine aeB ?_;delta lX;refine dO.symm ▸ ⟨rfl,?_⟩;show Wp (aA _ [ϊ (.aj a)] s) _;rw[bW,bj,oJ,aR];refine aeA (zO h.ha) ?_;rw[oJ,bA];refine aeA acF (aeA (abb h) ?_);exact⟨rfl,rfl⟩
def XI (h:dX p=ό):mZ [p.d] s=ok .au s:=by
 refine aeB ?_;delta mZ;simp only[VC,CN (BN h),h,ý,Æ,ï,ģ]
def Lh {r:Env} {z:Option D} (h:dX p=ό):cE (dJ mZ (af (aa 1) ah)) (z::ϊ p.d::r) s=ok (.nx (z::ϊ p.d::r)) s:=by
 show ai (mZ [p.d] s) _=_;rw[XI h];rfl
def Mf (h:Di s a b aN book) (hl:ps.length<=100) (hp:∀p∈ps,dX p=ό):vp [.aj a,bD ps] s=if dG ps=ό then ok .au (s.set b (.lst ((aN++[book]++[ps]).map bD))) else ϊ (.error ⟨"Clash",ϋ⟩,s):=by
 have e:cU (cq (aG si (af (aa 1) ah))) [ϊ (.aj a),ϊ (bD ps)] s=ok (!dG ps) s:=by
  refine aeB ?_;simp only[VC,L5 (show ps.length<=1000 by omega) (Lg hp),ģ]
 delta vp aD;show ai (aq _ _ [ϊ (.aj a),ϊ (bD ps)] s) _=_
 cases hb:dG ps with
 |true =>
  rw[hb] at e;rw[Ñ rfl];rw[gy (show aM _ _ _ [ϊ (.aj a),ϊ (bD ps)] s=ok (.nx [ϊ (.aj a),ϊ (bD ps)]) s from ?_)]
  ·refine aeB ?_
   obtain⟨Z,Y⟩:=XD (x:=bD ps) h.hb (by rw[É,ä];have:=h.ln;simp;omega);rw[bP,pW,MZ,oJ,aR];refine aeA (zO h.ha) ⟨Z,?_⟩;erw[bx,aR];refine aeA Y ?_;rw[bF,ħ (l₂:=[ps])];exact⟨rfl,rfl⟩
  ·delta aM
   rw[e];rfl
 |false =>
  rw[hb] at e;rw[Ú Ä];rw[jc (show aM _ _ _ [ϊ (.aj a),ϊ (bD ps)] s=ϊ (.error ⟨"Clash",ϋ⟩,s) from ?_)]
  ·rfl
  ·delta aM
   rw[e];rfl
def Mg (h:Di s a b aN book) (hp:dX p=ό):oi [.aj a,p.d] s=if dG (ST.dA cw (book++[p]))=ό then ok .au (s.set b (.lst ((aN++[book]++[ST.dA cw (book++[p])]).map bD))) else ϊ (.error ⟨"Clash",ϋ⟩,s):=by
 have W:=h.last.len;delta oi aD;show ai (aq _ _ [ϊ (.aj a),ϊ p.d] s) _=_;rw[gy (Lh hp)];have Z:af (eB md (af (eB TK.vX (af (e2 bh (eR "Diary" "book_now" lX (aa 0) ah) (cY (af (aa 1) ah))) ah)) ah)) ah [ϊ (.aj a),ϊ p.d] s=ok [bD (ST.dA cw (book++[p]))] s:=by
  refine aeB ?_;rw[aL,c8,aL,c8,aL,bj];refine aeA (show eR "Diary" "book_now" lX (aa 0) ah [ϊ (.aj a),ϊ p.d] s=ok (bD book) s from (oM h.ha (by rfl) (ds:=[]) rfl rfl).trans (DJ h)) ?_;erw[iD,aL,aP,bx,aR];refine⟨le_size (n:=1) (by decide),?_⟩;refine aeA (V5 (show book.length<=1000 by omega)) ?_;refine aeA (show vX [bD (book++[p])] s=ok (.lst ((ST.dA cw (book++[p])).map Pg.d)) s from ?_) ?_
  ·show (if ((book++[p]).map Pg.d).length<64 then bS (wR ((book++[p]).map Pg.d)) s else ϋ)=_
   rw[É,Ñ (by rw[ä];show book.length+1<64;omega),KS];rfl
  exact⟨_,_,rfl,rfl,rfl⟩
 have Y:∀q∈ST.dA cw (book++[p]),dX q=ό:=λq X=>by
  rcases ó.mp ((ST.rV _).mem_iff.mp X) with h'|h'
  ·exact h.last.laid.pg q h'
  ·rw[Đ.mp h'];exact hp
 delta cE;rw[oM h.ha (by rfl) rfl Z,Mf h (by rw[(ST.rV _).length_eq,ä];show book.length+1<=100;omega) Y];generalize dG (ST.dA cw (book++[p]))=c
 cases c<;>rfl
def ZK {caps:Env} (hc:caps=[ϊ p.d]) (hl:ps.length<=100):iC 1 caps (gN 0) (aV (e2 dZ (aa 0) (aa 1))) (aa 0) (ps.map Pg.d) s=ok ((ps.filter λq=>!eqB q p).map Pg.d) s:=by
 subst hc;refine comp_map Pg.d (λq=>!eqB q p) Pg.d ps λq _=>⟨[ϊ q.d,ϊ p.d],rfl,?_,λ_=>rfl⟩;refine aeB ?_;erw[eJ,bj,aR,bx,aba,bF,cB,ģ]
def Us (h:Di s a b aN book) (hp:dX p=ό):rH [.aj a,p.d] s=if (rB p book&&dG (book.filter λq=>!eqB q p))=ό then ok .au (s.set b (.lst ((aN++[book]++[book.filter λq=>!eqB q p]).map bD))) else ϊ (.error ⟨"Clash",ϋ⟩,s):=by
 have V:=h.last.len;delta rH aD;show ai (aq _ _ [ϊ (.aj a),ϊ p.d,ϋ] s) _=_;rw[gy (Lh hp)];rw[gy (show bc _ _ [ϊ (.aj a),ϊ p.d,ϋ] s=ok (.nx [ϊ (.aj a),ϊ p.d,ϊ (bD book)]) s from ?_)]
 rotate_left
 ·refine aeB ?_
  rw[eG];refine aeA (show eR "Diary" "book_now" lX (aa 0) ah [ϊ (.aj a),ϊ p.d,ϋ] s=ok (bD book) s from (oM h.ha (by rfl) (ds:=[]) rfl rfl).trans (DJ h)) ?_;rw[gb];exact⟨rfl,rfl⟩
 have Z:aV (e2 fT (aa 1) (aa 2)) [ϊ (.aj a),ϊ p.d,ϊ (bD book)] s=ok (!rB p book) s:=by
  refine aeB ?_;erw[eJ,bj,aR,bx,XF.2,bF,cB,ģ]
 cases Y:rB p book with
 |false =>
  rw[Y] at Z;rw[Ú (by rw[Ŭ];exact Ä)];rw[jc (show aM _ _ _ [ϊ (.aj a),ϊ p.d,ϊ (bD book)] s=ϊ (.error ⟨"Clash",ϋ⟩,s) from ?_)]
  ·rfl
  ·delta aM
   rw[Z];rfl
 |true =>
  rw[Y] at Z;rw[ú];rw[gy (show aM _ _ _ [ϊ (.aj a),ϊ p.d,ϊ (bD book)] s=ok (.nx [ϊ (.aj a),ϊ p.d,ϊ (bD book)]) s from ?_)]
  rotate_left
  ·delta aM
   rw[Z];rfl
  have X:af (eB md (af (cL 1 [1] (cH (aa 2)) (gN 0) (aV (e2 dZ (aa 0) (aa 1))) (aa 0)) ah)) ah [ϊ (.aj a),ϊ p.d,ϊ (bD book)] s=ok [bD (book.filter λq=>!eqB q p)] s:=by
   refine aeB ?_;rw[aL,c8,aL,jB];refine aeA (nh rfl) ⟨le_size (by rw[É];omega),?_⟩;refine aeA (ZK rfl (show book.length<=100 by omega)) ?_;erw[aP];exact⟨_,_,rfl,rfl,rfl⟩
  delta cE;have sub:(book.filter λq=>!eqB q p).length<=100:=Ý (ū _ _) ⋯;rw[oM h.ha (by rfl) rfl X,Mf h sub λq W=>h.last.laid.pg q (Ĥ.mp W).1];generalize dG (book.filter λq=>!eqB q p)=c
  cases c<;>rfl
def ZL (h:Di s a b aN book):cI [.aj b] s=ok (.int (aN.length+1)) s:=by
 show bS (nN (.aj b) s) s=_;have:nN (.aj b) s=ϊ (.int (aN.length+1)):=by
  delta nN;rw[Me h.hb];dsimp only;rw[É,ä];rfl
 rw[this];rfl
def XJ (h:Di s a b aN book):vo [.aj a] s=if aN=[] then ϊ (.error ⟨"NoDeed",ϋ⟩,s) else ok .au (s.set b (.lst (aN.map bD))):=by
 have Z:aV (e2 aW (eB cI (af (e1 (ig "Diary" "books") (aa 0)) ah)) (eC (.int 1))) [ϊ (.aj a)] s=ok ((aN.length+1:Int)==1) s:=by
  refine aeB ?_;erw[eJ,bj,c8,aL,aP,oJ,aR];refine aeA (zO h.ha) (aeA (ZL h) ?_);simp only[VC,ģ]
 delta vo aD;show ai (aq _ _ [ϊ (.aj a)] s) _=_;by_cases Y:aN=[]
 ·subst Y
  rw[Ñ rfl];rw[jc (show aM _ _ _ [ϊ (.aj a)] s=ϊ (.error ⟨"NoDeed",ϋ⟩,s) from ?_)]
  ·rfl
  ·delta aM
   rw[Z];rfl
 ·rw[Ú Y]
  have V:0<aN.length:=List.length_pos_iff.mpr Y;have X:((aN.length+1:Int)==1)=ύ:=beq_eq_false_iff_ne.mpr ⋯;rw[X] at Z;rw[gy (show aM _ _ _ [ϊ (.aj a)] s=ok (.nx [ϊ (.aj a)]) s from ?_)]
  rotate_left
  ·delta aM
   rw[Z];rfl
  have W:xD (.aj b) s=ok (bD book) (s.set b (.lst (aN.map bD))):=by
   delta xD;dsimp only;rw[h.hb];dsimp only;rw[ħ,à,ŋ,ä,â,ă,Nat.add_sub_cancel,ð (aeD _),Nat.sub_self];simp
  refine aeB ?_;rw[bP,pW,oJ,oJ,aR];refine aeA (zO h.ha) (aeA W ?_);rw[bF];exact⟨rfl,rfl⟩
def ZM:oI "Diary" vq env s=ok (.aj s.length) (s++[.ins "Diary" [("books",.aj (s.length+1))],.lst [.tup []]]):=by
 have e:vq [.aj s.length] (s++[.ins "Diary" []])=ok .au (s++[.ins "Diary" [("books",.aj (s.length+1))],.lst [.tup []]]):=by
  delta vq aD;show ai (qD _ _ _ _ [ϊ (.aj s.length)] (s++[.ins "Diary" []])) _=_;delta qD;have e1:eNew (af (cY ah) ah) [ϊ (.aj s.length)] (s++[.ins "Diary" []])=ok (.aj (s.length+1)) (s++[.ins "Diary" [],.lst [.tup []]]):=by
   refine aeB ?_;erw[DC,iD,aL,aP];refine⟨le_size (n:=0) (by decide),le_size (n:=1) (by decide),?_,?_⟩
   ·simp
   ·simp
  rw[e1,bU];show ai (ai (ok (D.aj s.length) _) _) _=_;rw[bU];have e2:jj "Diary" (.aj s.length) (s++[.ins "Diary" [],.lst [.tup []]])=ϊ (s.length,[]):=by
   delta jj;dsimp only;rw[ð (aeD _),Nat.sub_self];rw[List.getElem?_cons_zero];dsimp only;rw[Ñ (È rfl)]
  rw[e2];dsimp only;rw[Ñ (by decide)];have Z:∀(x y z:Cell),List.set (s++[x,y]) s.length z=s++[z,y]:=λx y z=>by simp
  rw[Z];rfl
 delta oI;rw[e];rfl
end
section
variable {s:ae} {env:Env} {x y z:Str} {ws:List Str} {c:Nat}
theorem Nf:∀{ps:List (List Nat)} {p:List Nat},p∈ps->p.length<=(jl c ps).length
 | [q],p,h=>by rw[Đ.mp h];exact aeD _
 |q::r::t,p,h=>by
  show p.length<=(q++c::jl c (r::t)).length;rw[ä,â]
  rcases Û.mp h with rfl|h
  ·omega
  ·have:=Nf (ps:=r::t) h;omega
def p6 (h:z∈Ī x ⟨#[c]⟩):z.length<=x.length:=by
 have e:=aem x ⟨#[c]⟩;rw[jF z,jF x,<- e,CP];exact Nf (Č.mpr ⟨z,h,rfl⟩)
abbrev sl (x:Str):List Str:=Ī x ⟨#[47]⟩
abbrev bs (x:Str):List Str:=Ī x ⟨#[32]⟩
def BO (hl:x.length<=1000):(Ī x ⟨#[c]⟩).length<=1002:=Ý (ad1 x ⟨#[c]⟩) ⋯
def gP:∀zs:List Str,(zs.map D.str).length=zs.length:=λzs=>É ..
def mT (z:Str):Bool:=ώ (z="-")||jn z
def ja (x:Str):Bool:=ώ ((sl x).length=2)&&(sl x).all mT
def o9 {ds:List D} (hl:ds.length<=1000000):cI [.lst ds] s=ok (.int ds.length) s:=rfl
def qS {n m:Nat}:((n:Int)==(m:Int))=ώ (n=m):=by
 by_cases h:n=m
 ·rw[h];simp
 ·rw[Ì h]
  simpa using λe:(n:Int)=m=>h ⋯
def Ng {F:List D->ae->Res D} {T:(aez D)->aez D} (hl:x.length<=1000) (hF:∀z∈sl x,F [.str z] s=ok (.bl (jn z)) s) (hT:∀C env,C env s=ok (.lst ((sl x).map λz=>D.bl (mT z))) s->T C env s=ok (.bl ((sl x).all mT)) s):aD 1 2 (aq (bc (dW jb (aa 0) (eC (.str "/"))) (gN 1)) (aA (cN (e2 aW (eB cI (af (aa 1) ah)) (eC (.int 2))) (T (cL 1 [] (cH (aa 1)) (gN 0) cS (lR (e2 aW (aa 0) (eC (.str "-"))) (aG F (af (aa 0) ah)))))))) [.str x] s=ok (.bl (ja x)) s:=by
 refine aeB ?_;refine dO.symm ▸ ⟨rfl,aeC λR Z=>?_⟩;rw[eG];refine aeA (vL Oh rfl ⋯) ?_;rw[gb];show fE R _ (.nx [ϊ (.str x),ϊ (.lst ((sl x).map D.str))]) s;rw[bz];subst Z;have X:(sl x).length<=1002:=BO hl;rw[bW,kU,bj];erw[c8,aL,aP,aR,bx,bA];refine aeA (o9 (by rw[gP];omega)) ?_;rw[gP,qp,cB];delta ja;rw[show (((sl x).length:Int)==2)=ώ ((sl x).length=2) from qS (m:=2)]
 cases ώ ((sl x).length=2) with
 |false=>exact⟨rfl,rfl⟩
 |true =>
  rw[Ñ rfl,ú];refine aeA (hT _ _ (aeB ?_)) ⟨rfl,rfl⟩;rw[jB];refine aeA (ni (ds:=(sl x).map D.str) rfl) ⟨le_size (by rw[gP];omega),?_⟩;refine aeA (comp_map D.str (λ_=>ό) (λz=>D.bl (mT z)) (sl x) λz Y=>⟨[ϊ (.str z)],rfl,rfl,λ_=>aeB ?_⟩) ?_
  ·erw[DD,bj,aR,bA]
   refine aeA uy ?_;erw[cB];delta mT
   cases ώ (z="-") with
   |true=>erw[ò];exact⟨rfl,trivial⟩
   |false =>
    erw[Æ,ï,wp_call,aL,aP,aR];exact aeA (hF z Y) ⟨rfl,rfl⟩
  rw[Ő.mpr (λ_ _=>rfl)];exact⟨rfl,rfl⟩
def Kq (hl:x.length<=1000):yw [.str x] s=ok (.bl (ja x)) s :=
 Ng (T:=λC=>eB mw (af C ah)) hl (λz Z=>CU (by have:=p6 Z;omega)) λC env e=>aeB (by
  rw[c8,aL];refine aeA e ?_;rw[aP];exact aeA (qf mT (sl x) s) ⟨rfl,rfl⟩)
def fq:List Str->Bool
 | [w,a,b,v]=>b9 a&&b9 b&&(if w="made" then ja v else ώ (w="mended")&&b9 v)
 |_=>ύ
def Fs {ws:List Str} (h:ws.length=4):∃w a b v,ws=[w,a,b,v]:=by
 match ws,h with
 | [w,a,b,v],_=>exact⟨w,a,b,v,rfl⟩
def DK (h:ws.length≠4):fq ws=ύ:=by
 match ws,h with
 | [],_ | [_],_ | [_,_],_ | [_,_,_],_=>rfl
 | [_,_,_,_],h=>exact absurd rfl h
 |_::_::_::_::_::_,_=>rfl
def JR (hn:ws.length<=2000) (hl:∀z∈ws,z.length<=1000):vd [.lst (ws.map D.str)] s=ok (.bl (fq ws)) s:=by
 refine aeB ?_;delta vd;refine dO.symm ▸ ⟨rfl,aeC λR Z=>?_⟩;show Wp (aM _ _ _ [ϊ (.lst (ws.map D.str)),ϋ,ϋ,ϋ,ϋ] s) _;erw[oz,eJ,bj,c8,aL,aP,aR,bA];refine aeA (o9 (by rw[gP];omega)) ?_;rw[gP,zL,cB,show (((ws.length:Int)==4))=ώ (ws.length=4) from qS (m:=4)];by_cases Y:ws.length=4
 ·obtain⟨w,a,b,v,rfl⟩:=Fs Y
  rw[È Y];erw[ý,Æ,ï,dD,bz];subst Z;have U:=hl a ∅;have T:=hl b ∅;have lv:=hl v ∅;refine aeC λR Z=>?_;rw[eG,aR];refine⟨[ϊ (.lst (([w,a,b,v]:List Str).map D.str)),ϊ (.str w),ϊ (.str a),ϊ (.str b),ϊ (.str v)],rfl,?_⟩;rw[bz];subst Z;refine aeC λR Z=>?_;erw[oz,kc,vZ,qm,wp_call,aL,aP,aR,bx];refine aeA (vz ⋯) ?_;rw[kT]
  cases X:b9 a with
  |false =>
   erw[ι,ò,bW,bA,ke,jE];simp[fq,X]
  |true =>
   erw[ý,Æ,ï];refine aeA (vz ⋯) ?_;rw[kT]
   cases W:b9 b with
   |false =>
    erw[ι,ò,bW,bA,ke,jE];simp[fq,W]
   |true =>
    erw[ý,Æ,ï,dD,bz];subst Z;refine aeC λR Z=>?_;erw[oz,eJ,bj,aR,bx,bA];refine aeA uy ?_;rw[cB];by_cases hw:w="made"
    ·rw[È hw]
     erw[ò,bW,wp_call,aL,aP,aR,bx];refine aeA (Kq lv) ?_;simp[ke,jE,fq,X,W,hw]
    ·rw[Ì hw]
     erw[Æ,ï,dD,bz];subst Z;erw[bW,kU,bj,aR,bx,bA];refine aeA uy ?_;rw[cB];by_cases V:w="mended"
     ·rw[È V]
      erw[ò,wp_call,aL,aP,aR,bx];refine aeA (vz ⋯) ?_;have e:fq [w,a,b,v]=b9 v:=by
       show (b9 a&&b9 b&&if w="made" then ja v else ώ (w="mended")&&b9 v)=b9 v
       rw[X,W,Ú hw,È V];simp
      rw[e];exact⟨rfl,rfl⟩
     ·rw[Ì V]
      simp[jE,fq,X,W,hw,V]
 ·rw[Ì Y]
  erw[ι,ò,bW,bA,ke,jE];simp[DK Y]
def dq {s':ae} {t:aez Bool} {st cf:aez Fl} {Q:Fl->ae->Prop} {b:Bool} (hc:t env s=ok b s') (h:if b=ό then Wp (st env s') Q else Wp (cf env s') Q):Wp (aM t st cf env s) Q:=by
 rw[oz];exact aeA hc h
def dH {f:aez D} {w v:Str} (h:f env s=ok (.str w) s):aV (e2 aW f (eC (.str v))) env s=ok (ώ (w=v)) s:=by
 refine aeB ?_;rw[eJ,bj];refine aeA h ?_;rw[bA];refine aeA uy ?_;rw[cB];exact⟨rfl,rfl⟩
def yp:List Str->Bool
 | [v]=>ja v
 |_=>ύ
def il:List Str->Bool
 | []=>ύ
 |w::r=>if w="out" then fq r else if w="surely" then ώ (r.length=2)&&r.all b9 else if w="where" then yp r else if w="undo"\/w="book" then r.isEmpty else fq (w::r)
def sJ {w:Str} {r:List Str}:ay (.lst ((w::r).map D.str)) (.int 0) s=ok (.str w) s:=by
 have e:cW ((w::r).map D.str) (0:Int)=ϊ (.str w):=by
  obtain⟨y,e1,e2⟩:=nB (xs:=(w::r).map D.str) (i:=0) (by decide) ∅;rw[e1];simpa using e2.symm
 show bS (cW ((w::r).map D.str) 0) s=_;rw[e];rfl
def CV {w:Str} {r:List Str}:qk (.lst ((w::r).map D.str)) (ϊ 1) ϋ s=ok (.lst (r.map D.str)) s:=by
 show ok (D.lst (cutD ((w::r).map D.str) (ϊ 1) ϋ)) s=_;have e:cutD ((w::r).map D.str) (ϊ 1) ϋ=r.map D.str:=by
  delta cutD;simp[HT.bp];exact List.take_of_length_le ∅
 rw[e]
theorem Kr:∀{zs:List Str},(∀z∈zs,Ó z=ό)->DI.cQ (zs.map D.str)=ό
 | [],_=>rfl
 |z::zs,h=>by
  rw[à,DI.cQ,Kr λy Z=>h y (Ï _ Z)];simp[lay,h z Þ]
def zr {zs:List Str} (h:∀z∈zs,Ó z=ό):aW (.lst (zs.map D.str)) (.lst []) s=ok (.bl zs.isEmpty) s:=by
 have e:ki (.lst (zs.map D.str)) (.lst [])=ϊ zs.isEmpty:=by
  delta ki;rw[Ú (by simp[pK]),Ñ (by erw[lay,Kr h,cQ,dep,fL,ĵ,ú,Ë];exact È (Ý (Nat.min_le_right _ 1) (show 1<=100 by decide)))]
  cases zs<;>rfl
 show (match ki (.lst (zs.map D.str)) (.lst []) with|some b=>ok (D.bl b) s|none=>ϋ)=_
 rw[e]
theorem Nh:∀{ps:List (List Nat)} {p:List Nat} {n:Nat},p∈ps->n∈p->n∈jl c ps
 | [q],p,n,h,Z=>by rw[Đ.mp h] at Z;exact Z
 |q::r::t,p,n,h,Z=>by
  show n∈q++c::jl c (r::t)
  rcases Û.mp h with rfl|h
  ·exact ÿ _ Z
  ·exact Ù _ (Ï _ (Nh h Z))
def j3:Ó x=ό↔∀n∈sg x,n<1114112:=by
 delta Ó;rw[<- Array.all_toList,ô];simp
def za (h:z∈Ī x ⟨#[c]⟩) (hx:Ó x=ό):Ó z=ό:=by
 refine j3.mpr λn Z=>j3.mp hx n ?_;have e:=aem x ⟨#[c]⟩;rw[<- e,CP];exact Nh (Č.mpr ⟨z,h,rfl⟩) Z
def XM {w:Str} {r:List Str} (hn:r.length<=1500) (hl:∀z∈w::r,z.length<=1000) (hk:∀z∈r,Ó z=ό):sv [.lst ((w::r).map D.str)] s=ok (.bl (il (w::r))) s:=by
 have Y:∀z∈r,z.length<=1000:=λz h=>hl z (Ï _ h);refine aeB ?_;delta sv;refine dO.symm ▸ ⟨rfl,aeC λR Z=>?_⟩;show Wp (xt 1 2 _ [ϊ (.lst ((w::r).map D.str)),ϋ,ϋ] s) _;rw[LR];erw[aL,aP,bj,Ad,aR,bA,zH];refine aeA sJ (aeA (show cJ (eC (.int 1)) [ϊ (.lst ((w::r).map D.str)),ϋ,ϋ] s=ok (ϊ 1) s from rfl) (aeA CV ⟨_,_,rfl,?_⟩));show fE R _ (.nx [ϊ (.lst ((w::r).map D.str)),ϊ (.str w),ϊ (.lst (r.map D.str))]) s;rw[bz];subst Z;have X:∀{f:aez D} {b:Bool} {Q:D->ae->Prop} {R:aez Fl},f [ϊ (.lst ((w::r).map D.str)),ϊ (.str w),ϊ (.lst (r.map D.str))] s=ok (.bl b) s->Q (.bl b) s->Wp (aA f [ϊ (.lst ((w::r).map D.str)),ϊ (.str w),ϊ (.lst (r.map D.str))] s) (fE R (o7 Q)):=λh q=>by
  rw[bW];exact aeA h q
 refine aeC λR Z=>dq (dH rfl) ?_;by_cases W:w="out"
 ·rw[È W,Ñ rfl]
  exact X (aeB (by erw[wp_call,aL,aP,aR,bx];exact aeA (JR ⋯ Y) ⟨rfl,rfl⟩)) ⟨by rw[show il (w::r)=fq r from Ñ W],rfl⟩
 rw[Ì W,Ú Ä,dD,bz];subst Z
 have e1:il (w::r)=if w="surely" then ώ (r.length=2)&&r.all b9 else if w="where" then yp r else if w="undo"\/w="book" then r.isEmpty else fq (w::r):=Ú W
 refine aeC λR Z=>dq (dH rfl) ?_;by_cases V:w="surely"
 ·rw[È V,Ñ rfl]
  refine X (b:=ώ (r.length=2)&&r.all b9) (aeB ?_) ⟨by rw[e1,Ñ V],rfl⟩;erw[kU,bj,c8,aL,aP,aR,bx,bA];refine aeA (o9 (by rw[gP];omega)) ?_;rw[gP,qp,cB,show ((r.length:Int)==2)=ώ (r.length=2) from qS (m:=2)]
  cases ώ (r.length=2) with
  |false=>exact⟨rfl,rfl⟩
  |true =>
   rw[Ñ rfl,ú];erw[jB];refine aeA (ni (ds:=r.map D.str) rfl) ⟨le_size (by rw[gP];omega),?_⟩;refine aeA (comp_map D.str (λ_=>ό) (λz=>D.bl (b9 z)) r λz S=>⟨[ϊ (.str z)],rfl,rfl,λ_=>aeB ?_⟩) ?_
   ·erw[wp_call,aL,aP,aR]
    exact aeA (vz (by have:=Y z S;omega)) ⟨rfl,rfl⟩
   rw[Ő.mpr (λ_ _=>rfl)];exact aeA (qf b9 r s) ⟨rfl,rfl⟩
 rw[Ì V,Ú Ä,dD,bz];subst Z;rw[Ú V] at e1;refine aeC λR Z=>dq (dH rfl) ?_;by_cases U:w="where"
 ·rw[È U,Ñ rfl]
  refine X (b:=yp r) (aeB ?_) ⟨by rw[e1,Ñ U],rfl⟩;erw[kU,bj,c8,aL,aP,aR,bx,bA];refine aeA (o9 (by rw[gP];omega)) ?_;rw[gP,qp,cB,show ((r.length:Int)==1)=ώ (r.length=1) from qS (m:=1)]
  match r,Y with
  | [],_=>exact⟨rfl,rfl⟩
  | [v],Y =>
   rw[È (show [v].length=1 from rfl),Ñ rfl];erw[wp_call,aL,aP,bj,aR,bx,bA];refine aeA sJ (aeA (Kq (Y v ∅)) ⟨rfl,rfl⟩)
  |a::b::q,_ =>
   rw[Ì (show ¬ (a::b::q).length=1 by simp)];exact⟨rfl,rfl⟩
 rw[Ì U,Ú Ä,dD,bz];subst Z;rw[Ú U] at e1;have e2:eT (aV (e2 aW (aa 1) (eC (.str "undo")))) (aV (e2 aW (aa 1) (eC (.str "book")))) [ϊ (.lst ((w::r).map D.str)),ϊ (.str w),ϊ (.lst (r.map D.str))] s=ok (ώ (w="undo"\/w="book")) s:=by
  refine aeB ?_;rw[kc];refine aeA (dH rfl) ?_;by_cases h:w="undo"
  ·rw[È h,Ñ rfl]
   exact⟨(È (ο h)).symm,rfl⟩
  ·rw[Ì h,Ú Ä]
   refine aeA (dH rfl) ⟨?_,rfl⟩
   by_cases P:w="book"<;>simp[h,P]
 refine aeC λR Z=>dq e2 ?_;by_cases T:w="undo"\/w="book"
 ·rw[È T,Ñ rfl]
  refine X (b:=r.isEmpty) (aeB ?_) ⟨by rw[e1,Ñ T],rfl⟩;erw[bj,aR,bx,j9,aP];refine⟨le_size (n:=0) (by decide),?_⟩;exact aeA (zr hk) ⟨rfl,rfl⟩
 rw[Ì T,Ú Ä,dD,bz];subst Z;rw[Ú T] at e1;rw[bW];erw[wp_call,aL,aP,aR];refine aeA (JR (by simp;omega) hl) ⟨by rw[e1],rfl⟩
def Li (hl:x.length<=1000000) (hk:Ó x=ό):yO [.str x] s=ok (.bl (jn x)) s:=by
 refine Md hl (aeB ?_);rw[bj,jB];refine aeA (CS rfl) ⟨le_size (by rw[É,<- jF];exact hl),?_⟩;refine aeA (comp_map (λc=>D.str ⟨#[c]⟩) (λc=>!mS c) (λc=>D.str ⟨#[c]⟩) (sg x) λc _=>⟨[ϊ (.str ⟨#[c]⟩)],rfl,aeB ?_,λ_=>rfl⟩) ?_
 ·rw[eJ]
  refine aeA (show e2 yV (aa 0) (eC (.str "0123456789")) [ϊ (.str ⟨#[c]⟩)] s=ok (.bl (ġ "0123456789" ⟨#[c]⟩ 0 (Str.length "0123456789") 1).isEmpty) s from rfl) ?_;rw[cB];have:=Nb (c:=c);refine⟨?_,rfl⟩;delta mS;rw[<- this,Bool.not_not]
 erw[j9,aP];refine⟨le_size (n:=0) (by decide),?_⟩;have e:=zr (s:=s) (zs:=((sg x).filter λc=>!mS c).map λc=>(⟨#[c]⟩:Str)) λz Z=>by
  obtain⟨c,Y,rfl⟩:=Č.mp Z;have:=j3.mp hk c (Ĥ.mp Y).1;exact j3.mpr λn X=>by
   have:n=c:=by simpa using X
   omega
 rw[Ġ] at e;refine aeA e ⟨?_,rfl⟩;congr 1;rw[ĭ,List.isEmpty_iff,List.map_eq_nil_iff,List.filter_eq_nil_iff,ô];simp
def v5 (hl:x.length<=1000000) (hk:Ó x=ό):lY [.str x] s=ok (.bl (b9 x)) s:=by
 refine aeB ?_;delta lY;refine dO.symm ▸ ⟨rfl,?_⟩;show Wp (aA _ [ϊ (.str x)] s) _;rw[bW,kU];erw[wp_call,aL,aP,aR];refine aeA (Li hl hk) ?_;have e:=vz (s:=s) hl;have w:Wp (mW [.str x] s) λd Z=>d=.bl (b9 x)/\Z=s:=⟨_,_,e,rfl,rfl⟩;delta mW at w;rw[dO] at w;have w:=w.2
 replace w:Wp (aA _ [ϊ (.str x)] s) _:=w
 rw[bW,kU] at w;erw[wp_call,aL,aP,aR] at w;rw[show vf [.str x] s=ok (.bl (jn x)) s from CU hl,bF] at w;exact w
def JS (hl:x.length<=1000) (hk:Ó x=ό):yK [.str x] s=ok (.bl (ja x)) s :=
 Ng (T:=λC=>e2 fT (eC (.bl ύ)) C) hl (λz Z=>Li (by have:=p6 Z;omega) (za Z hk)) λC env e=>aeB (by
  rw[bj,bA];exact aeA e (aeA XE ⟨rfl,rfl⟩))
def DL (hu:Ó u=ό) (ha:Ó a=ό) (hb:Ó b=ό):fe (.str u) (.tup [.str a,.str b]) s=ok (.bl (ώ (u=a\/u=b))) s/\fT (.str u) (.tup [.str a,.str b]) s=ok (.bl (!ώ (u=a\/u=b))) s:=by
 have e:inD (.str u) [.str a,.str b]=ϊ (ώ (u=a\/u=b)):=by
  delta inD;rw[Ñ (by delta nG;simp[cQ,lay,dep,hu,ha,hb])];congr 1;have q:∀v:Str,beq (.str v) (.str u)=ώ (u=v):=λv=>by
   show (v==u)=_;by_cases h:u=v
   ·rw[h];simp
   ·rw[Ì h]
    simpa using λe:v=u=>h e.symm
  show (beq (.str a) (.str u)||(beq (.str b) (.str u)||false))=_;rw[q,q,Bool.or_false]
  by_cases Z:u=a<;>by_cases Y:u=b<;>simp[Z,Y]
 delta fe fT;rw[show nH (.tup [.str a,.str b]) s=ϊ [.str a,.str b] from rfl];erw[e];exact⟨rfl,rfl⟩
def Ci {v:Str} {q:List Str} (h:¬ (v="made"\/v="mended")):fq (v::q)=ύ:=by
 match q with
 | [a,b,c] =>
  show (b9 a&&b9 b&&if v="made" then ja c else ώ (v="mended")&&b9 c)=ύ
  rw[Ú λe=>h (.inl e),Ì λe=>h (.inr e)];simp
 | [] | [_] | [_,_] | _::_::_::_::_=>rfl
def mU {r:List Str} {n:Nat} {u:Str} (h:r[n]?=ϊ u):ay (.lst (r.map D.str)) (.int n) s=ok (.str u) s:=by
 have Z:=(Ô.mp h).1;have e:cW (r.map D.str) (n:Int)=ϊ (.str u):=by
  obtain⟨y,e1,e2⟩:=nB (xs:=r.map D.str) (i:=(n:Int)) ⋯ (by simp;exact Z);rw[e1];simp[h] at e2;rw[e2]
 show bS (cW (r.map D.str) (n:Int)) s=_;rw[e];rfl
abbrev mm:D:=.tup [.str "made",.str "mended"]
def Ni {a0:Option D} {Q:Fl->ae->Prop} {u:Str} {q:List Str} (hu:u="made"\/u="mended") (hn:q.length<=1500) (hl:∀z∈u::q,z.length<=1000) (hk:∀z∈u::q,Ó z=ό) (h:Q (.rt (.bl (fq (u::q)))) s):Wp (G9 [a0,ϊ (.lst ((u::q).map D.str))] s) Q:=by
 delta G9;by_cases Z:(u::q).length=4
 ·obtain⟨T,a,b,v,e⟩:=Fs Z
  injection e with e1 e2
  subst e1 e2;have W:(u::[a,b,v])[1]?=ϊ a:=rfl;have V:(u::[a,b,v])[2]?=ϊ b:=rfl;have ev:(u::[a,b,v])[3]?=ϊ v:=rfl;have na:lY [.str a] s=ok (.bl (b9 a)) s:=v5 (by have:=hl a ∅;omega) (hk a ∅);have nb:lY [.str b] s=ok (.bl (b9 b)) s:=v5 (by have:=hl b ∅;omega) (hk b ∅);refine aeC λR Y=>dq (b:=!(b9 a&&b9 b)) (s':=s) (aeB ?_) ?_
  ·erw[kc,eJ,bj,c8,aL,aP,aR,bx,bA,vZ,qm,wp_call]
   refine aeA (show cI [.lst ((u::[a,b,v]).map D.str)] s=ok (.int 4) s from rfl) ?_;erw[zL,cB,Ė,ý,Æ,ï];refine aeA (mU (n:=1) W) (aeA na ?_);rw[kT]
   cases b9 a with
   |false=>exact⟨rfl,rfl⟩
   |true =>
    erw[ý,Æ,ï,ú];refine aeA (mU (n:=2) V) (aeA nb ?_);rw[kT];exact⟨rfl,rfl⟩
  ·cases X:b9 a&&b9 b with
   |false =>
    erw[ι,ò,bW,bA,ke];rw[show fq (u::[a,b,v])=ύ by show (b9 a&&b9 b&&_)=ύ;rw[X,Ŭ]] at h;exact h
   |true =>
    erw[ý,Æ,ï,dD,bz];subst Y
    have U:fq (u::[a,b,v])=if u="made" then ja v else b9 v:=by
     show (b9 a&&b9 b&&if u="made" then ja v else ώ (u="mended")&&b9 v)=_
     rw[X,ú];by_cases e:u="made"
     ·rw[Ñ e,Ñ e]
     ·rw[Ú e,Ú e,È (hu.resolve_left e),ú]
    rw[U] at h;rw[bW,sS];refine aeA (dH (w:=u) (aeB ?_)) ?_
    ·erw[bj,aR,bx,bA]
     exact aeA sJ ⟨rfl,rfl⟩
    by_cases e:u="made"
    ·rw[È e,Ñ rfl]
     rw[Ñ e] at h;erw[wp_call,aL,aP,bj,aR,bx,bA];exact aeA (mU (n:=3) ev) (aeA (JS (hl v ∅) (hk v ∅)) h)
    ·rw[Ì e,Ú Ä]
     rw[Ú e] at h;erw[wp_call,aL,aP,bj,aR,bx,bA];exact aeA (mU (n:=3) ev) (aeA (v5 (by have:=hl v ∅;omega) (hk v ∅)) h)
 ·refine aeC λR Y=>dq (b:=ό) (s':=s) (aeB ?_) ?_
  ·erw[kc,eJ,bj,c8,aL,aP,aR,bx,bA]
   refine aeA (o9 (by rw[gP];simp;omega)) ?_;rw[gP,zL,cB,show ((((u::q).length:Nat):Int)==4)=ώ ((u::q).length=4) from qS (m:=4),Ì Z];simp
  ·rw[Ñ rfl,bW,bA,ke]
   rw[DK Z] at h;exact h
def V7 (h:bs x=[y]):x=y:=by
 have e:=aem x ⟨#[32]⟩;rw[show Ī x ⟨#[32]⟩=[y] from h] at e;exact e.symm
def xh (x:Str):∃w r,bs x=w::r:=by
 cases h:bs x with
 |nil =>
  have:=PyProof.Rows.split_pos x ⟨#[32]⟩;rw[show Ī x ⟨#[32]⟩=[] from h] at this;simp at this
 |cons w r=>exact⟨w,r,rfl⟩
def Ks (h:bs x=w::r) (hv:bs v=[v]) (h32:32∉sg v):x=v↔w=v/\r=[]:=by
 constructor
 ·intro e
  rw[e,hv] at h
  injection h with Z Y
  exact⟨Z.symm,Y.symm⟩
 ·rintro ⟨rfl,rfl⟩
  exact V7 h
def Mh:bs "undo"=[("undo":Str)]/\32∉sg "undo":=nofun
def CY:bs "book"=[("book":Str)]/\32∉sg "book":=nofun
def V8 (hl:x.length<=1000) (hk:Ó x=ό):yQ [.str x] s=ok (.bl (il (bs x))) s:=by
 obtain⟨w,r,U⟩:=xh x;have J:(w::r).length<=1002:=U ▸ BO hl;have I:r.length<=1001:=by rw[â] at J;omega
 have W:∀z∈w::r,z.length<=1000:=λz T=>Ý (p6 (c:=32) (show z∈bs x by rw[U];exact T)) hl;have X:∀z∈w::r,Ó z=ό:=λz T=>za (c:=32) (show z∈bs x by rw[U];exact T) hk;have L:Ó "made"=ό:=nofun
 have kd:Ó "mended"=ό:=nofun
 refine aeB ?_;delta yQ;refine dO.symm ▸ ⟨rfl,aeC λR Y=>?_⟩;rw[eG];refine aeA (vL blank rfl ⋯) ?_;rw[gb,show Ī x ⟨#[32]⟩=w::r from U];show fE R _ (.nx [ϊ (.str x),ϊ (.lst ((w::r).map D.str))]) s;rw[bz,U];subst Y;have hw:∀{u:Str} {q:List Str},e2 ay (aa 1) (eC (.int 0)) [ϊ (.str x),ϊ (.lst ((u::q).map D.str))] s=ok (.str u) s:=λ{u q}=>aeB (by
  erw[bj,aR,bx,bA];exact aeA sJ ⟨rfl,rfl⟩)
 have isin:∀{u:Str} {q:List Str},Ó u=ό->aV (e2 fe (e2 ay (aa 1) (eC (.int 0))) (cY (af (eC (.str "made")) (af (eC (.str "mended")) ah)))) [ϊ (.str x),ϊ (.lst ((u::q).map D.str))] s=ok (ώ (u="made"\/u="mended")) s:=λ{u q} H=>aeB (by
  rw[eJ,bj];refine aeA hw ?_;erw[iD,aL,aP,bA];refine⟨le_size (n:=2) (by decide),aeA (DL H L kd).1 ?_⟩;rw[cB];exact⟨rfl,rfl⟩)
 refine aeC λR Y=>dq (dH hw) ?_;by_cases S:w="out"
 ·have V:il (w::r)=fq r:=Ñ S
  rw[È S,Ñ rfl,V];refine aeC λG M=>?_;rw[eG,Ad];erw[aR,bx,zH];refine aeA (show cJ (eC (.int 1)) [ϊ (.str x),ϊ (.lst ((w::r).map D.str))] s=ok (ϊ 1) s from rfl) (aeA CV ?_);rw[gb];show fE G _ (.nx [ϊ (.str x),ϊ (.lst (r.map D.str))]) s;rw[bz];subst M;have Q:∀z∈r,Ó z=ό:=λz T=>X z (Ï _ T)
  cases r with
  |nil =>
   refine dq (b:=ό) (s':=s) (aeB ?_) ?_
   ·erw[kc,eJ,bj,aR,bx,j9,aP]
    refine⟨le_size (n:=0) (by decide),aeA (zr (zs:=[]) ∅) ?_⟩;simp[cB]
   ·rw[Ñ rfl,bW,bA]
    exact⟨rfl,rfl⟩
  |cons v q =>
   refine dq (b:=!ώ (v="made"\/v="mended")) (s':=s) (aeB ?_) ?_
   ·erw[kc,eJ,bj,aR,bx,j9,aP]
    refine⟨le_size (n:=0) (by decide),aeA (zr Q) ?_⟩;erw[cB,List.isEmpty_cons,Æ,ï,bA,iD,aL,aP];refine aeA sJ ⟨le_size (n:=2) (by decide),aeA (DL (Q v ∅) L kd).2 ?_⟩;rw[cB];exact⟨rfl,rfl⟩
   by_cases Z:v="made"\/v="mended"
   ·rw[È Z]
    erw[ý,Æ,ï,dD,bz];subst Y;refine aeC λR Y=>dq (isin (Q v ∅)) ?_;rw[È Z,Ñ rfl];exact Ni Z (by rw[â] at I;omega) (λz T=>W z (Ï _ T)) Q ⟨rfl,rfl⟩
   ·rw[Ì Z]
    erw[ι,ò,bW,bA,ke,jE];simp[Ci Z]
 ·have V:il (w::r)=if w="surely" then ώ (r.length=2)&&r.all b9 else if w="where" then yp r else if w="undo"\/w="book" then r.isEmpty else fq (w::r):=Ú S
  rw[Ì S,Ú Ä,dD,bz];subst Y;refine aeC λR Y=>dq (isin (X w ∅)) ?_;by_cases Z:w="made"\/w="mended"
  ·rw[È Z,Ñ rfl]
   have F:¬ w="surely":=λe=>by rw[e] at Z;revert Z;decide +kernel
   have E:¬ w="where":=λe=>by rw[e] at Z;revert Z;decide +kernel
   have C:¬ (w="undo"\/w="book"):=λe=>by rcases e with e|e<;>(rw[e] at Z;revert Z;decide +kernel)
   rw[Ú F,Ú E,Ú C] at V;exact Ni Z ⋯ W X ⟨by rw[V],rfl⟩
  rw[Ì Z,Ú Ä,dD,bz];subst Y;refine aeC λR Y=>dq (dH hw) ?_;by_cases P:w="surely"
  ·rw[È P,Ñ rfl,V,Ñ P,bW]
   erw[kU,bj,c8,aL,aP,aR,bx,bA];refine aeA (o9 (by rw[gP];omega)) ?_;rw[gP,qp,cB,show ((((w::r).length:Nat):Int)==3)=ώ ((w::r).length=3) from qS (m:=3)]
   match r,W,X with
   | [a,b],W,X =>
    rw[È (show (w::[a,b]).length=3 from rfl),Ñ rfl];erw[wp_call,aL,aP,bj,aR,bx,bA];refine aeA (mU (n:=1) (u:=a) rfl) (aeA (v5 (by have:=W a ∅;omega) (X a ∅)) ?_);rw[cB]
    cases K:b9 a with
    |false=>rw[Ú Ä];exact⟨by simp[K],rfl⟩
    |true =>
     rw[Ñ rfl];refine aeA (mU (n:=2) (u:=b) rfl) (aeA (v5 (by have:=W b ∅;omega) (X b ∅)) ⟨by simp[K],rfl⟩)
   | [],_,_ | [_],_,_ | _::_::_::_,_,_=>rw[Ì ∅,Ú Ä];exact⟨by simp,rfl⟩
  rw[Ì P,Ú Ä,dD,bz];subst Y;rw[Ú P] at V;refine aeC λR Y=>dq (dH hw) ?_;by_cases O:w="where"
  ·rw[È O,Ñ rfl,V,Ñ O,bW]
   erw[kU,bj,c8,aL,aP,aR,bx,bA];refine aeA (o9 (by rw[gP];omega)) ?_;rw[gP,qp,cB,show ((((w::r).length:Nat):Int)==2)=ώ ((w::r).length=2) from qS (m:=2)]
   match r,W,X with
   | [a],W,X =>
    rw[È (show (w::[a]).length=2 from rfl),Ñ rfl];erw[wp_call,aL,aP,bj,aR,bx,bA];exact aeA (mU (n:=1) (u:=a) rfl) (aeA (JS (W a ∅) (X a ∅)) ⟨rfl,rfl⟩)
   | [],_,_ | _::_::_,_,_=>rw[Ì ∅,Ú Ä];exact⟨rfl,rfl⟩
  rw[Ì O,Ú Ä,dD,bz];subst Y;rw[Ú O] at V;rw[bW];erw[bj,aR,iD,aL,aP,bA];refine⟨le_size (n:=2) (by decide),aeA (DL hk nofun nofun).1 ⟨?_,rfl⟩⟩;rw[V];congr 1;rw[ĭ,Ë,Ks U Mh.1 Mh.2,Ks U CY.1 CY.2];by_cases N:w="undo"\/w="book"
  ·rw[Ñ N,List.isEmpty_iff]
   exact⟨λh=>h.elim (·.2) (·.2),λh=>N.imp (⟨·,h⟩) (⟨·,h⟩)⟩
  ·rw[Ú N,Ci Z]
   exact⟨λh=>absurd (h.imp (·.1) (·.1)) N,λh=>by cases h⟩
def vI (x:Str):Int:=(NumText.digitsVal (sg x):Nat)
def Kt (h:jn x=ό):1<=x.length/\x.length<=30/\∀c∈sg x,mS c=ό:=by
 delta jn at h;erw[Å,Ë,ô] at h;exact⟨h.1.1,h.1.2,h.2⟩
def XN (h:jn x=ό):jK [.str x] s=ok (.int (vI x)) s:=by
 obtain⟨Z,W,Y⟩:=Kt h;have e:ac9 x=ϊ (vI x):=intText_digits (λc X=>æ (Y c X)) (λz=>by rw[jF,show sg x=[] from z] at Z;simp at Z) ⋯
 show (if ώ (x.length<=640)=ό then (match ac9 x with|some n=>ok (D.int n) s|none=>ϋ) else ϋ)=_
 rw[Ñ (È ⋯),e]
def qr (h:b9 x=ό):jK [.str x] s=ok (.int (vI x)) s:=XN (by delta b9 at h;exact(Å _ _ ▸ h).1)
def rD (z:Str):List Int:=if z="-" then [] else (sg z).map λc:Nat=>(c:Int)-48
def yL (h:mT z=ό):rX [.str z] s=ok (mD (rD z)) s/\(rD z).length<=30:=by
 by_cases Z:z="-"
 ·have e:rD z=[]:=Ñ Z
  rw[e];refine⟨aeB ?_,by decide⟩;delta rX;refine dO.symm ▸ ⟨rfl,aeC λR Y=>dq (dH rfl) ?_⟩;rw[È Z,Ñ rfl];erw[bW,iD,aP];exact⟨le_size (n:=0) (by decide),rfl,rfl⟩
 ·have e:rD z=(sg z).map λc:Nat=>(c:Int)-48:=Ú Z
  have X:jn z=ό:=by delta mT at h;rw[Ì Z,Bool.false_or] at h;exact h
  obtain⟨T,W,V⟩:=Kt X;rw[e];refine⟨aeB ?_,by rw[É,<- jF];exact W⟩;delta rX;refine dO.symm ▸ ⟨rfl,aeC λR Y=>dq (dH rfl) ?_⟩;rw[Ì Z,Ú Ä,dD,bz];subst Y;show Wp (aA _ [ϊ (.str z)] s) _;rw[bW,c8,aL,jB];refine aeA (CS rfl) ⟨le_size (by rw[É,<- jF];omega),?_⟩;refine aeA (comp_map (λc=>D.str ⟨#[c]⟩) (λ_=>ό) (λc:Nat=>D.int ((c:Int)-48)) (sg z) λc U=>⟨[ϊ (.str ⟨#[c]⟩)],rfl,rfl,λ_=>aeB ?_⟩) ?_
  ·erw[c8,aL,aP,aR]
   exact aeA (XB (V c U)) ⟨rfl,rfl⟩
  rw[Ő.mpr (λ_ _=>rfl),aP];refine aeA (show md [.lst ((sg z).map λc:Nat=>D.int ((c:Int)-48))] s=ok (.tup ((sg z).map λc:Nat=>D.int ((c:Int)-48))) s from rfl) ⟨?_,rfl⟩;show D.tup _=D.tup _;rw[Ġ];rfl
def V9 (h:ja x=ό):∃a b,sl x=[a,b]/\mT a=ό/\mT b=ό:=by
 delta ja at h;erw[Å,Ë] at h
 match Z:sl x,h with
 | [a,b],h =>
  erw[List.all_cons,List.all_nil,ad8,Å] at h;exact⟨a,b,rfl,h.2.1,h.2.2⟩
 | [],h=>simp at h
 | [_],h=>simp at h
 |_::_::_::_,h=>simp at h
def u6 (x:Str) (i:Nat):List Int:=rD ((sl x).getD i "")
def Jx (hl:x.length<=1000) (h:ja x=ό):∃a b:List Int,a.length<=30/\b.length<=30/\(a=u6 x 0/\b=u6 x 1)/\∀s:ae,rY [.str x] s=ok (.tup [mD a,mD b]) s:=by
 obtain⟨u,v,e,Z,Y⟩:=V9 h;refine⟨rD u,rD v,(yL (s:=[]) Z).2,(yL (s:=[]) Y).2,⟨by delta u6;rw[e];rfl,by delta u6;rw[e];rfl⟩,λs=>aeB ?_⟩;delta rY;refine dO.symm ▸ ⟨rfl,aeC λR X=>?_⟩;rw[eG];refine aeA (vL Oh rfl ⋯) ?_;rw[show Ī x ⟨#[47]⟩=[u,v] from e];refine⟨[ϊ (.str x),ϊ (.str u),ϊ (.str v)],rfl,?_⟩;rw[bz];subst X;erw[bW,iD,wp_call,aL,aP,aR,bx];refine aeA (yL Z).1 (aeA (yL Y).1 ?_);exact⟨le_size (n:=2) (by decide),rfl,rfl⟩
def jP:List Str->Pg
 | [w,a,b,v]=>if w="made" then .made (vI a) (vI b) (u6 v 0) (u6 v 1) else .de (vI a) (vI b) (vI v)
 |_=>.de 0 0 0
def BD (hl:∀z∈ws,z.length<=1000) (h:fq ws=ό):∃p:Pg,jm p/\p=jP ws/\∀s:ae,pV [.lst (ws.map D.str)] s=ok p.d s:=by
 have T:ws.length=4:=by
  by_cases e:ws.length=4
  ·exact e
  ·rw[DK e] at h;cases h
 obtain⟨w,a,b,v,rfl⟩:=Fs T
 have X:(b9 a&&b9 b&&if w="made" then ja v else ώ (w="mended")&&b9 v)=ό:=h
 erw[Å] at X;obtain⟨⟨W,V⟩,Y⟩:=X;by_cases hw:w="made"
 ·rw[Ñ hw] at Y
  obtain⟨i,j,li,Q,U,S⟩:=Jx (hl v ∅) Y;refine⟨.made (vI a) (vI b) i j,⟨by omega,by omega⟩,by rw[show jP [w,a,b,v]=_ from Ñ hw,U.1,U.2],λs=>aeB ?_⟩;delta pV;refine dO.symm ▸ ⟨rfl,aeC λR Z=>?_⟩;refine aeA (show bc (aa 0) (gL [gN 1,gN 2,gN 3,gN 4]) _ s=ok (.nx [ϊ (.lst (([w,a,b,v]:List Str).map D.str)),ϊ (.str w),ϊ (.str a),ϊ (.str b),ϊ (.str v),ϋ]) s from rfl) ?_;rw[bz];subst Z;refine aeC λR Z=>?_;rw[eG,sS];refine aeA (dH rfl) ?_;rw[È hw,Ñ rfl];erw[wp_call,aL,aP,aR,bx];refine aeA (S s) ?_;erw[gb,Ĝ,ĝ];rw[bz];subst Z;erw[bW,iD,c8,aL,aP,aR,bx];refine aeA (qr W) (aeA (qr V) ?_);refine⟨le_size (n:=4) (by decide),?_,rfl⟩;rw[hw];rfl
 ·rw[Ú hw] at Y
  erw[Å,Ë] at Y;refine⟨.de (vI a) (vI b) (vI v),trivial,(Ú hw).symm,λs=>aeB ?_⟩;delta pV;refine dO.symm ▸ ⟨rfl,aeC λR Z=>?_⟩;refine aeA (show bc (aa 0) (gL [gN 1,gN 2,gN 3,gN 4]) _ s=ok (.nx [ϊ (.lst (([w,a,b,v]:List Str).map D.str)),ϊ (.str w),ϊ (.str a),ϊ (.str b),ϊ (.str v),ϋ]) s from rfl) ?_;rw[bz];subst Z;refine aeC λR Z=>?_;rw[eG,sS];refine aeA (dH rfl) ?_;rw[Ì hw,Ú Ä];erw[c8,aL,aP,aR,bx];refine aeA (qr Y.2) ?_;erw[gb,Ĝ,ĝ];rw[bz];subst Z;erw[bW,iD,c8,aL,aP,aR,bx];refine aeA (qr W) (aeA (qr V) ?_);refine⟨le_size (n:=4) (by decide),?_,rfl⟩;rw[Y.1];rfl
def zb (hl:x.length<=1000) (hk:Ó x=ό):iM [.str x] s=if il (bs x)=ό then ok (.lst ((bs x).map D.str)) s else ϊ (.error ⟨"NoRow",ϋ⟩,s):=by
 obtain⟨w,r,Y⟩:=xh x;have U:(w::r).length<=1002:=Y ▸ BO hl;have T:∀z∈w::r,z.length<=1000:=λz Z=>Ý (p6 (c:=32) (show z∈bs x by rw[Y];exact Z)) hl;have S:∀z∈w::r,Ó z=ό:=λz Z=>za (c:=32) (show z∈bs x by rw[Y];exact Z) hk;have W:dW jb (aa 0) (eC (.str " ")) [ϊ (.str x)] s=ok (.lst ((bs x).map D.str)) s:=vL blank rfl ⋯;have X:eT (cU (cq (eB gR (af (aa 0) (af (eC (.ty "str")) ah))))) (cU (cq (aG sv (af (dW jb (aa 0) (eC (.str " "))) ah)))) [ϊ (.str x)] s=ok (!il (bs x)) s:=by
  refine aeB ?_;erw[kc,vZ,qm,c8,aL,aP,aR,bA,wp_call];refine aeA (show gR [.str x,.ty "str"] s=ok (.bl ό) s from rfl) ?_;rw[kT];erw[ý,Æ,ï];refine aeA W ?_;rw[Y];refine aeA (XM (by rw[â] at U;omega) T λz Z=>S z (Ï _ Z)) ?_;rw[kT];exact⟨rfl,rfl⟩
 delta iM aD;show ai (aq _ _ [ϊ (.str x)] s) _=_
 cases V:il (bs x) with
 |true =>
  rw[V] at X;rw[Ñ rfl,gy (show aM _ _ _ [ϊ (.str x)] s=ok (.nx [ϊ (.str x)]) s by delta aM;rw[X];rfl)];delta aA;rw[W];rfl
 |false =>
  rw[V] at X;rw[Ú Ä,jc (show aM _ _ _ [ϊ (.str x)] s=ϊ (.error ⟨"NoRow",ϋ⟩,s) by delta aM;rw[X];rfl)];rfl
end
abbrev lU (p:Nat×Nat):D:=.tup [.int p.1,.int p.2]
def Ft (h:0<=d/\d<31):ay (.lst ((è 31).map f)) (.int d) s=ok (f d.toNat) s:=by
 erw[ay,kJ,res,Xy h.1 h.2,bS]
def O3:gG (n+1) (-1)=ϊ n:=by
 delta gG;rw[Ú ⋯,Ñ ⋯];congr 1;omega
def acG {xs:List D} {x:D}:cW (xs++[x]) (-1)=ϊ x:=by
 delta cW;rw[ä,adW,O3];simp
def ZN (h:s[k]?=ϊ (.lst (ds++[x]))):ay (.aj k) (.int (-1)) s=ok x s:=by
 delta ay kJ res;erw[h,acG];rfl
def XO (h:s[k]?=ϊ (.lst (ds++[x]))):my (.aj k) (.int (-1)) y s=ϊ (s.set k (.lst (ds++[y]))):=by
 delta my;erw[h];have e:gG (ds++[x]).length (-1)=ϊ ds.length:=by rw[ä,adW,O3]
 rw[e];simp
theorem Cj (b:Nat->Bool):∀n,(cu b n).length<=n
 |0=>aeD _
 |n+1=>by
  have:=Cj b n;delta cu;split
  ·rename_i h
   erw[ä,List.length_dropLast,â,ă];omega
  ·split
   ·simp;omega
   ·omega
def Ut (h:jY b n=ό):∃L d e,cu b n=L++[(d,e)]:=by
 rcases Og (b:=b) n n (aeD _) with ⟨Z,_⟩ | ⟨_,S,d,_,_,_,e⟩
 ·rw[h] at Z;cases Z
 ·exact⟨_,_,_,e⟩
def ZO:vw [.lst ((è 31).map λi=>.bl (b i))] s=ok (.lst ((cu b 31).map lU)) (s++[.dead]):=by
 refine aeB ?_;delta vw;erw[dO,â,ă,Nat.reduceAdd,Nat.reduceSub,Ö,à,ŋ,Ħ,Ļ,true_and,oq,eG,gb,DC,aP,Ĝ,ĝ,bz,sH];refine⟨by decide,?_⟩;refine aeA (mj (n:=31) rfl (by decide)) ?_;refine Wp.qR (λi env Z=>i<=31->∃a2,env=[ϊ (.lst ((è 31).map λi=>.bl (b i))),ϊ (.aj s.length),a2]/\Z=s++[.lst ((cu b i).map lU)]) _ (λ_=>⟨_,rfl,rfl⟩) (λi d env Z Y X=>?_) (λenv Z X=>?_)
 ·rw[sE] at Y
  split at Y
  ·rename_i N
   cases Y;obtain⟨a2,rfl,rfl⟩:=X ⋯;refine⟨_,rfl,?_⟩;erw[Ĝ,ĝ,Int.zero_add];have cell:(s++[Cell.lst ((cu b i).map lU)])[s.length]?=ϊ (.lst ((cu b i).map lU)):=by simp
   have upd:∀c:Cell,(s++[Cell.lst ((cu b i).map lU)]).set s.length c=s++[c]:=λc=>by simp[acQ]
   have ln:=Cj b i;have app:(b i&&jY b i)=ύ->Wp (aM (cq (e2 ay (aa 0) (aa 2))) (cE (mx (aa 1) (cY (af (aa 2) (af (aa 2) ah))))) bH [ϊ (.lst ((è 31).map λi=>.bl (b i))),ϊ (.aj s.length),ϊ (.int i)] (s++[.lst ((cu b i).map lU)])) λW Z=>W=.nx [ϊ (.lst ((è 31).map λi=>.bl (b i))),ϊ (.aj s.length),ϊ (.int i)]/\Z=s++[.lst ((cu b (i+1)).map lU)]:=λO=>by
    rw[oz];simp only[VC,Ft (show 0<=(i:Int)/\(i:Int)<31 by omega),ĳ]
    have V:cu b (i+1)=if (b i&&jY b i)=ό then (cu b i).dropLast++[(((cu b i).getLast?.getD (0,0)).1,i)] else if b i=ό then cu b i++[(i,i)] else cu b i:=rfl
    rw[V,O]
    cases U:b i with
    |false=>simp
    |true =>
     erw[ò,Æ,ï]
     refine⟨by erw[lD,cell],by decide,aeA (show lC _ _ _=ok .au (s++[.lst ((cu b i++[(i,i)]).map lU)]) from ?_) (by first|exact⟨rfl,rfl⟩|rfl)⟩
     delta lC;erw[cell];rw[Ñ (by rw[Ë,É];exact Ê (show (cu b i).length<1000 by omega) (le_size (by decide))),upd,ħ];rfl
   rw[oz];erw[CK,qm,bj,aR,bx,Ft (show 0<=(i:Int)/\(i:Int)<31 by omega),ĳ,bF,kT]
   cases U:b i with
   |false =>
    erw[Æ,ï];exact(app (by rw[U];rfl)).mono λW R h=>by obtain⟨rfl,rfl⟩:=h;exact λ_=>⟨_,rfl,rfl⟩
   |true =>
    erw[ò,eJ,bj,bA,aR,bx,M7,cB];by_cases Q:0<i
    ·rw[È (show (i:Int) > 0 by omega)]
     simp only[ò,LY,Ft (show 0<=(i:Int)-1/\(i:Int)-1<31 by omega),bF,kT];rw[show ((i:Int)-1).toNat=i-1 by omega];have T:jY b i=b (i-1):=by delta jY;rw[È Q];rfl
     cases S:b (i-1) with
     |false =>
      erw[Æ,ï];exact(app (by rw[T,S,Bool.and_false])).mono λW R h=>by obtain⟨rfl,rfl⟩:=h;exact λ_=>⟨_,rfl,rfl⟩
     |true =>
      erw[ò];obtain⟨L,d,e,P⟩:=Ut (b:=b) (n:=i) (by rw[T];exact S);rw[P,ħ] at cell upd |-;rw[LS];erw[iD,aL,aP,bj,oJ,aR,bx,bA];refine aeA (show qy (.int 1) _=ok (.int (-1)) _ from rfl) ?_;refine aeA (ZN cell) ?_;refine aeA (show ay (lU (d,e)) (.int 0) _=ok (.int d) _ from rfl) ?_;refine⟨le_size (by erw[â,ă];decide),aeA (show qy (.int 1) _=ok (.int (-1)) _ from rfl) ⟨_,XO cell,λ_=>⟨_,rfl,?_⟩⟩⟩;rw[upd]
      have V:cu b (i+1)=if (b i&&jY b i)=ό then (cu b i).dropLast++[(((cu b i).getLast?.getD (0,0)).1,i)] else if b i=ό then cu b i++[(i,i)] else cu b i:=rfl
      have:cu b (i+1)=L++[(d,i)]:=by
       rw[V,U,T,S,P];simp
      rw[this,ħ];rfl
    ·rw[Ì (show ¬ (i:Int) > 0 by omega)]
     erw[Æ,ï];exact(app (by delta jY;rw[Ì Q];simp)).mono λW R h=>by obtain⟨rfl,rfl⟩:=h;exact λ_=>⟨_,rfl,rfl⟩
  ·cases Y
 ·rw[qc] at X
  obtain⟨a2,rfl,rfl⟩:=X (aeD _);erw[bW,bz,jE,MX,aR,bx];exact aeA Xz ⟨rfl,rfl⟩
def qG:Wp (dJ fn fa env s) Q=Wp (fa env s) λds s=>Wp (fn ds s) Q:=by delta dJ;rw[bP]
theorem Mi {α:Type} (d:α->D) (h:α->List D):∀(xs:List α) (s:ae),(∀x∈xs,∃env,g (d x) kq=ϊ env/\(∀s,t env s=ok ό s)/\∀s,Wp (act env s) λys s'=>ys=h x/\∃c,s'=s++c) ->
  Wp (iV g t act kq (xs.map d) s) λys s'=>ys=xs.flatMap h/\∃c,s'=s++c
 | [],s,_=>by
  rw[ŋ];delta iV;rw[bF];exact⟨rfl,[],by simp⟩
 |x::xs,s,Y=>by
  obtain⟨env,X,W,V⟩:=Y x Þ;rw[à];delta iV;rw[X];erw[W,qw,bU,ò,bP,Ab];refine(V s).mono λys S Z=>?_;obtain⟨rfl,c,rfl⟩:=Z;refine(Mi d h xs (s++c) λy Z=>Y y (Ï _ Z)).mono λzs R U=>?_;obtain⟨rfl,T,rfl⟩:=U;rw[bF,List.flatMap_cons];exact⟨rfl,c++T,by rw[Ĳ]⟩
abbrev lV (h l:List Int):D:=.tup [mD h,mD l]
def pO (ps:List Pg) (m:Int) (h l:List Int) (d:Nat):Bool:=h.all (λk=>!ab (lN ps m k) (mN ps m k) d)&&l.all λk=>!pr (sN ps m k) (mN ps m k) d
structure Sh (h l:List Int):Prop where
 a:iy 8 h
 b:iy 8 l
 ap:∀x∈h,x∉l
def Lj (hk:iy 8 h):kg h (k8.filter p)=h.all λk=>!p k:=by
 delta kg;rw[List.not_any_eq_all_not];rw[ĭ,ô,ô];have e:∀x∈h,(!ώ (x∈k8.filter p))=!p x:=λx Z=>by
  congr 1;rw[ĭ,Ë,Ĥ];exact⟨λz=>z.2,λz=>⟨Na.mpr (hk.lo x Z),z⟩⟩
 exact⟨λz x Z=>by rw[<- e x Z];exact z x Z,λz x Z=>by rw[e x Z];exact z x Z⟩
def Wa {m:Int} {h l:List Int} {d:Nat} (hs:Sh h l) (hd:d<=30):vY [lV h l,kl (iA ps m) (gJ ps m) d] s=ok (.bl (pO ps m h l d)) s:=by
 refine aeB ?_;have Z:=hs.a.len;have Y:=hs.b.len;delta vY kl pO;simp only[VC];refine aeA (u4 _ _ _).1 (aeA (u4 _ _ _).2 ?_);refine aeA (Cd ⋯) ?_;rw[Lj hs.a];simp only[VC,Xx hd]
 cases h.all λk=>!ab (lN ps m k) (mN ps m k) d with
 |false=>simp
 |true =>
  erw[ò,ú];refine aeA (u4 _ _ _).2 (aeA (u4 _ _ _).1 ?_);refine aeA (Cd ⋯) ?_;rw[Lj hs.b];erw[Xw hd,ģ]
def Uu (hs:Sh h l):rL [lV h l] s=ok .au s:=by
 refine aeB ?_;have Y:=hs.a.len;have X:=hs.b.len;delta rL;simp only[VC];refine aeA (Ce ⋯ ⋯) ?_;rw[JO hs.a (aeD _),JO hs.b (aeD _),show kg h l=ό by delta kg;rw[ł,List.any_eq_false];intro x Z;simpa using hs.ap x Z];simp only[VC,ĵ,ý,Æ,ï,ģ]
def u7 (ps:List Pg) (h l:List Int):List D:=m4.flatMap λm=>(cu (pO ps m h l) 31).map λp=>D.tup [.int m,.int p.1,.int p.2]
def Nj (ps:List Pg) (h l:List Int):(u7 ps h l).length<=124:=by
 delta u7;refine Ý (sy (b:=31) λm _=>?_) (by decide);rw[É];exact Cj _ 31
def Uv (hl:ps.length<=1000) (hf:∀p∈ps,jm p) (hb:dG ps=ό) (hs:Sh h l):Wp (rN [bD ps,lV h l] s) λx s'=>x=.lst (u7 ps h l)/\∃c,s'=s++c:=by
 delta rN;rw[dO];refine⟨rfl,?_⟩;rw[oq,pW];erw[wp_call,qG,aL,aP,aR,bx,à,ŋ,Ħ,Ļ,Ö,Nat.reduceSub];refine aeA (y0 hl hf hb) ?_;rw[bz,oq,pW];erw[wp_call,qG,aL,aP,aR,bx];refine aeA (Uu hs) ?_;rw[bz,bW,Cc];refine aeA (mj (n:=4) rfl (by decide)) ?_;rw[show df 0 4=m4.map D.int from rfl];refine(Mi D.int (λm=>(cu (pO ps m h l) 31).map λp=>D.tup [.int m,.int p.1,.int p.2]) m4 s λm W=>⟨[ϊ (.int m),ϋ,ϋ,ϊ (lV h l),ϊ (bD ps)],rfl,λ_=>rfl,λs=>?_⟩).mono λV s' Y=>?_
 ·delta more
  rw[bP];have Z:∃c,cH (aG vw (af (cL 1 [3] (cH (aG rK (af (aa 4) (af (aa 0) ah)))) (gN 0) cS (aG vY (af (aa 1) (af (aa 0) ah)))) ah)) [ϊ (.int m),ϋ,ϋ,ϊ (lV h l),ϊ (bD ps)] s=ok ((cu (pO ps m h l) 31).map lU) (s++c):=by
   obtain⟨x,s',e,rfl,c,rfl⟩:=Ma (m:=m) (s:=s) hl;refine⟨c++[.dead],ni (aeB ?_)⟩;erw[wp_call,qG,aL,aP,jB];refine aeA (ni (s1:=s++c) (ds:=i9.map (kl (iA ps m) (gJ ps m))) (aeB ?_)) ⟨by rw[É];exact le_size (by decide),?_⟩
   ·erw[wp_call,qG,aL,aP,aR,bx]
    exact aeA e ⟨rfl,rfl⟩
   refine aeA (comp_map (kl (iA ps m) (gJ ps m)) (λ_=>ό) (λd=>.bl (pO ps m h l d.toNat)) i9 λd X=>⟨[ϊ (kl (iA ps m) (gJ ps m) d),ϊ (lV h l)],rfl,rfl,λ_=>?_⟩) ?_
   ·refine aeB ?_
    obtain⟨i,Z,rfl⟩:=Č.mp X;rw[Ċ] at Z;erw[wp_call,qG,aL,aP,aR,bx];exact aeA (Wa hs ⋯) ⟨rfl,rfl⟩
   ·rw[filter_tt]
    delta i9;rw[Ġ];refine aeA (ZO (b:=pO ps m h l)) ⟨rfl,?_⟩;rw[Ĳ]
  obtain⟨c,Z⟩:=Z;refine aeA Z ?_;refine aeA (sV lU (λ_=>ό) (λp=>[D.tup [.int m,.int p.1,.int p.2]]) (cu (pO ps m h l) 31) λp U=>⟨[ϊ (.int m),ϊ (.int p.1),ϊ (.int p.2),ϊ (lV h l),ϊ (bD ps)],rfl,rfl,λ_=>?_⟩) ?_
  ·refine aeB ?_
   delta emit;rw[bP];simp only[VC]
   first|exact⟨by decide,rfl,trivial⟩|exact⟨by decide,trivial⟩|decide
  ·rw[filter_tt,<- aej]
   exact⟨rfl,c,rfl⟩
 ·obtain⟨rfl,c,rfl⟩:=Y
  refine⟨le_size (Ý (Nj ps h l) (by decide)),?_⟩;rw[jE];exact⟨rfl,c,rfl⟩
section
variable {s s':ae} {env:Env} {x y z:Str} {ws:List Str} {c:Nat} {ps:List Pg} {m d:Int}
def gM (hx:Ó x=ό) (hy:Ó y=ό):Ó (x++y)=ό:=j3.mpr λn Z=>by
 rw[sX] at Z;exact(ó.mp Z).elim (j3.mp hx n) (j3.mp hy n)
theorem vM (hy:Ó y=ό):∀{zs:List Str},(∀z∈zs,Ó z=ό)->Ó (š y zs)=ό
 | [],_=>show Ó χ=ό by decide +kernel
 | [z],h=>h z ∅
 |z::u::r,h=>by
  show Ó (z++y++š y (u::r))=ό;exact gM (gM (h z ∅) hy) (vM hy λv Z=>h v (Ï _ Z))
def XQ:∀n:Fin 31,Ó (num (n.val:Int))=ό:=nofun
def sA (h:0<=i/\i<31):Ó (num i)=ό:=by
 have:=XQ ⟨i.toNat,by omega⟩;rw[show (((⟨i.toNat,by omega⟩:Fin 31).val:Nat):Int)=i by simp;omega] at this;exact this
def zt (h:∀i∈l,0<=i/\i<8):Ó (gK l)=ό:=by
 delta gK;split
 ·decide +kernel
 ·refine j3.mpr λn Z=>?_
  rw[DG] at Z;obtain⟨i,Y,rfl⟩:=Č.mp Z;have:=h i Y;omega
def yq (r:Res D) (s:ae):Prop:=(∃(y:Str) (c:List Cell),Ó y=ό/\r=ok (.str y) (s++c))\/∃k,k∈[("NoMould":Str),"NoDay","NoSheet"]/\r=ϊ (.error ⟨k,ϋ⟩,s)
def xM {fn:List D->ae->Res D} {fa:aez (List D)} {ds:List D} {y:bg} (h:fa env s=ok ds s) (e:fn ds s=ϊ (.error y,s)):cE (dJ fn fa) env s=ϊ (.error y,s):=by
 delta cE dJ;rw[h,bU,e];rfl
def AD (h:fa env s=ok ds s) (e:fn ds s=ok v s):cE (dJ fn fa) env s=ok (.nx env) s:=by
 delta cE dJ;rw[h,bU,e];rfl
def Nk:cD.yD [.int m] s=if kf m=ό then ok .au s else ϊ (.error ⟨"NoMould",ϋ⟩,s):=by
 have e:cU (cq (aG rW (af (aa 0) ah))) [ϊ (.int m)] s=ok (!kf m) s:=by
  refine aeB ?_;simp only[VC,K9,ģ]
 delta cD.yD aD;show ai (aM _ _ _ [ϊ (.int m)] s) _=_;delta aM;rw[e]
 cases kf m<;>rfl
def Nl:cD.yN [.int d] s=if jk d=ό then ok .au s else ϊ (.error ⟨"NoDay",ϋ⟩,s):=by
 have e:cU (cq (aG su (af (aa 0) ah))) [ϊ (.int d)] s=ok (!jk d) s:=by
  refine aeB ?_;simp only[VC,M8,ģ]
 delta cD.yN aD;show ai (aM _ _ _ [ϊ (.int d)] s) _=_;delta aM;rw[e]
 cases jk d<;>rfl
def SJ (hl:ps.length<=1000) (hf:∀p∈ps,jm p) (hb:dG ps=ό):(∃k,k∈[("NoMould":Str),"NoDay"]/\cD.vJ [bD ps,.int m,.int d] s=ϊ (.error ⟨k,ϋ⟩,s))\/∃c,cD.vJ [bD ps,.int m,.int d] s=ok (kl (iA ps m) (gJ ps m) d) (s++c):=by
 delta cD.vJ aD;show (∃k,_/\ai (aq _ _ [ϊ (bD ps),ϊ (.int m),ϊ (.int d)] s) _=_)\/∃c,ai (aq _ _ [ϊ (bD ps),ϊ (.int m),ϊ (.int d)] s) _=_;rw[gy (AD (ds:=[bD ps]) rfl (y0 hl hf hb))];by_cases Y:kf m=ό
 ·rw[gy (AD (ds:=[.int m]) (v:=.au) rfl (by rw[Nk,Ñ Y]))]
  by_cases Z:jk d=ό
  ·rw[gy (AD (ds:=[.int d]) (v:=.au) rfl (by rw[Nl,Ñ Z]))]
   refine .inr ?_;have X:0<=d/\d<31:=by delta jk at Z;simpa using Z
   obtain⟨v,V,e,rfl,c,rfl⟩:=Ma (m:=m) (s:=s) hl;refine⟨c,?_⟩;refine aeB ?_;rw[bP,bW,bj];erw[wp_call,aL,aP,aR,bx];refine aeA e ?_;obtain⟨v,e1,e2⟩:=nB (xs:=i9.map (kl (iA ps m) (gJ ps m))) X.1 (by show d<31;exact X.2);have:v=kl (iA ps m) (gJ ps m) d:=by
    rw[ê] at e2;have W:i9[d.toNat]?=ϊ d:=by
     delta i9;rw[ê,Ŀ ⋯];simp;omega
    rw[W] at e2;exact(aeE e2).symm
   subst this;refine aeA (show ay (.lst (i9.map (kl (iA ps m) (gJ ps m)))) (.int d) (s++c)=ok (kl (iA ps m) (gJ ps m) d) (s++c) by erw[ay,kJ,res,e1,bS]) ?_;rw[bF];exact⟨rfl,rfl⟩
  ·refine .inl ⟨"NoDay",by simp,?_⟩
   rw[jc (xM (ds:=[.int d]) (y:=⟨"NoDay",ϋ⟩) rfl (by rw[Nl,Ú Z]))];rfl
 ·refine .inl ⟨"NoMould",by simp,?_⟩
  rw[jc (xM (ds:=[.int m]) (y:=⟨"NoMould",ϋ⟩) rfl (by rw[Nk,Ú Y]))];rfl
def zP (p:Int->Bool):iy 8 (k8.filter p):=(show iy 8 k8 from ⟨by decide,by decide⟩).filter p
def Nm (h:f env s=ok (.str x) s) (hl:x.length<=1000000) (hg:g env s=ok (.str y) s):oZ f g env s=ok (.str (if x.length=0 then y else x)) s:=by
 delta oZ;rw[h,bU];dsimp only;rw[Ñ (È (le_size hl))];by_cases Z:x.length=0
 ·rw[Ñ (by simp[Z]),Ñ Z,hg]
 ·rw[Ú (by simp[Z]),Ú Z]
theorem zc {y:Str} {b:Nat}:∀{zs:List Str},(∀z∈zs,z.length<=b)->(š y zs).length<=zs.length*(b+y.length)
 | [],_=>by show 0<=_;omega
 | [z],h=>by
  have:=h z ∅;show z.length<=1*(b+y.length);omega
 |z::u::r,h=>by
  have Y:=h z ∅;have X:=zc (y:=y) (zs:=u::r) λv Z=>h v (Ï _ Z);show (z++y++š y (u::r)).length<=_;rw[fH,fH,â (a:=z),Nat.succ_mul];omega
def ZP (ha:a.length<=1000) (hb:b.length<=1000):rL [.tup [mD a,mD b]] s=if (fW a&&(fW b&&kg a b))=ό then ok .au s else ϊ (.error ⟨"NoSheet",ϋ⟩,s):=by
 have e:cU (cq (aG pS (af (aa 0) ah))) [ϊ (.tup [mD a,mD b])] s=ok (!(fW a&&(fW b&&kg a b))) s:=by
  refine aeB ?_;simp only[VC,Ce ha hb,ģ]
 delta rL aD;show ai (aM _ _ _ [ϊ (.tup [mD a,mD b])] s) _=_;delta aM;rw[e]
 cases fW a&&(fW b&&kg a b)<;>rfl
def pT:D->Str
 | .tup [.int a,.int b,.int c]=>num a++","++num b++","++num c
 |_=>""
def Fu (d:D):Prop:=∃a b c:Int,d=.tup [.int a,.int b,.int c]/\(0<=a/\a<31)/\(0<=b/\b<31)/\(0<=c/\c<31)
def EC {d:D} (h:Fu d):(pT d).length<=10/\Ó (pT d)=ό:=by
 obtain⟨a,b,c,rfl,Z,Y,X⟩:=h;have W:=kW Z.1 Z.2;have V:=kW Y.1 Y.2;have lc:=kW X.1 X.2;refine⟨?_,gM (gM (gM (gM (sA Z) nofun) (sA Y)) nofun) (sA X)⟩;show (num a++","++num b++","++num c).length<=10;erw[fH];show _ + 1 + _ + 1 + _<=10;omega
def Uw (hn:ds.length<=200) (hd:∀d∈ds,Fu d):∃y,Ó y=ό/\yA [.lst ds] s=ok (.str y) s:=by
 have W:dW iP (eC (.str " ")) (cL 3 [] (cH (aa 0)) (gT [gN 0,gN 1,gN 2]) cS (jX [(e1 fM (aa 0)),(eC (.str ",")),(e1 fM (aa 1)),(eC (.str ",")),(e1 fM (aa 2))] χ)) [ϊ (.lst ds)] s=ok (.str (š " " (ds.map pT))) s:=by
  refine aeB ?_;rw[sY rfl,jB];refine aeA (show cH (aa 0) [ϊ (.lst ds)] s=ok ds s from rfl) ⟨le_size ⋯,?_⟩;have Y:=comp_map (nt:=3) (caps:=iO [] [ϊ (.lst ds)]) (g:=gT [gN 0,gN 1,gN 2]) (t:=cS) (f:=jX [(e1 fM (aa 0)),(eC (.str ",")),(e1 fM (aa 1)),(eC (.str ",")),(e1 fM (aa 2))] χ) (s:=s) (λd:D=>d) (λ_=>ό) (λd=>D.str (pT d)) ds λd Z=>by
   obtain⟨a,b,c,rfl,V,U,Y⟩:=hd d Z;refine⟨[ϊ (.int a),ϊ (.int b),ϊ (.int c)],rfl,rfl,λ_=>?_⟩;have R:=kW V.1 V.2;have Q:=kW U.1 U.2;have lc:=kW Y.1 Y.2;rw[j5 (xK V.1 ⋯) (by show 0 + _<=_;omega),j5 (y:=",") rfl (by rw[fH];show 0 + _ + 1<=_;omega),j5 (xK U.1 ⋯) (by erw[fH];show 0 + _ + 1 + _<=_;omega),j5 (y:=",") rfl (by erw[fH];show 0 + _ + 1 + _ + 1<=_;omega),j5 (xK Y.1 ⋯) (by erw[fH];show 0 + _ + 1 + _ + 1 + _<=_;omega)]
   show (if ώ ((χ++num a++","++num b++","++num c).length<=Õ)=ό then ok (D.str (χ++num a++","++num b++","++num c)) s else ϋ)=_
   rw[Ñ (È (le_size (by erw[fH];show 0 + _ + 1 + _ + 1 + _<=_;omega))),show χ++num a=num a from Mc (by rw[sX];rfl)];rfl
  rw[List.map_id'] at Y;refine aeA Y ?_;rw[Ő.mpr (λ_ _=>rfl)];have W:=xc (s:=s) (y:=" ") (zs:=ds.map pT) (by decide) (by rw[É];omega) λz X=>by
   obtain⟨d,Z,rfl⟩:=Č.mp X;have:=(EC (hd d Z)).1;omega
  rw[Ġ] at W;exact aeA W ⟨rfl,rfl⟩
 have T:(š " " (ds.map pT)).length<=1000000:=by
  have:=zc (y:=" ") (zs:=ds.map pT) (b:=10) λz X=>by
   obtain⟨d,Z,rfl⟩:=Č.mp X;exact(EC (hd d Z)).1
  rw[É] at this;have S:(" ":Str).length=1:=rfl;rw[S] at this;omega
 refine⟨if (š " " (ds.map pT)).length=0 then "none" else š " " (ds.map pT),?_,aeB ?_⟩
 ·split
  ·decide +kernel
  ·refine vM nofun λz X=>?_
   obtain⟨d,Z,rfl⟩:=Č.mp X;exact(EC (hd d Z)).2
 delta yA;refine dO.symm ▸ ⟨rfl,?_⟩;show Wp (aA _ [ϊ (.lst ds)] s) _;rw[bW];exact aeA (Nm W T rfl) ⟨rfl,rfl⟩
end
section
variable {s s':ae} {env:Env} {x y z:Str} {ws r:List Str} {ps:List Pg}
theorem Nn:∀(n:Nat) (p:Nat×Nat),p∈cu f n->p.1<n/\p.2<n
 |0,p,h=>by cases h
 |n+1,p,h=>by
  have ih:=Nn (f:=f) n;delta cu at h;split at h
  ·rcases ó.mp h with h|h
   ·have:=ih p (List.dropLast_subset _ h)
    omega
   ·rw[Đ.mp h]
    refine⟨?_,by show n<n+1;omega⟩;show ((cu f n).getLast?.getD (0,0)).1<n+1
    cases Z:(cu f n).getLast? with
    |none=>show 0<n+1;omega
    |some q =>
     have:=ih q (List.mem_of_getLast? Z);show q.1<n+1;omega
  ·split at h
   ·rcases ó.mp h with h|h
    ·have:=ih p h
     omega
    ·rw[Đ.mp h]
     exact⟨by show n<n+1;omega,by show n<n+1;omega⟩
   ·have:=ih p h
    omega
def ZQ (hd:d∈u7 ps h l):Fu d:=by
 delta u7 at hd;obtain⟨m,Z,hd⟩:=List.mem_flatMap.mp hd;obtain⟨p,Y,rfl⟩:=Č.mp hd;have X:=Nn _ p Y;have W:0<=m/\m<4:=by
  have:∀m∈m4,(0:Int)<=m/\m<4:=by decide
  exact this m Z
 exact⟨m,p.1,p.2,rfl,by omega,by omega,by omega⟩
def Np {fn g:List D->ae->Res D} {fa:aez (List D)} {ds:List D} {u:bg} (h:fa env s=ok ds s) (e:fn ds s=ϊ (.error u,s)):aA (aG g (af (dJ fn fa) ah)) env s=ϊ (.error u,s):=by
 show ai (ai (ai (ai (fa env s) fn) _) _) _=_;rw[h,bU,e];rfl
abbrev aE (ps:List Pg) (ws:List Str):Env:=[ϊ (bD ps),ϊ (.lst (ws.map D.str))]
def SK (ha:b9 a=ό) (hb:b9 b=ό) (hl:ps.length<=1000) (hf:∀p∈ps,jm p) (jz:dG ps=ό):yq (kO [bD ps,.lst (([("surely":Str),a,b]).map D.str)] s) s:=by
 have Z:∀{n:Nat} {u:Str},([("surely":Str),a,b])[n]?=ϊ u->e2 ay (aa 1) (eC (.int n)) (aE ps [("surely":Str),a,b]) s=ok (.str u) s:=λh=>aeB (by
  erw[bj,aR,bx,bA];exact aeA (mU h) ⟨rfl,rfl⟩)
 have Y:af (aa 0) (af (eB jK (af (e2 ay (aa 1) (eC (.int 1))) ah)) (af (eB jK (af (e2 ay (aa 1) (eC (.int 2))) ah)) ah)) (aE ps [("surely":Str),a,b]) s=ok [bD ps,.int (vI a),.int (vI b)] s:=by
  refine aeB ?_;rw[aL,aR,aL,c8,aL];refine aeA (Z (n:=1) rfl) ?_;rw[aP];refine aeA (qr ha) ?_;rw[aL,c8,aL];refine aeA (Z (n:=2) rfl) ?_;rw[aP];refine aeA (qr hb) ?_;rw[aP];exact⟨rfl,rfl⟩
 have X:aV (e2 aW (e2 ay (aa 1) (eC (.int 0))) (eC (.str "surely"))) (aE ps [("surely":Str),a,b]) s=ok ό s:=(dH (Z (n:=0) rfl)).trans (by rw[È rfl]);delta kO aD
 rcases SJ (s:=s) (m:=vI a) (d:=vI b) hl hf jz with ⟨k,W,e⟩ | ⟨c,e⟩
 ·refine .inr ⟨k,by erw[Û,ć,or_false] at W |-;exact W.imp id .inl,?_⟩
  show ai (aq _ _ (aE ps [("surely":Str),a,b]) s) _=_;rw[jc (y:=⟨k,ϋ⟩) (s':=s) (show aM _ _ _ (aE ps [("surely":Str),a,b]) s=_ from ?_)]
  ·rfl
  ·delta aM
   rw[X,bU,Ñ rfl];exact Np Y e
 ·refine .inl ⟨gK (k8.filter λk=>ώ (vI b∈iA ps (vI a) k))++"/"++gK (k8.filter λk=>ώ (vI b∈gJ ps (vI a) k)),c,gM (gM (zt (sZ (zP _))) nofun) (zt (sZ (zP _))),aeB ?_⟩
  show Wp (ai (aq _ _ (aE ps [("surely":Str),a,b]) s) _) _;rw[bP];refine aeC λR V=>dq X ?_;rw[Ñ rfl,bW,wp_call,aL,qG];refine aeA Y (aeA e ?_);rw[aP];refine aeA (IM (zP _) (zP _)) ?_;rw[ke,bF];exact⟨rfl,rfl⟩
def Ux (hv:ja v=ό) (hlv:v.length<=1000) (hl:ps.length<=1000) (hf:∀p∈ps,jm p) (jz:dG ps=ό):yq (kO [bD ps,.lst (([("where":Str),v]).map D.str)] s) s:=by
 obtain⟨i,j,li,N,-,U⟩:=Jx hlv hv;have Y:∀{n:Nat} {u:Str},([("where":Str),v])[n]?=ϊ u->e2 ay (aa 1) (eC (.int n)) (aE ps [("where":Str),v]) s=ok (.str u) s:=λh=>aeB (by
  erw[bj,aR,bx,bA];exact aeA (mU h) ⟨rfl,rfl⟩)
 have X:af (aa 0) (af (aG rY (af (e2 ay (aa 1) (eC (.int 1))) ah)) ah) (aE ps [("where":Str),v]) s=ok [bD ps,lV i j] s:=by
  refine aeB ?_;rw[aL,aR,aL,wp_call,aL];refine aeA (Y (n:=1) rfl) ?_;rw[aP];refine aeA (U s) ?_;rw[aP];exact⟨rfl,rfl⟩
 have e1:aV (e2 aW (e2 ay (aa 1) (eC (.int 0))) (eC (.str "surely"))) (aE ps [("where":Str),v]) s=ok ύ s:=(dH (Y (n:=0) rfl)).trans (by rw[Ì nofun]);have W:aV (e2 aW (e2 ay (aa 1) (eC (.int 0))) (eC (.str "where"))) (aE ps [("where":Str),v]) s=ok ό s:=(dH (Y (n:=0) rfl)).trans (by rw[È rfl]);delta kO aD;show yq (ai (aq _ _ (aE ps [("where":Str),v]) s) _) s;rw[gy (show aM _ _ _ (aE ps [("where":Str),v]) s=ok (.nx (aE ps [("where":Str),v])) s by delta aM;rw[e1];rfl)];by_cases V:(fW i&&(fW j&&kg i j))=ό
 ·have Z:=V
  erw[Å] at Z;have T:Sh i j:=⟨sd Z.1,sd Z.2.1,λx S Q=>by
   have:=Z.2.2;delta kg at this;rw[ł,List.any_eq_false] at this;exact this x S (È Q)⟩
  obtain⟨d,M,e,rfl,c,rfl⟩:=Uv (s:=s) hl hf jz T;obtain⟨y,ky,P⟩:=Uw (s:=s++c) (ds:=u7 ps i j) (Ý (Nj ps i j) (by decide)) λd O=>ZQ O;refine .inl ⟨y,c,ky,aeB ?_⟩;rw[bP];refine aeC λR L=>dq W ?_;rw[Ñ rfl,bW,wp_call,aL,qG];refine aeA X (aeA e ?_);rw[aP];refine aeA P ?_;rw[ke,bF];exact⟨rfl,rfl⟩
 ·refine .inr ⟨"NoSheet",by simp,?_⟩
  have e:rN [bD ps,lV i j] s=ϊ (.error ⟨"NoSheet",ϋ⟩,s):=by
   delta rN aD;show ai (aq _ _ [ϊ (bD ps),ϊ (lV i j)] s) _=_;rw[gy (AD (ds:=[bD ps]) rfl (y0 hl hf jz)),jc (xM (ds:=[lV i j]) (y:=⟨"NoSheet",ϋ⟩) rfl (by rw[ZP ⋯ ⋯,Ú V]))];rfl
  rw[jc (y:=⟨"NoSheet",ϋ⟩) (s':=s) (show aM _ _ _ (aE ps [("where":Str),v]) s=_ from ?_)]
  ·rfl
  ·delta aM
   rw[W,bU,Ñ rfl];exact Np X e
def gZ (ps:List Pg):Str:=if (textOf ps).length=0 then "-" else textOf ps
def Wb (h:jy p):Ó (iQ p)=ό:=by
 have m:=tj h;have d:=tm h;have Z:Ó " "=ό:=nofun
 have Y:Ó "made"=ό:=nofun
 have X:Ó "mended"=ό:=nofun
 have w:Ó (tM p)=ό:=by
  cases p with
  |made _ _ _ _=>exact Y
  |de _ _ _=>exact X
 have l:Ó (xg p)=ό:=by
  cases p with
  |made W V a c=>exact gM (gM (zt (sZ h.2.2.1)) nofun) (zt (sZ h.2.2.2))
  |de W V k=>exact sA ⟨h.2.2.1,by have:=h.2.2.2;omega⟩
 exact gM (gM (gM (gM (gM (gM w Z) (sA ⟨m.1,by omega⟩)) Z) (sA d)) Z) l
def XR (jz:dG ps=ό):Ó (gZ ps)=ό:=by
 obtain⟨Z,X⟩:=DH jz;delta gZ;split
 ·decide +kernel
 ·refine vM nofun λz Y=>?_
  obtain⟨p,h,rfl⟩:=Č.mp Y;exact gM (Wb (zM (Z p h))) nofun
def Lk (jz:dG ps=ό):kO [bD ps,.lst (([("book":Str)]).map D.str)] s=ok (.str (gZ ps)) s:=by
 have Y:e2 ay (aa 1) (eC (.int 0)) (aE ps [("book":Str)]) s=ok (.str "book") s:=aeB (by
  erw[bj,aR,bx,bA];exact aeA (mU (n:=0) (u:="book") rfl) ⟨rfl,rfl⟩)
 have lt:(textOf ps).length<=1000000:=by
  obtain⟨X,W⟩:=DH jz;have:=text_len (ps:=ps) λp h=>zM (X p h);omega
 refine aeB ?_;delta kO;refine dO.symm ▸ ⟨rfl,?_⟩;refine aeC λR Z=>dq (dH Y) ?_;rw[Ì nofun,Ú Ä,dD,bz];subst Z;refine aeC λR Z=>dq (dH Y) ?_;rw[Ì nofun,Ú Ä,dD,bz];subst Z;rw[bW];exact aeA (Nm (y:="-") (show dJ vv (af (aa 0) ah) (aE ps [("book":Str)]) s=ok (.str (textOf ps)) s from V2 jz) lt rfl) ⟨rfl,rfl⟩
end
section
variable {s s':ae} {env:Env} {x y z w:Str} {ws r:List Str} {ps book:List Pg} {p:Pg} {a b d:Nat} {aN:List (List Pg)}
def Mj (hf:jm p) (hp:dX p=ύ):mZ [p.d] s=ϊ (.error ⟨"NoPage",ϋ⟩,s):=by
 have e:cU (cq (aG sh (af (aa 0) ah))) [ϊ p.d] s=ok ό s:=by
  refine aeB ?_;simp only[VC,CN hf,hp,ι,ģ]
 delta mZ aD;show ai (aM _ _ _ [ϊ p.d] s) _=_;delta aM;rw[e];rfl
def Bg (r:Res D) (s:ae) (d b:Nat) (aN:List (List Pg)):Prop:=(∃s' Z Y,r=ok .au s'/\Di s' d b Z Y/\Z.length<=aN.length+1/\Ex b s s')\/∃k,k∈[("NoPage":Str),"Clash","NoDeed"]/\r=ϊ (.error ⟨k,ϋ⟩,s)
def zQ (h:Di s d b aN book) (hl:Hc.length<=500) (hb:∀ps∈Hc++[new],Bk ps):Di (s.set b (.lst ((Hc++[new]).map bD))) d b Hc new:=by
 have ne:b≠d:=λe=>by
  have Y:=h.ha;have Z:=h.hb;rw[e,Y] at Z;cases Z
 have X:=(Ô.mp h.hb).1;exact⟨by rw[õ ne];exact h.ha,ù X,hl,hb⟩
def Wc (h:Di s d b aN book) (hn:aN.length<500) (hf:jm p):Bg (oi [.aj d,p.d] s) s d b aN:=by
 cases Z:dX p with
 |false =>
  refine .inr ⟨"NoPage",by simp,?_⟩;delta oi aD;show ai (aq _ _ [ϊ (.aj d),ϊ p.d] s) _=_;rw[jc (xM (ds:=[p.d]) (y:=⟨"NoPage",ϋ⟩) rfl (Mj hf Z))];rfl
 |true =>
  rw[Mg h Z]
  cases Y:dG (ST.dA cw (book++[p])) with
  |false=>exact .inr ⟨"Clash",by simp,by rw[Ú Ä]⟩
  |true =>
   rw[Ñ rfl];refine .inl ⟨_,aN++[book],_,rfl,zQ h (by simp;omega) λX hq=>?_,by simp,Ex.set _ _ _⟩
   rcases ó.mp hq with hq|hq
   ·exact h.bk X hq
   ·rw[Đ.mp hq]
    refine⟨Ko h.last.laid Z λW=>?_,Y⟩;rw[JQ W] at Y;cases Y
def SM (h:Di s d b aN book) (hn:aN.length<500) (hf:jm p):Bg (rH [.aj d,p.d] s) s d b aN:=by
 cases Z:dX p with
 |false =>
  refine .inr ⟨"NoPage",by simp,?_⟩;delta rH aD;show ai (aq _ _ [ϊ (.aj d),ϊ p.d,ϋ] s) _=_;rw[jc (xM (ds:=[p.d]) (y:=⟨"NoPage",ϋ⟩) rfl (Mj hf Z))];rfl
 |true =>
  rw[Us h Z]
  cases Y:rB p book&&dG (book.filter λq=>!eqB q p) with
  |false=>exact .inr ⟨"Clash",by simp,by rw[Ú Ä]⟩
  |true =>
   rw[Ñ rfl];refine .inl ⟨_,aN++[book],_,rfl,zQ h (by simp;omega) λX hq=>?_,by simp,Ex.set _ _ _⟩
   rcases ó.mp hq with hq|hq
   ·exact h.bk X hq
   ·rw[Đ.mp hq]
    exact⟨RK h.last.laid,(Å _ _ ▸ Y).2⟩
def We (h:Di s d b aN book):Bg (vo [.aj d] s) s d b aN:=by
 rw[XJ h];by_cases Z:aN=[]
 ·rw[Ñ Z]
  exact .inr ⟨"NoDeed",by simp,rfl⟩
 ·rw[Ú Z]
  obtain⟨Y,X,e⟩:∃Y X,aN=Y++[X]:=⟨aN.dropLast,aN.getLast Z,(List.dropLast_concat_getLast Z).symm⟩;refine .inl ⟨_,Y,X,rfl,?_,by rw[e];simp;omega,Ex.set _ _ _⟩;rw[e];have:=h.ln;rw[e] at this;exact zQ h (by simp at this;omega) λW V=>h.bk W (ÿ _ (by rw[e];exact V))
structure Ds (s:ae) (a d b:Nat) (aN:List (List Pg)) (book:List Pg):Prop where
 hd:s[a]?=ϊ (.ins "Desk" [("diary",.aj d)])
 di:Di s d b aN book
def Ds.ne (h:Ds s a d b aN book):a≠b:=λe=>by
 have Z:=h.hd;have Y:=h.di.hb;rw[e,Y] at Z;cases Z
def abc (h:s[a]?=ϊ (.ins "Desk" [("diary",.aj d)])):ig "Desk" "diary" (.aj a) s=ok (.aj d) s:=by
 delta ig jj;dsimp only;rw[h];dsimp only;rw[Ñ (È rfl)];rfl
def zR (h:s[a]?=ϊ (.ins "Desk" [("diary",.aj d)])):e1 (ig "Desk" "diary") (aa 0) [ϊ (.aj a),e1',i3] s=ok (.aj d) s:=by
 show ai (ok (D.aj a) s) _=_;rw[bU];exact abc h
def Af (hl:ds.length=np) (he:ds.map ϊ++Ö (ns-np) ϋ=env) (h:B env s=ok (.rt v) s'):aD np ns B ds s=ok v s':=by
 delta aD;rw[Ñ hl,he,h];rfl
def Oj {np ns:Nat} {B:aez Fl} {ds:List D} {u:bg} (hl:ds.length=np) (he:ds.map ϊ++Ö (ns-np) ϋ=env) (h:B env s=ϊ (.error u,s')):aD np ns B ds s=ϊ (.error u,s'):=by
 delta aD;rw[Ñ hl,he,h];rfl
def Nq (h:st env s=ok (.rt v) s'):aq st cf env s=ok (.rt v) s':=by delta aq;rw[h];rfl
def DM (h:t env s=ok ό s):aM t st cf env s=st env s:=by delta aM;rw[h];rfl
def tN (h:t env s=ok ύ s):aM t st cf env s=cf env s:=by delta aM;rw[h];rfl
def xN:List Str:=["NoPage","Clash","NoDeed","NoMould","NoDay","NoSheet"]
def O4 (r:Res D) (s:ae) (a d b:Nat) (aN:List (List Pg)):Prop:=(∃y s' Z Y,Ó y=ό/\r=ok (.str y) s'/\Ds s' a d b Z Y/\Z.length<=aN.length+1/\Ex b s s')\/∃k,k∈xN/\r=ϊ (.error ⟨k,ϋ⟩,s)
def Nr (h:iM [v] s=ϊ (.error u,s)):fS [.aj a,v] s=ϊ (.error u,s):=by
 delta fS;refine Oj (env:=[ϊ (.aj a),ϊ v,ϋ]) rfl rfl (jc ?_);show ai (ai (ok [v] s) iM) _=_;rw[bU,h];rfl
def wy (h:iM [v] s=ok W s):bc (dJ iM (af (aa 1) ah)) (gN 2) [ϊ (.aj a),ϊ v,ϋ] s=ok (.nx [ϊ (.aj a),ϊ v,ϊ W]) s:=by
 show ai (ai (ok [v] s) iM) _=_;rw[bU,h];rfl
def Hd (r:Res Fl) (env:Env) (s:ae) (a d b:Nat) (aN:List (List Pg)):Prop:=(∃s' Z Y,(r=ok (.nx env) s'\/∃y,Ó y=ό/\r=ok (.rt (.str y)) s')/\Ds s' a d b Z Y/\Z.length<=aN.length+1/\Ex b s s')\/∃k,k∈xN/\r=ϊ (.error ⟨k,ϋ⟩,s)
def XS (h:iM [v] s=ok W s) (hi:Hd (ifs [ϊ (.aj a),ϊ v,ϊ W] s) [ϊ (.aj a),ϊ v,ϊ W] s a d b aN):O4 (fS [.aj a,v] s) s a d b aN:=by
 delta fS
 rcases hi with ⟨s',Y,X,Z | ⟨y,S,Z⟩,V,U,T⟩ | ⟨k,R,Z⟩
 ·exact .inl ⟨"ok",s',Y,X,by decide +kernel,Af (env:=[ϊ (.aj a),ϊ v,ϋ]) rfl rfl (by rw[gy (wy h),gy Z];rfl),V,U,T⟩
 ·exact .inl ⟨y,s',Y,X,S,Af (env:=[ϊ (.aj a),ϊ v,ϋ]) rfl rfl (by rw[gy (wy h),Nq Z]),V,U,T⟩
 ·exact .inr ⟨k,R,Oj (env:=[ϊ (.aj a),ϊ v,ϋ]) rfl rfl (by rw[gy (wy h),jc Z])⟩
def CZ (G:Ds s a d b aN book) (h:Bg (m env s) s d b aN):Hd (cE m env s) env s a d b aN:=by
 rcases h with ⟨s',W,V,Z,U,T,Y⟩ | ⟨k,X,Z⟩
 ·exact .inl ⟨s',W,V,.inl (by delta cE;rw[Z];rfl),⟨Y.get G.hd G.ne,U⟩,T,Y⟩
 ·refine .inr ⟨k,?_,by delta cE;rw[Z];rfl⟩
  erw[xN,Û,ć,or_false] at X |-
  rcases X with h|h|h<;>simp[h]
def XT (G:Ds s a d b aN book) (h:yq (f env s) s):Hd (aA f env s) env s a d b aN:=by
 rcases h with ⟨y,c,X,Z⟩ | ⟨k,Y,Z⟩
 ·refine .inl ⟨s++c,aN,book,.inr ⟨y,X,by delta aA;rw[Z];rfl⟩,⟨(Ex.app b s c).get G.hd G.ne,G.di.kp (Kp.app s c)⟩,by omega,Ex.app _ _ _⟩
 ·refine .inr ⟨k,?_,by delta aA;rw[Z];rfl⟩
  erw[xN,Û,ć,or_false] at Y |-
  rcases Y with h|h|h<;>simp[h]
abbrev dE (a:Nat) (x:Str) (ws:List Str):Env:=[ϊ (.aj a),ϊ (.str x),ϊ (.lst (ws.map D.str))]
def nQ:e2 ay (aa 2) (eC (.int 0)) (dE a x (w::r)) s=ok (.str w) s:=aeB (by
 erw[bj,aR,bx,bA];exact aeA sJ ⟨rfl,rfl⟩)
def Ol:eT (aV (e2 aW (e2 ay (aa 2) (eC (.int 0))) (eC (.str "made")))) (aV (e2 aW (e2 ay (aa 2) (eC (.int 0))) (eC (.str "mended")))) (dE a x (w::r)) s=ok (ώ (w="made"\/w="mended")) s:=by
 refine aeB ?_;rw[kc];refine aeA (dH nQ) ?_;by_cases h:w="made"
 ·rw[È h,Ñ rfl]
  exact⟨(È (ο h)).symm,rfl⟩
 ·rw[Ì h,Ú Ä]
  refine aeA (dH nQ) ⟨?_,rfl⟩
  by_cases Z:w="mended"<;>simp[h,Z]
def Ll (G:Ds s a d b aN book) (hw:w="made"\/w="mended") (ep:pV [.lst ((w::r).map D.str)] s=ok p.d s):ifs (dE a x (w::r)) s=ai (oi [.aj d,p.d] s) λ_ s=>ok (.nx (dE a x (w::r))) s:=by
 delta ifs;rw[tN ((dH nQ).trans (by rw[Ì λe=>by rw[e] at hw;revert hw;decide +kernel])),tN ((dH nQ).trans (by rw[Ì λe=>by rw[e] at hw;revert hw;decide +kernel])),DM (Ol.trans (by rw[È hw]))];delta cE;rw[oM G.di.ha (by rfl) (ds:=[p.d]) (zR G.hd) (aeB (by
  rw[aL,wp_call,aL];erw[aR,bx];rw[aP];refine aeA ep ?_;rw[aP];exact⟨rfl,rfl⟩))]
def Ml (G:Ds s a d b aN book) (h1:¬ w="undo") (h2:¬ w="out") (h3:¬ (w="made"\/w="mended")):ifs (dE a x (w::r)) s=ai (kO [bD book,.lst ((w::r).map D.str)] s) λd s=>ok (.rt d) s:=by
 delta ifs;rw[tN ((dH nQ).trans (by rw[Ì h1])),tN ((dH nQ).trans (by rw[Ì h2])),tN (Ol.trans (by rw[Ì h3]))];have e1:af (eR "Diary" "book_now" lX (e1 (ig "Desk" "diary") (aa 0)) ah) (af (aa 2) ah) (dE a x (w::r)) s=ok [bD book,.lst ((w::r).map D.str)] s:=by
  refine aeB ?_;rw[aL];refine aeA ((oM G.di.ha (by rfl) (ds:=[]) (zR G.hd) rfl).trans (DJ G.di)) ?_;erw[aL,aP,aR,bx,ģ]
 delta aA dJ;rw[e1,bU]
def Mm (h:w="made"\/w="mended"):¬ w="surely"/\¬ w="where"/\¬ (w="undo"\/w="book")/\¬ w="out":=by
 rcases h with rfl|rfl<;>decide +kernel
def XU (G:Ds s a d b aN book) (hn:aN.length<500) (hl:x.length<=1000) (hk:Ó x=ό) (hr:il (bs x)=ό):O4 (fS [.aj a,.str x] s) s a d b aN:=by
 obtain⟨w,r,U⟩:=xh x;have Y:∀z∈w::r,z.length<=1000:=λz T=>Ý (p6 (c:=32) (show z∈bs x by rw[U];exact T)) hl;have L:iM [.str x] s=ok (.lst ((w::r).map D.str)) s:=by rw[zb hl hk,Ñ hr,U]
 refine XS L ?_;have N:=Lg G.di.last.laid.pg;have M:book.length<=1000:=by have:=G.di.last.len;omega
 rw[U] at hr;by_cases X:w="undo"
 ·delta ifs
  rw[DM ((dH nQ).trans (by rw[È X]))];refine CZ G ?_;rw[oM G.di.ha (by rfl) (ds:=[]) (zR G.hd) rfl];exact We G.di
 by_cases W:w="out"
 ·delta ifs
  rw[tN ((dH nQ).trans (by rw[Ì X])),DM ((dH nQ).trans (by rw[È W]))];have K:fq r=ό:=by rw[show il (w::r)=fq r from Ñ W] at hr;exact hr
  obtain⟨p,S,-,R⟩:=BD (λz T=>Y z (Ï _ T)) K;refine CZ G ?_;rw[oM G.di.ha (by rfl) (ds:=[p.d]) (zR G.hd) (aeB (by
   rw[aL,wp_call,aL,Ad];erw[aR,bx,zH];refine aeA (show cJ (eC (.int 1)) (dE a x (w::r)) s=ok (ϊ 1) s from rfl) (aeA CV ?_);rw[aP];refine aeA (R s) ?_;rw[aP];exact⟨rfl,rfl⟩))]
  exact SM G.di hn S
 have Z:(if w="surely" then ώ (r.length=2)&&r.all b9 else if w="where" then yp r else if w="undo"\/w="book" then r.isEmpty else fq (w::r))=ό:=by rw[show il (w::r)=_ from Ú W] at hr;exact hr
 by_cases V:w="made"\/w="mended"
 ·obtain⟨J,I,H,-⟩:=Mm V
  rw[Ú J,Ú I,Ú H] at Z;obtain⟨p,S,-,R⟩:=BD Y Z;rw[Ll G V (R s)];exact CZ (m:=λ_ s=>oi [.aj d,p.d] s) G (Wc G.di hn S)
 rw[Ml G X W V];refine XT (f:=λ_ s=>kO [bD book,.lst ((w::r).map D.str)] s) G ?_;show yq (kO [bD book,.lst ((w::r).map D.str)] s) s;by_cases Q:w="surely"
 ·rw[Ñ Q] at Z
  erw[Å,Ë] at Z
  match r,Z with
  | [u,v],Z =>
   erw[List.all_cons,List.all_nil,ad8,Å] at Z;rw[Q];exact SK Z.2.1 Z.2.2 M N G.di.last.book
  | [],Z=>simp at Z
  | [_],Z=>simp at Z
  |_::_::_::_,Z=>simp at Z
 rw[Ú Q] at Z;by_cases P:w="where"
 ·rw[Ñ P] at Z
  match r,Z,Y with
  | [v],Z,Y =>
   rw[P];exact Ux Z (Y v ∅) M N G.di.last.book
  | [],Z,_=>cases Z
  |_::_::_,Z,_=>cases Z
 rw[Ú P] at Z;by_cases O:w="undo"\/w="book"
 ·rw[Ñ O,List.isEmpty_iff] at Z
  rw[Z,O.resolve_left X];exact .inl ⟨gZ book,[],XR G.di.last.book,by rw[ĥ];exact Lk G.di.last.book⟩
 ·rw[Ú O,Ci V] at Z
  cases Z
def Wf (G:Ds s a d b aN book) (hn:aN.length<500) (hl:x.length<=1000) (hk:Ó x=ό) (hb:bs x=w::r) (hw:w="made"\/w="mended") (hp:fq (w::r)=ό) (P7:dX (jP (w::r))=ό) (jz:dG (ST.dA cw (book++[jP (w::r)]))=ό):∃s',fS [.aj a,.str x] s=ok (.str "ok") s'/\Ds s' a d b (aN++[book]) (ST.dA cw (book++[jP (w::r)]))/\Ex b s s':=by
 have Y:∀z∈w::r,z.length<=1000:=λz X=>Ý (p6 (c:=32) (show z∈bs x by rw[hb];exact X)) hl;obtain⟨W,V,U,T⟩:=Mm hw;have S:il (bs x)=ό:=by
  rw[hb]
  show (if w="out" then _ else _)=ό
  rw[Ú T,Ú W,Ú V,Ú U];exact hp
 have R:iM [.str x] s=ok (.lst ((w::r).map D.str)) s:=by rw[zb hl hk,Ñ S,hb]
 obtain⟨p,M,rfl,Q⟩:=BD Y hp;have Z:=Mg G.di P7;rw[Ñ jz] at Z;have P:Di (s.set b (.lst ((aN++[book]++[ST.dA cw (book++[jP (w::r)])]).map bD))) d b (aN++[book]) (ST.dA cw (book++[jP (w::r)])):=zQ G.di (by simp;omega) λO hq=>by
  rcases ó.mp hq with hq|hq
  ·exact G.di.bk O hq
  ·rw[Đ.mp hq]
   refine⟨Ko G.di.last.laid P7 λN=>?_,jz⟩;rw[JQ N] at jz;cases jz
 refine⟨_,?_,⟨(Ex.set b s _).get G.hd G.ne,P⟩,Ex.set _ _ _⟩;delta fS;refine Af (env:=[ϊ (.aj a),ϊ (.str x),ϋ]) rfl rfl ?_;rw[gy (wy R)];refine(gy (env':=dE a x (w::r)) (s':=s.set b (.lst ((aN++[book]++[ST.dA cw (book++[jP (w::r)])]).map bD))) ?_).trans rfl;refine(Ll G hw (Q s)).trans ?_;rw[Z];rfl
def Ck (G:Ds s a d b aN book):fS [.aj a,.str "book"] s=ok (.str (gZ book)) s:=by
 have Z:=CY.1;have Y:iM [.str "book"] s=ok (.lst (([("book":Str)]).map D.str)) s:=by
  rw[zb nofun nofun,Z,Ñ nofun]
 delta fS;refine Af (env:=[ϊ (.aj a),ϊ (.str "book"),ϋ]) rfl rfl ?_;rw[gy (wy Y)];refine Nq ?_;refine(Ml G nofun nofun nofun).trans ?_;rw[Lk G.di.last.book];rfl
def JT:∃c,oI "Desk" rP env s=ok (.aj s.length) (s++c)/\∃d b,Ds (s++c) s.length d b [] []/\s.length<=b:=by
 have e:rP [.aj s.length] (s++[.ins "Desk" []])=ok .au (s++[.ins "Desk" [("diary",.aj (s.length+1))],.ins "Diary" [("books",.aj (s.length+2))],.lst [.tup []]]):=by
  delta rP aD;show ai (qD _ _ _ _ [ϊ (.aj s.length)] (s++[.ins "Desk" []])) _=_;delta qD;have Z:=ZM (env:=[ϊ (.aj s.length)]) (s:=s++[.ins "Desk" []]);rw[show (s++[Cell.ins "Desk" []]).length=s.length+1 by simp] at Z;rw[Z,bU];show ai (ai (ok (D.aj s.length) _) _) _=_;rw[bU];have e2:jj "Desk" (.aj s.length) (s++[.ins "Desk" []]++[.ins "Diary" [("books",.aj (s.length+1+1))],.lst [.tup []]])=ϊ (s.length,[]):=by
   delta jj;dsimp only;rw[Ĳ,ð (aeD _),Nat.sub_self];rw[Ħ,List.getElem?_cons_zero];dsimp only;rw[Ñ (È rfl)]
  rw[e2];dsimp only;rw[Ñ (by decide)];have Y:∀(x y z u:Cell),List.set (s++[x]++[y,z]) s.length u=s++[u,y,z]:=λx y z u=>by simp
  rw[Y];rfl
 refine⟨[.ins "Desk" [("diary",.aj (s.length+1))],.ins "Diary" [("books",.aj (s.length+2))],.lst [.tup []]],?_,s.length+1,s.length+2,⟨by simp,?_⟩,by omega⟩
 ·delta oI
  rw[e];rfl
 ·refine⟨by simp,by simp,by decide,λps X=>?_⟩
  have:ps=[]:=by simpa using X
  subst this;exact Bk.nil
def Uy (h:gR [v,.ty "str"] s=ok (.bl ύ) s):iM [v] s=ϊ (.error ⟨"NoRow",ϋ⟩,s):=by
 have Z:eT (cU (cq (eB gR (af (aa 0) (af (eC (.ty "str")) ah))))) (cU (cq (aG sv (af (dW jb (aa 0) (eC (.str " "))) ah)))) [ϊ v] s=ok ό s:=by
  refine aeB ?_;erw[kc,vZ,qm,c8,aL,aP,aR,bA];refine aeA h ?_;rw[kT];simp
 delta iM aD;show ai (aq _ _ [ϊ v] s) _=_;rw[jc (show aM _ _ _ [ϊ v] s=ϊ (.error ⟨"NoRow",ϋ⟩,s) by delta aM;rw[Z];rfl)];rfl
end
section
variable {s s':ae} {env:Env} {x y z:Str} {f g:aez D} {N M N' M':Nat} {fa:aez (List D)} {k:Nat}
structure TO (N:Nat) (y:Str):Prop where
 len:y.length<=N
 mV:Ó y=ό
def TO.up (h:TO N y) (hn:N<=M):TO M y:=⟨Ý h.len hn,h.mV⟩
def tx (f:aez D) (env:Env) (s:ae) (N:Nat):Prop:=∃y,f env s=ok (.str y) s/\TO N y
def Ag (e:f env s=ok (.str y) s) (h:TO N y):tx f env s N:=⟨y,e,h⟩
def jG (hf:tx f env s N) (hg:tx g env s M) (h:N+M<=1000000):tx (e2 bh f g) env s (N+M):=by
 obtain⟨y,e1,Z⟩:=hf;obtain⟨z,e2,Y⟩:=hg;have X:=Z.len;have W:=Y.len;refine⟨y++z,aeB ?_,by rw[fH];omega,gM Z.mV Y.mV⟩;rw[bj];refine aeA e1 (aeA e2 (aeA (xI ⋯) ⟨rfl,rfl⟩))
def ZR (n:Nat):(Ě ϋ ϋ (-1) n).length<=n:=by
 delta Ě;have:=PySem.sliceRange_len_le ((n:Int)-1) (-1) (-1) (by decide);simp only[show ¬ ((-1:Int) > 0) by decide,ï] at this |-;exact Ý this ⋯
def Nt (h:TO N x) (yl:(Ě lo hi st x.length).length<=x.length):TO N (ik st x lo hi):=by
 delta ik;split
 ·exact h
 ·refine⟨?_,j3.mpr λn Z=>?_⟩
  ·rw[jF]
   show (List.filterMap _ _).length<=N;have:=List.length_filterMap_le (λi=>x.cps[i]?) (Ě lo hi st x.length);have:=h.len;omega
  ·have Z:n∈List.filterMap (λi=>x.cps[i]?) (Ě lo hi st x.length):=by simpa using Z
   obtain⟨i,_,e⟩:=ξ.mp Z;exact j3.mp h.mV n (Array.mem_toList_iff.mpr (Array.mem_of_getElem? e))
def qH (hf:tx f env s N) (hl:l env s=ok lo s) (hh:h env s=ok hi s) (hN:N<=1000000):tx (mE f l h) env s N:=by
 obtain⟨y,e,Y⟩:=hf;have Z:=Nt (st:=1) (lo:=lo) (hi:=hi) Y (PySem.sliceIndices_le lo hi y.length);refine⟨_,?_,Z⟩;delta mE;rw[e,bU,hl,bU,hh,bU]
 show (if ώ ((ik 1 y lo hi).length<=Õ)=ό then ok (D.str (ik 1 y lo hi)) s else ϋ)=_
 rw[Ñ (È (le_size (by have:=Z.len;omega)))]
def ZS (hf:tx f env s N) (hN:N<=1000000):tx (e1 xy f) env s N:=by
 obtain⟨y,e,Y⟩:=hf;have Z:=Nt (st:=-1) (lo:=ϋ) (hi:=ϋ) Y (ZR y.length);refine⟨_,?_,Z⟩;delta e1;rw[e,bU]
 show (if ώ ((ik (-1) y ϋ ϋ).length<=Õ)=ό then ok (D.str (ik (-1) y ϋ ϋ)) s else ϋ)=_
 rw[Ñ (È (le_size (by have:=Z.len;omega)))]
def DN (hm:MulOk x n) (h:TO N (adS x n)):tx (e2 fI (eC (.str x)) (eC (.int n))) env s N:=by
 refine⟨_,?_,h⟩;show fI (.str x) (.int n) s=_;delta fI;dsimp only;rw[Ñ hm]
def oh (f:aez D) (env:Env) (s:ae) (N M:Nat):Prop:=∃zs:List Str,f env s=ok (.lst (zs.map D.str)) s/\zs.length<=N/\∀z∈zs,TO M z
def Wg {zs:List Str} {lo hi:Option Int}:∃us:List Str,cutD (zs.map D.str) lo hi=us.map D.str/\us.length<=zs.length/\∀u∈us,u∈zs:=by
 delta cutD;exact⟨_,by rw[<- List.map_drop,<- List.map_take],by simp;omega,λu Z=>List.mem_of_mem_drop (List.mem_of_mem_take Z)⟩
def qt {l h:aez (Option Int)} {lo hi:Option Int} (hf:oh f env s N M) (hl:l env s=ok lo s) (hh:h env s=ok hi s):oh (gn f l h) env s N M:=by
 obtain⟨zs,e,W,Z⟩:=hf;obtain⟨Y,e2,V,X⟩:=Wg (zs:=zs) (lo:=lo) (hi:=hi);refine⟨Y,?_,by omega,λu h=>Z u (X u h)⟩;delta gn;rw[e,bU,hl,bU,hh,bU];show ok (D.lst (cutD (zs.map D.str) lo hi)) s=_;rw[e2]
def C0 (hf:oh f env s N M) (hg:oh g env s N' M) (h:N+N'<=1000000):oh (e2 bh f g) env s (N+N') M:=by
 obtain⟨zs,e1,Y,X⟩:=hf;obtain⟨Z,e2,U,W⟩:=hg;refine⟨zs++Z,aeB ?_,by rw[ä];omega,λz V=>(ó.mp V).elim (X z) (W z)⟩;rw[bj];refine aeA e1 (aeA e2 (aeA (show bh (.lst (zs.map D.str)) (.lst (Z.map D.str)) s=ok (.lst (zs.map D.str++Z.map D.str)) s from ?_) ⟨by rw[ħ],rfl⟩))
 show bS (if oU (zs.map D.str) (Z.map D.str)=ό then ϊ (D.lst (zs.map D.str++Z.map D.str)) else ϋ) s=_
 rw[Ñ (show oU (zs.map D.str) (Z.map D.str)=ό from È (le_size (by rw[É,É];omega)))];rfl
def Mn (hf:oh f env s N M) (hN:N<=1000) (hM:M<=1000):tx (dW iP (eC (.str " ")) f) env s (N*(M+1)):=by
 obtain⟨zs,e,Y,Z⟩:=hf;refine⟨š " " zs,aeB ?_,?_,vM nofun λz h=>(Z z h).mV⟩
 ·rw[sY rfl]
  exact aeA e (aeA (xc nofun ⋯ λz h=>by have:=(Z z h).len;omega) ⟨rfl,rfl⟩)
 ·have:=zc (y:=" ") λz h=>(Z z h).len
  rw[show (" ":Str).length=1 from rfl] at this;exact Ý this (ad7 _ Y)
def u9 (fa:aez (List D)) (env:Env) (s:ae) (N M:Nat):Prop:=∃zs:List Str,fa env s=ok (zs.map D.str) s/\zs.length=N/\∀z∈zs,TO M z
def C3:u9 ah env s 0 M:=⟨[],rfl,rfl,λz h=>by cases h⟩
def fF (hf:tx f env s M) (h:u9 fa env s N M):u9 (af f fa) env s (N+1) M:=by
 obtain⟨y,e1,Z⟩:=hf;obtain⟨zs,e2,Y,X⟩:=h;refine⟨y::zs,aeB ?_,by rw[â,Y],λz W=>?_⟩
 ·rw[aL]
  exact aeA e1 (aeA e2 ⟨rfl,rfl⟩)
 ·rcases Û.mp W with rfl|h'
  ·exact Z
  ·exact X z h'
def oO (h:tx f env s N) (hn:N<=M):tx f env s M:=let ⟨y,e,t⟩:=h;⟨y,e,t.up hn⟩
def Om {zs:List Str} {r:Int} (hz:∀z∈zs,TO M z) (h0:0<=r) (h1:r<zs.length):∃z,TO M z/\ay (.lst (zs.map D.str)) (.int r) s=ok (.str z) s:=by
 obtain⟨d,Z,e⟩:=Oi (ds:=zs.map D.str) (s:=s) h0 (by rw[É];exact h1);obtain⟨z,Y,rfl⟩:=Č.mp Z;exact⟨z,hz z Y,e⟩
def Ah:List Str:=["made 0 3 01/2","made 1 30 -/-","mended 0 4 1","out made 0 1 0/1","out mended 0 2 0","undo","book"]
def Oo:List Str:=["surely 0 2","surely 3 30","where 0/-","where -/1","made 2 0 -/07","out made 0 1 -/-"]
def qI:List Str:=Ah++Oo
def Wh:∀z∈qI,(ώ (z.length<=20)&&Ó z&&ώ ((bs z).length<=6)&&Ó (aei z)&&ώ ((aei z).length<=60))=ό:=nofun
def ZT (h:z∈qI):TO 20 z/\(bs z).length<=6/\TO 60 (aei z):=by
 have:=Wh z h;erw[Å,Ë] at this;exact⟨⟨this.1.1.1.1,this.1.1.1.2⟩,this.1.1.2,⟨this.2,this.1.2⟩⟩
def qg (h:Sf s k) (h0:e0 env s=ok (.aj k) s) (hm:fm env s=ok (.int m) s) (h1:0<m) (h2:m<1073741824) (q:∀(r:Int) s',0<=r->r<m->Sf s' k->Ex k s s'->Q (.int r) s'):Wp (aG cD.j6 (af e0 (af fm ah)) env s) Q:=by
 rw[wp_call,aL];refine aeA h0 ?_;rw[aL];refine aeA hm ?_;rw[aP];refine(ZI h h1 h2).mono λd Z Y=>?_;obtain⟨r,rfl,X,W,g1,V⟩:=Y;exact q r Z X W g1 V
def XW (h:Sf s k):Wp (yJ [.aj k] s) λd s'=>∃z,z∈qI/\d=.str z/\Sf s' k/\Ex k s s':=by
 delta yJ;refine dO.symm ▸ ⟨rfl,aeC λR Z=>?_⟩;refine aeA (show bc (eC (.lst [.str "made 0 3 01/2",.str "made 1 30 -/-",.str "mended 0 4 1",.str "out made 0 1 0/1",.str "out mended 0 2 0",.str "undo",.str "book"])) (gN 1) [ϊ (.aj k),ϋ] s=ok (.nx [ϊ (.aj k),ϊ (.lst (Ah.map D.str))]) s from rfl) ?_;rw[bz];subst Z;refine aeC λR Z=>?_;have e:bc (e2 bh (aa 1) (fc (af (eC (.str "surely 0 2")) (af (eC (.str "surely 3 30")) (af (eC (.str "where 0/-")) (af (eC (.str "where -/1")) (af (eC (.str "made 2 0 -/07")) (af (eC (.str "out made 0 1 -/-")) ah)))))))) (gN 1) [ϊ (.aj k),ϊ (.lst (Ah.map D.str))] s=ok (.nx [ϊ (.aj k),ϊ (.lst (qI.map D.str))]) s:=by
  refine aeB ?_;rw[eG,bj];erw[aR,bx,j9,aL,aP,bA];refine⟨le_size (n:=6) (by decide),?_⟩;exact aeA (show bh (.lst (Ah.map D.str)) (.lst (Oo.map D.str)) s=ok (.lst (qI.map D.str)) s from rfl) ⟨_,rfl,rfl,rfl⟩
 refine aeA e ?_;rw[bz];subst Z;rw[bW,bj];erw[aR,bx];refine qg (m:=13) h rfl rfl (by decide) (by decide) λr Y X W g1 V=>?_;obtain⟨d,U,e⟩:=Oi (ds:=qI.map D.str) (s:=Y) X (by show r<13;exact W);obtain⟨z,T,rfl⟩:=Č.mp U;exact aeA e ⟨z,T,rfl,g1,V⟩
def rE:Str:=" !\"#$&'()*+,-./0123456789:;<=>?@ABCDEFGHIJKLMNOPQRSTUVWXYZ[\\]^_`abcdefghijklmnopqrstuvwxyz{|}~\t\n"
def SG:Str:=rE++adS "0123456789 -/" 2
def abd:(ώ (0<SG.length)&&ώ (SG.length<=200)&&Ó SG)=ό:=nofun
def acH:MulOk "0123456789 -/" 2:=⟨by decide,λ_ _=>by decide,λ_ _=>by decide +kernel⟩
def acI:MulOk "9" 30:=⟨by decide,λ_ _=>by decide,λ_ _=>by decide +kernel⟩
def acJ:MulOk "0" 30:=⟨by decide,λ_ _=>by decide,λ_ _=>by decide +kernel⟩
def acK:MulOk "7" 31:=⟨by decide,λ_ _=>by decide,λ_ _=>by decide +kernel⟩
def ZU:(ώ ((adS "9" 30).length<=30)&&Ó (adS "9" 30)&&(ώ ((adS "0" 30).length<=30)&&Ó (adS "0" 30))&&(ώ ((adS "7" 31).length<=31)&&Ó (adS "7" 31))&&(ώ ((adS "0123456789 -/" 2).length<=100)&&Ó (adS "0123456789 -/" 2)))=ό:=nofun
def Dd {r:Int} (hl:x.length<=1000) (h0:0<=r) (h1:r<x.length):∃c,c∈sg x/\ay (.str x) (.int r) s=ok (.str ⟨#[c]⟩) s:=by
 obtain⟨c,e1,e2⟩:=nB (xs:=sg x) h0 (by rw[<- jF];exact h1);refine⟨c,ű e2,?_⟩
 show bS (if ώ (x.length<=Õ)=ό then (cW (sg x) r).map λc=>D.str ⟨#[c]⟩ else ϋ) s=_
 rw[Ñ (È (le_size ⋯)),e1];rfl
def ZV (h:Ó x=ό) (hc:c∈sg x):TO 1 ⟨#[c]⟩:=⟨aeD _,j3.mpr λn Z=>by
 have:n=c:=by simpa using Z
 rw[this];exact j3.mp h c hc⟩
end
section
variable {s s':ae} {env:Env} {x y z sn:Str} {f g:aez D} {N M N' M':Nat} {fa:aez (List D)} {k:Nat} {at' way dP:Int} {ws:List Str}
abbrev oE (k:Nat) (x sn:Str) (at' way:Int) (ws:List Str) (dP:Int) (e8:Option D):Env:=[ϊ (.aj k),ϊ (.str x),ϊ (.str SG),ϊ (.str sn),ϊ (.int at'),ϊ (.int way),ϊ (.lst (ws.map D.str)),ϊ (.int dP),e8]
abbrev vc (k:Nat) (x y:Str):Env:=[ϊ (.aj k),ϊ (.str x),ϊ (.str y),ϋ,ϋ,ϋ,ϋ,ϋ,ϋ]
def wz (h:tx f env s N) (q:∀y,TO N y->Q (.str y) s):Wp (aA f env s) (fE R (o7 Q)):=by
 obtain⟨y,e,t⟩:=h;rw[bW];exact aeA e (q y t)
def plus:bh (.int i) (.int j) s=ok (.int (i+j)) s:=rfl
def pI (h:f env s=ok (.int i) s):cJ f env s=ok (ϊ i) s:=by
 delta cJ;rw[h];rfl
def tO (hf:f env s=ok (.int i) s) (hg:g env s=ok (.int j) s):cJ (e2 bh f g) env s=ok (ϊ (i+j)) s:=pI (aeB (by
 rw[bj];exact aeA hf (aeA hg (aeA plus ⟨rfl,rfl⟩))))
def wA (e:f env s=ok (.int way) s):aV (e2 aW f (eC (.int n))) env s=ok (way==n) s:=by
 refine aeB ?_;rw[eJ,bj];refine aeA e ?_;rw[bA,qp,cB];exact⟨rfl,rfl⟩
def ZW (e:f env s=ok (.int way) s):aV (e2 kB f (eC (.int n))) env s=ok (ώ (way<n)) s:=by
 refine aeB ?_;rw[eJ,bj];refine aeA e ?_;rw[bA,M6,cB];exact⟨rfl,rfl⟩
def Wi (h:Sf s k) (hx:x∈qI):Wp (yX [.aj k,.str x] s) λd s'=>∃y,d=.str y/\TO 1000 y/\Sf s' k/\Ex k s s':=by
 obtain⟨I,H,G⟩:=ZT hx;have lx:=I.len;have so:=abd;erw[Å,Ë] at so;obtain⟨⟨so1,so2⟩,F⟩:=so;delta yX;refine dO.symm ▸ ⟨rfl,aeC λR X=>?_⟩;refine aeA (show bc _ (gN 2) [ϊ (.aj k),ϊ (.str x),ϋ,ϋ,ϋ,ϋ,ϋ,ϋ,ϋ] s=ok (.nx (vc k x rE)) s from rfl) ?_;rw[bz];subst X;refine aeC λR X=>?_;have e1:bc (e2 bh (aa 2) (e2 fI (eC (.str "0123456789 -/")) (eC (.int 2)))) (gN 2) (vc k x rE) s=ok (.nx (vc k x SG)) s:=by
  refine aeB ?_;rw[eG,bj];refine aeA (show aa 2 (vc k x rE) s=ok (.str rE) s from rfl) ?_;refine aeA (show e2 fI (eC (.str "0123456789 -/")) (eC (.int 2)) (vc k x rE) s=ok (.str (adS "0123456789 -/" 2)) s from ?_) ?_
  ·show fI (.str "0123456789 -/") (.int 2) s=_
   delta fI;dsimp only;rw[Ñ acH]
  refine aeA (xI (x:=rE) (y:=adS "0123456789 -/" 2) (by rw[<- fH];show SG.length<=_;omega)) ⟨_,rfl,rfl,rfl⟩
 refine aeA e1 ?_;rw[bz];subst X;refine aeC λR X=>Wp.aa7 ?_;rw[aL,bj];refine aeA (show aa 2 (vc k x SG) s=ok (.str SG) s from rfl) ?_;refine qg (m:=SG.length) h rfl (aeB (by erw[c8,aL,aP,aR,bx];exact aeA (Fq ⋯) ⟨rfl,rfl⟩)) ⋯ ⋯ λr s1 U T g1 x1=>?_;obtain⟨c,hc,ec⟩:=Dd (s:=s1) (x:=SG) ⋯ U T;have ts:=ZV F hc;refine aeA ec ?_;generalize (⟨#[c]⟩:Str)=sn at ts;clear hc ec U T e1;rw[aL];refine qg (m:=(x.length:Int)+1) g1 rfl (aeB (by
  rw[bj];erw[c8,aL,aP,aR,bx];refine aeA (Fq ⋯) ?_;rw[bA];exact aeA plus ⟨rfl,rfl⟩)) ⋯ ⋯ λat' s2 a0 a1 g2 x2=>?_
 rw[aL];refine qg (m:=8) g2 rfl rfl (by decide) (by decide) λway s3 w0 w1 g3 x3=>?_;rw[aP];refine⟨_,_,_,rfl,?_⟩;have X3:=x1.trans (x2.trans x3);clear x1 x2 x3 g1 g2 h;show fE R _ (.nx [ϊ (.aj k),ϊ (.str x),ϊ (.str SG),ϊ (.str sn),ϊ (.int at'),ϊ (.int way),ϋ,ϋ,ϋ]) s3;rw[bz];subst X;refine aeC λR X=>?_;rw[eG];refine aeA (vL blank rfl ⋯) ?_;rw[gb];have E:∀z∈bs x,TO 20 z:=λz S=>⟨Ý (p6 (c:=32) S) lx,za (c:=32) S I.mV⟩;have C:0<(bs x).length:=by obtain⟨w,r,e⟩:=xh x;rw[e];simp
 show fE R _ (.nx [ϊ (.aj k),ϊ (.str x),ϊ (.str SG),ϊ (.str sn),ϊ (.int at'),ϊ (.int way),ϊ (.lst ((bs x).map D.str)),ϋ,ϋ]) s3;rw[bz];subst X;refine aeC λR X=>?_;rw[eG];refine qg (m:=(bs x).length) g3 rfl (aeB (by
  erw[c8,aL,aP,aR,bx];refine aeA (o9 (by rw[gP];omega)) ?_;rw[gP];exact⟨rfl,rfl⟩)) ⋯ ⋯ λdP Y p0 p1 B x4=>?_
 rw[gb];show fE R _ (.nx (oE k x sn at' way (bs x) dP ϋ)) Y;rw[bz];subst X;have A:=X3.trans x4;clear x4 X3 g3;generalize hE:bs x=ws at E C p1 H;have fin:∀{N:Nat} {y:Str},N<=1000->TO N y->∃y',D.str y=.str y'/\TO 1000 y'/\Sf Y k/\Ex k s Y:=λhN t=>⟨_,rfl,t.up hN,B,A⟩;have V:∀{Z},tx (aa 1) (oE k x sn at' way ws dP Z) Y 20:=λ{Z}=>Ag rfl I;have tS:∀{Z},tx (aa 3) (oE k x sn at' way ws dP Z) Y 1:=λ{Z}=>Ag rfl ts;have Q:∀{Z},oh (aa 6) (oE k x sn at' way ws dP Z) Y 6 20:=λ{Z}=>⟨ws,rfl,H,E⟩;have J:∀{Z},cJ (aa 4) (oE k x sn at' way ws dP Z) Y=ok (ϊ at') Y:=λ{Z}=>rfl;have O:∀{Z},cJ (aa 7) (oE k x sn at' way ws dP Z) Y=ok (ϊ dP) Y:=λ{Z}=>rfl;have P8:∀{Z},cJ (e2 bh (aa 7) (eC (.int 1))) (oE k x sn at' way ws dP Z) Y=ok (ϊ (dP+1)) Y:=λ{Z}=>tO rfl rfl;refine aeC λR X=>dq (ZW rfl) ?_;by_cases c1:way<2
 ·rw[È c1,Ñ rfl]
  exact wz (jG (jG (qH (lo:=ϋ) V rfl J (by decide)) tS (by decide)) (qH (hi:=ϋ) V (tO rfl rfl) rfl (by decide)) (by decide)) λy t=>fin (by decide) t
 rw[Ì c1,Ú Ä,dD,bz];subst X;refine aeC λR X=>dq (wA rfl) ?_;by_cases c2:(way==2)=ό
 ·rw[Ñ c2]
  exact wz (jG (qH (lo:=ϋ) V rfl J (by decide)) (qH (hi:=ϋ) V (tO rfl rfl) rfl (by decide)) (by decide)) λy t=>fin (by decide) t
 rw[Ú c2,dD,bz];subst X;refine aeC λR X=>dq (wA rfl) ?_;by_cases c3:(way==3)=ό
 ·rw[Ñ c3]
  exact wz (jG (jG (qH (lo:=ϋ) V rfl J (by decide)) (ZS (qH V J (tO rfl rfl) (by decide)) (by decide)) (by decide)) (qH (hi:=ϋ) V (tO rfl rfl) rfl (by decide)) (by decide)) λy t=>fin (by decide) t
 rw[Ú c3,dD,bz];subst X;refine aeC λR X=>dq (wA rfl) ?_;by_cases c4:(way==4)=ό
 ·rw[Ñ c4]
  exact wz (Mn (C0 (qt (lo:=ϋ) Q rfl O) (qt (hi:=ϋ) Q P8 rfl) (by decide)) (by decide) (by decide)) λy t=>fin (by decide) t
 rw[Ú c4,dD,bz];subst X;refine aeC λR X=>dq (wA rfl) ?_;by_cases c5:(way==5)=ό
 ·rw[Ñ c5]
  exact wz (Mn (C0 (C0 (qt (lo:=ϋ) Q rfl O) (qt Q O P8) (by decide)) (qt (hi:=ϋ) Q O rfl) (by decide)) (by decide) (by decide)) λy t=>fin (by decide) t
 rw[Ú c5,dD,bz];subst X;refine aeC λR X=>dq (wA rfl) ?_;by_cases c6:(way==6)=ό
 ·rw[Ñ c6]
  have mt:=ZU;erw[Å,Ë] at mt;obtain⟨⟨⟨m9,m0⟩,m7⟩,-⟩:=mt;have t9:∀{Z},tx (e2 fI (eC (.str "9")) (eC (.int 30))) (oE k x sn at' way ws dP Z) Y 33:=λ{Z}=>DN acI ⟨by omega,m9.2⟩;have t0:∀{Z},tx (e2 fI (eC (.str "0")) (eC (.int 30))) (oE k x sn at' way ws dP Z) Y 30:=λ{Z}=>DN acJ ⟨m0.1,m0.2⟩;have t7:∀{Z},tx (e2 fI (eC (.str "7")) (eC (.int 31))) (oE k x sn at' way ws dP Z) Y 31:=λ{Z}=>DN acK ⟨m7.1,m7.2⟩;have W:∀{N:Nat} {u:Str} {Z},(ώ (u.length<=N)&&Ó u)=ό->tx (eC (.str u)) (oE k x sn at' way ws dP Z) Y N:=λ{N u Z} h=>Ag rfl (by erw[Å,Ë] at h;exact⟨h.1,h.2⟩);obtain⟨zs,v,L,S⟩:u9 (af (e2 fI (eC (.str "9")) (eC (.int 30))) (af (e2 bh (eC (.str "1")) (e2 fI (eC (.str "0")) (eC (.int 30)))) (af (eC (.str "-0")) (af (eC (.str "07")) (af (eC (.str "+1")) (af (eC (.str "")) (af (eC (.str "-")) (af (eC (.str "0/1")) (af (eC (.str "0/")) (af (eC (.str "/")) (af (eC (.str "0/1/2")) ah))))))))))) (oE k x sn at' way ws dP ϋ) Y 11 33 :=
   fF t9 (fF (oO (jG (W (N:=1) nofun) t0 (by decide)) (by decide)) (fF (W nofun) (fF (W nofun) (fF (W nofun) (fF (W nofun) (fF (W nofun) (fF (W nofun) (fF (W nofun) (fF (W nofun) (fF (W nofun) C3))))))))))
  refine aeC λq p=>?_;rw[eG,j9];refine aeA v ⟨le_size (by rw[É,L];decide),?_⟩;rw[gb];show fE q _ (.nx (oE k x sn at' way ws dP (ϊ (.lst (zs.map D.str))))) Y;rw[bz];subst p;refine aeC λq p=>?_;obtain⟨P,o,nu,hu⟩:u9 (af (e2 bh (e2 fI (eC (.str "7")) (eC (.int 31))) (eC (.str "/-"))) (af (e2 bh (eC (.str "-/")) (e2 fI (eC (.str "0")) (eC (.int 30)))) ah)) (oE k x sn at' way ws dP (ϊ (.lst (zs.map D.str)))) Y 2 33 :=
   fF (oO (jG t7 (W (N:=2) nofun) (by decide)) (by decide)) (fF (oO (jG (W (N:=2) nofun) t0 (by decide)) (by decide)) C3)
  rw[eG,bj];refine aeA (show aa 8 (oE k x sn at' way ws dP (ϊ (.lst (zs.map D.str)))) Y=ok (.lst (zs.map D.str)) Y from rfl) ?_;rw[j9];refine aeA o ⟨le_size (by rw[É,nu];decide),?_⟩;have l:∀{s:ae} {a b:List Str},a.length+b.length<=1000->bh (.lst (a.map D.str)) (.lst (b.map D.str)) s=ok (.lst ((a++b).map D.str)) s:=λ{s a b} hl=>by
   show bS (if oU (a.map D.str) (b.map D.str)=ό then ϊ (D.lst (a.map D.str++b.map D.str)) else ϋ) s=_
   rw[Ñ (show oU (a.map D.str) (b.map D.str)=ό from È (le_size (by rw[É,É];omega))),ħ];rfl
  refine aeA (l ⋯) ?_;rw[gb];show fE q _ (.nx (oE k x sn at' way ws dP (ϊ (.lst ((zs++P).map D.str))))) Y;rw[bz];subst p;obtain⟨j,ea,na,ta⟩:oh (gn (aa 6) fk (cJ (aa 7))) (oE k x sn at' way ws dP (ϊ (.lst ((zs++P).map D.str)))) Y 6 20:=qt (lo:=ϋ) Q rfl O;rw[bW,sY rfl,bj,bj];refine aeA ea ?_;rw[j9,aL,bj];refine aeA (show aa 8 (oE k x sn at' way ws dP (ϊ (.lst ((zs++P).map D.str)))) Y=ok (.lst ((zs++P).map D.str)) Y from rfl) ?_;refine qg (m:=13) B rfl rfl (by decide) (by decide) λr s5 U T i g=>?_;obtain⟨u,f,eu'⟩:=Om (s:=s5) (zs:=zs++P) (M:=33) (λz h=>(ó.mp h).elim (S z) (hu z)) U (by rw[ä,L,nu];exact T);refine aeA eu' ?_;rw[aP];refine⟨le_size (n:=1) (by decide),?_⟩;refine aeA (l (b:=[u]) (by simp;omega)) ?_;obtain⟨vb,eb,nb,tb⟩:oh (gn (aa 6) (cJ (e2 bh (aa 7) (eC (.int 1)))) fk) (oE k x sn at' way ws dP (ϊ (.lst ((zs++P).map D.str)))) s5 6 20:=qt (hi:=ϋ) (lo:=ϊ (dP+1)) ⟨ws,rfl,H,E⟩ (tO rfl rfl) rfl;refine aeA eb (aeA (l (by simp;omega)) ?_);have nM:∀z∈j++[u]++vb,TO 33 z:=λz h=>by
   rcases ó.mp h with h|h
   ·rcases ó.mp h with h|h
    ·exact(ta z h).up (by decide)
    ·rw[Đ.mp h];exact f
   ·exact(tb z h).up (by decide)
  have K:(j++[u]++vb).length<=13:=by simp;omega
  refine aeA (xc nofun ⋯ λz h=>by have:=(nM z h).len;omega) ?_;have hj:=zc (y:=" ") λz h=>(nM z h).len;rw[show (" ":Str).length=1 from rfl] at hj;have hle:(j++[u]++vb).length*(33+1)<=13*34:=ad7 _ K;exact⟨_,rfl,⟨by omega,vM nofun λz h=>(nM z h).mV⟩,i,A.trans g⟩
 rw[Ú c6,dD,bz];subst X;have W:∀{N:Nat} {u:Str},(ώ (u.length<=N)&&Ó u)=ό->tx (eC (.str u)) (oE k x sn at' way ws dP ϋ) Y N:=λ{N u} h=>Ag rfl (by erw[Å,Ë] at h;exact⟨h.1,h.2⟩);obtain⟨zs,v,L,S⟩:u9 (af (e2 bh (aa 1) (eC (.str " 1"))) (af (e2 bh (eC (.str " ")) (aa 1)) (af (e2 bh (aa 1) (eC (.str " "))) (af (e2 bh (aa 1) (eC (.str "\n"))) (af (e1 A7 (aa 1)) (af (eC (.str "")) (af (eC (.str "out")) (af (e2 bh (eC (.str "out ")) (aa 1)) ah)))))))) (oE k x sn at' way ws dP ϋ) Y 8 60 :=
  fF (oO (jG V (W (N:=2) nofun) (by decide)) (by decide)) (fF (oO (jG (W (N:=1) nofun) V (by decide)) (by decide)) (fF (oO (jG V (W (N:=1) nofun) (by decide)) (by decide)) (fF (oO (jG V (W (N:=1) nofun) (by decide)) (by decide)) (fF ⟨aei x,by
   show (if (ώ (x.length<=5592405))=ό then ok (D.str (aei x)) Y else ϋ)=_
   rw[Ñ (È ⋯)],G⟩ (fF (W nofun) (fF (W nofun) (fF (oO (jG (W (N:=4) nofun) V (by decide)) (by decide)) C3)))))))
 rw[bW,bj,j9];refine aeA v ⟨le_size (by rw[É,L];decide),?_⟩;refine qg (m:=8) B rfl rfl (by decide) (by decide) λr s5 U T i g=>?_;obtain⟨u,f,o⟩:=Om (s:=s5) S U (by rw[L];exact T);exact aeA o ⟨u,rfl,f.up (by decide),i,A.trans g⟩
end
section
variable {s s':ae} {env:Env} {x y z:Str} {book dY:List Pg} {aN cC:List (List Pg)} {k a d b a2 d2 b2:Nat} {f g:aez D} {fa:aez (List D)}
def Sf.Hh (h:Sf s k) (x:Ex b s s') (kb:k≠b):Sf s' k:=by
 obtain⟨i,c,e,r⟩:=h;exact⟨i,c,x.get e kb,r⟩
def sL {i j:Nat} (h1:s[i]?=ϊ c1) (h2:s[j]?=ϊ c2) (h:c1=c2->False):i≠j:=λe=>by
 rw[e,h2] at h1;exact h (aeE h1).symm
def Ds.P9 (h:Ds s a d b aN book) (x:Ex k s s') (st:Sf s k) (kb:k≠b):Ds s' a d b aN book:=by
 obtain⟨i,c,e,r⟩:=st;exact⟨x.get h.hd (sL h.hd e (by intro z;cases z)),h.di.ex x (sL h.di.ha e (by intro z;cases z)) (ź kb)⟩
def Ds.Hh (h:Ds s a2 d2 b2 cC dY) (G:Ds s a d b aN book) (x:Ex b s s') (bb:b2≠b):Ds s' a2 d2 b2 cC dY :=
 ⟨x.get h.hd (sL h.hd G.di.hb (by intro z;cases z)),h.di.ex x (sL h.di.ha G.di.hb (by intro z;cases z)) bb⟩
structure In (s:ae) (k a d b a2 d2 b2:Nat) (aN:List (List Pg)) (book:List Pg):Prop where
 tb:s[0]?=ϊ (.tb "law")
 st:Sf s k
 d1:Ds s a d b aN book
 d2:Ds s a2 d2 b2 [] []
 kb:k≠b
 kb2:k≠b2
 bb:b2≠b
def In.draw (h:In s k a d b a2 d2 b2 aN book) (x:Ex k s s') (st:Sf s' k):In s' k a d b a2 d2 b2 aN book:=by
 obtain⟨i,c,e,r⟩:=id h.st;exact⟨x.get h.tb (sL h.tb e (by intro z;cases z)),st,h.d1.P9 x h.st h.kb,h.d2.P9 x h.st h.kb2,h.kb,h.kb2,h.bb⟩
def In.O5 (h:In s k a d b a2 d2 b2 aN book) (x:Ex b s s') (G:Ds s' a d b cC dY):In s' k a d b a2 d2 b2 cC dY :=
 ⟨x.get h.tb (sL h.tb h.d1.di.hb (by intro z;cases z)),h.st.Hh x h.kb,G,h.d2.Hh h.d1 x h.bb,h.kb,h.kb2,h.bb⟩
def ED (hd:s[a]?=ϊ (.ins "Desk" [("diary",.aj d)])) (he:f env s=ok (.aj a) s) (hf:fa env s=ok ds s):eR "Desk" "say" fn f fa env s=fn (.aj a::ds) s:=by
 have e:jj "Desk" (.aj a) s=ϊ (a,([("diary",.aj d)]:List (Str×D))):=by
  delta jj;dsimp only;rw[hd];dsimp only;rw[Ñ (È rfl)]
 delta eR;rw[he,bU,e];dsimp only;rw[Ñ (by rfl),hf,bU]
def AE (hd:s[a]?=ϊ (.ins "Desk" [("diary",.aj d)])) (he:f env s=ok (.aj a) s) (hf:fa env s=ok [v] s) (h:fS [.aj a,v] s=ok r s'):oy "Desk" "say" fS f fa env s=ok r s':=by
 refine(ED hd he hf).trans ?_;rw[h];rfl
def nq (h0:s[0]?=ϊ (.tb "law")) (ht:nI env caps=ϊ ds) (h:hU .au (fb (ds.map ϊ)) [.au] s=ok r s'):mC "law" caps fb hU env s=ok r s':=by
 delta mC;rw[ht];dsimp only;rw[h0];dsimp only;rw[Ñ (È rfl),h];rfl
abbrev pb:aez D:=eR "Desk" "say" fS (aa 1) (af (aa 0) ah)
def O6:List Int:=[2,13,14,4,5,1]
def XX (h:In s k a d b a2 d2 b2 aN book) (hn:aN.length<500) (tx:TO 1000 x) (ht:nI env caps=ϊ [.str x,.aj a]) :
  (il (bs x)=ύ/\mC "law" caps pb hU env s=ok (.tup [.str "refused",.int 16]) s)\/(il (bs x)=ό/\((∃y s' cC dY,Ó y=ό/\mC "law" caps pb hU env s=ok (.tup [.str "told",.str y]) s'/\In s' k a d b a2 d2 b2 cC dY/\cC.length<=aN.length+1)\/∃i,i∈O6/\mC "law" caps pb hU env s=ok (.tup [.str "refused",.int i]) s)):=by
 have em:pb [ϊ (.str x),ϊ (.aj a)] s=fS [.aj a,.str x] s:=ED h.d1.hd rfl rfl
 cases Y:il (bs x) with
 |false =>
  refine .inl ⟨rfl,nq h.tb ht (eI (c:="NoRow") (n:=16) (m:=ϋ) ∅ ?_)⟩;show pb [ϊ (.str x),ϊ (.aj a)] s=_;rw[em];exact Nr (by rw[zb tx.len tx.mV,Y,Ú Ä])
 |true =>
  refine .inr ⟨rfl,?_⟩
  rcases XU h.d1 hn tx.len tx.mV Y with ⟨y,s',cC,dY,W,e,G,V,U⟩ | ⟨c,X,e⟩
  ·refine .inl ⟨y,s',cC,dY,W,nq h.tb ht (DE ?_),h.O5 U G,V⟩
   show pb [ϊ (.str x),ϊ (.aj a)] s=_;rw[em,e]
  ·have Z:pb (([.str x,.aj a]:List D).map ϊ) s=ϊ (.error ⟨c,ϋ⟩,s):=em.trans e
   erw[xN,Û,ć,or_false] at X
   rcases X with rfl|rfl|rfl|rfl|rfl|rfl
   ·exact .inr ⟨2,by decide,nq h.tb ht (eI ∅ Z)⟩
   ·exact .inr ⟨13,by decide,nq h.tb ht (eI ∅ Z)⟩
   ·exact .inr ⟨14,by decide,nq h.tb ht (eI ∅ Z)⟩
   ·exact .inr ⟨4,by decide,nq h.tb ht (eI ∅ Z)⟩
   ·exact .inr ⟨5,by decide,nq h.tb ht (eI ∅ Z)⟩
   ·exact .inr ⟨1,by decide,nq h.tb ht (eI ∅ Z)⟩
def XY (hy:Ó y=ό):aW (.tup [.str "told",.str y]) (.tup [.str "refused",.int 16]) s=ok (.bl ύ) s:=by
 have Z:Ó "told"=ό:=nofun
 have Y:Ó "refused"=ό:=nofun
 delta aW ki;rw[show res (.tup [.str "told",.str y]) s=.tup [.str "told",.str y] from rfl,show res (.tup [.str "refused",.int 16]) s=.tup [.str "refused",.int 16] from rfl,Ú (by simp[pK]),Ñ (by simp[lay,cQ,Z,Y,hy,dep,fL])];have:beq (.tup [.str "told",.str y]) (.tup [.str "refused",.int 16])=ύ:=by
  show (beq (.str "told") (.str "refused")&&(beq (.str y) (.int 16)&&ό))=ύ;rw[show beq (.str "told") (.str "refused")=ύ by decide +kernel,Ŭ]
 rw[this]
def DO:aW (.tup [.str "refused",.int i]) (.tup [.str "refused",.int 16]) s=ok (.bl (i==16)) s:=by
 have Z:Ó "refused"=ό:=nofun
 delta aW ki;rw[show res (.tup [.str "refused",.int i]) s=.tup [.str "refused",.int i] from rfl,show res (.tup [.str "refused",.int 16]) s=.tup [.str "refused",.int 16] from rfl,Ú (by simp[pK]),Ñ (by simp[lay,cQ,Z,dep,fL])];have:beq (.tup [.str "refused",.int i]) (.tup [.str "refused",.int 16])=(i==16):=by
  show (beq (.str "refused") (.str "refused")&&(beq (.int i) (.int 16)&&ό))=_;rw[show beq (.str "refused") (.str "refused")=ό by decide +kernel,ú,ad8];rfl
 rw[this]
def ZX:dZ (.tup [.str "refused",.int 16]) (.tup [.str "refused",.int 16]) s=ok (.bl ύ) s:=by
 have e:=DO (s:=s) (i:=16);delta aW at e;delta dZ
 cases h:ki (res (.tup [.str "refused",.int 16]) s) (res (.tup [.str "refused",.int 16]) s) with
 |none=>rw[h] at e;cases e
 |some c =>
  rw[h] at e
  have:c=ό:=by injection e with e;injection e with e1 e2;injection e1 with e1;injection e1
  rw[this];rfl
abbrev lE (sc:D) (i:Int) (k a a2:Nat) (e5 e6 e7 e8 e9:Option D):Env:=[ϊ sc,ϊ (.int i),ϊ (.aj k),ϊ (.aj a),ϊ (.aj a2),e5,e6,e7,e8,e9]
def acL:dZ (.bl u) (.bl v) s=ok (.bl (u != v)) s:=by cases u<;>cases v<;>rfl
variable {sc:D} {i:Int} {e5 e6 e7 e8 e9:Option D} {Q:Fl->ae->Prop}
def Cm (h:In s k a d b a2 d2 b2 aN book) (ty:TO 1000 y) (e1:aW (.tup [.str r0,v]) (.tup [.str "refused",.int 16]) s=ok (.bl c) s) (hc:il (bs y)=!c) (h0:r0="told"\/r0="refused"/\B=book)
 (q:Q (.nx (lE sc i k a a2 (ϊ (.str y)) e6 (ϊ (.str (gZ B))) (ϊ (.tup [.str r0,v])) e9)) s):Wp (Em (lE sc i k a a2 (ϊ (.str y)) e6 (ϊ (.str (gZ B))) (ϊ (.tup [.str r0,v])) e9) s) Q:=by
 have Y:¬ r0="other":=λe=>by
  rcases h0 with e'|e'
  ·rw[e] at e';revert e';decide +kernel
  ·have:=e'.1;rw[e] at this;revert this;decide +kernel
 have Z:e2 ay (aa 8) (eC (.int 0)) (lE sc i k a a2 (ϊ (.str y)) e6 (ϊ (.str (gZ B))) (ϊ (.tup [.str r0,v])) e9) s=ok (.str r0) s:=rfl;delta Em;refine aeC λR X=>dq (b:=ύ) (s':=s) (aeB ?_) ?_
 ·rw[kc,eJ,bj,bj]
  refine aeA (show aa 8 (lE sc i k a a2 (ϊ (.str y)) e6 (ϊ (.str (gZ B))) (ϊ (.tup [.str r0,v])) e9) s=ok (.tup [.str r0,v]) s from rfl) ?_;erw[iD,aL,aP,bA];refine⟨le_size (n:=2) (by decide),aeA e1 ?_⟩;rw[LQ,wp_call,aL];refine aeA (show aa 5 (lE sc i k a a2 (ϊ (.str y)) e6 (ϊ (.str (gZ B))) (ϊ (.tup [.str r0,v])) e9) s=ok (.str y) s from rfl) ?_;rw[aP];refine aeA (V8 ty.len ty.mV) ?_;rw[hc,cB,Bool.not_not];refine aeA acL ?_
  rw[cB,show (c != c)=ύ by cases c<;>rfl,Ú Ä]
  refine aeA (dH Z) ?_;rw[Ì Y];exact⟨rfl,rfl⟩
 rw[Ú Ä,dD,bz];subst X;refine dq (b:=ύ) (s':=s) (aeB ?_) ?_
 ·rw[CK,eJ,bj]
  refine aeA Z ?_;rw[bA];refine aeA AB ?_;rw[cB]
  rcases h0 with rfl | ⟨rfl,W⟩
  ·rw[show (!ώ (("told":Str)="told"))=ύ by decide +kernel,Ú Ä]
   exact⟨rfl,rfl⟩
  ·rw[show (!ώ (("refused":Str)="told"))=ό by decide +kernel,Ñ rfl,eJ,bj]
   refine aeA (AE h.d1.hd rfl rfl (Ck h.d1)) ?_;refine aeA (show aa 7 (lE sc i k a a2 (ϊ (.str y)) e6 (ϊ (.str (gZ B))) (ϊ (.tup [.str "refused",v])) e9) s=ok (.str (gZ B)) s from rfl) ?_;refine aeA AB ?_;rw[cB,W,È rfl];exact⟨rfl,rfl⟩
 ·rw[Ú Ä,dD]
  exact q
def Wj (h:In s k a d b a2 d2 b2 aN book) (hn:aN.length<500) (q:∀e5 e7 e8 s' cC dY,In s' k a d b a2 d2 b2 cC dY->cC.length<=aN.length+1->Q (.nx (lE sc i k a a2 e5 e6 e7 e8 e9)) s'):Wp (Dz (lE sc i k a a2 e5 e6 e7 e8 e9) s) Q:=by
 delta Dz;refine aeC λR Y=>?_;rw[eG,iD,aL,wp_call,aL];refine aeA (show aa 2 (lE sc i k a a2 e5 e6 e7 e8 e9) s=ok (.aj k) s from rfl) ?_;rw[aL,wp_call,aL];refine aeA (show aa 2 (lE sc i k a a2 e5 e6 e7 e8 e9) s=ok (.aj k) s from rfl) ?_;rw[aP];refine(XW h.st).mono λN H hd=>?_;obtain⟨z,W,rfl,V,U⟩:=hd;rw[aP];refine(Wi V W).mono λN T hd=>?_;obtain⟨y,rfl,ty,S,P⟩:=hd;have Z:=h.draw (U.trans P) S;clear h V S U P W;rw[aL];refine aeA (AE (env:=lE sc i k a a2 e5 e6 e7 e8 e9) Z.d1.hd rfl rfl (Ck Z.d1)) ?_;rw[aP];refine⟨le_size (n:=2) (by decide),lE sc i k a a2 (ϊ (.str y)) e6 (ϊ (.str (gZ book))) e8 e9,rfl,?_⟩;rw[bz];subst Y;refine aeC λR Y=>?_;rw[eG]
 rcases XX (env:=lE sc i k a a2 (ϊ (.str y)) e6 (ϊ (.str (gZ book))) e8 e9) (caps:=[5,3]) Z hn ty rfl with ⟨X,e⟩ | ⟨X,⟨M,L,cC,dY,ky,e,O,K⟩ | ⟨j,J,e⟩⟩
 ·refine aeA e ?_
  rw[gb];show fE R _ (.nx (lE sc i k a a2 (ϊ (.str y)) e6 (ϊ (.str (gZ book))) (ϊ (.tup [.str "refused",.int 16])) e9)) T;rw[bz];subst Y;exact Cm (c:=ό) Z ty DO X (.inr ⟨rfl,rfl⟩) (q _ _ _ _ _ _ Z ⋯)
 ·refine aeA e ?_
  rw[gb];show fE R _ (.nx (lE sc i k a a2 (ϊ (.str y)) e6 (ϊ (.str (gZ book))) (ϊ (.tup [.str "told",.str M])) e9)) L;rw[bz];subst Y;exact Cm (c:=ύ) O ty (XY ky) X (.inl rfl) (q _ _ _ _ _ _ O K)
 ·refine aeA e ?_
  rw[gb];show fE R _ (.nx (lE sc i k a a2 (ϊ (.str y)) e6 (ϊ (.str (gZ book))) (ϊ (.tup [.str "refused",.int j])) e9)) T;rw[bz];subst Y;have I:(j==16)=ύ:=by
   have:∀j∈O6,(j==16)=ύ:=by decide
   exact this j J
  exact Cm (c:=ύ) Z ty (by rw[DO,I]) X (.inr ⟨rfl,rfl⟩) (q _ _ _ _ _ _ Z ⋯)
def rws:List Str:=["made 0 1 0/1","mended 0 2 0","made 0 3 1/0"]
def lW:Nat->List Pg
 |0=>[]
 |n+1=>ST.dA cw (lW n++[jP (bs (rws.getD n ""))])
def okN (n:Nat):Bool:=match bs (rws.getD n "") with
 |w::r=>(ώ (w="made")||ώ (w="mended"))&&fq (w::r)&&dX (jP (w::r))&&dG (ST.dA cw (lW n++[jP (w::r)]))&&ώ ((rws.getD n "").length<=1000)&&Ó (rws.getD n "")
 | []=>ύ
def ZY:(è 3).all okN=ό:=nofun
def SN (hn:n<3) (h:In s k a d b a2 d2 b2 aN (lW n)) (hl:aN.length<=n) (q:∀s' cC,In s' k a d b a2 d2 b2 cC (lW (n+1))->cC.length<=n+1->Q (.nx (lE sc i k a a2 (ϊ (.str (rws.getD n ""))) e6 e7 e8 e9)) s'):Wp (Dy (lE sc i k a a2 (ϊ (.str (rws.getD n ""))) e6 e7 e8 e9) s) Q:=by
 have Z:okN n=ό:=ô.mp ZY n (Ċ.mpr hn);obtain⟨w,r,Y⟩:=xh (rws.getD n "");delta okN at Z;rw[Y] at Z;erw[Å,aef,Ë] at Z;obtain⟨⟨⟨⟨⟨X,W⟩,V⟩,U⟩,T⟩,S⟩:=Z;obtain⟨s',e,G,x⟩:=Wf h.d1 ⋯ T S Y X W V U;delta Dy;rw[pW];refine aeA (AE (env:=lE sc i k a a2 (ϊ (.str (rws.getD n ""))) e6 e7 e8 e9) h.d1.hd rfl rfl e) (q s' (aN++[lW n]) ?_ (by rw[ä];show aN.length+1<=n+1;omega));have:lW (n+1)=ST.dA cw (lW n++[jP (w::r)]):=by show ST.dA cw (lW n++[jP (bs (rws.getD n ""))])=_;rw[Y]
 rw[this];exact h.O5 x G
def Hi:List D:=[.au,.int 0,.lst [.str "book"],.tup [.str "book"],.bl ό,.cy []]
def SO (hv:v∈Hi) (h:In s k a d b a2 d2 b2 aN book) (q:Q (.nx (lE sc i k a a2 e5 e6 e7 e8 (ϊ v))) s):Wp (DA (lE sc i k a a2 e5 e6 e7 e8 (ϊ v)) s) Q:=by
 have Z:gR [v,.ty "str"] s=ok (.bl ύ) s:=by
  erw[Hi,Û,ć,or_false] at hv
  rcases hv with rfl|rfl|rfl|rfl|rfl|rfl<;>rfl
 have em:mC "law" [9,3] pb hU (lE sc i k a a2 e5 e6 e7 e8 (ϊ v)) s=ok (.tup [.str "refused",.int 16]) s:=by
  refine nq (ds:=[v,.aj a]) h.tb rfl (eI (c:="NoRow") (n:=16) (m:=ϋ) ∅ ?_);exact(ED (env:=[ϊ v,ϊ (.aj a)]) (ds:=[v]) h.d1.hd rfl rfl).trans (Nr (Uy Z))
 delta DA;refine dq (b:=ύ) (s':=s) (aeB ?_) ?_
 ·rw[eJ,bj]
  refine aeA em ?_;erw[iD,aL,aP,bA];refine⟨le_size (n:=2) (by decide),aeA ZX ?_⟩;rw[cB];exact⟨rfl,rfl⟩
 ·rw[Ú Ä,dD]
  exact q
def Uz {c1:Nat} {ns:List Int} (g0:s[0]?=ϊ (.tb "law")) (q:∀e2 e3 e4 e5 e6 e7 e8 e9 s',s'[0]?=ϊ (.tb "law")->Q (.nx [ϊ (.bO ns),ϊ (.int c1),e2,e3,e4,e5,e6,e7,e8,e9]) s'):Wp (DB [ϊ (.bO ns),ϊ (.int c1),f2,f3,f4,f5,f6,f7,f8,f9] s) Q:=by
 delta DB;refine aeC λR W=>?_;rw[eG];erw[wp_call,aL,aP,aR,bx];refine(XC (ns:=ns) (i:=(c1:Int)) (s:=s) ⋯).mono λV s1 hd=>?_;obtain⟨rfl,U,T,rfl⟩:=hd;rw[gb];have g1:(s++[T])[0]?=ϊ (.tb "law"):=by rw[ç (Ô.mp g0).1];exact g0
 have u:s.length<(s++[T]).length:=by simp
 show fE R _ (.nx [ϊ (.bO ns),ϊ (.int c1),ϊ (.aj s.length),f3,f4,f5,f6,f7,f8,f9]) (s++[T]);rw[bz];subst W;generalize s++[T]=Y at U g1 u;generalize s.length=k at U u;clear g0;refine aeC λR W=>?_;rw[eG,iD,aL];obtain⟨X,r,S,P,O,K⟩:=JT (env:=[ϊ (.bO ns),ϊ (.int c1),ϊ (.aj k),f3,f4,f5,f6,f7,f8,f9]) (s:=Y);refine aeA r ?_;rw[aL];obtain⟨N,p,d2,b2,o,J⟩:=JT (env:=[ϊ (.bO ns),ϊ (.int c1),ϊ (.aj k),f3,f4,f5,f6,f7,f8,f9]) (s:=Y++X);refine aeA p ?_;rw[aP];refine⟨le_size (n:=2) (by decide),lE (.bO ns) c1 k Y.length (Y++X).length f5 f6 f7 f8 f9,rfl,?_⟩;rw[bz];subst W;have I:Kp Y (Y++X++N):=by rw[Ĳ];exact Kp.app _ _
 have H:Kp (Y++X) (Y++X++N):=Kp.app _ _;have G:=(Ô.mp O.di.hb).1;have M:In (Y++X++N) k Y.length S P (Y++X).length d2 b2 [] (lW 0):=by
  refine⟨I.get g1,I.sf U,⟨H.get O.hd,O.di.kp H⟩,o,by omega,?_,by omega⟩;have:Y.length<=(Y++X).length:=by simp
  omega
 generalize Y++X++N=l at M;generalize (Y++X).length=a2 at M;generalize Y.length=a at M;clear I H G O o r p U g1 K J;refine aeC λR W=>?_;rw[sH];refine aeA (ni (ds:=rws.map D.str) (s1:=l) (aeB (by
  erw[j9,aL,aP,bA];exact⟨le_size (n:=3) (by decide),rfl,trivial⟩))) ?_
 refine Wp.qR (λt env s'=>∃e5 cC,In s' k a S P a2 d2 b2 cC (lW t)/\cC.length<=t/\env=lE (.bO ns) c1 k a a2 e5 f6 f7 f8 f9) _ ⟨_,_,M,by simp,rfl⟩ (λt V env s' hd Z=>?_) (λenv s' Z=>?_)
 ·obtain⟨e5,cC,Z,L,rfl⟩:=Z
  have m:t<3:=by have:=(Ô.mp hd).1;simpa [rws] using this
  have j:V=.str (rws.getD t ""):=by
   rw[ê] at hd;obtain⟨z,h,rfl⟩:=adJ.mp hd;rw[List.getD_eq_getElem?_getD,h];rfl
  subst j;refine⟨lE (.bO ns) c1 k a a2 (ϊ (.str (rws.getD t ""))) f6 f7 f8 f9,rfl,?_⟩;exact SN m Z L λg F E C=>⟨_,_,E,C,rfl⟩
 obtain⟨e5,B,Z,L,rfl⟩:=Z;have L:B.length<=3:=L;generalize lW (rws.map D.str).length=f at Z;subst W;refine aeC λR W=>?_;rw[sH];refine aeA (mj (n:=20) rfl (by decide)) ?_;refine Wp.qR (λt env s'=>∃e5 e6 e7 e8 cC dY,In s' k a S P a2 d2 b2 cC dY/\(t<=20->cC.length<=t+3)/\env=lE (.bO ns) c1 k a a2 e5 e6 e7 e8 f9) _ ⟨_,_,_,_,_,_,Z,λ_=>by omega,rfl⟩ (λt V env s' hd Z=>?_) (λenv s' Z=>?_)
 ·obtain⟨e5,e6,e7,e8,cC,dY,Z,C,rfl⟩:=Z
  rw[sE] at hd;split at hd
  ·rename_i m
   cases hd;have c:=C ⋯;refine⟨lE (.bO ns) c1 k a a2 e5 (ϊ (.int (0+(t:Int)))) e7 e8 f9,rfl,?_⟩;exact Wj Z ⋯ λe5 e7 e8 g F e E d=>⟨_,_,_,_,_,_,E,λ_=>by omega,rfl⟩
  ·cases hd
 obtain⟨A,e6,e7,e8,y,x,w,-,rfl⟩:=Z;subst W;refine aeC λR W=>?_;rw[sH];refine aeA (ni (ds:=Hi) (s1:=s') (aeB (by
  erw[j9,iD,aL,aP,bA];exact⟨le_size (n:=1) (by decide),le_size (n:=1) (by decide),le_size (n:=6) (by decide),rfl,trivial⟩))) ?_
 refine Wp.qR (λt env s'=>∃e9,In s' k a S P a2 d2 b2 y x/\env=lE (.bO ns) c1 k a a2 A e6 e7 e8 e9) _ ⟨_,w,rfl⟩ (λt V env s' hd Z=>?_) (λenv s' Z=>?_)
 ·obtain⟨e9,Z,rfl⟩:=Z
  refine⟨lE (.bO ns) c1 k a a2 A e6 e7 e8 (ϊ V),rfl,?_⟩;exact SO (ű hd) Z ⟨_,Z,rfl⟩
 obtain⟨e9,v,rfl⟩:=Z;subst W;refine dq (b:=ύ) (s':=s') (aeB ?_) ?_
 ·rw[eJ,bj]
  refine aeA (AE (env:=lE (.bO ns) c1 k a a2 A e6 e7 e8 e9) v.d2.hd rfl rfl (Ck v.d2)) ?_;rw[bA];refine aeA AB ?_;rw[cB,show (!ώ (gZ ([]:List Pg)="-"))=ύ by decide +kernel];exact⟨rfl,rfl⟩
 ·rw[Ú Ä,dD]
  exact q _ _ _ _ _ _ _ _ _ v.tb
end
def Wk (ns:List Int) (hn:ns.length<=63):∃s,cD.Aa [.bO ns] [.tb "law"]=ϊ (.ok (.bl ό),s):=by
 suffices h:Wp (cD.Aa [.bO ns] [.tb "law"]) λd _=>d=.bl ό by
  obtain⟨d,s,e,rfl⟩:=h;exact⟨s,e⟩
 delta cD.Aa;refine dO.symm ▸ ⟨rfl,aeC λR O=>?_⟩;rw[sH];have Q:∃n:Nat,iI (af (eB wN (af (eC (.int 1)) (af (eB wO (af (eB cI (af (aa 0) ah)) (af (eC (.int 2)) ah))) ah))) ah) [ϊ (.bO ns),ϋ,ϋ,ϋ,ϋ,ϋ,ϋ,ϋ,ϋ,ϋ] [.tb "law"]=ok (df 0 n) [.tb "law"]:=by
  have e:∃n:Nat,n<=1000/\(af (eB wN (af (eC (.int 1)) (af (eB wO (af (eB cI (af (aa 0) ah)) (af (eC (.int 2)) ah))) ah))) ah) [ϊ (.bO ns),ϋ,ϋ,ϋ,ϋ,ϋ,ϋ,ϋ,ϋ,ϋ] [.tb "law"]=ok [.int n] [.tb "law"]:=by
   refine⟨(if (if (2:Int)<ns.length then (2:Int) else ns.length) > 1 then (if (2:Int)<ns.length then (2:Int) else ns.length) else 1).toNat,by split<;>split<;>omega,?_⟩
   rw[Int.toNat_of_nonneg (by split<;>split<;>omega)]
   rfl
  obtain⟨n,L,N⟩:=e;exact⟨n,mj N ⋯⟩
 obtain⟨n,Q⟩:=Q;refine aeA Q ?_;refine Wp.qR (λi env s=>s[0]?=ϊ (.tb "law")/\∃e1 e2 Z Y X W V U T,env=[ϊ (.bO ns),e1,e2,Z,Y,X,W,V,U,T]) _ ⟨rfl,_,_,_,_,_,_,_,_,_,rfl⟩ (λi d env s S P=>?_) (λenv s P=>?_)
 ·obtain⟨g,e1,e2,Z,Y,X,W,V,U,T,rfl⟩:=P
  rw[sE] at S;split at S
  ·cases S
   refine⟨_,rfl,?_⟩;rw[Int.zero_add];exact Uz g λe2 Z Y X W V U T K M=>⟨M,_,_,_,_,_,_,_,_,_,rfl⟩
  ·cases S
 ·obtain⟨g,e1,e2,Z,Y,X,W,V,U,T,rfl⟩:=P
  subst O;simp only[VC]
open PySem.W
def p9 (K:đ) (c:Str) (fs:List Str):Bool:=match nsIn K Ò c with
 |some (ϊ (.ref C))=>plainGet K C χ&&hasDictIn K C&&plainOver K C&&(match findIn K (.ref C) "__setattr__" with|some (ϊ (.builtin x))=>ώ (x="object.__setattr__") | _=>ύ)&&fs.all (λf=>match findIn K (.ref C) f with|some ϋ=>ό | _=>ύ)&&makesIn K C&&keepIn K (.ref C)
 |_=>ύ
section
variable {K:đ} {c m q f:Str} {fs ps:List Str} {st:ad2} {h:ĺ} {mg:Str->Option Ç}
def Fx (e:p9 K c fs=ό):∃C,nsIn K Ò c=ϊ (ϊ (.ref C))/\kF K C/\(∀f∈fs,nv K C f)/\makesIn K C=ό/\keepIn K (.ref C)=ό:=by
 delta p9 at e;split at e
 ·rename_i C Y
  erw[Å,ô] at e;obtain⟨⟨⟨⟨⟨⟨X,W⟩,V⟩,Z⟩,U⟩,T⟩,S⟩:=e;refine⟨C,Y,⟨X,W,V,?_⟩,λf R=>?_,T,S⟩
  ·split at Z
   ·rename_i x Q
    rw[Q,æ Z]
   ·cases Z
  ·have q:=U f R
   delta nv;split at q
   ·assumption
   ·cases q
 ·cases e
def Oq (e:p9 K c fs=ό) (hf:f∈fs):xC K c f:=by
 obtain⟨C,Z,Y,X,_⟩:=Fx e;exact⟨C,Z,Y,X f hf⟩
def Dm (K:đ) (c m q:Str) (st:ad2):Prop:=∃(C f:ß) (Z:Ç) (Y:Option ß) (sl:Array (Option Ç)) (kV X pm:Ç) (an:Option ß) (cd W:Ç),nsIn K Ò c=ϊ (ϊ (.ref C))/\findIn K (.ref C) m=ϊ (ϊ (.ref f))/\K.lookup f=ϊ ⟨Z,Y,.func (fnOf m q (kQ st) (gr st) (cz st) .none kV X pm an cd W),sl⟩/\codeIn K cd q=ό/\keepIn K (.ref f)=ό/\isFn K (.ref f)=ό
def abf {C f:ß} {oc:Ç} {od:Option ß} {sl:Array (Option Ç)} {kV dc pm:Ç} {an:Option ß} {cd ct:Ç} (a:nsIn K Ò c=ϊ (ϊ (.ref C))) (b:findIn K (.ref C) m=ϊ (ϊ (.ref f))) (l:K.lookup f=ϊ ⟨oc,od,.func (fnOf m q (kQ st) (gr st) (cz st) .none kV dc pm an cd ct),sl⟩) (d:codeIn K cd q=ό) (k:keepIn K (.ref f)=ό) (i:isFn K (.ref f)=ό):Dm K c m q st:=⟨C,f,oc,od,sl,kV,dc,pm,an,cd,ct,a,b,l,d,k,i⟩
def tQ (e:p9 K c fs=ό) (D:Dm K c m q st) (hb:∀(kV doc pm:Ç) (an:Option ß) (aY ct:Ç) (us:List Ç),us.length=ps.length->bindArgs (fnOf m q (kQ st) (gr st) (cz st) .none kV doc pm an aY ct) ⟨us,[]⟩=pure (ps.zip us)):GM K c m q st ps:=by
 obtain⟨C,f,X,W,sl,kV,V,pm,an,cd,ct,a,b,l,d,k,i⟩:=D;obtain⟨U,Z,Y,_⟩:=Fx e;rw[a] at Z;cases Z;have F:=zv (st:=st) l d k;exact⟨C,f,_,a,Y,⟨b,i,k⟩,⟨F,F.binds hb⟩⟩
def Ot (X:K.In h) (G:h.Ns Ò mg) (e:p9 K c fs=ό) (D:Dm K c "__init__" q st) (hb:∀(kV doc pm:Ç) (an:Option ß) (aY ct:Ç) (us:List Ç),us.length=ps.length->bindArgs (fnOf "__init__" q (kQ st) (gr st) (cz st) .none kV doc pm an aY ct) ⟨us,[]⟩=pure (ps.zip us)):GK K mg c q st ps:=by
 obtain⟨C,f,V,U,sl,kV,T,pm,an,cd,ct,a,b,l,d,k,i⟩:=D;obtain⟨S,Z,_,_,Y,W⟩:=Fx e;rw[a] at Z;cases Z;have F:=zv (st:=st) l d k;exact⟨C,f,_,a,mg_of X G a,⟨Y,b,i,W⟩,⟨F,F.binds hb⟩⟩
end
end DI
end
namespace DI.cD
open PySem L2 DI
def abg:List Str:=["NoMarks","NoSheet","NoPage","NoBook","NoMould","NoDay","NoSort","NoNumber","NoSheets","NoRun","NoLaying","NoHeap","NoCount","Clash","NoDeed","NoText","NoRow","TooMany","Lacking"]
def Df (K:đ) (x:Str) (st:ad2):Prop:=∃(f:ß) (Z:Ç) (Y:Option ß) (sl:Array (Option Ç)) (kV X pm:Ç) (an:Option ß) (cd W:Ç),ì K Ò x=ϊ (ϊ (.ref f))/\K.lookup f=ϊ ⟨Z,Y,.func (Ś x x (kQ st) (gr st) (cz st) .none kV X pm an cd W),sl⟩/\ac3 K cd x=ό/\ő K (.ref f)=ό
def abh {K:đ} {x:Str} {st:ad2} {f:ß} {oc:Ç} {od:Option ß} {sl:Array (Option Ç)} {kV dc pm:Ç} {an:Option ß} {cd ct:Ç} (a:ì K Ò x=ϊ (ϊ (.ref f))) (l:K.lookup f=ϊ ⟨oc,od,.func (Ś x x (kQ st) (gr st) (cz st) .none kV dc pm an cd ct),sl⟩) (c:ac3 K cd x=ό) (k:ő K (.ref f)=ό):Df K x st:=⟨f,oc,od,sl,kV,dc,pm,an,cd,ct,a,l,c,k⟩
def qJ {K:đ} {x:Str} {i:Int} {t:Tok} (e:ì K Ò x=ϊ (ϊ (.int i t))):∃t,ì K Ò x=ϊ (ϊ (.int i t)):=⟨t,e⟩
def Ou {K:đ} {x y:Str} {t:Tok} (e:ì K Ò x=ϊ (ϊ (.str y t))):∃t,ì K Ò x=ϊ (ϊ (.str y t)):=⟨t,e⟩
def bG {K:đ} {h:ĺ} {mg:Str->Option Ç} {x:Str} {st:ad2} {ps:List Str} (X:K.In h) (G:h.Ns Ò mg) (D:Df K x st) (hb:∀(kV doc pm:Ç) (an:Option ß) (aY ct:Ç) (us:List Ç),us.length=ps.length->bindArgs (Ś x x (kQ st) (gr st) (cz st) .none kV doc pm an aY ct) ⟨us,[]⟩=pure (ps.zip us)):∃f fd,Gd K mg x st ps f fd:=by
 obtain⟨f,Z,Y,sl,kV,W,pm,an,cd,ct,a,l,c,k⟩:=D;have F:=zv (st:=st) l c k;exact⟨f,_,ļ X G a,F,F.binds hb⟩
def cg {P:List Ç->Prop} (h:∀a0:Ç,P [a0]) (us:List Ç) (hl:us.length=1):P us:=by
 cases us with
 |nil=>simp at hl
 |cons a0 Z =>
 cases Z with
 |cons _ _=>simp at hl
 |nil =>
 exact h a0
def iR {P:List Ç->Prop} (h:∀a0 a1:Ç,P [a0,a1]) (us:List Ç) (hl:us.length=2):P us:=by
 cases us with
 |nil=>simp at hl
 |cons a0 Z =>
 cases Z with
 |nil=>simp at hl
 |cons a1 Y =>
 cases Y with
 |cons _ _=>simp at hl
 |nil =>
 exact h a0 a1
def tR {P:List Ç->Prop} (h:∀a0 a1 a2:Ç,P [a0,a1,a2]) (us:List Ç) (hl:us.length=3):P us:=by
 cases us with
 |nil=>simp at hl
 |cons a0 Z =>
 cases Z with
 |nil=>simp at hl
 |cons a1 Y =>
 cases Y with
 |nil=>simp at hl
 |cons a2 X =>
 cases X with
 |cons _ _=>simp at hl
 |nil =>
 exact h a0 a1 a2
def abi {P:List Ç->Prop} (h:∀a0 a1 a2 a3:Ç,P [a0,a1,a2,a3]) (us:List Ç) (hl:us.length=4):P us:=by
 cases us with
 |nil=>simp at hl
 |cons a0 Y =>
 cases Y with
 |nil=>simp at hl
 |cons a1 X =>
 cases X with
 |nil=>simp at hl
 |cons a2 W =>
 cases W with
 |nil=>simp at hl
 |cons a3 Z =>
 cases Z with
 |cons _ _=>simp at hl
 |nil =>
 exact h a0 a1 a2 a3
def all_mk {P:å} {w:Ą} {K:đ} {h:ĺ} {mg:Str->Option Ç} {fa:ß} (X:K.In h) (G:h.Ns Ò mg) (hfa:mg "law"=ϊ (.ref fa))
  (d0:Df K "_law_cell_at" (top 84))
  (d1:Df K "_law_state" (top 85))
  (d2:Df K "_law_classes" (top 87))
  (d3:Df K "are_figures" (top 73))
  (d4:Df K "is_sheet_word" (top 72))
  (d5:Df K "is_number_word" (top 71))
  (d6:Df K "are_page_words" (top 70))
  (d7:Df K "is_row" (top 80))
  (d8:Df K "words_of" (top 79))
  (d9:Df K "marks_of" (top 76))
  (Hm:Df K "sheet_of" (top 75))
  (Hn:Df K "page_of" (top 74))
  (Ho:Df K "marks_text" (top 67))
  (Hq:Df K "sheet_text" (top 68))
  (Hr:Df K "places_text" (top 82))
  (Hs:Df K "is_rising" (top 30))
  (Ht:Df K "is_number" (top 25))
  (Hu:Df K "is_below" (top 26))
  (Hv:Df K "is_mark" (top 27))
  (Hw:Df K "are_marks" (top 37))
  (Hx:Df K "are_apart" (top 39))
  (Hy:Df K "is_sheet" (top 38))
  (Hz:Df K "is_mould" (top 28))
  (HA:Df K "is_day" (top 29))
  (HB:Df K "is_page" (top 40))
  (HC:Df K "are_laid" (top 41))
  (HD:Df K "days_seen" (top 46))
  (HE:Df K "days_mended" (top 47))
  (HF:Df K "is_any_behind" (top 45))
  (HG:Df K "clashes" (top 44))
  (HH:Df K "faults_of" (top 43))
  (i9:Df K "is_book" (top 42))
  (HI:Df K "need_book" (top 50))
  (HJ:Df K "page_text" (top 69))
  (HK:Df K "book_text" (top 66))
  (HL:Df K "need_mould" (top 31))
  (HM:Df K "need_day" (top 32))
  (HN:Df K "days_present" (top 58))
  (HP:Df K "days_absent" (top 59))
  (HQ:Df K "marks_on" (top 57))
  (HR:Df K "sure_sheets" (top 56))
  (HS:Df K "surely" (top 54))
  (HU:Df K "need_sheet" (top 48))
  (HV:Df K "stretches" (top 61))
  (HW:Df K "agree" (top 60))
  (HX:Df K "places_of" (top 55))
  (HY:Df K "answer" (top 81))
  (H0:Df K "need_page" (top 49))
  (H9:Df K "_law_met" (top 88))
  (Ia:Df K "_law_take" (top 86))
  (Ib:Df K "_law_other" (top 94))
  (Ic:Df K "_law_some_row" (top 93))
  (Ie:Df K "_law_figures" (top 89))
  (Ig:Df K "_law_is_sheet" (top 91))
  (Ih:Df K "_law_is_number" (top 90))
  (Ii:Df K "_law_is_row" (top 92))
  (BP:∃t,ì K Ò "NOTHING"=ϊ (ϊ (.str "-" t)))
  (BQ:∃t,ì K Ò "FIGURES"=ϊ (ϊ (.str "0123456789" t)))
  (nj:p9 K "Diary" ["books"]=ό)
  (v7:p9 K "Desk" ["diary"]=ό)
  (Ij:Dm K "Diary" "undo" "Diary.undo" (eV (top 52) 3))
  (Ik:Dm K "Diary" "book_now" "Diary.book_now" (eV (top 52) 4))
  (Il:Dm K "Diary" "keep" "Diary.keep" (eV (top 52) 5))
  (yn:Dm K "Diary" "strike" "Diary.strike" (eV (top 52) 2))
  (yo:Dm K "Diary" "tell" "Diary.tell" (eV (top 52) 1))
  (Im:Dm K "Desk" "say" "Desk.say" (eV (top 78) 1))
  (Io:Dm K "Diary" "__init__" "Diary.__init__" (eV (top 52) 0))
  (Ip:Dm K "Desk" "__init__" "Desk.__init__" (eV (top 78) 0))
  (dl:Df K "law" (top 95))
  (C4:∃t,ì K Ò "MARKS"=ϊ (ϊ (.int (8) t)))
  (Cn:∃t,ì K Ò "MOULDS"=ϊ (ϊ (.int (4) t)))
  (DP:∃t,ì K Ò "DAYS"=ϊ (ϊ (.int (31) t)))
  (C5:∃t,ì K Ò "PAGES"=ϊ (ϊ (.int (24) t)))
  (EE:∃t,ì K Ò "HAS"=ϊ (ϊ (.int (0) t)))
  (C6:∃t,ì K Ò "LACKS"=ϊ (ϊ (.int (1) t)))
  (BR:∃t,ì K Ò "LONGEST"=ϊ (ϊ (.int (30) t)))
  (Bs:ì K Ò "ValueError"=ϊ ϋ)
  (EF:ì K Ò "all"=ϊ ϋ)
  (EG:ì K Ò "any"=ϊ ϋ)
  (DQ:ì K Ò "bool"=ϊ ϋ)
  (EH:ì K Ò "int"=ϊ ϋ)
  (Bt:ì K Ò "isinstance"=ϊ ϋ)
  (EI:ì K Ò "len"=ϊ ϋ)
  (EJ:ì K Ò "max"=ϊ ϋ)
  (EK:ì K Ò "min"=ϊ ϋ)
  (C7:ì K Ò "range"=ϊ ϋ)
  (BE:ì K Ò "reversed"=ϊ ϋ)
  (EL:ì K Ò "set"=ϊ ϋ)
  (Co:ì K Ò "sorted"=ϊ ϋ)
  (EM:ì K Ò "str"=ϊ ϋ)
  (C8:ì K Ò "tuple"=ϊ ϋ)
  (EN:ì K Ò "zip"=ϊ ϋ)
  (xf:mi K bT abg "MouldError"=ό) (tf:Dx K "law"=ό)
  : ∃(c T:ß) (fd:Ĩ),aev K "law"=ϊ (c,T)/\K.lookup T=ϋ/\(∀(s:Â) (v:Ç),BindsTo s fd ⟨[v],[]⟩ [(aeF,v)])/\∀base:ĺ,K.In base->base.Ns Ò mg->base.BuiltinsAt mg T->cV P w K mg base eD 15 fa fd [aeF] (zE K T):=by
 have g0:=bG (ps:=[aeF,"_law_k"]) X G d0 λ_ _ _ _ _ _=>iR λ_ _=>rfl;have g1:=bG (ps:=[aeF,"_law_k"]) X G d1 λ_ _ _ _ _ _=>iR λ_ _=>rfl;have g2:=bG (ps:=["_law_e"]) X G d2 λ_ _ _ _ _ _=>cg λ_=>rfl;have g3:=bG (ps:=["word"]) X G d3 λ_ _ _ _ _ _=>cg λ_=>rfl;have g4:=bG (ps:=["word"]) X G d4 λ_ _ _ _ _ _=>cg λ_=>rfl;have g5:=bG (ps:=["word"]) X G d5 λ_ _ _ _ _ _=>cg λ_=>rfl;have g6:=bG (ps:=["words"]) X G d6 λ_ _ _ _ _ _=>cg λ_=>rfl;have g7:=bG (ps:=["words"]) X G d7 λ_ _ _ _ _ _=>cg λ_=>rfl;have g8:=bG (ps:=["row"]) X G d8 λ_ _ _ _ _ _=>cg λ_=>rfl;have g9:=bG (ps:=["word"]) X G d9 λ_ _ _ _ _ _=>cg λ_=>rfl;have Z:=bG (ps:=["word"]) X G Hm λ_ _ _ _ _ _=>cg λ_=>rfl;have Y:=bG (ps:=["words"]) X G Hn λ_ _ _ _ _ _=>cg λ_=>rfl;have W:=bG (ps:=["marks"]) X G Ho λ_ _ _ _ _ _=>cg λ_=>rfl;have V:=bG (ps:=["sheet"]) X G Hq λ_ _ _ _ _ _=>cg λ_=>rfl;have U:=bG (ps:=["places"]) X G Hr λ_ _ _ _ _ _=>cg λ_=>rfl;have S:=bG (ps:=["things"]) X G Hs λ_ _ _ _ _ _=>cg λ_=>rfl;have R:=bG (ps:=["thing"]) X G Ht λ_ _ _ _ _ _=>cg λ_=>rfl;have Q:=bG (ps:=["thing","many"]) X G Hu λ_ _ _ _ _ _=>iR λ_ _=>rfl;have O:=bG (ps:=["thing"]) X G Hv λ_ _ _ _ _ _=>cg λ_=>rfl;have N:=bG (ps:=["thing"]) X G Hw λ_ _ _ _ _ _=>cg λ_=>rfl;have M:=bG (ps:=["marks","others"]) X G Hx λ_ _ _ _ _ _=>iR λ_ _=>rfl;have L:=bG (ps:=["thing"]) X G Hy λ_ _ _ _ _ _=>cg λ_=>rfl;have J:=bG (ps:=["thing"]) X G Hz λ_ _ _ _ _ _=>cg λ_=>rfl;have I:=bG (ps:=["thing"]) X G HA λ_ _ _ _ _ _=>cg λ_=>rfl;have H:=bG (ps:=["thing"]) X G HB λ_ _ _ _ _ _=>cg λ_=>rfl;have E:=bG (ps:=["thing"]) X G HC λ_ _ _ _ _ _=>cg λ_=>rfl;have D:=bG (ps:=["pages","mould","mark","half"]) X G HD λ_ _ _ _ _ _=>abi λ_ _ _ _=>rfl;have C:=bG (ps:=["pages","mould","mark"]) X G HE λ_ _ _ _ _ _=>tR λ_ _ _=>rfl;have B:=bG (ps:=["days","day","later"]) X G HF λ_ _ _ _ _ _=>tR λ_ _ _=>rfl;have A:=bG (ps:=["pages","mould","mark"]) X G HG λ_ _ _ _ _ _=>tR λ_ _ _=>rfl;have z:=bG (ps:=["pages"]) X G HH λ_ _ _ _ _ _=>cg λ_=>rfl;have y:=bG (ps:=["thing"]) X G i9 λ_ _ _ _ _ _=>cg λ_=>rfl;have x:=bG (ps:=["thing"]) X G HI λ_ _ _ _ _ _=>cg λ_=>rfl;have u:=bG (ps:=["page"]) X G HJ λ_ _ _ _ _ _=>cg λ_=>rfl;have r:=bG (ps:=["book"]) X G HK λ_ _ _ _ _ _=>cg λ_=>rfl;have q:=bG (ps:=["thing"]) X G HL λ_ _ _ _ _ _=>cg λ_=>rfl;have p:=bG (ps:=["thing"]) X G HM λ_ _ _ _ _ _=>cg λ_=>rfl;have o:=bG (ps:=["book","mould","mark"]) X G HN λ_ _ _ _ _ _=>tR λ_ _ _=>rfl;have n:=bG (ps:=["book","mould","mark"]) X G HP λ_ _ _ _ _ _=>tR λ_ _ _=>rfl;have m:=bG (ps:=["days_by_mark","day"]) X G HQ λ_ _ _ _ _ _=>iR λ_ _=>rfl;have j:=bG (ps:=["book","mould"]) X G HR λ_ _ _ _ _ _=>iR λ_ _=>rfl;have i:=bG (ps:=["book","mould","day"]) X G HS λ_ _ _ _ _ _=>tR λ_ _ _=>rfl;have g:=bG (ps:=["thing"]) X G HU λ_ _ _ _ _ _=>cg λ_=>rfl;have d:=bG (ps:=["holds"]) X G HV λ_ _ _ _ _ _=>cg λ_=>rfl;have b:=bG (ps:=["sheet","sure"]) X G HW λ_ _ _ _ _ _=>iR λ_ _=>rfl;have g45:=bG (ps:=["book","sheet"]) X G HX λ_ _ _ _ _ _=>iR λ_ _=>rfl;have g46:=bG (ps:=["book","words"]) X G HY λ_ _ _ _ _ _=>iR λ_ _=>rfl;have g47:=bG (ps:=["thing"]) X G H0 λ_ _ _ _ _ _=>cg λ_=>rfl;have g48:=bG (ps:=["_law_call"]) X G H9 λ_ _ _ _ _ _=>cg λ_=>rfl;have g49:=bG (ps:=[aeG,"_law_many"]) X G Ia λ_ _ _ _ _ _=>iR λ_ _=>rfl;have g50:=bG (ps:=[aeG,aeH]) X G Ib λ_ _ _ _ _ _=>iR λ_ _=>rfl;have g51:=bG (ps:=[aeG]) X G Ic λ_ _ _ _ _ _=>cg λ_=>rfl;have g52:=bG (ps:=[aeI]) X G Ie λ_ _ _ _ _ _=>cg λ_=>rfl;have g53:=bG (ps:=[aeI]) X G Ig λ_ _ _ _ _ _=>cg λ_=>rfl;have g54:=bG (ps:=[aeI]) X G Ih λ_ _ _ _ _ _=>cg λ_=>rfl;have g55:=bG (ps:=[aeH]) X G Ii λ_ _ _ _ _ _=>cg λ_=>rfl;have pX:∃t,mg "MARKS"=ϊ (.int (8) t):=by obtain⟨t,e⟩:=C4;exact⟨t,ļ X G e⟩
 have vE:∃t,mg "MOULDS"=ϊ (.int (4) t):=by obtain⟨t,e⟩:=Cn;exact⟨t,ļ X G e⟩
 have qe:∃t,mg "DAYS"=ϊ (.int (31) t):=by obtain⟨t,e⟩:=DP;exact⟨t,ļ X G e⟩
 have Ca:∃t,mg "PAGES"=ϊ (.int (24) t):=by obtain⟨t,e⟩:=C5;exact⟨t,ļ X G e⟩
 have sU:∃t,mg "HAS"=ϊ (.int (0) t):=by obtain⟨t,e⟩:=EE;exact⟨t,ļ X G e⟩
 have sx:∃t,mg "LACKS"=ϊ (.int (1) t):=by obtain⟨t,e⟩:=C6;exact⟨t,ļ X G e⟩
 have BB:∃t,mg "LONGEST"=ϊ (.int (30) t):=by obtain⟨t,e⟩:=BR;exact⟨t,ļ X G e⟩
 have Rk:=þ X G Bs;have abj:=þ X G EF;have abk:=þ X G EG;have ZZ:=þ X G DQ;have abl:=þ X G EH;have Rl:=þ X G Bt;have abm:=þ X G EI;have abn:=þ X G EJ;have abo:=þ X G EK;have XZ:=þ X G C7;have SQ:=þ X G BE;have abp:=þ X G EL;have Wl:=þ X G Co;have abq:=þ X G EM;have X0:=þ X G C8;have abr:=þ X G EN;have rZ:∃t,mg "NOTHING"=ϊ (.str "-" t):=by obtain⟨t,e⟩:=BP;exact⟨t,ļ X G e⟩
 have BC:∃t,mg "FIGURES"=ϊ (.str "0123456789" t):=by obtain⟨t,e⟩:=BQ;exact⟨t,ļ X G e⟩
 have m0:=tQ (ps:=["self"]) nj Ij λ_ _ _ _ _ _=>cg λ_=>rfl;have m1:=tQ (ps:=["self"]) nj Ik λ_ _ _ _ _ _=>cg λ_=>rfl;have m2:=tQ (ps:=["self","pages"]) nj Il λ_ _ _ _ _ _=>iR λ_ _=>rfl;have m3:=tQ (ps:=["self","page"]) nj yn λ_ _ _ _ _ _=>iR λ_ _=>rfl;have m4:=tQ (ps:=["self","page"]) nj yo λ_ _ _ _ _ _=>iR λ_ _=>rfl;have m5:=tQ (ps:=["self","row"]) v7 Im λ_ _ _ _ _ _=>iR λ_ _=>rfl;have m6:=Ot (ps:=["self"]) X G nj Io λ_ _ _ _ _ _=>cg λ_=>rfl;have m7:=Ot (ps:=["self"]) X G v7 Ip λ_ _ _ _ _ _=>cg λ_=>rfl;obtain⟨f,oc,od,sl,kV,dc,pm,an,cd,ct,a,l,c,k⟩:=dl;have e:=hfa.symm.trans (ļ X G a);cases e;have F:=zv (st:=(top 95)) l c k;have GL:Gd K mg "law" (top 95) [aeF] _ _:=⟨ļ X G a,F,F.binds λ_ _ _ _ _ _=>cg λ_=>rfl⟩;obtain⟨c0,T0,ht,hC,hT⟩:=Xg tf;exact⟨c0,T0,_,ht,hT,λs v=>.of_eq rfl,λbase _ _ hB=>Xf (Zy ⟨Rk,abj,abk,ZZ,abl,Rl,abm,abn,abo,XZ,SQ,abp,Wl,abq,X0,abr,gF X G xf (by decide +kernel),gF X G xf (by decide +kernel),gF X G xf (by decide +kernel),gF X G xf (by decide +kernel),gF X G xf (by decide +kernel),gF X G xf (by decide +kernel),gF X G xf (by decide +kernel),gF X G xf (by decide +kernel),gF X G xf (by decide +kernel),gF X G xf (by decide +kernel),gF X G xf (by decide +kernel),gF X G xf (by decide +kernel),gF X G xf (by decide +kernel),gF X G xf (by decide +kernel),gF X G xf (by decide +kernel),gF X G xf (by decide +kernel),gF X G xf (by decide +kernel),gF X G xf (by decide +kernel),gF X G xf (by decide +kernel),aaU xf,oY X G xf (by decide +kernel),oY X G xf (by decide +kernel),oY X G xf (by decide +kernel),oY X G xf (by decide +kernel),oY X G xf (by decide +kernel),oY X G xf (by decide +kernel),oY X G xf (by decide +kernel),oY X G xf (by decide +kernel),acw X G xf,pX,vE,qe,Ca,sU,sx,BB,rZ,BC,Oq nj (by decide),Oq v7 (by decide),m0,m1,m2,m3,m4,m5,m6,m7,g0,g1,g2,g3,g4,g5,g6,g7,g8,g9,Z,Y,W,V,U,S,R,Q,O,N,M,L,J,I,H,E,D,C,B,A,z,y,x,u,r,q,p,o,n,m,j,i,g,d,b,g45,g46,g47,g48,g49,g50,g51,g52,g53,g54,g55⟩ ht hC hB GL a) ht Wk⟩
def walk {l:PySem.W.OpenLaw} {q:å} {loose:List Str} {XP:(Str->Option Ç)->ĺ->Prop} {YP:Ą->ĺ->Prop} {d:DefRec} {K:Params->đ} (hn:l.most=ϊ 63) (xX:d.params.defaults=[]) (hd:(PyProof.Rows.recsOf q).find? (λe=>e.name==d.name)=ϊ d)
  (hY:∀(w:Ą) (h:ĺ),YP w h->(K w.params).In h)
  (F:∀(w:Ą) (mg:Str->Option Ç) (fa:ß) (h:ĺ),(K w.params).In h->h.Ns Ò mg->mg d.name=ϊ (.ref fa) ->
   ∃(c T:ß) (fd:Ĩ),aev (K w.params) d.name=ϊ (c,T)/\(K w.params).lookup T=ϋ/\(∀(s:Â) (u:Ç),BindsTo s fd ⟨[u],[]⟩ [(aeF,u)])/\∀base:ĺ,(K w.params).In base->base.Ns Ò mg->base.BuiltinsAt mg T->cV l.prog w (K w.params) mg base eD 15 fa fd [aeF] (zE (K w.params) T)) :
  PySem.W.WalkO q loose XP YP l.row.toRowW d [] (λf vs=>PySem.call f vs) :=
 L2.Zg (n:=63) (k:=15) (x:= aeF) (CX:=λ_=>eD) (sp:=λw=>zE (K w.params)) hn (by decide) xX ⟨rfl,by decide,by decide,rfl⟩ hY hd F (λ_ _ _ a Z Y X V=>⟨a,Z,rfl,V,Y,X,λ_=>rfl⟩) λ_ _ _ _ _ z=>z
end DI.cD
open PySem PySem.W PyProof.Rows
namespace PySem.W.Fast
def te603338459484098034:=trivial
def te14065826620050755513:=trivial
def te7660244561960862532:=trivial
def te8403559534865787773:=trivial
def te15500001179271910561:=trivial
def te4678103353419205127:=trivial
end PySem.W.Fast
set_option maxRecDepth 100000 in
set_option maxHeartbeats 0 in
theorem PySem.Challenge.cw_twinmoulds_k52_rows_of_a_desk_refused_holds : PySem.Challenge.rw_twinmoulds_k52_rows_of_a_desk_refused.Holds := by
 w_on;o_law;k_head;(case hw=>w_witness2)
 k_fill
 refine DI.cD.walk (l:=PySem.Challenge.rw_twinmoulds_k52_rows_of_a_desk_refused) rfl rfl rfl (λw h Y=>PySem.W.km_in_of Y) ?F
 case F =>
  intro w V U h Z G X;refine' DI.cD.all_mk Z G X ?d0 ?d1 ?d2 ?d3 ?d4 ?d5 ?d6 ?d7 ?d8 ?d9 ?Hm ?Hn ?Ho ?Hq ?Hr ?Hs ?Ht ?Hu ?Hv ?Hw ?Hx ?Hy ?Hz ?HA ?HB ?HC ?HD ?HE ?HF ?HG ?HH ?i9 ?HI ?HJ ?HK ?HL ?HM ?HN ?HP ?HQ ?HR ?HS ?HU ?HV ?HW ?HX ?HY ?H0 ?H9 ?Ia ?Ib ?Ic ?Ie ?Ig ?Ih ?Ii ?BP ?BQ ?nj ?v7 ?Ij ?Ik ?Il ?yn ?yo ?Im ?Io ?Ip ?dl ?C4 ?Cn ?DP ?C5 ?EE ?C6 ?BR ?Bs ?EF ?EG ?DQ ?EH ?Bt ?EI ?EJ ?EK ?C7 ?BE ?EL ?Co ?EM ?C8 ?EN ?xf ?tf
  (case d0|d1|d2|d3|d4|d5|d6|d7|d8|d9|Hm|Hn|Ho|Hq|Hr|Hs|Ht|Hu|Hv|Hw|Hx|Hy|Hz|HA|HB|HC|HD|HE|HF|HG|HH|i9|HI|HJ|HK|HL|HM|HN|HP|HQ|HR|HS|HU|HV|HW|HX|HY|H0|H9|Ia|Ib|Ic|Ie|Ig|Ih|Ii|dl=>refine' DI.cD.abh ?a ?l ?c ?k;(case a=>k_is);(case l=>k_is);(case c=>k_is);(case k=>k_is))
  (case C4=>refine' DI.cD.qJ ?e;(case e=>k_is))
  (case Cn=>refine' DI.cD.qJ ?e;(case e=>k_is))
  (case DP=>refine' DI.cD.qJ ?e;(case e=>k_is))
  (case C5=>refine' DI.cD.qJ ?e;(case e=>k_is))
  (case EE=>refine' DI.cD.qJ ?e;(case e=>k_is))
  (case C6=>refine' DI.cD.qJ ?e;(case e=>k_is))
  (case BR=>refine' DI.cD.qJ ?e;(case e=>k_is))
  (case Bs|EF|EG|DQ|EH|Bt|EI|EJ|EK|C7|BE|EL|Co|EM|C8|EN=>k_is)
  (case BP=>refine' DI.cD.Ou ?e;(case e=>k_is))
  (case BQ=>refine' DI.cD.Ou ?e;(case e=>k_is))
  (case nj=>kernel_rfl)
  (case v7=>kernel_rfl)
  (case Ij|Ik|Il|yn|yo|Im|Io|Ip=>refine' DI.abf ?a ?b ?l ?c ?k ?f;(case a=>k_is);(case b=>k_is);(case l=>k_is);(case c=>k_is);(case k=>k_is);(case f=>k_is))
  (case xf=>kernel_rfl)
  (case tf=>kernel_rfl)
