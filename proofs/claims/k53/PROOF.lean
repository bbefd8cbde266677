import PyProof.Rows.All
import Wide.All
import OpenK.AllK
import Wide.FinOn
import Lean
import PyProof.EqAt
import PyProof.EqKinds
import PyProof.TupleCall
import PyProof.NeData
import PyProof.P3In
import PyProof.FactsAll.set
import PyProof.CollectWalk
import PyProof.FactsAll.range
import PyProof.MinMaxWalk
import KE.KMinKey
import PyProof.WalkInts
import PyProof.Rows.CallKwBuiltin
import KE.KLam
import KE.KSortTup
import PyProof.Rows.Range3
import PyProof.ListRange
import PyProof.DictRoadsH
import KE.KDictList
import PyProof.Rows.SortKeyStr
import PyProof.DictCompW
import PyProof.DictWalks
import PyProof.Rows.CompDC
import PyProof.SumAny
import PyProof.TupleOfGen
import PyProof.CollectIter
import KE.KTryMore
import OpenK.KOwn
import PyProof.ExcBaseAll.ValueError
import KE.KNestM
import PyProof.NsDelKeeps
import PyProof.ExcAttrAll.ValueError
import PyProof.Conv_int_bool
import PySem.Challenge.RW_twinmoulds_k53_refusals_of_the_later_sta
set_option bootstrap.genMatcherCode false
set_option genInjectivity false
set_option genSizeOfSpec false
set_option Elab.async false
set_option linter.all false
set_option maxRecDepth 100000
set_option maxHeartbeats 4000000
open PySem renaming wpAny_bind→À,wpAny_pure→Â,Shared→Ã,Value→Ä,starEach→Ê,sizeLine→Ñ,mainGlobals→Ó,Addr→Ø,wpAny→Ù,Program→ß,model→à,Around→æ,bootBuiltins→ì,wpAny_newObj_type→ò,World→ú,foldedSetIterable→û,wpAny_call_entry→þ,wpAny_callSpecial?_slot→Ā,compareOp→Đ,wpAny_holding→Ĕ,FuncData→ę,Expr→Ğ,wpAny_seqItems→Ġ,mem_of_lookup→ġ,wpAny_mono→ģ,Heap→ħ,wpAny_field→ĩ,binaryOp→İ,backTo→ı,codeAny_mono→ķ,eval→ļ,wpAny_truthy_bool→Ŀ,letOwnedTupleGo→ł,codeAny_builtin→Ņ,intKind→ņ,wpAny_rule→ŋ,wpAny_askSetting→Ō,wpAny_setField_rec→ŏ,Builtin→œ,NameKind→Ŕ,assignEach→Ŗ,wpAny_setState_of→ř,wpAny_attempt→ś,wpAny_setEntries_of→Ŝ,scanBound→ş,pickOrder→Š,wpAny_setField→ţ,wpAny_Call_Name_kw→Ŧ,sizeLine_eq→Ũ,codeAny→ũ,wpAny_standAt→ů,swapsWithSole→Ű,swappedStores→ű,wpAny_pyIter_list→Ų,fits_of_scanBound→Ŵ,Scope→ŷ,codeAny_call_builtin→Ź,rawInt→ź,cellsFrom→Ż,PyData→ž,IsPair→ſ,sysModules→ς,pyNext→υ,wpAny_passesOwn→Vv,behindInMarks→Vw,attributeBase→VA,wpAny_call→VN,sliceBounds→VO,wpAny_storeSet_of→VT,eqIsQuiet_byValue→VV,bindName→VW,wpAny_bindName→VX,wpAny_typeOf→V3,Keyword→V9,wpAny_isInstance→We,assignInOrder→Wh,holding→Wk,keywordEach→Wm,codeAny_of_tree→Wr,wpAny_specialOf→Wu,standAt→WC,cLine→WD,Stmt→WE,Arguments→WI,assign→WO
open PySem.Heap renaming get?_push_of_some→Á,lt_size→Ç,get?_push_size→Ï,size_push→ó,get?_update_self→Ē,SameBut→Į,get?_update_other→ť,ExtBut→VP,get?_update_ne→Wv
open Nat renaming lt_of_lt_of_le→Å,ne_of_lt→Û,le_trans→á,lt_irrefl→è,zero_le→Ć,lt_succ_of_lt→Ĉ,ne_of_gt→Ľ,lt_succ_self→ō,le_of_not_lt→ŝ,le_max_right→š,lt_of_le_of_lt→VH,le_max_left→VI,mul_le_mul_right→Wg,add_assoc→Wj,le_succ→Ws
open List renaming getElem?_eq_some_iff→Æ,getElem?_eq_getElem→Ë,length_map→Ì,mem_append_right→Í,replicate→Î,mem_cons→Ð,size_toArray→Ô,mem_cons_of_mem→Õ,mem_cons_self→Ö,getElem?_append_left→Ú,length_append→Ý,getElem?_set_ne→â,getElem?_set_self→å,getElem?_map→ç,not_mem_nil→ê,length_cons→ë,map_cons→ï,mem_append→ð,getElem?_append_right→ô,length_nil→õ,mem_append_left→ö,pairwise_cons→ü,mem_singleton→ý,cons_append→ÿ,range→Ă,length_set→ą,nil_append→Č,set_cons_succ→Ď,set_cons_zero→ď,lookup_cons→Ė,mem_range→Ĝ,all_eq_true→ĝ,getElem?_replicate→ğ,getElem?_eq_none→Ĥ,append_nil→Ĩ,zip_cons_cons→ī,mem_of_getElem?→ĭ,mem_map→į,replicate_succ→Ĳ,append_assoc→Ł,flatten_cons→ŗ,getD→Ř,map_append→Ś,nodup_cons→Ū,length_replicate→ū,map_nil→Ŭ,ext_getElem?→ų,drop_eq_getElem_cons→ε,isEmpty_nil→μ,filterMap_cons→ξ,getElem_of_mem→ο,mem_filter→Vt,mem_filterMap→Vu,forIn_cons→VB,length_eq_zero_iff→VF,toArray→V5,map_map→V6,length_take→Wa,getElem_mem→Wb,any_eq_true→Wc,filter_cons→Wf,of_mem_zip→Wl,getElem?_range→Wq
open Bool renaming and_eq_true→È,false_eq_true→É,false_ne_true→Ò,and_self→Ę,eq_iff_iff→ń,not_true→Ő,not_eq_true'→ŵ,not_eq_true→ι
open PySem.NameKind renaming free→ã
open PySem.W renaming nsIn→é,mg_none_of→ñ,Frag→č,keepIn→ĵ,mg_of→Ķ,fnOf→ľ,cellsFrom_some→Ť,codeIn→ż,hideAll_get→ν,findIn→VY,callWith_K→Wx,methodObj→WH,tabIn→WM,excIn→WN
open Array renaming length_toList→î,getElem?_toList→ĥ,toList_push→VS,getD→WJ
open PySem.Builtin.SmallTypes renaming nextOf→ø,ownedTupleIsFree→Ģ,ownedTupleHandOut→δ
open PySem.SetTable renaming below→ā,grown→VZ
open PySem.Obj renaming data_mapFields→Ą,isFreed_of_fields→ĸ,mapSeq→ŀ,cls_mapFields→VQ
open PyProof.Rows renaming slot_tuple_getitem→ċ,firstMet→Ħ,envOfC→Ĵ,callWith_type1→Ń,assignInOrder_cons→Ŏ,IntsAre→Vz,seqObj→Wz,AllBare→WL,envOfC→WQ
open PySem.Str renaming ofString→đ
open False renaming elim→ē
open PySem.Heap.SameBut renaming update→ĕ
open PySem.PyData renaming eqv→ė,depthAll→ě,shownAll→Ĭ,showableAll→ő,weightAll→Ţ,showable→ŭ,hasDict→θ,strOk→ω,shown→V7,leavesShortAll→V8,leavesShort→WA
open PySem.F renaming called_set→Ě,slot_tuple_iterator_next→ň,args_tuple_add_2→χ,entry_tuple_add→Vy,plainAttrs_list→VG,slot_tuple_add→VM,slot_tuple_hash→VU,slot_int_rmul→Wn,slot_zip_next→Wo
open ForInStep renaming yield→Ī
open Int renaming toNat_natCast→ĳ,emod_lt_of_pos→ŧ,emod_nonneg→VL,zero_add→WB
open PySem.PassesOwn renaming never→Ĺ
open PySem.Builtin.Tuple renaming tupleExact→Ļ,tupleItemsOf→Ň,tupleIsExact→Ŷ,tupleHashOf→ζ
open PySem.Value renaming bool→Ŋ,type→Ů,ref→V2,int→WG
open PySem.Builtin.Slice renaming slicePlaces→Œ,sliceAdjust→Ž,sliceApplied→Ww
open PySem.Around renaming under_plainId→ŕ
open Ne renaming symm→Ÿ
open Option renaming isNone_iff_eq_none→η,map_some→VD
open PySem.Builtin.List renaming listTooLong→ψ,listExtendWith→Wt
open PySem.Calls renaming spliced_cons→Vx
open PyProof.Rows.F renaming plain_set_update_loop→VE
open List.cons renaming injEq→VJ
open PySem.SetTable.below renaming go→VR
open PySem.ReprK renaming of_reads→V1
open List.Pairwise renaming sublist→V4
open PySem.Builtin.Frozenset renaming updateFrom→Wi
open Or renaming inl→Wy
open PySem.SetTable.probe renaming go→WK
def Ü:=@decide_eq_true_eq
def Þ:=@decide_eq_true
def ä:=@if_pos
def í:=@if_neg
def ù:=@decide_eq_false
def ă:=@of_decide_eq_true
def ć:=@bne_self_eq_false
def ĉ:=@if_false
def Ċ:=@if_true
def ĺ:=@congrArg
def Ş:=@beq_self_eq_true
def V0:=@and_self
def WV:=@Nat.le_refl
def WW:=@Option.some.inj
abbrev WX:PySem.Str:="_law_state_here"
abbrev WY:PySem.Str:="_law_script"
abbrev WZ:PySem.Str:="_law_many"
abbrev W0:PySem.Str:="_law_mark"
abbrev W2:PySem.Str:="_law_pages"
abbrev W3:PySem.Str:="_law_mould"
abbrev W4:PySem.Str:="_law_way"
abbrev W5:PySem.Str:="_law_heap_here"
abbrev W6:PySem.Str:="_law_book_here"
abbrev W7:PySem.Str:="_law_mark_stands"
noncomputable section
local macro_rules | `(tactic| omega) => `(tactic| lia)
open PySem.W (Frag)
namespace L2
open PySem PySem.Spec PyProof.Rows
noncomputable abbrev Key:=Sum Int Str
def xD:Key->Ä->Bool
 | .inl k,v=>Value.isInt k v
 | .inr x,v=>Value.isStrOf x v
def QP (w:ú):Key->Int
 | .inl k=>hashInt k
 | .inr x=>hashStr w x
def i7:∀{k:Key} {v:Ä},xD k v=true->(∃i t,k=Sum.inl i/\v=WG i t)\/(∃x t,k=Sum.inr x/\v=Value.str x t)
 | .inl i,v,h=>by
  obtain ⟨t,e⟩:=Value.isInt_shape (k:=i) (v:=v) h;exact .inl ⟨i,t,rfl,e⟩
 | .inr x,v,h=>by
  obtain ⟨t,e⟩:=Value.isStrOf_shape (x:=x) (v:=v) h;exact .inr ⟨x,t,rfl,e⟩
def Nz (a b:Int):decide ((Sum.inl a:Key)=Sum.inl b)=(a==b):=by
 by_cases e:a=b
 ·subst e;simp
 ·have h:¬ (Sum.inl a:Key)=Sum.inl b:=fun q=>e (Sum.inl.inj q)
  rw [ù h];exact (beq_eq_false_iff_ne.mpr e).symm
def NA (a b:Str):decide ((Sum.inr a:Key)=Sum.inr b)=decide (a=b):=by
 by_cases e:a=b
 ·subst e;simp
 ·have h:¬ (Sum.inr a:Key)=Sum.inr b:=fun q=>e (Sum.inr.inj q)
  rw [ù h,ù e]
def NB (a:Int) (b:Str):decide ((Sum.inl a:Key)=Sum.inr b)=false:=ù (fun q=>nomatch q)
def NC (a:Str) (b:Int):decide ((Sum.inr a:Key)=Sum.inl b)=false:=ù (fun q=>nomatch q)
def sy (prog:ß) (w:ú):PySem.KeyKind prog w Key where
 is:=xD
 hash:=QP w
 inj:=fun v a b X Y=>by
  rcases i7 X with ⟨i,t,rfl,rfl⟩ | ⟨x,t,rfl,rfl⟩
  ·rcases i7 Y with ⟨j,u,rfl,e⟩ | ⟨y,u,rfl,e⟩
   ·injection e with e1 _;rw [e1]
   ·exact nomatch e
  ·rcases i7 Y with ⟨j,u,rfl,e⟩ | ⟨y,u,rfl,e⟩
   ·exact nomatch e
   ·injection e with e1 _;rw [e1]
 byValue:=fun k v h=>by
  rcases i7 h with ⟨i,t,rfl,rfl⟩ | ⟨x,t,rfl,rfl⟩<;>rfl
 pyHash:=fun Z h=>by
  rcases i7 Z with ⟨i,t,rfl,rfl⟩ | ⟨x,t,rfl,rfl⟩
  ·exact wpAny_pyHash_int h
  ·exact wpAny_pyHash_str h
 eqBool:=fun W Z h=>by
  rcases i7 W with ⟨i,t,rfl,rfl⟩ | ⟨x,t,rfl,rfl⟩
  ·rcases i7 Z with ⟨j,u,rfl,rfl⟩ | ⟨y,u,rfl,rfl⟩
   ·rw [Nz] at h;exact wpAny_eqBool_int h
   ·rw [NB] at h;exact SeqAt.EqAt.int_str i t y u _ _ _ _ h
  ·rcases i7 Z with ⟨j,u,rfl,rfl⟩ | ⟨y,u,rfl,rfl⟩
   ·rw [NC] at h;exact SeqAt.EqAt.str_int x t j u _ _ _ _ h
   ·rw [NA] at h;exact wpAny_eqBool_str h
 «strs»:=fun k x t v h=>by
  rcases i7 h with ⟨i,u,rfl,e⟩ | ⟨y,u,rfl,e⟩
  ·exact nomatch e
  ·injection e with e1 _
   subst e1
   cases v<;>rfl
set_option genInjectivity true in
inductive V where
 |ao|bl (b:Bool)|int (i:Int)|str (x:Str)|gM (b:Array UInt8)|qH (b:UInt64)|ref (a:Ø)|ty (n:String)
 deriving DecidableEq
def RelV:V->Ä->Prop
 | .ao,u=>u=Value.none
 | .bl b,u=>u=Ŋ b
 | .int i,u=>∃t,u=WG i t
 | .str x,u=>∃t,u=Value.str x t
 | .gM b,u=>∃t,u=Value.bytes b t
 | .qH b,u=>∃t,u=Value.float b t
 | .ref a,u=>u=V2 a
 | .ty n,u=>u=Ů n
abbrev Vals:List V->List Ä->Prop:=Paired RelV
theorem Vals.length (r:Vals xs us):xs.length=us.length:=Paired.length r
theorem Vals.get:∀{xs:List V} {us:List Ä} {i:Nat} {x:V},Vals xs us->xs[i]?=some x->∃u,us[i]?=some u/\RelV x u
 |_,_,_,_,.nil,e=>by simp at e
 |_,_,0,_,.cons r _,e=>by simp at e;subst e;exact ⟨_,rfl,r⟩
 |_,_,i+1,x,.cons _ t,e=>by
  obtain ⟨u,Z,Y⟩:=Vals.get (i:=i) (x:=x) t (by simpa using e);exact ⟨u,by simpa using Z,Y⟩
theorem Vals.set (r:RelV x u):∀{xs:List V} {us:List Ä} (i:Nat),Vals xs us->Vals (xs.set i x) (us.set i u)
 |_,_,_,.nil=>.nil
 |_,_,0,.cons _ t=>.cons r t
 |_,_,i+1,.cons q t=>.cons q (Vals.set r i t)
theorem Vals.append:∀{xs ys:List V} {us ws:List Ä},Vals xs us->Vals ys ws->Vals (xs++ys) (us++ws)
 |_,_,_,_,.nil,s=>s
 |_,_,_,_,.cons r t,s=>.cons r (Vals.append t s)
theorem Vals.take:∀{xs:List V} {us:List Ä} (n:Nat),Vals xs us->Vals (xs.take n) (us.take n)
 |_,_,0,_=>.nil
 |_,_,_ + 1,.nil=>.nil
 |_,_,n+1,.cons r t=>.cons r (Vals.take n t)
theorem Vals.drop:∀{xs:List V} {us:List Ä} (n:Nat),Vals xs us->Vals (xs.drop n) (us.drop n)
 |_,_,0,r=>r
 |_,_,_ + 1,.nil=>.nil
 |_,_,n+1,.cons _ t=>Vals.drop n t
def FC:Option V->Option Ä->Prop
 |some v,some u=>RelV v u
 |none,none=>True
 |_,_=>False
def KV {κ:Type}:List (κ×V)->List (κ×Ä)->Prop:=Paired fun (p:κ×V) (q:κ×Ä)=>p.1=q.1/\RelV p.2 q.2
def kV:Key->V
 | .inl i=>.int i
 | .inr x=>.str x
inductive HO where
 |lst (xs:List V)
 |tup (xs:List V)
 |dK (aB:List (Key×V))|dT (aB:List (List Key×V))
 |set (S:Int->Bool) (n:Nat)
 |ins (C dx:Ø) (fs:List (Str×V))
 |own (x:Ø)
 |xd (fs:List (Str×V))
 |met (f x:Ø)
 |di (lo hi:Int)
 |ba (o:Obj) (u:HO)
 |cO (ps:Array Ä)
 |ext (φ:ħ->Prop)
noncomputable abbrev Hp:=Ø->Option HO
def upd (H:Hp) (a:Ø) (o:HO):Hp:=fun b=>if b=a then some o else H b
def cm:upd H a o a=some o:=by unfold upd;rw [ä rfl]
def aT (h:b≠a):upd H a o b=H b:=by unfold upd;rw [í h]
def cz {H:Hp} {a b:Ø} {o:HO} (h:H a=some o) (h':H b=none):a≠b:=by
 intro e;subst e;rw [h] at h';cases h'
section
variable (P:ß) (w:ú)
def cJ (H:Hp) (h:ħ) (a:Ø):HO->Prop
 | .lst Z=>Z.length<=Ñ/\∃(its:List Ä) (n:Nat),Vals Z its/\h.get? a=some { cls:=.type "list",data:=.seq its.toArray n }
 | .tup Z=>Z.length<=Ñ/\∃its:List Ä,Vals Z its/\IsTup h a its.toArray
 | .dK X=>X.length<=Ñ/\(a==ς)=false/\∃R,KV X R/\h.DictOf (sy P w) a R
 | .dT X=>X.length<=Ñ/\(a==ς)=false/\∃Z:List (List Key×Ø×Ä),
   Paired (fun (p:List Key×V) (q:List Key×Ø×Ä)=>p.1=q.1/\H q.2.1=some (.tup (p.1.map kV))/\RelV p.2 q.2.2) X Z /\
   ∃o Q M,h.get? a=some o/\o.ExactDict/\o.data=.dict Q M/\Q.toList=Z.map (entryOfKey (tupleKind (sy P w)))/\(Z.map (·.1)).Nodup
 | .set S n=>h.SetOf (ņ P w) a S n
 | .ins C U fs=>H U=some (.own a)/\fs.length<=1000/\U≠a/\h.get? a=some (PySem.W.instObj C U) /\
   ∃Y,h.Ns1 U Y/\(∀f,FC (fs.lookup f) (Y f))/\PySem.Within Y (fs.map (·.1))
 | .own _=>∃o,h.get? a=some o
 | .xd fs=>∃Y,h.Ns1 a Y/\∀f,FC (fs.lookup f) (Y f)
 | .di lo hi=>∃t u v,h.get? a=some { cls:=.type "range",data:=.fields #[.int lo t,.int hi u,.int 1 v] }
 | .ba o u=>h.get? a=some o/\cJ H h a u
 | .cO L=>h.get? a=some { cls:=.none,data:=.fields L }
 | .met f x=>h.get? a=some (WH (.ref f) (.ref x))
 | .ext T=>T h/\(∃o,h.get? a=some o)/\∀O N:ħ,T O->(∀o,O.get? a=some o->N.get? a=some o)->T N
def bR (H:Hp) (h:ħ):Prop:=∀a o,H a=some o->cJ P w H h a o
end
section
variable {P:ß} {w:ú} {H H':Hp} {h h':ħ} {a:Ø} {o:HO}
theorem cJ.lt (x:cJ P w H h a o):a<h.objs.size:=by
 cases o with
 |lst Z=>obtain ⟨_,_,_,_,e⟩:=x;exact Ç e
 |tup Z=>obtain ⟨_,_,_,p⟩:=x;exact p.lt
 |dK Y=>obtain ⟨_,_,_,_,o,_,_,e,_⟩:=x;exact Ç e
 |dT Y=>obtain ⟨_,_,_,_,o,_,_,e,_⟩:=x;exact Ç e
 |set S n=>obtain ⟨o,_,_,_,e,_⟩:=x;exact Ç e
 |ins C X fs=>obtain ⟨_,_,_,e,_⟩:=x;exact Ç e
 |own y=>obtain ⟨_,e⟩:=x;exact Ç e
 |xd fs=>obtain ⟨_,⟨_,_,_,e,_⟩,_⟩:=x;exact Ç e
 |di lo hi=>obtain ⟨_,_,_,e⟩:=x;exact Ç e
 |ba W u=>obtain ⟨e,_⟩:=x;exact Ç e
 |cO V=>exact Ç (show h.get? a=some _ from x)
 |met f y=>exact Ç (show h.get? a=some _ from x)
 |ext U=>obtain ⟨_,⟨_,e⟩,_⟩:=x;exact Ç e
theorem Paired.FD {α β:Type} {F G:α->β->Prop}:∀{FE:List α} {FF:List β},Paired F FE FF->(∀a b,F a b->G a b)->Paired G FE FF
 |_,_,.nil,_=>.nil
 |_,_,.cons r t,f=>.cons (f _ _ r) (Paired.FD t f)
def cJ.cV (x:cJ P w H h a o) (k:∀b u,(b=a\/H b=some (.own a))->h.get? b=some u->h'.get? b=some u)
  (ho:∀b,H b=some (.own a)->H' b=some (.own a)) (ht:∀b xs,H b=some (.tup xs)->H' b=some (.tup xs)):cJ P w H' h' a o:=by
 induction o with
 |lst xs=>obtain ⟨z,its,n,r,e⟩:=x;exact ⟨z,its,n,r,k _ _ (.inl rfl) e⟩
 |tup xs=>obtain ⟨z,its,r,Z,e,c⟩:=x;exact ⟨z,its,r,Z,k _ _ (.inl rfl) e,c⟩
 |dK R=>obtain ⟨z,y,Q,r,Z,Y,X,e,c⟩:=x;exact ⟨z,y,Q,r,Z,Y,X,k _ _ (.inl rfl) e,c⟩
 |dT R =>
  obtain ⟨z,y,xs,r,Z,Y,X,e,c⟩:=x;exact ⟨z,y,xs,Paired.FD r fun p q z=>⟨z.1,ht _ _ z.2.1,z.2.2⟩,Z,Y,X,k _ _ (.inl rfl) e,c⟩
 |set S n=>obtain ⟨Z,Y,X,t,e,c⟩:=x;exact ⟨Z,Y,X,t,k _ _ (.inl rfl) e,c⟩
 |ins C O fs =>
  obtain ⟨d,z,ne,e,W,⟨V,Y,X,e2,c⟩,r⟩:=x;exact ⟨ho _ d,z,ne,k _ _ (.inl rfl) e,W,⟨V,Y,X,k _ _ (.inr d) e2,c⟩,r⟩
 |own y=>obtain ⟨Z,e⟩:=x;exact ⟨Z,k _ _ (.inl rfl) e⟩
 |xd fs=>obtain ⟨W,⟨V,Y,X,e,c⟩,r⟩:=x;exact ⟨W,⟨V,Y,X,k _ _ (.inl rfl) e,c⟩,r⟩
 |di lo hi=>obtain ⟨t,u,v,e⟩:=x;exact ⟨t,u,v,k _ _ (.inl rfl) e⟩
 |ba Z u ih=>obtain ⟨e,q⟩:=x;exact ⟨k _ _ (.inl rfl) e,ih q⟩
 |cO U =>
  have e:h.get? a=some { cls:=.none,data:=.fields U }:=x;show h'.get? a=some { cls:=.none,data:=.fields U };exact k a _ (.inl rfl) e
 |met f y =>
  have e:h.get? a=some (WH (.ref f) (.ref y)):=x;show h'.get? a=some (WH (.ref f) (.ref y));exact k a _ (.inl rfl) e
 |ext N=>obtain ⟨p,⟨o,e⟩,T⟩:=x;exact ⟨T _ _ p fun o q=>k _ _ (.inl rfl) q,⟨o,k _ _ (.inl rfl) e⟩,T⟩
theorem bR.lt (x:bR P w H h) (e:H a=some o):a<h.objs.size:=(x a o e).lt
def bR.fresh (x:bR P w H h) (e:h.objs.size<=a):H a=none:=by
 cases q:H a with
 |none=>rfl
 |some u=>exact absurd (Å (x.lt q) e) (è _)
def bR.kept (x:bR P w H h) (k:∀b u,h.get? b=some u->h'.get? b=some u):bR P w H h':=fun a o e =>
 (x a o e).cV (fun b u _ q=>k b u q) (fun _ q=>q) fun _ _ q=>q
def bR.laid (x:bR P w H h) (k:∀b u,h.get? b=some u->h'.get? b=some u) (hp:h.objs.size<=a) (new:cJ P w (upd H a o) h' a o):bR P w (upd H a o) h':=fun b u e=>by
 have Z:=x.fresh hp;by_cases Y:b=a
 ·subst Y;rw [cm] at e;cases e;exact new
 ·rw [aT Y] at e
  exact (x b u e).cV (fun c v _ q=>k c v q) (fun c q=>by rw [aT (cz q Z)];exact q) fun c X q=>by rw [aT (cz q Z)];exact q
end
def Rd (H:Hp) (a:Ø) (u:HO):Prop:=H a=some u\/∃o,H a=some (.ba o u)
def Rd.ok (r:Rd H a u) (x:bR P w H h):cJ P w H h a u:=by
 rcases r with r | ⟨o,r⟩
 ·exact x a u r
 ·obtain ⟨_,q⟩:=x a _ r
  exact q
def ux:Option HO->Prop
 |some (.lst _)=>True
 |some (.dK _)=>True
 |some (.dT _)=>True
 |some (.set _ _)=>True
 |some (.ins _ _ _)=>True
 |some (.ext _)=>True
 |_=>False
section
variable {P:ß} {w:ú} {H:Hp} {h h':ħ} {x e:Ø} {o':HO}
def bR.write (ok:bR P w H h) (mu:ux (H x)) (he:e=x\/H e=some (.own x)) (k:∀b u,b≠e->h.get? b=some u->h'.get? b=some u) (ow:∃u,h'.get? e=some u)
  (new:cJ P w (upd H x o') h' x o'):bR P w (upd H x o') h':=fun b u q=>by
 have W:∀c y,H c=some (.own y)->c≠x:=fun c y r z=>by subst z;rw [r] at mu;exact mu
 have U:∀c Z,H c=some (.tup Z)->c≠x:=fun c Z r z=>by subst z;rw [r] at mu;exact mu
 by_cases Y:b=x
 ·subst Y;rw [cm] at q;cases q;exact new
 ·rw [aT Y] at q
  by_cases X:b=e
  ·have V:H b=some (.own x):=by
    rcases he with z|z
    ·exact absurd (X.trans z) Y
    ·rw [X];exact z
   rw [q] at V;cases V;obtain ⟨v,T⟩:=ow;exact ⟨v,by rw [X];exact T⟩
  ·refine (ok b u q).cV (fun c v hc r=>k c v ?_ r) (fun c r=>by rw [aT (W c b r)];exact r) fun c Z r=>by rw [aT (U c Z r)];exact r
   rcases hc with rfl|hc
   ·exact X
   ·rintro rfl
    rcases he with z|z
    ·exact W c b hc z
    ·rw [hc] at z;cases z;exact Y rfl
end
structure Un (fs ex:List Ø) (H H':Hp) (h h':ħ):Prop where
 keep:∀b o,h.get? b=some o->H b=none->b∉fs->b∉ex->h'.get? b=some o
 slot:∀b o,h.get? b=some o->H b=none->b∈fs->b∉ex->∃sl,h'.get? b=some { o with slots:=sl }
 free:∀b o,h.get? b=some o->H b=none->b∉ex->H' b=none
 there:∀b o,h.get? b=some o->b∉ex->∃o',h'.get? b=some o'
 dB:∀b xs,H b=some (.tup xs)->H' b=some (.tup xs)
 de:∀b o u,H b=some (.ba o u)->H' b=some (.ba o u)
 dC:∀b ps,H b=some (.cO ps)->∃more,H' b=some (.cO (ps++more))
section
variable {fs R0 ex U7:List Ø} {H H1 H2:Hp} {h h1 h2 h':ħ} {a x e:Ø} {o:HO}
def Un.any (u:Un fs ex H H1 h h1) (q:h.get? b=some ob) (n:H b=none) (hx:b∉ex):∃sl,h1.get? b=some { ob with slots:=sl }:=by
 by_cases Z:b∈fs
 ·exact u.slot b ob q n Z hx
 ·exact ⟨ob.slots,u.keep b ob q n Z hx⟩
def Un.kept (k:∀b u,h.get? b=some u->h'.get? b=some u):Un fs ex H H h h' :=
 ⟨fun b Z q _ _ _=>k b Z q,fun b Z q _ _ _=>⟨Z.slots,k b Z q⟩,fun _ _ _ n _=>n,fun b Z q _=>⟨Z,k b Z q⟩,fun _ _ q=>q,fun _ _ _ q=>q,fun _ Y q=>⟨#[],by rw [q];simp⟩⟩
def Un.refl:Un fs ex H H h h:=Un.kept fun _ _ q=>q
def Un.laid (k:∀b u,h.get? b=some u->h'.get? b=some u) (hp:h.objs.size<=a) (hn:H a=none):Un fs ex H (upd H a o) h h' where
 keep:=fun b u q _ _ _=>k b u q
 slot:=fun b u q _ _ _=>⟨u.slots,k b u q⟩
 free:=fun b u q n _=>by rw [aT (Û (Å (Ç q) hp))];exact n
 there:=fun b u q _=>⟨u,k b u q⟩
 dB:=fun b Z q=>by rw [aT (cz q hn)];exact q
 de:=fun b u Z q=>by rw [aT (cz q hn)];exact q
 dC:=fun b Y q=>⟨#[],by rw [aT (cz q hn),q];simp⟩
def Un.write (mu:ux (H x)) (he:e=x\/H e=some (.own x)) (k:∀b u,b≠e->h.get? b=some u->h'.get? b=some u) (ow:∃u,h'.get? e=some u):Un fs ex H (upd H x o) h h':=by
 have Y:∀b,H b=none->b≠x:=fun b n z=>by subst z;rw [n] at mu;exact mu
 have X:∀b,H b=none->b≠e:=fun b n z=>by
  subst z
  rcases he with r|r
  ·exact Y b n r
  ·rw [n] at r;cases r
 have Z:∀b u,H b=some u->¬ ux (some u)->b≠x:=fun b u q nm z=>by subst z;rw [q] at mu;exact nm mu
 refine ⟨fun b u q n _ _=>k b u (X b n) q,fun b u q n _ _=>⟨u.slots,k b u (X b n) q⟩,fun b u q n _=>by rw [aT (Y b n)];exact n,fun b u q _=>?_,
  fun b V q=>by rw [aT (Z b _ q fun z=>z)];exact q,fun b u V q=>by rw [aT (Z b _ q fun z=>z)];exact q,fun b U q=>⟨#[],by rw [aT (Z b _ q fun z=>z),q];simp⟩⟩
 by_cases W:b=e
 ·subst W;exact ow
 ·exact ⟨u,k b u W q⟩
end
def ox (h:ħ) (H:Hp):List Ø:=(Ă h.objs.size).filter fun a=>(H a).isSome
def kl (h:ħ) (H:Hp):ħ:=PySem.W.hideAll h (ox h H)
def JP (h:ħ) (H:Hp):(kl h H).objs.size=h.objs.size:=PySem.W.hideAll_size _ _
def vD (e:h.get? b=some o) (n:H b=none):(kl h H).get? b=some o :=
 ν _ e fun Z=>by
  have q:(H b).isSome=true:=(Vt.mp Z).2;rw [n] at q;simp at q
def Ml (e:(kl h H).get? b=some o):h.get? b=some o/\H b=none:=by
 have Z:h.get? b=some o:=PySem.W.of_hideAll (ox h H) e;refine ⟨Z,?_⟩
 cases q:H b with
 |none=>rfl
 |some x =>
  have Y:b∈ox h H:=Vt.mpr ⟨Ĝ.mpr (Ç Z),by simp [q]⟩;have z:(kl h H).get? b=none:=PySem.W.hideAll_none (ox h H) Y;rw [z] at e;cases e
noncomputable def Mm (g h:ħ) (L:Ø):List (Ø×Obj):=(Ă h.objs.size).filterMap fun a=>if a=L\/(g.get? a).isSome=true then none else (h.get? a).map fun o=>(a,o)
def rest (g h:ħ) (L d:Ø):List (Ø×Obj):=(Mm g h L).filter fun p=>decide (p.1≠d)
structure Mod (K:č) (mg:Str->Option Ä) (base:ħ):Prop where
 iR:K.In base
 glob:base.Ns Ó mg
 blt:∃mb,base.Ns builtinsNs mb/\∀x:Str,x≠"__name__"->mb x=ì x
 nolimit:base.NoLimit
structure Cx where
 prog:ß
 w:ú
 K:č
 mg:Str->Option Ä
 base:ħ
 A:æ
 N:List Str
 cf:Ã
 jz:Hp
 env:Env
 outer:List Env
 stack:List Env
 ex:List Ø
 fn:Str->Bool
 calm:Bool
 pn:List (Ø×Obj)
 xe:Ä->Ã->Prop
noncomputable def bM (l:List Env):List Ø:=l.filterMap (·.frame)
abbrev Cx.fs (X:Cx):List Ø:=bM X.outer
def mR (sc:ŷ) (x:Str):Prop:=sc.names.lookup x=some .local\/sc.names.lookup x=some .cell\/sc.names.lookup x=some .free
def Loc (sc:ŷ) (x:Str):Prop:=sc.names.lookup x=some .local\/sc.names.lookup x=some .cell
def Look (env:Env) (h:ħ) (m:Str->Option Ä) (x:Str) (u:Ä):Prop :=
 (env.kindOf x=some .local/\m x=some u)\/((env.kindOf x=some .cell\/env.kindOf x=some .free)/\∃c,env.cells.lookup x=some c/\h.IsCell c (some u))
structure Cx.Ok (X:Cx):Prop where
 mod:Mod X.K X.mg X.base
 kind:X.env.scope.kind=.function
 glob:X.env.globals=Ó
 blt:X.env.builtins=builtinsNs
 above:X.cf.heap.objs.size<=X.env.locals
 inj:∀x y c,X.env.cells.lookup x=some c->X.env.cells.lookup y=some c->x=y
 has:∀x,(X.env.kindOf x=some .cell\/X.env.kindOf x=some .free)->∃c,X.env.cells.lookup x=some c
 oy:∀x c,X.fn x=true->X.env.cells.lookup x=some c->X.cf.heap.objs.size<=c
 hd:X.calm=true->X.A.handled=none
 frames:X.A.frames=some X.stack
 jG:X.stack=X.outer\/(X.stack=X.env::X.outer/\X.env.frame=some X.env.locals)
 Gp:∀b∈X.ex,b≠X.env.locals/\∀x c,X.env.cells.lookup x=some c->c≠b
 bs:∀b o,X.base.get? b=some o->X.cf.heap.get? b=some o/\X.jz b=none
 gv:X.base.objs.size<=X.cf.heap.objs.size
 lD:∀b o,X.base.get? b=some o->b∉X.ex
 tQ:∀b∈X.ex,b∉X.fs
 gp:X.cf.heap.FunFrames X.base X.outer
 jH:∀b∈X.fs,X.jz b=none
structure Inv (X:Cx) (π:List (Ø×Obj)) (σ:List (Option V)) (H:Hp) (s:Ã):Prop where
 ok:X.Ok
 os:s.os=X.cf.os
 bare:WL s.gens
 base:Un X.fs X.ex X.jz H X.cf.heap s.heap
 loc:∃m,s.heap.Ns X.env.locals m/\∀(i:Nat) (x:Str) (v:V),X.N[i]?=some x->σ[i]?=some (some v)->mR X.env.scope x->∃u,RelV v u/\Look X.env s.heap m x u
 cell:∀x c,X.env.cells.lookup x=some c->∃v,s.heap.IsCell c v
 free:H X.env.locals=none
 gG:∀x c,X.env.cells.lookup x=some c->H c=none
 pin:∀p∈X.pn++π,s.heap.get? p.1=some p.2/\H p.1=none/\p.1≠X.env.locals/\p.1∉X.fs/\∀v,p.2.data≠.cell v
 aD:bR X.prog X.w H s.heap
 len:σ.length=X.N.length
section
variable {X:Cx} {π:List (Ø×Obj)} {σ:List (Option V)} {H H':Hp} {s:Ã} {h':ħ}
def Cx.Ok.QR (ok:X.Ok) (e:X.base.get? b=some o):b∉X.fs:=fun Z=>by
 have:=(ok.gp.mem Z).1;rw [e] at this;cases this
theorem Inv.bs (I:Inv X π σ H s):∀b o,X.base.get? b=some o->s.heap.get? b=some o/\H b=none:=fun b o e =>
 ⟨I.base.keep b o (I.ok.bs b o e).1 (I.ok.bs b o e).2 (I.ok.QR e) (I.ok.lD b o e),I.base.free b o (I.ok.bs b o e).1 (I.ok.bs b o e).2 (I.ok.lD b o e)⟩
def Inv.bk (I:Inv X π σ H s):∀b o,X.base.get? b=some o->s.heap.get? b=some o:=fun b o e=>(I.bs b o e).1
theorem Inv.mod (I:Inv X π σ H s):Mod X.K X.mg X.base:=I.ok.mod
def Inv.gw (I:Inv X π σ H s):X.K.In s.heap:=I.ok.mod.iR.keeps I.bk
theorem Inv.lt (I:Inv X π σ H s):X.env.locals<s.heap.objs.size:=let ⟨_,Z,_⟩:=I.loc;Z.lt
def Inv.sz (I:Inv X π σ H s):X.cf.heap.objs.size<=s.heap.objs.size:=á I.ok.above (Nat.le_of_lt I.lt)
def Inv.ql (I:Inv X π σ H s) {a:Ø} (h:s.heap.objs.size<=a):a∉X.fs:=fun Z=>by
 obtain ⟨_,o,Y,_⟩:=I.ok.gp.mem Z;exact absurd (Å (Ç Y) (á I.sz h)) (è _)
def Inv.ie (I:Inv X π σ H s):∀x c,X.env.cells.lookup x=some c->c≠X.env.locals:=fun x c e z=>by
 obtain ⟨v,o,Z,Y⟩:=I.cell x c e;obtain ⟨m,⟨U,T,S,W,V,_⟩,_⟩:=I.loc;rw [z,W] at Z;cases Z;rw [V] at Y;cases Y
theorem Inv.gp (I:Inv X π σ H s):s.heap.FunFrames X.base X.outer:=by
 have all:∀(l:List Env),(∀b∈bM l,b∈X.fs)->X.cf.heap.FunFrames X.base l->s.heap.FunFrames X.base l:=by
  intro l
  induction l with
  |nil=>intro _ _;trivial
  |cons env r ih =>
   intro hs V;obtain ⟨U,⟨L,o,Z,T,S,R⟩,Q⟩:=V;have Y:L∈X.fs:=hs L (by unfold bM;rw [ξ,Z];exact Ö);obtain ⟨P,e⟩:=I.base.slot L o S (I.ok.jH L Y) Y fun z=>I.ok.tQ L z Y;exact ⟨U,⟨L,_,Z,T,e,R⟩,ih (fun b W=>hs b (by unfold bM;rw [ξ,Z];exact Õ _ W)) Q⟩
 exact all X.outer (fun _ W=>W) I.ok.gp
theorem Inv.stack (I:Inv X π σ H s):s.heap.FunFrames X.base X.stack:=by
 rcases I.ok.jG with e | ⟨e,Z⟩
 ·rw [e];exact I.gp
 ·rw [e]
  obtain ⟨m,Y,_⟩:=I.loc;refine .cons (by rw [I.ok.kind];decide) Z Y ?_ I.gp;exact Heap.get?_none_of_le (á I.ok.gv I.ok.above)
def Inv.iz (I:Inv X π σ H s):∀b∈bM X.stack,b∈X.env.locals::X.fs:=fun b Z=>by
 rcases I.ok.jG with e | ⟨e,Y⟩
 ·rw [e] at Z;exact Õ _ Z
 ·rw [e] at Z
  unfold bM at Z;rw [ξ,Y] at Z;exact Z
def Inv.pw (I:Inv X π σ H s):∀b∈bM X.stack,H b=none:=fun b hb=>by
 rcases Ð.mp (I.iz b hb) with e|hb
 ·rw [e];exact I.free
 ·obtain ⟨_,o,Z,_⟩:=I.ok.gp.mem hb
  exact I.base.free b o Z (I.ok.jH b hb) fun z=>I.ok.tQ b z hb
def Inv.step {g':Array GenState} {t':Nat} {d':Drawn} {ch:List Ø} (I:Inv X π σ H s)
  (jI:∀b∈ch,(b∈X.ex\/X.cf.heap.objs.size<=b)/\b≠X.env.locals/\(∀x c,X.env.cells.lookup x=some c->c≠b)/\∀p∈X.pn++π,p.1≠b)
  (keep:∀b o,b≠X.env.locals->b∉X.fs->b∉ch->s.heap.get? b=some o->H b=none->h'.get? b=some o)
  (slot:∀b o,b≠X.env.locals->b∈X.fs->b∉ch->s.heap.get? b=some o->H b=none->∃sl,h'.get? b=some { o with slots:=sl }) (free:∀b o,b∉ch->s.heap.get? b=some o->H b=none->H' b=none)
  (there:∀b o,b∉ch->s.heap.get? b=some o->∃o',h'.get? b=some o')
  (dB:∀b xs,H b=some (.tup xs)->H' b=some (.tup xs)) (de:∀b o u,H b=some (.ba o u)->H' b=some (.ba o u)) (dC:∀b ps,H b=some (.cO ps)->∃more,H' b=some (.cO (ps++more)))
  (ns:∀m,s.heap.Ns X.env.locals m->h'.Ns X.env.locals m) (aD:bR X.prog X.w H' h') (hg:WL g') :
  Inv X π σ H' { s with heap:=h',gens:=g',drawn:=d',toks:=t' }:=by
 have S:∀b o,X.cf.heap.get? b=some o->b≠X.env.locals:=fun b o e=>Û (Å (Ç e) I.ok.above);have U:∀b o,X.cf.heap.get? b=some o->b∉X.ex->b∉ch:=fun b o e Z Y=>by
  rcases (jI b Y).1 with z|z
  ·exact Z z
  ·exact absurd (Å (Ç e) z) (è _)
 have cellK:∀x c,X.env.cells.lookup x=some c->∀v,s.heap.IsCell c v->h'.IsCell c v:=fun x c e v ⟨o,W,T⟩=>by
  have V:c∉ch:=fun z=>(jI c z).2.2.1 x c e rfl;by_cases R:c∈X.fs
  ·obtain ⟨sl,q⟩:=slot c o (I.ie x c e) R V W (I.gG x c e)
   exact ⟨_,q,T⟩
  ·exact ⟨o,keep c o (I.ie x c e) R V W (I.gG x c e),T⟩
 refine ⟨I.ok,I.os,hg,⟨fun b o e n Y Z=>?_,fun b o e n Y Z=>?_,fun b o e n Z=>?_,fun b o e Z=>?_,fun b xs e=>dB b xs (I.base.dB b xs e),fun b o xs e=>de b o xs (I.base.de b o xs e),fun b ps e=>?_⟩,?_,fun x c e=>?_,?_,fun x c e=>?_,fun p Q=>?_,aD,I.len⟩
 ·exact keep b o (S b o e) Y (U b o e Z) (I.base.keep b o e n Y Z) (I.base.free b o e n Z)
 ·obtain ⟨sl,e1⟩:=I.base.slot b o e n Y Z
  obtain ⟨O,e2⟩:=slot b _ (S b o e) Y (U b o e Z) e1 (I.base.free b o e n Z);exact ⟨O,e2⟩
 ·obtain ⟨o',e1⟩:=I.base.there b o e Z
  exact free b o' (U b o e Z) e1 (I.base.free b o e n Z)
 ·obtain ⟨o',e1⟩:=I.base.there b o e Z
  exact there b o' (U b o e Z) e1
 ·obtain ⟨N,e1⟩:=I.base.dC b ps e
  obtain ⟨M,e2⟩:=dC b _ e1;exact ⟨N++M,by rw [e2,Array.append_assoc]⟩
 ·obtain ⟨m,L,K⟩:=I.loc
  refine ⟨m,ns m L,fun i x v e1 e2 J=>?_⟩;obtain ⟨u,r,l⟩:=K i x v e1 e2 J;refine ⟨u,r,?_⟩
  rcases l with l | ⟨k,c,e,z⟩
  ·exact .inl l
  ·exact .inr ⟨k,c,e,cellK x c e _ z⟩
 ·obtain ⟨v,z⟩:=I.cell x c e
  exact ⟨v,cellK x c e v z⟩
 ·obtain ⟨m,⟨o,_,_,W,_⟩,_⟩:=I.loc
  exact free _ o (fun z=>(jI _ z).2.1 rfl) W I.free
 ·obtain ⟨v,o,W,T⟩:=I.cell x c e
  exact free c o (fun z=>(jI c z).2.2.1 x c e rfl) W (I.gG x c e)
 ·obtain ⟨e,n,ne,P,d⟩:=I.pin p Q
  have V:p.1∉ch:=fun z=>(jI p.1 z).2.2.2 p Q rfl;exact ⟨keep p.1 p.2 ne P V e n,free p.1 p.2 V e n,ne,P,d⟩
def Inv.un {t':Nat} (I:Inv X π σ H s) (u:Un X.fs [] H H' s.heap h') (aD:bR X.prog X.w H' h'):Inv X π σ H' { s with heap:=h',toks:=t' }:=by
 obtain ⟨m,⟨o,Q,P,Y,r⟩,_⟩:=id I.loc;obtain ⟨O,V⟩:=u.any Y I.free (by simp)
 exact I.step (g':=s.gens) (d':=s.drawn) (ch:=[]) (fun _ z=>nomatch z) (fun b o _ Z _ e n=>u.keep b o e n Z (by simp)) (fun b o _ Z _ e n=>u.slot b o e n Z (by simp)) (fun b o _ e n=>u.free b o e n (by simp)) (fun b o _ e=>u.there b o e (by simp)) u.dB u.de u.dC (fun N U=>by
  obtain ⟨M,T,S,W,R⟩:=U;rw [Y] at W;cases W;exact ⟨_,T,S,V,R⟩) aD I.bare
def Inv.call {g':Array GenState} {t':Nat} {d':Drawn} {ch:List Ø} (I:Inv X π σ H s) (u:Un (bM X.stack) ch H H' s.heap h') (aD:bR X.prog X.w H' h') (hg:WL g')
  (jI:∀b∈ch,(b∈X.ex\/X.cf.heap.objs.size<=b)/\b≠X.env.locals/\(∀x c,X.env.cells.lookup x=some c->c≠b)/\∀p∈X.pn++π,p.1≠b) :
  Inv X π σ H' { s with heap:=h',gens:=g',drawn:=d',toks:=t' }:=by
 obtain ⟨m,⟨o,P,O,W,r⟩,_⟩:=id I.loc;obtain ⟨N,Y⟩:=u.any W I.free fun z=>(jI _ z).2.1 rfl;exact I.step (ch:=ch) jI (fun b o Y U Z e n=>u.keep b o e n (fun z=>(Ð.mp (I.iz b z)).elim Y U) Z) (fun b o _ _ Z e n=>u.any e n Z) (fun b o Z e n=>u.free b o e n Z) (fun b o Z e=>u.there b o e Z) u.dB u.de u.dC (fun M T=>by
  obtain ⟨L,S,R,V,Q⟩:=T;rw [W] at V;cases V;exact ⟨_,S,R,Y,Q⟩) aD hg
def Inv.turned {t':Nat} {it:Ø} (I:Inv X π σ H s) (k:∀b o,b≠it->s.heap.get? b=some o->h'.get? b=some o) (hn:H it=none) (hL:it≠X.env.locals)
  (h1:it∈X.ex\/X.cf.heap.objs.size<=it) (h2:∀x c,X.env.cells.lookup x=some c->c≠it) (h3:∀p∈X.pn++π,p.1≠it):Inv X π σ H { s with heap:=h',toks:=t' }:=by
 have Y:∀b u,H b=some u->b≠it:=fun b u e z=>by rw [z,hn] at e;cases e
 refine I.step (g':=s.gens) (d':=s.drawn) (ch:=[it]) (fun b W=>?_) (fun b o _ _ Z e _=>k b o (fun z=>Z (by simp [z])) e) (fun b o _ _ Z e _=>⟨o.slots,k b o (fun z=>Z (by simp [z])) e⟩) (fun _ _ _ _ n=>n)
  (fun b o Z e=>⟨o,k b o (fun z=>Z (by simp [z])) e⟩) (fun _ _ e=>e) (fun _ _ _ e=>e) (fun b R e=>⟨#[],by rw [e];simp⟩) (fun m V=>?_) (fun b u e=>?_) I.bare
 ·have e:b=it:=by simpa using W
  subst e;exact ⟨h1,hL,h2,h3⟩
 ·obtain ⟨o,U,T,S,r⟩:=V
  exact ⟨o,U,T,k _ o (Ÿ hL) S,r⟩
 ·refine (I.aD b u e).cV (fun c v Z q=>k c v ?_ q) (fun _ q=>q) fun _ _ q=>q
  rcases Z with z|z
  ·rw [z];exact Y b u e
  ·exact Y c _ z
def Inv.tok (I:Inv X π σ H s) (t:Nat):Inv X π σ H { s with toks:=t }:=I.un (h':=s.heap) (t':=t) Un.refl I.aD
theorem Inv.kept (I:Inv X π σ H s) (k:∀b u,s.heap.get? b=some u->h'.get? b=some u):Inv X π σ H { s with heap:=h',toks:=t' }:=I.un (Un.kept k) (I.aD.kept k)
theorem Inv.laid {a:Ø} {o:HO} {t':Nat} (I:Inv X π σ H s) (k:∀b u,s.heap.get? b=some u->h'.get? b=some u) (hp:s.heap.objs.size<=a) (new:cJ X.prog X.w (upd H a o) h' a o) :
  Inv X π σ (upd H a o) { s with heap:=h',toks:=t' }:=I.un (Un.laid k hp (I.aD.fresh hp)) (I.aD.laid k hp new)
theorem Inv.write (I:Inv X π σ H s) (mu:ux (H x)) (he:e=x\/H e=some (.own x)) (k:∀b u,b≠e->s.heap.get? b=some u->h'.get? b=some u) (ow:∃u,h'.get? e=some u)
 (new:cJ X.prog X.w (upd H x o) h' x o):Inv X π σ (upd H x o) { s with heap:=h',toks:=t' }:=I.un (Un.write mu he k ow) (I.aD.write mu he k ow new)
def Inv.l8 (I:Inv X π σ H s) (h:∀p∈Pf,s.heap.get? p.1=some p.2/\H p.1=none/\p.1≠X.env.locals/\p.1∉X.fs/\∀v,p.2.data≠.cell v):Inv X Pf σ H s :=
 ⟨I.ok,I.os,I.bare,I.base,I.loc,I.cell,I.free,I.gG,fun p Z=>(ð.mp Z).elim (fun z=>I.pin p (ö _ z)) (h p),I.aD,I.len⟩
def vE {N:List Str} (hN:N.Nodup) {i j:Nat} {x:Str} (a:N[i]?=some x) (b:N[j]?=some x):i=j:=by
 obtain ⟨Z,e1⟩:=Æ.mp a;obtain ⟨Y,e2⟩:=Æ.mp b;exact (List.getElem_inj hN).mp (e1.trans e2.symm)
def JQ {M:Model} {A:æ} {E:Ä->Ã->Prop} {i:Nat} {x:Str} {v:V} {u:Ä} {Q:Unit->Ã->Prop} (I:Inv X π σ H s) (hN:X.N.Nodup) (hi:X.N[i]?=some x) (hx:Loc X.env.scope x) (r:RelV v u)
  (h:∀s',Inv X π (σ.set i (some v)) H s'->(∃a,Į a s.heap s'.heap/\(a=X.env.locals\/X.env.cells.lookup x=some a))->Q () s') (hf:X.fn x=true\/X.env.scope.names.lookup x=some .local:=by first|exact .inl rfl|exact .inr rfl|assumption):Ù M A (storeName X.env x u) Q E s:=by
 obtain ⟨m,T,D⟩:=id I.loc;have qm:(X.env.scope.kind==.class||(X.env.scope.kind==.module&&X.env.locals != X.env.globals))=false:=by rw [I.ok.kind];rfl
 have C:i < σ.length:=by rw [I.len];exact (Æ.mp hi).1
 have ie:=I.ie;have tracked:∀{a:Ø} {h':ħ},(∃o,s.heap.get? a=some o/\H a=none)->Į a s.heap h'->bR X.prog X.w H h':=fun {a h'} ha hs b ob e=>by
  obtain ⟨_,_,B⟩:=ha;refine (I.aD b ob e).cV (fun c W hc q=>(hs.2 c ?_).trans q) (fun _ q=>q) fun _ _ q=>q;rintro rfl
  rcases hc with rfl|hc
  ·rw [B] at e;cases e
  ·rw [B] at hc;cases hc
 rcases hx with hk|hk
 ·refine wpAny_storeName_local hk T (fun h' jJ hs=>?_) qm
  obtain ⟨oL,_,_,oz,_⟩:=id T;refine h _ ⟨I.ok,I.os,I.bare,⟨fun b o e n Z hx=>?_,fun b o e n Z hx=>?_,I.base.free,fun b o e hx=>?_,I.base.dB,I.base.de,I.base.dC⟩,⟨_,jJ,fun j y S e1 e2 R=>?_⟩,fun y c e=>?_,I.free,I.gG,fun p P=>?_,tracked ⟨oL,oz,I.free⟩ hs,by simpa using I.len⟩ ⟨_,hs,.inl rfl⟩
  ·exact (hs.2 b (Û (Å (Ç e) I.ok.above))).trans (I.base.keep b o e n Z hx)
  ·obtain ⟨O,e1⟩:=I.base.slot b o e n Z hx
   exact ⟨O,(hs.2 b (Û (Å (Ç e) I.ok.above))).trans e1⟩
  ·obtain ⟨L,e1⟩:=I.base.there b o e hx
   exact ⟨L,(hs.2 b (Û (Å (Ç e) I.ok.above))).trans e1⟩
  ·by_cases Y:j=i
   ·subst Y
    rw [hi] at e1;cases e1;rw [å C] at e2;cases e2;exact ⟨u,r,.inl ⟨hk,by simp⟩⟩
   ·rw [â (Ÿ Y)] at e2
    obtain ⟨K,J,q⟩:=D j y S e1 e2 R;refine ⟨K,J,?_⟩
    rcases q with ⟨k,e⟩ | ⟨k,c,e,z⟩
    ·refine .inl ⟨k,?_⟩
     have:y≠x:=fun e=>Y (vE hN e1 (e ▸ hi));simp [this,e]
    ·exact .inr ⟨k,c,e,z.sameBut hs (ie y c e)⟩
  ·obtain ⟨W,z⟩:=I.cell y c e
   exact ⟨W,z.sameBut hs (ie y c e)⟩
  ·obtain ⟨e,n,ne,G,d⟩:=I.pin p P
   exact ⟨(hs.2 p.1 ne).trans e,n,ne,G,d⟩
 ·have F:X.fn x=true:=by
   rcases hf with z|z
   ·exact z
   ·rw [z] at hk;cases hk
  obtain ⟨c,hc⟩:=I.ok.has x (.inl hk);obtain ⟨W,z⟩:=I.cell x c hc;refine wpAny_storeName_cell I.ok.kind hk hc z (fun h' t hs=>?_);obtain ⟨l,g,QS⟩:=id z
  refine h { s with heap:=h' } ⟨I.ok,I.os,I.bare,⟨fun b o e n Z hx=>?_,fun b o e n Z hx=>?_,I.base.free,fun b o e hx=>?_,I.base.dB,I.base.de,I.base.dC⟩,⟨m,T.sameBut hs (Ÿ (ie x c hc)),fun j y S e1 e2 R=>?_⟩,fun y U e=>?_,I.free,I.gG,fun p P=>?_,tracked ⟨l,g,I.gG x c hc⟩ hs,by simpa using I.len⟩ ⟨c,hs,.inr hc⟩
  ·exact (hs.2 b (Û (Å (Ç e) (I.ok.oy x c F hc)))).trans (I.base.keep b o e n Z hx)
  ·obtain ⟨O,e1⟩:=I.base.slot b o e n Z hx
   exact ⟨O,(hs.2 b (Û (Å (Ç e) (I.ok.oy x c F hc)))).trans e1⟩
  ·obtain ⟨L,e1⟩:=I.base.there b o e hx
   exact ⟨L,(hs.2 b (Û (Å (Ç e) (I.ok.oy x c F hc)))).trans e1⟩
  ·by_cases Y:j=i
   ·subst Y
    rw [hi] at e1;cases e1;rw [å C] at e2;cases e2;exact ⟨u,r,.inr ⟨.inl hk,c,hc,t⟩⟩
   ·rw [â (Ÿ Y)] at e2
    obtain ⟨K,J,q⟩:=D j y S e1 e2 R;refine ⟨K,J,?_⟩
    rcases q with q | ⟨k,U,e,z'⟩
    ·exact .inl q
    ·refine .inr ⟨k,U,e,z'.sameBut hs ?_⟩
     rintro rfl;exact Y (vE hN e1 (I.ok.inj _ _ _ e hc ▸ hi))
  ·by_cases f:U=c
   ·subst f;exact ⟨_,t⟩
   ·obtain ⟨w2,z2⟩:=I.cell y U e
    exact ⟨w2,z2.sameBut hs f⟩
  ·obtain ⟨e,n,ne,G,d⟩:=I.pin p P
   refine ⟨(hs.2 p.1 ?_).trans e,n,ne,G,d⟩;intro q;rw [q,g] at e;have q':l=p.2:=WW e;exact d W (by rw [<- q'];exact QS)
def kW (I:Inv X π σ H s) (hN:X.N.Nodup) (hi:X.N[i]?=some x) (hx:Loc X.env.scope x) (r:RelV v u)
 (h:∀s',Inv X π (σ.set i (some v)) H s'->Q () s') (hf:X.fn x=true\/X.env.scope.names.lookup x=some .local:=by first|exact .inl rfl|exact .inr rfl|assumption):Ù M A (storeName X.env x u) Q E s :=
 JQ I hN hi hx r (fun s' Z _=>h s' Z) hf
def Inv.pY (I:Inv X π σ H s) (ho:s'.os=s.os) (u:Un (bM X.stack) ch H H' s.heap s'.heap) (aD:bR X.prog X.w H' s'.heap) (hg:WL s'.gens)
 (jI:∀b∈ch,(b∈X.ex\/X.cf.heap.objs.size<=b)/\b≠X.env.locals/\(∀x c,X.env.cells.lookup x=some c->c≠b)/\∀p∈X.pn++π,p.1≠b):Inv X π σ H' s':=by
 obtain ⟨h',g',d',t',Z⟩:=s';have e:Z=s.os:=ho;subst e;exact I.call (g':=g') (t':=t') (d':=d') u aD hg jI
end
abbrev XK:=Ä->Option Ø->Hp->Prop
noncomputable abbrev St:=List (Option V)
abbrev VK:=V->Hp->Prop
abbrev TE:=St->Hp->VK->Prop
abbrev TT:=St->Hp->(Bool->Hp->Prop)->Prop
abbrev TA:=St->Hp->(List V->Hp->Prop)->Prop
structure Ends where
 nx:St->Hp->Prop
 rt:VK
 bk:St->Hp->Prop:=fun _ _=>False
 ct:St->Hp->Prop:=fun _ _=>False
abbrev TS:=Ends->St->Hp->Prop
def EP (X:Cx) (π:List (Ø×Obj)) (σ:St) (Q:VK) (u:Ä) (s':Ã):Prop:=∃v Z,Inv X π σ Z s'/\RelV v u/\Q v Z
def TP (X:Cx) (π:List (Ø×Obj)) (σ:St) (Q:Bool->Hp->Prop) (b:Bool) (s':Ã):Prop:=∃Z,Inv X π σ Z s'/\Q b Z
def AP (X:Cx) (π:List (Ø×Obj)) (σ:St) (Q:List V->Hp->Prop) (us:List Ä) (s':Ã):Prop:=∃Z Y,Inv X π σ Y s'/\Vals Z us/\Q Z Y
def SP (X:Cx) (π:List (Ø×Obj)) (D:Ends) (f:Flow) (s':Ã):Prop :=
 match f with
 | .next=>∃ Y Z,Inv X π Y Z s'/\D.nx Y Z
 | .brk=>∃ Y Z,Inv X π Y Z s'/\D.bk Y Z
 | .cont=>∃ Y Z,Inv X π Y Z s'/\D.ct Y Z
 | .ret u=>∃v Y Z,Inv X π Y Z s'/\RelV v u/\D.rt v Z
def PE (X:Cx) (e:Ğ) (t:TE):Prop :=
 ∀(Z:List (Ø×Obj)) (s:Ã) (σ:St) (H:Hp) (Q:VK),Inv X Z σ H s->t σ H Q->Ù (à X.prog X.w) X.A (ļ e X.env) (EP X Z σ Q) X.xe s
def PT (X:Cx) (e:Ğ) (t:TT):Prop :=
 ∀(Z:List (Ø×Obj)) (s:Ã) (σ:St) (H:Hp) (Q:Bool->Hp->Prop),Inv X Z σ H s->t σ H Q->Ù (à X.prog X.w) X.A (isTrue e X.env (ļ e X.env)) (TP X Z σ Q) X.xe s
def PW (X:Cx) (e:Ğ) (t:TT):Prop :=
 ∀(whole:Sem Ä) (Z:List (Ø×Obj)) (s:Ã) (σ:St) (H:Hp) (Q:Bool->Hp->Prop),Inv X Z σ H s->t σ H Q->Ù (à X.prog X.w) X.A (isTrue e X.env whole) (TP X Z σ Q) X.xe s
def PW.pt (h:PW X e t):PT X e t:=h _
def PA (X:Cx) (es:List Ğ) (t:TA):Prop :=
 ∀(pos:Pos) (Z:List (Ø×Obj)) (s:Ã) (σ:St) (H:Hp) (Q:List V->Hp->Prop),Inv X Z σ H s->t σ H Q->Ù (à X.prog X.w) X.A (spliced (ı pos (Ê es X.env))) (AP X Z σ Q) X.xe s
def PS (X:Cx) (st:WE) (t:TS):Prop :=
 ∀(Z:List (Ø×Obj)) (s:Ã) (σ:St) (H:Hp) (D:Ends),Inv X Z σ H s->t D σ H->Ù (à X.prog X.w) X.A (exec st X.env) (SP X Z D) X.xe s
def cg (X:Cx) (st:List WE) (t:TS):Prop :=
 ∀(Z:List (Ø×Obj)) (s:Ã) (σ:St) (H:Hp) (D:Ends),Inv X Z σ H s->t D σ H->Ù (à X.prog X.w) X.A (execs st X.env) (SP X Z D) X.xe s
def aH {α:Type} {t:Sem α} {Q Q':α->Ã->Prop} {M:Model} {A:æ} {E:Ä->Ã->Prop} {s:Ã} (h:Ù M A t Q E s) (hQ:∀a s,Q a s->Q' a s):Ù M A t Q' E s:=ģ h hQ fun _ _ x=>x
section
variable {X:Cx}
def QT (i:Nat):TE:=fun σ H Q=>∃v,σ[i]?=some (some v)/\Q v H
def tC (v:V):TE:=fun _ H Q=>Q v H
def DB {i:Nat} {x:Str} {pos:Pos} (hN:X.N[i]?=some x) (hv:mR X.env.scope x) (hd:(x==("__debug__":Str))=false:=by decide) (cX:(x==("__classdict__":Str))=false:=by decide):PE X (.Name x pos) (QT i):=by
 intro W s σ H Q I h;obtain ⟨v,e,h⟩:=h;obtain ⟨m,V,U⟩:=I.loc;obtain ⟨u,r,l⟩:=U i x v hN e hv;have fin:EP X W σ Q u s:=⟨v,H,I,r,h⟩
 rcases l with ⟨hk,T⟩ | ⟨hk,c,Z,Y⟩
 ·exact wpAny_Name (wpAny_loadName_local I.ok.kind hk V T fin) hd
 ·rcases hk with hk|hk
  ·exact wpAny_Name (wpAny_loadName_cell I.ok.kind hk Z Y fin) hd
  ·exact wpAny_Name (wpAny_loadName_free I.ok.kind hk Z Y fin cX) hd
def ND {i j pos}:PE X (.Constant (.int i) j pos) (tC (.int i)):=fun _ _ _ H _ I h=>wpAny_Constant_int ⟨.int i,H,I.tok _,⟨_,rfl⟩,h⟩
def xE {b j pos}:PE X (.Constant (.bool b) j pos) (tC (.bl b)):=fun _ _ _ H _ I h=>Constant_bool ⟨.bl b,H,I,rfl,h⟩
def NF {j pos}:PE X (.Constant .none j pos) (tC .ao):=fun _ _ _ H _ I h=>Constant_none ⟨.ao,H,I,rfl,h⟩
def NG {x j pos}:PE X (.Constant (.str x) j pos) (tC (.str x)):=fun _ _ _ H _ I h=>Calls.Constant_str ⟨.str x,H,I.tok _,⟨_,rfl⟩,h⟩
def Gl (X:Cx) (x:Str):Prop:=X.env.kindOf x=some .globalImplicit
def nC {E:Ä->Ã->Prop} {π:List (Ø×Obj)} {s:Ã} {σ:St} {H:Hp} {x:Str} {u:Ä} {pos:Pos} {Q:Ä->Ã->Prop} (I:Inv X π σ H s) (hg:Gl X x) (hm:X.mg x=some u) (h:Q u s)
  (hd:(x==("__debug__":Str))=false:=by decide):Ù (à X.prog X.w) X.A (ļ (.Name x pos) X.env) Q E s :=
 Calls.Name_function_global I.ok.kind hg (Calls.loadGlobal_global (by rw [I.ok.glob];exact I.mod.glob.keeps I.bk) hm h) hd
def nI {E:Ä->Ã->Prop} {π:List (Ø×Obj)} {s:Ã} {σ:St} {H:Hp} {x:Str} {u:Ä} {pos:Pos} {Q:Ä->Ã->Prop} (I:Inv X π σ H s) (hg:Gl X x) (hm:X.mg x=none) (hv:ì x=some u) (h:Q u s)
  (hn:x≠"__name__":=by decide) (hd:(x==("__debug__":Str))=false:=by decide):Ù (à X.prog X.w) X.A (ļ (.Name x pos) X.env) Q E s:=by
 obtain ⟨W,Z,Y⟩:=I.mod.blt;exact Calls.Name_function_global I.ok.kind hg (Calls.loadGlobal_builtin (by rw [I.ok.glob];exact I.mod.glob.keeps I.bk) hm (by rw [I.ok.blt];exact Z.keeps I.bk) ((Y x hn).trans hv) h) hd
def Cv (hg:Gl X x) (hm:X.mg x=some u) (r:RelV v u) (hd:(x==("__debug__":Str))=false:=by decide):PE X (.Name x pos) (tC v) :=
 fun _ _ _ H _ I h=>nC I hg hm ⟨v,H,I,r,h⟩ hd
def Cw {x:Str} {v:V} {u:Ä} {pos:Pos} (hg:Gl X x) (hm:X.mg x=none) (hv:ì x=some u) (r:RelV v u) (hn:x≠"__name__":=by decide) (hd:(x==("__debug__":Str))=false:=by decide):PE X (.Name x pos) (tC v) :=
 fun _ _ _ H _ I h=>nI I hg hm hv ⟨v,H,I,r,h⟩ hn hd
variable {a b:Ğ} {ta tb:TE} {pos:Pos}
variable {tA uB:TT} {rest:List Ğ}
def dJ (t u:TT):TT:=fun σ H Q=>t σ H fun c Z=>if c=true then u σ Z Q else Q false Z
def iS (t u:TT):TT:=fun σ H Q=>t σ H fun c Z=>if c=true then Q true Z else u σ Z Q
def eY (t:TT):TT:=fun σ H Q=>t σ H fun c Z=>Q (!c) Z
def Mn (ha:PT X a tA):PW X (.BoolOp .And [a] pos) tA:=by
 intro Y Z s σ H Q I h;refine isTrue_and (aH (ha Z s σ H Q I h) fun c W e=>?_)
 cases c with
 |true=>exact isTrue_and_nil e
 |false=>exact e
def NH (ha:PT X a tA):PW X (.BoolOp .Or [a] pos) tA:=by
 intro Y Z s σ H Q I h;refine isTrue_or (aH (ha Z s σ H Q I h) fun c W e=>?_)
 cases c with
 |false=>exact isTrue_or_nil e
 |true=>exact e
def NI (ha:PT X a tA) (hb:PW X (.BoolOp .And (b::rest) pos) uB):PW X (.BoolOp .And (a::b::rest) pos) (dJ tA uB):=by
 intro U Z s σ H Q I h;refine isTrue_and (aH (ha Z s σ H _ I h) fun c T ⟨Y,W,V⟩=>?_)
 cases c with
 |true=>exact hb U Z T σ Y Q W V
 |false=>exact ⟨Y,W,V⟩
def Ph (ha:PT X a tA) (hb:PW X (.BoolOp .Or (b::rest) pos) uB):PW X (.BoolOp .Or (a::b::rest) pos) (iS tA uB):=by
 intro U Z s σ H Q I h;refine isTrue_or (aH (ha Z s σ H _ I h) fun c T ⟨Y,W,V⟩=>?_)
 cases c with
 |true=>exact ⟨Y,W,V⟩
 |false=>exact hb U Z T σ Y Q W V
def NJ (ha:PT X a tA):PT X (.UnaryOp .Not a pos) (eY tA):=by
 intro Z s σ H Q I h;exact isTrue_not (ha Z s σ H (fun c Y=>Q (!c) Y) I h)
def Pj (ta tb:TE):TE:=fun σ H Q=>ta σ H fun x Z=>∃c,x=.bl c/\if c=true then tb σ Z Q else Q (.bl false) Z
def QU (ta tb:TE):TE:=fun σ H Q=>ta σ H fun x Z=>∃c,x=.bl c/\if c=true then Q (.bl true) Z else tb σ Z Q
def Pk (ta:TE):TE:=fun σ H Q=>ta σ H fun x Z=>∃c,x=.bl c/\Q (.bl (!c)) Z
def NK {op} (h:PE X a t):PE X (.BoolOp op [a] pos) t:=fun Z s σ H Q I hw=>BoolOp_one (h Z s σ H Q I hw)
def NL (ha:PE X a ta) (hb:PE X (.BoolOp .And (b::rest) pos) tb):PE X (.BoolOp .And (a::b::rest) pos) (Pj ta tb):=by
 intro Y s σ H Q I h;refine BoolOp_and (aH (ha Y s σ H _ I h) fun v U ⟨x,W,V,T,Z⟩=>?_);obtain ⟨c,rfl,Z⟩:=Z;cases T;refine Ŀ ?_
 cases c with
 |true=>exact hb Y U σ W Q V Z
 |false=>exact ⟨.bl false,W,V,rfl,Z⟩
def Pl (ha:PE X a ta) (hb:PE X (.BoolOp .Or (b::rest) pos) tb):PE X (.BoolOp .Or (a::b::rest) pos) (QU ta tb):=by
 intro Y s σ H Q I h;refine BoolOp_or (aH (ha Y s σ H _ I h) fun v U ⟨x,W,V,T,Z⟩=>?_);obtain ⟨c,rfl,Z⟩:=Z;cases T;refine Ŀ ?_
 cases c with
 |false=>exact hb Y U σ W Q V Z
 |true=>exact ⟨.bl true,W,V,rfl,Z⟩
def NM (ha:PE X a ta):PE X (.UnaryOp .Not a pos) (Pk ta):=by
 intro Y s σ H Q I h;refine UnaryOp_ (aH (ha Y s σ H _ I h) fun v T ⟨x,W,V,U,Z⟩=>?_);obtain ⟨c,rfl,Z⟩:=Z;cases U;exact not_of (Ŀ ⟨.bl (!c),W,V,rfl,Z⟩)
def R1 (t:TT) (ta tb:TE):TE:=fun σ H Q=>t σ H fun c Z=>if c=true then ta σ Z Q else tb σ Z Q
def K1 {c:Ğ} (hc:PT X c tA) (ha:PE X a ta) (hb:PE X b tb):PE X (.IfExp c a b pos) (R1 tA ta tb):=by
 intro Z s σ H Q I h;refine wpAny_IfExp (aH (hc Z s σ H _ I h) fun d Y ⟨W,V,U⟩=>?_)
 cases d with
 |true=>exact ha Z Y σ W Q V U
 |false=>exact hb Z Y σ W Q V U
end
def bt (K:č) (H:Hp) (a:Ø) (xs:List V):Prop :=
 Rd H a (.lst xs) \/
  ∃(o:Obj) (its:Array Ä) (n:Nat),K.lookup a=some o/\o.cls=.type "list"/\o.dict=none/\o.data=.seq its n/\its.size<=Ñ/\Vals xs its.toList
def bg (K:č) (H:Hp) (a:Ø) (xs:List V):Prop :=
 Rd H a (.tup xs) \/
  ∃(o:Obj) (its:Array Ä) (n:Nat),K.lookup a=some o/\o.cls=.type "tuple"/\o.data=.seq its n/\its.size<=Ñ/\Vals xs its.toList
noncomputable def QV:Ä->Option V
 | .none=>some .ao
 | .bool b=>some (.bl b)
 | .int i _=>some (.int i)
 | .str x _=>some (.str x)
 | .bytes b _=>some (.gM b)
 | .float b _=>some (.qH b)
 | .ref a=>some (.ref a)
 | .type n=>some (.ty n)
 |_=>none
def RelV.abs (r:RelV x u):QV u=some x:=by
 cases x with
 |ao=>cases r;rfl
 |bl _=>cases r;rfl
 |int _=>obtain ⟨t,rfl⟩:=r;rfl
 |str _=>obtain ⟨t,rfl⟩:=r;rfl
 |gM _=>obtain ⟨t,rfl⟩:=r;rfl
 |qH _=>obtain ⟨t,rfl⟩:=r;rfl
 |ref _=>cases r;rfl
 |ty _=>cases r;rfl
def RelV.inj (r:RelV x u) (q:RelV y u):x=y:=WW (r.abs.symm.trans q.abs)
theorem Vals.inj:∀{xs ys:List V} {us:List Ä},Vals xs us->Vals ys us->xs=ys
 |_,_,_,.nil,.nil=>rfl
 |_,_,_,.cons r t,.cons Z Y=>by rw [r.inj Z,Vals.inj t Y]
section
variable {X:Cx} {π:List (Ø×Obj)} {σ:St} {H:Hp} {s:Ã} {a:Ø} {xs ys:List V}
def bt.of {K:č} (h:H a=some (.lst xs)):bt K H a xs:=.inl (.inl h)
def bg.of {K:č} (h:H a=some (.tup xs)):bg K H a xs:=.inl (.inl h)
def Inv.list (I:Inv X π σ H s) (h:bt X.K H a xs):∃its:List Ä,Vals xs its/\PlainL s.heap a its.toArray/\xs.length<=Ñ:=by
 rcases h with h | ⟨o,its,n,Z,Y,W,hs,V,r⟩
 ·obtain ⟨z,its,n,r,e⟩:=h.ok I.aD
  exact ⟨its,r,⟨_,n,e,rfl,rfl,rfl⟩,z⟩
 ·refine ⟨its.toList,r,⟨o,n,I.gw a o Z,Y,W,by simpa using hs⟩,?_⟩
  have e:=r.length;simp only [î] at e;omega
def Inv.tuple (I:Inv X π σ H s) (h:bg X.K H a xs):∃its:List Ä,Vals xs its/\IsTup s.heap a its.toArray/\xs.length<=Ñ:=by
 rcases h with h | ⟨o,its,n,Z,Y,hs,W,r⟩
 ·obtain ⟨z,its,r,p⟩:=h.ok I.aD
  exact ⟨its,r,p,z⟩
 ·refine ⟨its.toList,r,⟨o,I.gw a o Z,Y,n,by simpa using hs⟩,?_⟩
  have e:=r.length;simp only [î] at e;omega
def Inv.BZ (I:Inv X π σ H s) (h:bt X.K H a xs) (h':bt X.K H a ys):xs=ys:=by
 obtain ⟨its,r,⟨o,n,e,_,_,d⟩,_⟩:=I.list h;obtain ⟨Z,V,⟨T,S,Y,_,_,W⟩,_⟩:=I.list h';rw [e] at Y;cases Y;rw [d] at W
 injection W with U _
 have:its=Z:=by simpa using ĺ Array.toList U
 subst this;exact r.inj V
def Inv.BC (I:Inv X π σ H s) (h:bg X.K H a xs) (h':bg X.K H a ys):xs=ys:=by
 obtain ⟨its,r,⟨o,e,_,n,d⟩,_⟩:=I.tuple h;obtain ⟨Z,V,⟨T,Y,_,S,W⟩,_⟩:=I.tuple h';rw [e] at Y;cases Y;rw [d] at W
 injection W with U _
 have:its=Z:=by simpa using ĺ Array.toList U
 subst this;exact r.inj V
end
noncomputable abbrev Cx.ia (X:Cx) (E:Ä->Ã->Prop):Cx:={ X with xe:=E }
noncomputable abbrev Cx.kF (X:Cx):Cx:=X.ia fun _ _=>False
theorem Cx.Ok.ia {X:Cx} (ok:X.Ok) (E:Ä->Ã->Prop):(X.ia E).Ok :=
 ⟨ok.mod,ok.kind,ok.glob,ok.blt,ok.above,ok.inj,ok.has,ok.oy,ok.hd,ok.frames,ok.jG,ok.Gp,ok.bs,ok.gv,ok.lD,ok.tQ,ok.gp,ok.jH⟩
def Cx.Ok.j7 {X:Cx} {E:Ä->Ã->Prop} (ok:(X.ia E).Ok):X.Ok :=
 ⟨ok.mod,ok.kind,ok.glob,ok.blt,ok.above,ok.inj,ok.has,ok.oy,ok.hd,ok.frames,ok.jG,ok.Gp,ok.bs,ok.gv,ok.lD,ok.tQ,ok.gp,ok.jH⟩
section
variable {X:Cx} {π:List (Ø×Obj)} {σ:St} {H:Hp} {s:Ã} {E:Ä->Ã->Prop}
theorem Inv.ia (I:Inv X π σ H s) (E:Ä->Ã->Prop):Inv (X.ia E) π σ H s:=⟨I.ok.ia E,I.os,I.bare,I.base,I.loc,I.cell,I.free,I.gG,I.pin,I.aD,I.len⟩
theorem Inv.j7 (I:Inv (X.ia E) π σ H s):Inv X π σ H s:=⟨I.ok.j7,I.os,I.bare,I.base,I.loc,I.cell,I.free,I.gG,I.pin,I.aD,I.len⟩
theorem SP.j7 (h:SP (X.ia E) π D f s'):SP X π D f s':=by
 cases f with
 |next=>obtain ⟨Z,Y,I,q⟩:=h;exact ⟨Z,Y,I.j7,q⟩
 |brk=>obtain ⟨Z,Y,I,q⟩:=h;exact ⟨Z,Y,I.j7,q⟩
 |cont=>obtain ⟨Z,Y,I,q⟩:=h;exact ⟨Z,Y,I.j7,q⟩
 |ret u=>obtain ⟨v,Z,Y,I,r,q⟩:=h;exact ⟨v,Z,Y,I.j7,r,q⟩
theorem cg.kF {st:List WE} {t:TS} (h:cg X.kF st t):cg X st t:=fun π s σ H D I hw =>
 ģ (h π s σ H D (I.ia _) hw) (fun _ _ q=>q.j7) fun _ _ z=>ē z
end
section
variable {X:Cx} {st:WE} {rest:List WE} {t u:TS} {e:Ğ} {te:TE} {pos:Pos}
def Pn:TS:=fun D σ H=>D.nx σ H
def QW (t u:TS):TS:=fun D σ H=>t { D with nx:=u D } σ H
def Mo:cg X [] Pn:=fun _ _ σ H _ I h=>wpAny_execs_nil ⟨σ,H,I,h⟩
def K2 (h1:PS X st t) (h2:cg X rest u):cg X (st::rest) (QW t u):=by
 intro Z s σ H D I h
 refine wpAny_execs_cons (aH (h1 Z s σ H { D with nx:=u D } I h) fun f Y q=>?_)
 cases f with
 |next =>
  obtain ⟨W,V,U,q⟩:=q;exact h2 Z Y W V D U q
 |ret v=>exact q
 |brk=>exact q
 |cont=>exact q
def Mp (h1:PS X st t):cg X [st] t:=by
 intro Z s σ H D I h;refine wpAny_execs_cons (aH (h1 Z s σ H D I h) fun f Y q=>?_)
 cases f with
 |next=>exact wpAny_execs_nil q
 |ret v=>exact q
 |brk=>exact q
 |cont=>exact q
def Inv.quiet {π:List (Ø×Obj)} {σ:St} {H:Hp} {s:Ã} (I:Inv X π σ H s):interactive X.env=false:=by simp [interactive,I.ok.kind]
def Po (te:TE):TS:=fun D σ H=>te σ H fun _ Z=>D.nx σ Z
def Mq (he:PE X e te) (hs:swapsWith e none pos.line X.env=pure false:=by rfl):PS X (.Expr e pos) (Po te):=by
 intro Z s σ H D I h;exact wpAny_Expr_any (aH (he Z s σ H _ I h) fun v U ⟨x,Y,W,T,V⟩=>⟨σ,Y,W,V⟩) I.quiet hs
def QX (te:TE):TS:=fun D σ H=>te σ H D.rt
def NN (he:PE X e te):PS X (.Return (some e) pos) (QX te):=by
 intro Z s σ H D I h;exact wpAny_Return_some (aH (he Z s σ H _ I h) fun v T ⟨x,Y,W,V,U⟩=>⟨x,σ,Y,W,V,U⟩)
def QY (c:TT) (t u:TS):TS:=fun D σ H=>c σ H fun b Z=>if b=true then t D σ Z else u D σ Z
def Pp {c:Ğ} {a b:List WE} {tc:TT} (hc:PT X c tc) (ha:cg X a t) (hb:cg X b u):PS X (.If c a b pos) (QY tc t u):=by
 intro Z s σ H D I h;refine wpAny_If (aH (hc Z s σ H _ I h) fun d Y ⟨W,V,U⟩=>?_)
 cases d with
 |true=>exact ha Z Y σ W D V U
 |false=>exact hb Z Y σ W D V U
end
abbrev TG:=V->St->Hp->(St->Hp->Prop)->Prop
abbrev iT:=List V->St->Hp->(St->Hp->Prop)->Prop
def PG (X:Cx) (target:Ğ) (t:TG):Prop :=
 ∀(Z:List (Ø×Obj)) (s:Ã) (σ:St) (H:Hp) (v:V) (u:Ä) (Q:St->Hp->Prop),Inv X Z σ H s->RelV v u->t v σ H Q ->
  Ù (à X.prog X.w) X.A (WO target X.env u) (fun _ U=>∃ Y W,Inv X Z Y W U/\Q Y W) X.xe s
def jK (X:Cx) (ts:List Ğ) (t:iT):Prop :=
 ∀(Z:List (Ø×Obj)) (s:Ã) (σ:St) (H:Hp) (Y:List V) (W:List Ä) (Q:St->Hp->Prop),Inv X Z σ H s->Vals Y W->t Y σ H Q ->
  Ù (à X.prog X.w) X.A (Wh ((Ŗ ts X.env).map (·.2)) W) (fun _ S=>∃ U T,Inv X Z U T S/\Q U T) X.xe s
abbrev yo:=V->V->V->Hp->(Hp->Prop)->Prop
def FI (X:Cx) (t:yo):Prop :=
 ∀(Z:List (Ø×Obj)) (s:Ã) (σ:St) (H:Hp) (o i v:V) (Y W u:Ä) (Q:Hp->Prop),Inv X Z σ H s->RelV o Y->RelV i W->RelV v u->t o i v H Q ->
  Ù (à X.prog X.w) X.A (setItem Y W u) (fun _ T=>∃U,Inv X Z σ U T/\Q U) X.xe s
section
variable {X:Cx} {pos:Pos}
def ml (i:Nat):TG:=fun v σ H Q=>Q (σ.set i (some v)) H
def i8 (hN:X.N.Nodup) (hi:X.N[i]?=some x) (hx:Loc X.env.scope x) (hf:X.fn x=true\/X.env.scope.names.lookup x=some .local:=by first|exact .inl rfl|exact .inr rfl|assumption):PG X (.Name x pos) (ml i):=by
 intro Y s σ H v u Q I r h;exact wpAny_assign_Name (kW I hN hi hx r (fun W Z=>⟨_,H,Z,h⟩) hf)
def yp:iT:=fun Z σ H Q=>Z=[]/\Q σ H
def xF (t:TG) (u:iT):iT:=fun Z σ H Q=>∃v r,Z=v::r/\t v σ H fun Y X=>u r Y X Q
def wc:jK X [] yp:=by
 intro Z s σ H Y W Q I r h;obtain ⟨e,h⟩:=h;subst e;cases r;exact assignInOrder_nil ⟨σ,H,I,h⟩
def o9 {e:Ğ} {es:List Ğ} {t:TG} {u:iT} (h1:PG X e t) (h2:jK X es u)
  (hs:(Ŗ (e::es) X.env).map (·.2)=WO e X.env::(Ŗ es X.env).map (·.2):=by rfl):jK X (e::es) (xF t u):=by
 intro Z s σ H R P Q I r h;obtain ⟨v,O,e1,h⟩:=h;subst e1
 cases r with
 |cons r Y =>
  rw [hs];refine Ŏ (aH (h1 Z s σ H _ _ _ I r h) fun _ W ⟨V,U,T,S⟩=>?_);exact h2 Z W V U _ _ Q T Y S
def yq (K:č) (n:Nat) (t:iT):TG:=fun v σ H Q=>∃a Z,v=.ref a/\bg K H a Z/\Z.length=n/\t Z σ H Q
def wQ {k:Nat} {n:Nat} (hc:X.calm=true) (h:jK X es t)
 (hn:(Ŗ es X.env).length=n:=by rfl) (yV:(Ŗ es X.env).findIdx? (·.1)=none:=by rfl):PG X (.Tuple es k pos) (yq X.K n t):=by
 intro Z s σ H v u Q I r hw;obtain ⟨a,W,e1,V,U,hw⟩:=hw;subst e1;cases r;obtain ⟨its,Y,T,O⟩:=I.tuple V;refine assign_Tuple_tuple (I.ok.hd hc) T (by simp [hn,<- U,Y.length]) yV fun S R=>?_
 have P:Inv X Z σ H { s with heap:=S }:=I.kept (t':=s.toks) fun b o e=>R b o (Û (Ç e)) e
 exact h Z _ σ H W _ Q P (by simpa using Y) hw
def QZ (to ti:TE) (t:yo):TG:=fun v σ H Q=>to σ H fun o Z=>ti σ Z fun i Y=>t o i v Y fun X=>Q σ X
def NO {o i:Ğ} {to ti:TE} {t:yo} (ho:PE X o to) (hi:PE X i ti) (hs:FI X t)
  (ha:∀v,WO (.Subscript o i pos) X.env v=(do
   let ov <- Wk [v] (ļ o X.env)
   let iv <- Wk [v,ov] (ļ i X.env)
   WC pos
   Wk [v,ov,iv] (setItem ov iv v)
   release [v,ov,iv] []):=by intro _;rfl):PG X (.Subscript o i pos) (QZ to ti t):=by
 intro Z s σ H v u Q I r h;rw [ha];refine À (Ĕ (aH (ho Z s σ H _ I h) fun ov Y ⟨x,W,V,U,T⟩=>?_));refine À (Ĕ (aH (hi Z Y σ W _ V T) fun iv S ⟨y,R,P,O,N⟩=>?_));refine À (ů (À (Ĕ (aH (hs Z S σ R x y v ov iv u _ P U O r N) fun _ J ⟨M,L,K⟩=>?_))));exact wpAny_release ⟨σ,M,L,K⟩
def qo (te:TE) (g:TG):TS:=fun D σ H=>te σ H fun x Z=>g x σ Z D.nx
def DC {tg e:Ğ} {te:TE} {g:TG} (he:PE X e te) (hg:PG X tg g) (hs:Ű [tg] e pos.line X.env=pure false:=by rfl) (hw:ű [tg] e X.env=pure none:=by rfl)
  (h1:(Ŗ [tg] X.env).map (·.2)=[WO tg X.env]:=by rfl):PS X (.Assign [tg] e pos) (qo te g):=by
 intro Z s σ H D I h;refine wpAny_Assign_stores (aH (he Z s σ H _ I h) fun v Y ⟨x,W,V,U,T⟩=>?_) hs hw;rw [h1];exact aH (hg Z Y σ W x v _ V U T) fun _ S q=>q
def NP {i:Nat} {x:Str} {e:Ğ} {te:TE} {pos':Pos} (hN:X.N.Nodup) (hi:X.N[i]?=some x) (hx:Loc X.env.scope x) (he:PE X e te) (hs:swapsWith e (some (.Name x pos')) pos.line X.env=pure false:=by rfl) (hf:X.fn x=true\/X.env.scope.names.lookup x=some .local:=by first|exact .inl rfl|exact .inr rfl|assumption) :
  PS X (.Assign [.Name x pos'] e pos) (qo te (ml i)):=by
 intro Z s σ H D I h;refine wpAny_Assign_Name (aH (he Z s σ H _ I h) fun v S ⟨y,Y,W,V,U⟩=>?_) hs;exact kW W hN hi hx V (fun R T=>⟨_,Y,T,U⟩) hf
def Q0 (i j:Nat) (ta:TA):TS:=fun D σ H=>ta σ H fun Z Y=>∃v w,Z=[v,w]/\D.nx ((σ.set i (some v)).set j (some w)) Y
def NQ {i j:Nat} {x y:Str} {a b:Ğ} {ta:TA} {px py pt:Pos} {kt k2 fR} (hc:X.calm=true) (hN:X.N.Nodup) (hi:X.N[i]?=some x) (hj:X.N[j]?=some y) (df:i≠j)
  (hx:X.env.scope.names.lookup x=some .local) (hy:X.env.scope.names.lookup y=some .local) (ha:PA X [a,b] ta)
  (hw:ű [.Tuple [.Name x px,.Name y py] kt pt] (.Tuple [a,b] k2 fR) X.env=pure (some [x,y]))
  (hs:Ű [.Tuple [.Name x px,.Name y py] kt pt] (.Tuple [a,b] k2 fR) pos.line X.env=pure false:=by rfl) :
  PS X (.Assign [.Tuple [.Name x px,.Name y py] kt pt] (.Tuple [a,b] k2 fR) pos) (Q0 i j ta):=by
 intro U s σ H D I h;rw [exec_Assign_arm];refine À (ů ?_);rw [hs];refine À (Â ?_);rw [í (by decide)];refine À (Tuple_ (aH (ha _ U s σ H _ I h) fun R Z ⟨C,T,Q,P,V⟩=>?_));obtain ⟨v,w,e1,V⟩:=V;subst e1;obtain ⟨Y,W,rfl,O,M⟩:∃Y W,R=[Y,W]/\RelV v Y/\RelV w W:=by
  cases P with
  |cons p q =>
   cases q with
   |cons L K =>
    cases K;exact ⟨_,_,rfl,p,L⟩
 refine ò ?_ (by show 2<=Ñ;decide)
 have J:Inv X U σ T { Z with heap:=Z.heap.push { cls:=.type "tuple",data:=.seq [Y,W].toArray } }:=Q.kept (t':=Z.toks) fun b o e=>Á _ e
 rw [hw];refine À (Â ?_)
 show Ù (à X.prog X.w) X.A (do rule "assign.swapped-stores";let items <- unpackItems (.ref Z.heap.objs.size) 2 none;Wh [fun v=>VW X.env y v,fun v=>VW X.env x v] items.reverse;pure Flow.next) _ _ _
 refine À (ŋ (À (unpackItems_tuple (items:=#[Y,W]) (I.ok.hd hc) (IsTup.new Z.heap _) fun h' G=>?_)));have F:=J.kept (h':=h') (t':=Z.toks) fun b o e=>G b o (Û (Ç e)) e
 show Ù _ _ (Wh [fun v=>VW X.env y v,fun v=>VW X.env x v] [W,Y] >>= fun _=>pure Flow.next) _ _ _
 refine À (Ŏ (VX (kW F hN hj (.inl hy) M (fun B E=>?_) (.inr hy))));refine Ŏ (VX (kW E hN hi (.inl hx) O (fun z S=>assignInOrder_nil (Â ?_)) (.inr hx)));rw [List.set_comm _ _ (Ÿ df)] at S;exact ⟨_,T,S,V⟩
end
section
variable {X:Cx} {pos:Pos}
end
structure It where
 go:Nat->Hp->Prop
 qK:Nat->Hp->V->Hp->Prop
 stop:Nat->Hp->Prop
def dM (X:Cx) (π:List (Ø×Obj)) (H:Hp) (b:Ø):Prop :=
 H b=none/\b≠X.env.locals/\b∉X.fs/\(b∈X.ex\/X.cf.heap.objs.size<=b)/\(∀x c,X.env.cells.lookup x=some c->c≠b)/\∀p∈X.pn++π,p.1≠b
def Inv.tR {X:Cx} {π:List (Ø×Obj)} {σ:St} {H H':Hp} {s:Ã} {b:Ø} (I:Inv X π σ H s) (hb:s.heap.objs.size<=b) (hn:H' b=none):dM X π H' b:=by
 refine ⟨hn,Ľ (Å I.lt hb),I.ql hb,.inr (á I.sz hb),fun x c e z=>?_,fun p Z z=>?_⟩
 ·obtain ⟨v,q⟩:=I.cell x c e
  exact absurd (Å q.lt (by rw [z];exact hb)) (è _)
 ·exact absurd (Å (Ç (I.pin p Z).1) (by rw [z];exact hb)) (è _)
structure Turn (P:ß) (w:ú) (K:č) (tg:Ğ) (J:It) (fp:List Ø) (it:Ø) (tn:Nat->ħ->Prop):Prop where
 mem:it∈fp
 obj:∀i h,tn i h->∀b∈fp,∃o,h.get? b=some o/\∀v,o.data≠.cell v
 keep:∀i h h',tn i h->(∀b∈fp,∀o,h.get? b=some o->h'.get? b=some o)->tn i h'
 item:∀(X:Cx),X.prog=P->X.w=w->X.K=K->X.calm=true->∀(i:Nat) (π:List (Ø×Obj)) (s:Ã) (σ:St) (H:Hp) (E:Ä->Ã->Prop),Inv X π σ H s->(∀b∈fp,dM X π H b)->tn i s.heap->J.go i H ->
  Ù (à P w) X.A (υ (.ref it)) (fun r s1=>∃u,r=some u /\
   Ù (à P w) X.A (ł tg (.ref it) u) (fun _ s2=>∃x H',Inv X π σ H' s2/\RelV x u/\J.qK i H x H'/\tn (i+1) s2.heap/\∀b∈fp,H' b=none) E s1) E s
 done:∀(X:Cx),X.prog=P->X.w=w->X.K=K->X.calm=true->∀(i:Nat) (π:List (Ø×Obj)) (s:Ã) (σ:St) (H:Hp) (E:Ä->Ã->Prop),Inv X π σ H s->(∀b∈fp,dM X π H b)->tn i s.heap->J.stop i H ->
  Ù (à P w) X.A (υ (.ref it)) (fun r s1=>r=none/\Inv X π σ H s1) E s
 self:∀(A:æ) (i:Nat) (s:Ã) (Q:Ä->Ã->Prop) (E:Ä->Ã->Prop),tn i s.heap->Q (.ref it) s->Ù (à P w) A (pyIter (.ref it)) Q E s
abbrev TI:=St->Hp->(It->Hp->Prop)->Prop
def Gu (X:Cx) (π:List (Ø×Obj)) (σ:St) (tg:Ğ) (R:It->Hp->Prop) (fe:Ä) (s2:Ã):Prop :=
 ∃(it:Ø) (Y:List Ø) (W:Nat->ħ->Prop) (J:It) (Z:Hp),fe=.ref it/\Inv X π σ Z s2/\Turn X.prog X.w X.K tg J Y it W/\W 0 s2.heap/\(∀b∈Y,dM X π Z b)/\R J Z
def PI (X:Cx) (tg iter:Ğ) (wi:TI):Prop :=
 ∀(Z:List (Ø×Obj)) (s:Ã) (σ:St) (H:Hp) (R:It->Hp->Prop),Inv X Z σ H s->wi σ H R ->
  Ù (à X.prog X.w) X.A (ļ iter X.env) (fun v Y=>Ù (à X.prog X.w) X.A (pyIter v) (Gu X Z σ tg R) X.xe Y) X.xe s
def xG (ho:s.heap.get? it=some o) (hc:o.cls=.type n) (hd:o.data=.fields vs)
 (hn:["enumerate","zip","dict_itemiterator","dict_reverseitemiterator","odict_iterator","itertools.zip_longest","itertools.pairwise"].contains n=false) (hQ:Q () s):Ù M A (ł tg (.ref it) u) Q E s:=by
 unfold ł
 cases tg<;>first
  |exact Â hQ
  |(cases u<;>first
    |exact Â hQ
    |(refine À (wpAny_load ho ?_)
      rw [hc,hd]
      show Ù M A (if (["enumerate","zip","dict_itemiterator","dict_reverseitemiterator","odict_iterator","itertools.zip_longest","itertools.pairwise"].contains n&&vs[0]?==some (ź _))=true then _ else _) Q E s
      rw [í (by intro h;rw [hn,Bool.false_and] at h;cases h)];exact Â hQ))
noncomputable def yX (K:č) (a:Ø):It :=
 ⟨fun i H=>∃Z x,bt K H a Z/\Z[i]?=some x,fun i H x Y=>Y=H/\∀Z,bt K H a Z->Z[i]?=some x,fun i H=>∃Z,bt K H a Z/\Z.length<=i⟩
noncomputable def yY (K:č) (a:Ø):It :=
 ⟨fun i H=>∃Z x,bg K H a Z/\Z[i]?=some x,fun i H x Y=>Y=H/\∀Z,bg K H a Z->Z[i]?=some x,fun i H=>∃Z,bg K H a Z/\Z.length<=i⟩
noncomputable def qL (lo:Int) (n:Nat):It:=⟨fun i _=>i<n,fun i H x Z=>Z=H/\x=.int (lo+i),fun i _=>n<=i⟩
def JR {P:ß} {w:ú} {K:č} {tg:Ğ} (a it:Ø):Turn P w K tg (yX K a) [it] it (fun i h=>h.IsListIter it a i) where
 mem:=by simp
 obj:=fun i h Z b Y=>by
  have e:b=it:=by simpa using Y
  subst e;obtain ⟨o,e,c,d⟩:=Z;exact ⟨o,e,fun v z=>by rw [d] at z;cases z⟩
 keep:=fun i h W Z k=>Z.at fun o e=>k it (by simp) o e
 item:=by
  intro X T hw S L i J s σ H E I V Z R;subst T hw S;obtain ⟨F,x,U,Q⟩:=R;obtain ⟨its,O,p,D⟩:=I.list U;obtain ⟨u,C,B⟩:=O.get Q;obtain ⟨f0,f1,f2,N,f4,M⟩:=V it (by simp);refine wpAny_pyNext_list_item Z p.isList (x:=u) (by simpa using C) fun W G A=>?_
  have y:Inv X J σ H { s with heap:=W }:=I.turned (t':=s.toks) (fun b o Y e=>(A.2 b Y).trans e) f0 f1 N f4 M
  obtain ⟨o,e,c,d⟩:=id G
  exact ⟨u,rfl,xG (s:={ s with heap:=W }) e c d (by decide) ⟨x,H,y,B,⟨rfl,fun q t=>by rw [I.BZ t U];exact Q⟩,G,fun b Y=>(V b Y).1⟩⟩
 done:=by
  intro X T hw S L i J s σ H E I V Z R;subst T hw S;obtain ⟨F,U,Q⟩:=R;obtain ⟨its,O,p,D⟩:=I.list U;obtain ⟨f0,f1,f2,N,f4,M⟩:=V it (by simp);have n:=O.length;exact wpAny_pyNext_list_end (I.ok.hd L) Z p.isList (by simp;omega) fun W r=>⟨rfl,I.turned (t':=s.toks) (fun b o Y e=>r b o Y e) f0 f1 N f4 M⟩
 self:=fun _ _ _ _ _ Z h=>wpAny_pyIter_listiter Z h
def IW {P:ß} {w:ú} {K:č} {tg:Ğ} (a it:Ø):Turn P w K tg (yY K a) [it] it (fun i h=>h.IsTupleIter it a i) where
 mem:=by simp
 obj:=fun i h Z b Y=>by
  have e:b=it:=by simpa using Y
  subst e;obtain ⟨o,e,c,d⟩:=Z;exact ⟨o,e,fun v z=>by rw [d] at z;cases z⟩
 keep:=fun i h W Z k=>Z.at fun o e=>k it (by simp) o e
 item:=by
  intro X T hw S L i J s σ H E I V Z R;subst T hw S;obtain ⟨F,x,U,Q⟩:=R;obtain ⟨its,O,p,D⟩:=I.tuple U;obtain ⟨u,C,B⟩:=O.get Q;obtain ⟨f0,f1,f2,N,f4,M⟩:=V it (by simp);refine wpAny_pyNext_tuple_item Z (show s.heap.IsTuple a its.toArray from p) (x:=u) (by simpa using C) fun W G A=>?_
  have y:Inv X J σ H { s with heap:=W }:=I.turned (t':=s.toks) (fun b o Y e=>(A.2 b Y).trans e) f0 f1 N f4 M
  obtain ⟨o,e,c,d⟩:=id G
  exact ⟨u,rfl,xG (s:={ s with heap:=W }) e c d (by decide) ⟨x,H,y,B,⟨rfl,fun q t=>by rw [I.BC t U];exact Q⟩,G,fun b Y=>(V b Y).1⟩⟩
 done:=by
  intro X T hw S L i J s σ H E I V Z R;subst T hw S;obtain ⟨F,U,Q⟩:=R;obtain ⟨its,O,p,D⟩:=I.tuple U;obtain ⟨f0,f1,f2,N,f4,M⟩:=V it (by simp);have n:=O.length;exact wpAny_pyNext_tuple_end (I.ok.hd L) Z (show s.heap.IsTuple a its.toArray from p) (by simp;omega) fun W r=>⟨rfl,I.turned (t':=s.toks) (fun b o Y e=>r b o Y e) f0 f1 N f4 M⟩
 self:=fun _ _ _ _ _ Z h=>wpAny_pyIter_tupleiter Z h
def IY {P:ß} {w:ú} {K:č} {tg:Ğ} (it:Ø) (lo:Int) (n:Nat):Turn P w K tg (qL lo n) [it] it (fun i h=>IsRangeIter h it (lo+(i:Nat)*1) ((n:Int)-(i:Nat)) 1) where
 mem:=by simp
 obj:=fun i h Z b Y=>by
  have e:b=it:=by simpa using Y
  subst e;exact ⟨_,Z,fun v z=>by
   have G:Data.fields _=Data.cell v:=z;cases G⟩
 keep:=fun i h V Z k=>k it (by simp) _ Z
 item:=by
  intro X T hw S R i M s σ H E I U Z Q;subst T hw S;obtain ⟨f0,f1,f2,O,f4,N⟩:=U it (by simp);have W:=Walks.range (prog:=X.prog) (w:=X.w) (I.ok.hd R) it lo 1 n;refine W.item i s _ _ Q Z fun v V L F J D=>?_;obtain ⟨t,rfl⟩:=F
  have C:Inv X M σ H { s with heap:=V,toks:=L }:=I.turned (fun b o Y e=>D b o (by simpa using Y) e) f0 f1 O f4 N
  refine ⟨_,rfl,xG (s:={ s with heap:=V,toks:=L }) (n:="range_iterator") J rfl rfl (by decide) ⟨.int (lo+i),H,C,⟨t,?_⟩,⟨rfl,rfl⟩,J,fun b Y=>(U b Y).1⟩⟩
  rw [Int.mul_one]
 done:=by
  intro X T hw S R i M s σ H E I U Z Q;subst T hw S;obtain ⟨f0,f1,f2,O,f4,N⟩:=U it (by simp);exact wpAny_pyNext_range_end (I.ok.hd R) Z (by have:n<=i:=Q;omega) fun V B=>⟨rfl,I.turned (t':=s.toks) (fun b o Y e=>B b o Y e) f0 f1 O f4 N⟩
 self:=fun _ _ _ _ _ Z h=>wpAny_pyIter_rangeiter Z h
section
variable {X:Cx} {tg:Ğ}
def EL (K:č) (tl:TE):TI:=fun σ H R=>tl σ H fun x Z=>∃a,x=.ref a/\(∃Y,bt K Z a Y)/\R (yX K a) Z
def FJ (K:č) (tl:TE):TI:=fun σ H R=>tl σ H fun x Z=>∃a,x=.ref a/\(∃Y,bg K Z a Y)/\R (yY K a) Z
def Mr {l:Ğ} {tl:TE} (hl:PE X l tl):PI X tg l (EL X.K tl):=by
 intro W s σ H R I h;refine aH (hl W s σ H _ I h) fun v Z ⟨x,V,Y,U,T⟩=>?_;obtain ⟨a,e,⟨P,S⟩,q⟩:=T;subst e;cases U;obtain ⟨its,O,p,N⟩:=Y.list S;refine Ų p.isList ?_;refine ⟨Z.heap.objs.size,[Z.heap.objs.size],_,_,V,rfl,Y.kept (t':=Z.toks) fun b o e=>Á _ e,JR a _,⟨_,Ï _ rfl,rfl,rfl⟩,fun b Q=>?_,q⟩;have e:b=Z.heap.objs.size:=by simpa using Q
 subst e;exact Y.tR (WV _) (Y.aD.fresh (WV _))
def NR {l:Ğ} {tl:TE} (hl:PE X l tl):PI X tg l (FJ X.K tl):=by
 intro W s σ H R I h;refine aH (hl W s σ H _ I h) fun v Z ⟨x,V,Y,U,T⟩=>?_;obtain ⟨a,e,⟨P,S⟩,q⟩:=T;subst e;cases U;obtain ⟨its,O,p,N⟩:=Y.tuple S;refine wpAny_pyIter_tuple (show Z.heap.IsTuple a its.toArray from p) ?_;refine ⟨Z.heap.objs.size,[Z.heap.objs.size],_,_,V,rfl,Y.kept (t':=Z.toks) fun b o e=>Á _ e,IW a _,⟨_,Ï _ rfl,rfl,rfl⟩,fun b Q=>?_,q⟩;have e:b=Z.heap.objs.size:=by simpa using Q
 subst e;exact Y.tR (WV _) (Y.aD.fresh (WV _))
def B0 {π:List (Ø×Obj)} {σ:St} {H:Hp} {s:Ã} {R:It->Hp->Prop} {E:Ä->Ã->Prop} {lo hi:Int} {t u v:Tok} {tk:Nat} (I:Inv X π σ H s) (h1:-(2 ^ 62)<=lo) (h2:lo<2 ^ 62) (h3:-(2 ^ 62)<=hi) (h4:hi<2 ^ 62)
  (q:R (qL lo (hi-lo).toNat) H):Ù (à X.prog X.w) X.A (pyIter (.ref s.heap.objs.size)) (Gu X π σ tg R) E { s with heap:=s.heap.push { cls:=.type "range",data:=.fields #[.int lo t,.int hi u,.int 1 v] },toks:=tk }:=by
 refine wpAny_pyIter_range (IsRange.new ..) (small_one h1 h2 h3 h4) ?_
 have Z:Inv X π σ H { s with heap:=s.heap.push { cls:=.type "range",data:=.fields #[.int lo t,.int hi u,.int 1 v] },toks:=tk }:=I.kept fun b o e=>Á _ e
 refine ⟨(s.heap.push { cls:=.type "range",data:=.fields #[.int lo t,.int hi u,.int 1 v] }).objs.size,[(s.heap.push { cls:=.type "range",data:=.fields #[.int lo t,.int hi u,.int 1 v] }).objs.size],_,_,H,rfl,
  Z.kept (t':=tk) fun b o e=>Á _ e,IY _ lo (hi-lo).toNat,?_,fun b Y=>?_,q⟩
 ·have e1:lo+((0:Nat):Int)*1=lo:=by simp
  have e2:(((hi-lo).toNat:Nat):Int)-((0:Nat):Int)=Builtin.Range.rangeSize lo hi 1:=by rw [rangeSize_one];split<;>omega
  show IsRangeIter _ _ (lo+((0:Nat):Int)*1) ((((hi-lo).toNat:Nat):Int)-((0:Nat):Int)) 1;rw [e1,e2];exact Ï _ rfl
 ·have e:b=(s.heap.push { cls:=.type "range",data:=.fields #[.int lo t,.int hi u,.int 1 v] }).objs.size:=by simpa using Y
  subst e;exact Z.tR (WV _) (Z.aD.fresh (WV _))
def Pq (ta:TA):TI:=fun σ H R=>ta σ H fun Z Y=>∃j:Int,Z=[.int j]/\-(2 ^ 62)<=j/\j<2 ^ 62/\R (qL 0 j.toNat) Y
def Pt (ta:TA):TI:=fun σ H R=>ta σ H fun Z Y=>∃i j:Int,Z=[.int i,.int j]/\(-(2 ^ 62)<=i/\i<2 ^ 62/\-(2 ^ 62)<=j/\j<2 ^ 62)/\R (qL i (j-i).toNat) Y
def JS {a:Ğ} {ta:TA} {p pos:Pos} (hg:Gl X "range") (hm:X.mg "range"=none) (ha:PA X [a] ta) (hs:Ê [a] X.env=[(false,ļ a X.env)]:=by rfl):PI X tg (.Call (.Name "range" p) [a] [] pos) (Pq ta):=by
 intro Y s σ H R I h;refine Call_ (nI I hg hm boot_range (Ń (aH (ha pos Y s σ H _ I h) fun S Q ⟨P,O,W,V,Z⟩=>?_) hs rfl));obtain ⟨j,e,Z,U,q⟩:=Z;subst e
 cases V with
 |cons r T =>
  cases T;obtain ⟨t,rfl⟩:=r;exact call_range_1 (B0 W (by omega) (by omega) Z U (by simpa using q))
def JT {a b:Ğ} {ta:TA} {p pos:Pos} (hg:Gl X "range") (hm:X.mg "range"=none) (ha:PA X [a,b] ta) (hs:Ê [a,b] X.env=[(false,ļ a X.env),(false,ļ b X.env)]:=by rfl) (fx:Ê [b] X.env=[(false,ļ b X.env)]:=by rfl) :
  PI X tg (.Call (.Name "range" p) [a,b] [] pos) (Pt ta):=by
 intro W s σ H R I h;refine Call_ (nI I hg hm boot_range (Ń (aH (ha pos W s σ H _ I h) fun O N ⟨M,L,V,U,Z⟩=>?_) (by rw [hs,fx]) (by rw [fx];rfl)));obtain ⟨i,j,e,⟨Z,T,S,Q⟩,q⟩:=Z;subst e
 cases U with
 |cons r Y =>
  cases Y with
  |cons P Y =>
   cases Y;obtain ⟨t,rfl⟩:=r;obtain ⟨K,rfl⟩:=P;exact call_range_2 (B0 V Z T S Q q)
def FK (wi:TI) (g:TG) (tb:TS):TS:=fun D σ H=>wi σ H fun J V=>∃W:Nat->Nat->St->Hp->Prop,(∃m,W 0 m σ V)/\∀i m σ H,W i m σ H ->
 (J.stop i H/\D.nx σ H)\/(J.go i H/\∃N:St->Hp->Prop,(∀ Y Z,N Y Z->∃X,X < m/\W (i+1) X Y Z)/\∀x Z,J.qK i H x Z->g x σ Z fun U T=>tb { D with nx:=N,ct:=N,bk:=D.nx } U T)
noncomputable def k9 (fp:List Ø) (h:ħ):List (Ø×Obj):=fp.filterMap fun b=>(h.get? b).map fun o=>(b,o)
def nu (hb:b∈fp) (e:h.get? b=some o):(b,o)∈k9 fp h:=Vu.mpr ⟨b,hb,by rw [e];rfl⟩
def BD (hp:p∈k9 fp h):p.1∈fp/\h.get? p.1=some p.2:=by
 obtain ⟨b,Z,e⟩:=Vu.mp hp
 cases q:h.get? b with
 |none=>rw [q] at e;cases e
 |some o =>
  rw [q] at e;have Y:(b,o)=p:=WW e;subst Y;exact ⟨Z,q⟩
def Inv.pinned {π:List (Ø×Obj)} {σ:St} {H:Hp} {s:Ã} {fp:List Ø} (I:Inv X π σ H s) (hf:∀b∈fp,dM X π H b) (ho:∀b∈fp,∃o,s.heap.get? b=some o/\∀v,o.data≠.cell v):Inv X (π++k9 fp s.heap) σ H s :=
 I.l8 fun p W=>(ð.mp W).elim (fun z=>I.pin p (Í _ z)) fun z=>by
  obtain ⟨Z,e⟩:=BD z;obtain ⟨f0,f1,f2,_⟩:=hf p.1 Z;obtain ⟨o,Y,d⟩:=ho p.1 Z;rw [e] at Y;cases Y;exact ⟨e,f0,f1,f2,d⟩
def Inv.j6 {π pl:List (Ø×Obj)} {σ:St} {H:Hp} {s:Ã} (I:Inv X (π++pl) σ H s):Inv X π σ H s:=I.l8 fun p Z=>I.pin p (Í _ (ö _ Z))
def NS {iter:Ğ} {body:List WE} {wi:TI} {g:TG} {tb:TS} {pos:Pos} (hp:PassesOwn (à X.prog X.w) X.A X.env X.xe) (hc:X.calm=true) (hi:PI X tg iter wi) (hg:PG X tg g) (hb:cg X body tb)
  (hs:∀x,û iter X.env x=pure x:=by intro _;rfl):PS X (.For tg iter body [] pos) (FK wi g tb):=by
 intro R s σ H D I h;refine wpAny_For (aH (hi R s σ H _ I h) fun v s1 p=>aH p fun fe s2 l=>?_) hs;obtain ⟨it,Q,E,J,k,e,j,T,c,f2,W,⟨m0,a⟩,turn⟩:=l;subst e;have stat:∀{U:Hp},(∀b∈Q,U b=none)->∀b∈Q,dM X R U b:=fun hn b hb=>⟨hn b hb,(f2 b hb).2⟩;refine codeAny_forLoop_any (fun n C=>∃i P U,Inv X R P U C/\E i C.heap/\(∀b∈Q,U b=none)/\W i n P U) ?_ m0 ⟨0,σ,k,j,c,fun b hb=>(f2 b hb).1,a⟩;rintro n B ⟨i,O,L,z,y,t,w3⟩
 rcases turn i n O L w3 with ⟨stop,qn⟩ | ⟨go,N,hN,step⟩
 ·refine Vv hp (aH (T.done X rfl rfl rfl hc i R B O L X.xe z (stat t) y stop) fun r s4 ⟨K,I4⟩=>?_)
  subst K;exact wpAny_execs_nil ⟨O,L,I4,qn⟩
 ·refine Vv hp (aH (T.item X rfl rfl rfl hc i R B O L X.xe z (stat t) y go) fun r s4 ⟨u,K,h4⟩=>?_)
  subst K;refine Vv hp (aH h4 fun _ s5 ⟨x,q,I5,r5,y5,G,qM⟩=>?_);have qN:=I5.pinned (stat qM) (T.obj _ _ G);refine Vv hp (aH (hg _ s5 O q x u _ qN r5 (step x q y5)) fun _ s6 ⟨R3,H6,I6,q6⟩=>?_);refine Vv hp (aH (hb _ s6 R3 H6 _ I6 q6) fun f F S=>?_);have again:∀{Z:St} {Y:Hp},Inv X (R++k9 Q s5.heap) Z Y F->N Z Y->∃m,m<n/\∃i P U,Inv X R P U F/\E i F.heap/\(∀b∈Q,U b=none)/\W i m P U:=fun {Z Y} V M=>by
   obtain ⟨m',hm,w7⟩:=hN Z Y M;refine ⟨m',hm,i+1,Z,Y,V.j6,T.keep _ _ _ G fun b hb o e=>(V.pin (b,o) (Í _ (Í _ (nu hb e)))).1,fun b hb=>?_,w7⟩;obtain ⟨o,e,d⟩:=T.obj _ _ G b hb;exact (V.pin (b,o) (Í _ (Í _ (nu hb e)))).2.1
  cases f with
  |next=>obtain ⟨Z,Y,V,M⟩:=S;exact again V M
  |cont=>obtain ⟨Z,Y,V,M⟩:=S;exact again V M
  |brk=>obtain ⟨Z,Y,V,S⟩:=S;exact ⟨Z,Y,V.j6,S⟩
  |ret v=>obtain ⟨x7,Z,Y,V,r7,S⟩:=S;exact ⟨x7,Z,Y,V.j6,r7,S⟩
end
abbrev R2:=V->V->Hp->VK->Prop
def bj (X:Cx) (f:Ä->Ä->Sem Ä) (r:R2):Prop :=
 ∀(Z:List (Ø×Obj)) (s:Ã) (σ:St) (H:Hp) (x y:V) (v u:Ä) (Q:VK),Inv X Z σ H s->RelV x v->RelV y u->r x y H Q ->
  Ù (à X.prog X.w) X.A (f v u) (EP X Z σ Q) X.xe s
def qO (X:Cx) (f:Ä->Sem Ä) (r:V->Hp->VK->Prop):Prop :=
 ∀(Z:List (Ø×Obj)) (s:Ã) (σ:St) (H:Hp) (x:V) (v:Ä) (Q:VK),Inv X Z σ H s->RelV x v->r x H Q ->
  Ù (à X.prog X.w) X.A (f v) (EP X Z σ Q) X.xe s
def bS (X:Cx) (f:Ä) (r:List V->Hp->VK->Prop):Prop :=
 ∀(Z:List (Ø×Obj)) (s:Ã) (σ:St) (H:Hp) (Y:List V) (W:List Ä) (Q:VK),Inv X Z σ H s->Vals Y W->r Y H Q ->
  Ù (à X.prog X.w) X.A (call f W) (EP X Z σ Q) X.xe s
def Q2 (X:Cx) (r:V->Hp->(Bool->Hp->Prop)->Prop):Prop :=
 ∀(Z:List (Ø×Obj)) (s:Ã) (σ:St) (H:Hp) (x:V) (v:Ä) (Q:Bool->Hp->Prop),Inv X Z σ H s->RelV x v->r x H Q ->
  Ù (à X.prog X.w) X.A (truthy v) (TP X Z σ Q) X.xe s
def qP (r:R2) (ta tb:TE):TE:=fun σ H Q=>ta σ H fun x Z=>tb σ Z fun y Y=>r x y Y Q
def R4 (r:V->Hp->VK->Prop) (ta:TE):TE:=fun σ H Q=>ta σ H fun x Z=>r x Z Q
def rI (C:Int->Int->Prop) (g:Int->Int->V):R2:=fun x y H Q=>∃i j,x=.int i/\y=.int j/\C i j/\Q (g i j) H
def mT (g:Int->Int->V):R2:=fun x y H Q=>∃i j,x=.int i/\y=.int j/\Q (g i j) H
def rU (g:Int->V):V->Hp->VK->Prop:=fun x H Q=>∃i,x=.int i/\Q (g i) H
section
variable {X:Cx} {a b c:Ğ} {ta tb tc:TE} {pos:Pos}
def yr (ha:PE X a ta) (hb:PE X b tb) {π:List (Ø×Obj)} {s:Ã} {σ:St} {H:Hp} {R:V->V->Hp->Prop} (I:Inv X π σ H s)
  (h:ta σ H fun x H1=>tb σ H1 fun y H2=>R x y H2) {Q:Ä->Ã->Prop} {f:Ä->Ä->Sem Ä}
  (hf:∀v u s2 x y H2,Inv X π σ H2 s2->RelV x v->RelV y u->R x y H2->Ù (à X.prog X.w) X.A (f v u) Q X.xe s2) :
  Ù (à X.prog X.w) X.A (ļ a X.env) (fun v bc=>Ù (à X.prog X.w) X.A (ļ b X.env) (fun u km=>Ù (à X.prog X.w) X.A (f v u) Q X.xe km) X.xe bc) X.xe s:=by
 refine aH (ha π s σ H _ I h) fun v Z ⟨x,H1,Y,W,U⟩=>?_;refine aH (hb π Z σ H1 _ Y U) fun u s2 ⟨y,H2,T,S,P⟩=>?_;exact hf v u s2 x y H2 T W S P
def Pu (ho:bj X (İ op) r) (ha:PE X a ta) (hb:PE X b tb):PE X (.BinOp a op b pos) (qP r ta tb):=by
 intro Z s σ H Q I h;exact wpAny_BinOp (yr ha hb I h fun v u Y x y W V U T q=>ho Z Y σ W x y v u Q V U T q)
def Pw {op:UnaryOp} {r:V->Hp->VK->Prop} (ho:qO X (unaryOp op) r) (ha:PE X a ta):PE X (.UnaryOp op a pos) (R4 r ta):=by
 intro Z s σ H Q I h;exact UnaryOp_ (aH (ha Z s σ H _ I h) fun v Y ⟨x,W,U,T,S⟩=>ho Z Y σ W x v Q U T S)
def uC {C:Int->Int->Prop} {g:Int->Int->Int}
 (rule:∀(i j:Int) (t u:Tok) (s:Ã) (Q:Ä->Ã->Prop) (E:Ä->Ã->Prop),C i j->Q (.int (g i j) s.toks) { s with toks:=s.toks+1 }->Ù (à X.prog X.w) X.A (f (.int i t) (.int j u)) Q E s) :
  bj X f (rI C fun i j=>.int (g i j)):=by
 intro U s σ H x y v u Q I Z Y h;obtain ⟨i,j,rfl,rfl,W,q⟩:=h;obtain ⟨t,rfl⟩:=Z;obtain ⟨V,rfl⟩:=Y;exact rule i j t V s _ _ W ⟨.int (g i j),H,I.tok _,⟨_,rfl⟩,q⟩
def FL {g:Int->Int->Int}
 (rule:∀(i j:Int) (t u:Tok) (s:Ã) (Q:Ä->Ã->Prop) (E:Ä->Ã->Prop),Q (.int (g i j) s.toks) { s with toks:=s.toks+1 }->Ù (à X.prog X.w) X.A (f (.int i t) (.int j u)) Q E s) :
  bj X f (mT fun i j=>.int (g i j)):=by
 intro V s σ H x y v u Q I Z Y h;obtain ⟨i,j,rfl,rfl,q⟩:=h;obtain ⟨t,rfl⟩:=Z;obtain ⟨W,rfl⟩:=Y;exact rule i j t W s _ _ ⟨.int (g i j),H,I.tok _,⟨_,rfl⟩,q⟩
def yt {g:Int->Int->Bool}
 (rule:∀(i j:Int) (t u:Tok) (s:Ã) (Q:Ä->Ã->Prop) (E:Ä->Ã->Prop),Q (.bool (g i j)) s->Ù (à X.prog X.w) X.A (f (.int i t) (.int j u)) Q E s) :
  bj X f (mT fun i j=>.bl (g i j)):=by
 intro V s σ H x y v u Q I Z Y h;obtain ⟨i,j,rfl,rfl,q⟩:=h;obtain ⟨t,rfl⟩:=Z;obtain ⟨W,rfl⟩:=Y;exact rule i j t W s _ _ ⟨.bl (g i j),H,I,rfl,q⟩
def Q3 (i j:Int):Prop:=0<j/\j<1073741824
def Q4 (i j:Int):Prop:=0<=j/\j<=1000000/\i.natAbs<2 ^ 64
def tU (i j:Int):Prop:=(-(2 ^ 64)<i/\i<2 ^ 64)\/(-(2 ^ 64)<j/\j<2 ^ 64)
def tU.ok (h:tU i j):IntMulOk i j:=by
 rcases h with ⟨Z,Y⟩ | ⟨Z,Y⟩
 ·exact .of_left (intBits_le_64 Z Y)
 ·exact .of_right (intBits_le_64 Z Y)
def NT:bj X (İ .Add) (mT fun i j=>.int (i+j)):=FL fun _ _ _ _ _ _ _ q=>add_int q
def NU:bj X (İ .Sub) (mT fun i j=>.int (i-j)):=FL fun _ _ _ _ _ _ _ q=>sub_int q
def NV:bj X (İ .Mult) (rI tU fun i j=>.int (i*j)):=uC fun _ _ _ _ _ _ _ Z q=>mul_int q Z.ok
def Ms:bj X (İ .FloorDiv) (rI Q3 fun i j=>.int (i / j)):=uC fun i j _ _ _ _ _ Z q=>by
 have Y:(0:Int)<j:=Z.1;have W:j<1073741824:=Z.2;exact floordiv_int (by omega) (by rw [Int.fdiv_eq_ediv_of_nonneg i (by omega)];exact q) (.inl (PyProof.noPylong_small (by omega)))
def NW:bj X (İ .Mod) (rI (fun _ j=>0<j) fun i j=>.int (i % j)):=uC fun i j _ _ _ _ _ Z q=>by
 have Y:(0:Int)<j:=Z;exact mod_int' (by omega) (by rw [Int.fmod_eq_emod_of_nonneg i (by omega)];exact q)
def NX:bj X (İ .Pow) (rI Q4 fun i j=>.int (i ^ j.toNat)):=uC fun _ _ _ _ _ _ _ Z q=>pow_int_small Z.1 Z.2.1 Z.2.2 q
def R5 {g:Int->Int}
 (rule:∀(i:Int) (t:Tok) (s:Ã) (Q:Ä->Ã->Prop) (E:Ä->Ã->Prop),Q (.int (g i) s.toks) { s with toks:=s.toks+1 }->Ù (à X.prog X.w) X.A (f (.int i t)) Q E s) :
  qO X f (rU fun i=>.int (g i)):=by
 intro Y s σ H x v Q I Z h;obtain ⟨i,rfl,q⟩:=h;obtain ⟨t,rfl⟩:=Z;exact rule i t s _ _ ⟨.int (g i),H,I.tok _,⟨_,rfl⟩,q⟩
def NY:qO X (unaryOp .USub) (rU fun i=>.int (-i)):=R5 fun _ _ _ _ _ q=>neg_int q
end
noncomputable def yu:V->V->Bool
 | .ao,.ao=>true | .ao,.int _=>true | .int _,.ao=>true | .ao,.bl _=>true | .bl _,.ao=>true | .ao,.str _=>true | .str _,.ao=>true
 | .int _,.int _=>true | .bl _,.bl _=>true | .str _,.str _=>true | .gM _,.gM _=>true
 | .int _,.str _=>true | .str _,.int _=>true | .bl _,.str _=>true | .str _,.bl _=>true
 |_,_=>false
def R6:R2:=fun x y H Q=>yu x y=true/\Q (.bl (decide (x=y))) H
def R7:R2:=fun x y H Q=>yu x y=true/\Q (.bl (!decide (x=y))) H
def Cy:decide (V.int i=V.int j)=(i==j):=by
 rw [ń];simp
def DD:decide (V.bl i=V.bl j)=(i==j):=by
 rw [ń];simp
def we:decide (V.str i=V.str j)=(i==j):=by
 rw [ń];simp
def Cz:decide (V.gM i=V.gM j)=(i.toList==j.toList):=by
 rw [ń];cases i;cases j;simp
section
variable {X:Cx} {a b c:Ğ} {ta tb tc:TE} {pos:Pos}
def bY {π:List (Ø×Obj)} {σ:St} {H:Hp} {s:Ã} {Q:VK} {k k':Bool} (I:Inv X π σ H s) (q:Q (.bl k) H) (e:k=k'):EP X π σ Q (.bool k') s:=by
 subst e;exact ⟨.bl k,H,I,rfl,q⟩
def Px:bj X (Đ .Eq) R6:=by
 intro U s σ H x y v u Q I V Z h;obtain ⟨hs,q⟩:=h
 cases x with
 |ao =>
  cases V
  cases y with
  |ao=>cases Z;exact PySem.EqNone.eq_none_none (bY I q (by simp))
  |bl j=>cases Z;exact PySem.EqNone.eq_none_bool (bY I q (by simp))
  |int j=>obtain ⟨Y,rfl⟩:=Z;exact PySem.EqNone.eq_none_int (bY I q (by simp))
  |str j=>obtain ⟨Y,rfl⟩:=Z;exact PySem.EqNone.eq_none_str (bY I q (by simp))
  |_=>exact absurd (show false=true from hs) Ò
 |bl i =>
  cases V
  cases y with
  |ao=>cases Z;exact PySem.EqNone.eq_bool_none (bY I q (by simp))
  |bl j=>cases Z;exact eq_bool (bY I q DD)
  |str j=>obtain ⟨Y,rfl⟩:=Z;exact PySem.EqMixed.eq_bool_str (bY I q (by simp))
  |_=>exact absurd (show false=true from hs) Ò
 |int i =>
  obtain ⟨t,rfl⟩:=V
  cases y with
  |ao=>cases Z;exact PySem.EqNone.eq_int_none (bY I q (by simp))
  |int j=>obtain ⟨Y,rfl⟩:=Z;exact eq_int (bY I q Cy)
  |str j=>obtain ⟨Y,rfl⟩:=Z;exact PySem.EqMixed.eq_int_str (bY I q (by simp))
  |_=>exact absurd (show false=true from hs) Ò
 |str i =>
  obtain ⟨t,rfl⟩:=V
  cases y with
  |ao=>cases Z;exact PySem.EqNone.eq_str_none (bY I q (by simp))
  |bl j=>cases Z;exact PySem.EqMixed.eq_str_bool (bY I q (by simp))
  |int j=>obtain ⟨Y,rfl⟩:=Z;exact PySem.EqMixed.eq_str_int (bY I q (by simp))
  |str j=>obtain ⟨Y,rfl⟩:=Z;exact eq_str (bY I q we)
  |_=>exact absurd (show false=true from hs) Ò
 |gM i =>
  obtain ⟨t,rfl⟩:=V
  cases y with
  |gM j=>obtain ⟨Y,rfl⟩:=Z;exact PySem.W.eq_bytes (bY I q Cz)
  |_=>exact absurd (show false=true from hs) Ò
 |_=>cases y<;>exact absurd (show false=true from hs) Ò
def EM:bj X (Đ .NotEq) R7:=by
 intro U s σ H x y v u Q I V Z h;obtain ⟨hs,q⟩:=h
 cases x with
 |ao =>
  cases V
  cases y with
  |ao=>cases Z;exact PySem.EqNone.ne_none_none (bY I q (by simp))
  |bl j=>cases Z;exact PySem.EqNone.ne_none_bool (bY I q (by simp))
  |int j=>obtain ⟨Y,rfl⟩:=Z;exact PySem.EqNone.ne_none_int (bY I q (by simp))
  |str j=>obtain ⟨Y,rfl⟩:=Z;exact PySem.EqNone.ne_none_str (bY I q (by simp))
  |_=>exact absurd (show false=true from hs) Ò
 |bl i =>
  cases V
  cases y with
  |ao=>cases Z;exact PySem.EqNone.ne_bool_none (bY I q (by simp))
  |bl j=>cases Z;exact ne_bool (bY I q (ĺ not DD))
  |str j=>obtain ⟨Y,rfl⟩:=Z;exact PySem.EqMixed.ne_bool_str (bY I q (by simp))
  |_=>exact absurd (show false=true from hs) Ò
 |int i =>
  obtain ⟨t,rfl⟩:=V
  cases y with
  |ao=>cases Z;exact PySem.EqNone.ne_int_none (bY I q (by simp))
  |int j=>obtain ⟨Y,rfl⟩:=Z;exact ne_int (bY I q (ĺ not Cy))
  |str j=>obtain ⟨Y,rfl⟩:=Z;exact PySem.EqMixed.ne_int_str (bY I q (by simp))
  |_=>exact absurd (show false=true from hs) Ò
 |str i =>
  obtain ⟨t,rfl⟩:=V
  cases y with
  |ao=>cases Z;exact PySem.EqNone.ne_str_none (bY I q (by simp))
  |bl j=>cases Z;exact PySem.EqMixed.ne_str_bool (bY I q (by simp))
  |int j=>obtain ⟨Y,rfl⟩:=Z;exact PySem.EqMixed.ne_str_int (bY I q (by simp))
  |str j=>obtain ⟨Y,rfl⟩:=Z;exact ne_str (bY I q (ĺ not we))
  |_=>exact absurd (show false=true from hs) Ò
 |gM i =>
  obtain ⟨t,rfl⟩:=V
  cases y with
  |gM j=>obtain ⟨Y,rfl⟩:=Z;exact PySem.W.ne_bytes (bY I q (ĺ not Cz))
  |_=>exact absurd (show false=true from hs) Ò
 |_=>cases y<;>exact absurd (show false=true from hs) Ò
theorem Py:bj X (Đ .LtE) (mT fun i j=>.bl (decide (i<=j))):=yt fun _ _ _ _ _ _ _ q=>le_int q
def Pz:bj X (Đ .Gt) (mT fun i j=>.bl (decide (j<i))):=yt fun _ _ _ _ _ _ _ q=>gt_int q
def PB:bj X (Đ .GtE) (mT fun i j=>.bl (decide (j<=i))):=yt fun _ _ _ _ _ _ _ q=>ge_int q
def bF (b:Ğ) (h:op≠.In:=by decide) (h2:op≠.NotIn:=by decide):Vw op b=false:=by
 have e1:(op==CmpOp.In)=false:=by cases op<;>first|rfl|exact absurd rfl h
 have e2:(op==CmpOp.NotIn)=false:=by cases op<;>first|rfl|exact absurd rfl h2
 cases b<;>simp [Vw,e1,e2]
def Mt (ho:bj X (Đ op) r) (ha:PE X a ta) (hb:PE X b tb) (hm:Vw op b=false):PE X (.Compare a [op] [b] pos) (qP r ta tb):=by
 intro Z s σ H Q I h;exact wpAny_Compare1 (yr ha hb I h fun v u Y x y W V U T q=>ho Z Y σ W x y v u Q V U T q) hm
def tm (t:TE):TT:=fun σ H Q=>t σ H fun x Z=>∃k,x=.bl k/\Q k Z
def Mu {op:CmpOp} {r:R2} (ho:bj X (Đ op) r) (ha:PE X a ta) (hb:PE X b tb) (hm:Vw op b=false):PT X (.Compare a [op] [b] pos) (tm (qP r ta tb)):=by
 intro Z s σ H Q I h;refine wpAny_isTrue_Compare1 (aH (ha Z s σ H _ I h) fun v Y ⟨x,W,V,U,T⟩=>aH (hb Z Y σ W _ V T) fun u S ⟨y,R,P,O,N⟩ =>
  aH (ho Z S σ R x y v u _ P U O N) fun c G ⟨z,M,L,K,k,e,J⟩=>?_) hm
 subst e;cases K;exact Ŀ ⟨M,L,J⟩
def DE (r r':R2) (ta tb tc:TE):TE:=fun σ H Q=>ta σ H fun x Y=>tb σ Y fun y X=>r x y X fun z Z=>∃k,z=.bl k /\
 (if k=true then tc σ Z fun W V=>r' y W V Q else Q (.bl false) Z)
def K3 {op oA:CmpOp} {r r':R2} (ho:bj X (Đ op) r) (dS:bj X (Đ oA) r') (ha:PE X a ta) (hb:PE X b tb) (hc:PE X c tc)
  (hm:lastMarks [op,oA] [b,c]=false:=by with_unfolding_all rfl):PE X (.Compare a [op,oA] [b,c] pos) (DE r r' ta tb tc):=by
 intro Z s σ H Q I h;refine Compare_chain (aH (ha Z s σ H _ I h) fun v T ⟨x,S,R,P,O⟩=>chain_link (aH (hb Z T σ S _ R O) fun u N ⟨y,M,L,Y,K⟩ =>
  aH (ho Z N σ M x y v u _ L P Y K) fun d J ⟨z,W,V,G,k,e,U⟩=>?_)) hm
 subst e;cases G;refine Ŀ ?_
 cases k with
 |false=>exact ite_ff ⟨.bl false,W,V,rfl,U⟩
 |true=>exact ite_tt (chain_last (aH (hc Z J σ W _ V U) fun F E ⟨D,C,B,A,w⟩=>dS Z E σ C y D u F Q B Y A w))
def mE (K:č) (x:V) (H:Hp) (k:Bool):Prop :=
 match x with
 | .ao=>k=false
 | .bl b=>k=b
 | .int i=>k=(i != 0)
 | .str y=>y.length<=Ñ/\k=((y.length:Int) != 0)
 | .gM y=>y.size<=Ñ/\k=((y.size:Int) != 0)
 | .ref p=>(∃Z,bt K H p Z/\k=!Z.isEmpty)\/(∃Z,bg K H p Z/\k=!Z.isEmpty)\/∃Y,H p=some (.dK Y)/\k=!Y.isEmpty
 |_=>False
def IZ {κ:Type} {aB:List (κ×V)} {vs:List (κ×Ä)} (r:KV aB vs):(!vs.isEmpty)=!aB.isEmpty:=by
 cases r<;>rfl
def Bs (r:Vals xs its):(!its.toArray.isEmpty)=!xs.isEmpty:=by
 cases r<;>simp
def me:(Ñ:Nat)<2 ^ 63:=by rw [Ũ];decide
def DF:Q2 X (fun x H Q=>∃k,mE X.K x H k/\Q k H):=by
 intro J s σ H x v Q I U h;obtain ⟨k,e,q⟩:=h;have G:=me;have hs:Ñ=16777216:=Ũ
 cases x with
 |ao =>
  cases U;have Z:k=false:=e;subst Z;exact truthy_none ⟨H,I,q⟩
 |bl b =>
  cases U;have Z:k=b:=e;subst Z;exact Ŀ ⟨H,I,q⟩
 |int i =>
  obtain ⟨t,rfl⟩:=U;have Z:k=(i != 0):=e;subst Z;exact PySem.P.truthy_int ⟨H,I,q⟩
 |str y =>
  obtain ⟨t,rfl⟩:=U;obtain ⟨M,Z⟩:y.length<=Ñ/\k=((y.length:Int) != 0):=e;subst Z;exact PySem.P.truthy_str (by omega) ⟨H,I.tok _,q⟩
 |gM y =>
  obtain ⟨t,rfl⟩:=U;obtain ⟨M,Z⟩:y.size<=Ñ/\k=((y.size:Int) != 0):=e;subst Z;exact PySem.W.truthy_bytes (by omega) ⟨H,I.tok _,q⟩
 |ref p =>
  cases U;have Z:(∃V,bt X.K H p V/\k=!V.isEmpty)\/(∃V,bg X.K H p V/\k=!V.isEmpty)\/∃T,H p=some (.dK T)/\k=!T.isEmpty:=e
  rcases Z with ⟨V,S,Z⟩ | ⟨V,S,Z⟩ | ⟨T,S,Z⟩
  ·subst Z
   obtain ⟨its,r,O,N⟩:=I.list S;have Y:=r.length;exact wpAny_truthy_list O.isList (by simp only [Ô];omega) ⟨H,I.tok _,by rw [Bs r];exact q⟩
  ·subst Z
   obtain ⟨its,r,O,N⟩:=I.tuple S;have Y:=r.length;exact truthy_tuple O (by simp only [Ô];omega) ⟨H,I.tok _,by rw [Bs r];exact q⟩
  ·subst Z
   obtain ⟨N,L,R,r,m⟩:T.length<=Ñ/\(p==ς)=false/\∃R,KV T R/\s.heap.DictOf (sy X.prog X.w) p R:=I.aD p _ S;have Y:T.length=R.length:=Paired.length r;exact wpAny_truthy_dict L m (by omega) ⟨H,I.tok _,by rw [IZ r];exact q⟩
 |_=>exact (show False from e).elim
def K4 (ha:PE X a ta) (he:∀whole,isTrue a X.env whole=(do let v <- whole;WC a.pos;Wk [v] (truthy v))) :
  PT X a (fun σ H Q=>ta σ H fun x H'=>∃k,mE X.K x H' k/\Q k H'):=by
 intro Z s σ H Q I h;exact isTrue_plain (aH (ha Z s σ H _ I h) fun v Y ⟨x,W,V,U,T⟩=>DF Z Y σ W x v Q V U T) (he _)
def I0:bj X (İ .Add) (fun x y H Q=>∃i j,x=.str i/\y=.str j/\i.length+j.length<=Ñ/\Q (.str (i++j)) H):=by
 intro U s σ H x y v u Q I Z Y h;obtain ⟨i,j,rfl,rfl,W,q⟩:=h;obtain ⟨t,rfl⟩:=Z;obtain ⟨V,rfl⟩:=Y;exact add_str (fun V T=>⟨.str (i++j),H,I.tok _,⟨_,rfl⟩,q⟩) W
def vals1 (r:Vals [x] us):∃u,us=[u]/\RelV x u:=by
 cases r with
 |cons Z Y=>cases Y;exact ⟨_,rfl,Z⟩
def vals2 (r:Vals [x,y] us):∃u w',us=[u,w']/\RelV x u/\RelV y w':=by
 cases r with
 |cons Z Y =>
  cases Y with
  |cons X W=>cases W;exact ⟨_,_,rfl,Z,X⟩
def JU (hc:X.calm=true):bS X (.builtin "max") (fun xs H Q=>∃i j,xs=[.int i,.int j]/\Q (.int (if j > i then j else i)) H):=by
 intro Y s σ H xs W Q I r h;obtain ⟨i,j,rfl,q⟩:=h;obtain ⟨u,V,rfl,⟨t,rfl⟩,⟨U,rfl⟩⟩:=vals2 r;refine max_two_ints (I.ok.hd hc) fun T S k=>⟨_,H,I.kept k,?_,q⟩;by_cases Z:j > i
 ·rw [ä Z,ä Z];exact ⟨_,rfl⟩
 ·rw [í Z,í Z];exact ⟨_,rfl⟩
def JV (hc:X.calm=true):bS X (.builtin "min") (fun xs H Q=>∃i j,xs=[.int i,.int j]/\Q (.int (if j<i then j else i)) H):=by
 intro Y s σ H xs W Q I r h;obtain ⟨i,j,rfl,q⟩:=h;obtain ⟨u,V,rfl,⟨t,rfl⟩,⟨U,rfl⟩⟩:=vals2 r;refine min_two_ints (I.ok.hd hc) fun T S k=>⟨_,H,I.kept k,?_,q⟩;by_cases Z:j<i
 ·rw [ä Z,ä Z];exact ⟨_,rfl⟩
 ·rw [í Z,í Z];exact ⟨_,rfl⟩
end
structure U0 (h:ħ) (x dx C:Ø) (mA:Str->Option Ä):Prop where
 obj:h.get? x=some (PySem.W.instObj C dx)
 ns:h.Ns1 dx mA
 ne:dx≠x
section
variable {prog:ß} {w:ú} {A:æ} {E:Ä->Ã->Prop} {s:Ã} {K:č} {x dx C f:Ø} {mA:Str->Option Ä} {name:Str} {v:Ä}
end
section
variable {P:ß} {w:ú} {H H':Hp} {h h':ħ} {a C dx:Ø} {fs R0:List (Str×V)}
end
structure R8 (K:č) (C:Ø):Prop where
 pg:PySem.W.plainGet K C Str.empty=true
 hd:PySem.W.hasDictIn K C=true
 po:PySem.W.plainOver K C=true
 sa:VY K (.ref C) "__setattr__"=some (some (.builtin "object.__setattr__"))
structure U8 (K:č) (C:Ø) (f:Str) (v:V) (u:Ä):Prop where
 at_:VY K (.ref C) f=some (some u)
 rel:RelV v u
 get:PySem.W.specialIn K u "__get__"=some none
 cp:PySem.W.copiedNames.contains f=false
structure Meth (K:č) (C:Ø) (m:Str) (f:Ø):Prop where
 at_:VY K (.ref C) m=some (some (.ref f))
 fn:PySem.W.isFn K (.ref f)=true
 kp:ĵ K (.ref f)=true
section
variable {X:Cx} {π:List (Ø×Obj)} {σ:St} {H:Hp} {s:Ã} {a C dx:Ø} {fs:List (Str×V)} {f:Str} {v:V} {A:æ} {E:Ä->Ã->Prop}
end
section
variable {X:Cx} {o e value:Ğ} {f:Str} {pos pos' qp:Pos} {ta tv:TE}
end
section
variable {X:Cx} {π:List (Ø×Obj)} {σ:St} {H:Hp} {s:Ã} {A:æ} {E:Ä->Ã->Prop} {Q:Ä->Ã->Prop} {c:Ä} {b:Bool}
inductive iI (K:č) (H:Hp):V->Ä->Prop where
 |ao:iI K H .ao (.type "NoneType")
 |bl (x:Bool):iI K H (.bl x) (.type "bool")
 |int (i:Int):iI K H (.int i) (.type "int")
 |str (x:Str):iI K H (.str x) (.type "str")
 |qH (x:UInt64):iI K H (.qH x) (.type "float")
 |lst {a:Ø} {xs:List V} (e:H a=some (.lst xs)):iI K H (.ref a) (.type "list")
 |ba {a:Ø} {o:Obj} {xs:List V} (e:H a=some (.ba o (.lst xs))):iI K H (.ref a) (.type "list")
 |tup {a:Ø} {xs:List V} (e:H a=some (.tup xs)):iI K H (.ref a) (.type "tuple")
 |dK {a:Ø} {aB:List (Key×V)} (e:H a=some (.dK aB)):iI K H (.ref a) (.type "dict")
 |dT {a:Ø} {aB:List (List Key×V)} (e:H a=some (.dT aB)):iI K H (.ref a) (.type "dict")
 |ins {a C dx:Ø} {fs:List (Str×V)} (e:H a=some (.ins C dx fs)) (cl:R8 K C) (ha:VY K (.ref C) "__class__"=some (some (.builtin "object.__class__")))
   (hn:PySem.W.specialIn K (.builtin "object.__class__") "__get__"=some (some (.builtin "getset_descriptor.__get__"))) (U9:PySem.W.takesIn K (.builtin "object.__class__")=some true)
   (hm:PySem.W.mroIn K C (.type "object")=some true):iI K H (.ref a) (.ref C)
end
structure bC (k:Nat) (A:æ):Prop where
 hd:A.handled=none
 dp:A.depth+3*k+5<recursionLimit
 un:A.units+16*k+200<WD
 gd:A.guards=some []
def bC.mono (r:bC k A) (h:j<=k):bC j A:=⟨r.hd,by have:=r.dp;omega,by have:=r.un;omega,r.gd⟩
theorem bC.deeper (r:bC (k+1) A) (env:Env):bC k (A.deeper env) :=
 ⟨r.hd,by have:=r.dp;show A.depth+1+3*k+5 < _;omega,by have:=r.un;show A.units+3+16*k+200 < _;omega,r.gd⟩
theorem bC.depth (r:bC k A):A.depth<recursionLimit:=by have:=r.dp;omega
def Q5:TA:=fun _ H Q=>Q [] H
def PC (ta:TE) (tr:TA):TA:=fun σ H Q=>ta σ H fun x Z=>tr σ Z fun Y X=>Q (x::Y) X
section
variable {X:Cx} {e:Ğ} {es:List Ğ} {te:TE} {t:TA} {pos:Pos}
def j8:PA X [] Q5:=fun _ _ _ _ H Q I h=>Calls.spliced_nil ⟨[],H,I,.nil,h⟩
def i9 (ha:PE X e te) (hr:PA X es t) (hs:Ê (e::es) X.env=(false,ļ e X.env)::Ê es X.env:=by rfl):PA X (e::es) (PC te t):=by
 intro pos Z s σ H Q I h;rw [hs];show Ù _ _ (spliced ((false,ļ e X.env)::ı pos (Ê es X.env))) _ _ s;refine Vx (aH (ha Z s σ H _ I h) fun u Y ⟨x,W,V,U,T⟩=>?_);exact aH (hr pos Z Y σ W _ V T) fun M L ⟨S,R,P,O,N⟩=>⟨x::S,R,P,.cons U O,N⟩
def Q6 (t:TA):TE:=fun σ H Q=>t σ H fun Z Y=>Z.length<=Ñ/\∀p,Y p=none->Q (.ref p) (upd Y p (.tup Z))
def Q7 (t:TA):TE:=fun σ H Q=>t σ H fun Z Y=>Z.length<=Ñ/\∀p,Y p=none->Q (.ref p) (upd Y p (.lst Z))
def NZ {x1} (h:PA X es t):PE X (.Tuple es x1 pos) (Q6 t):=by
 intro V s σ H Q I U;refine wpAny_Tuple_spliced (aH (h pos V s σ H _ I U) fun T Z ⟨S,Y,W,r,z,q⟩=>⟨by rw [<- r.length];exact z,?_⟩);have R:Y Z.heap.objs.size=none:=W.aD.fresh (WV _);refine ⟨.ref Z.heap.objs.size,upd Y Z.heap.objs.size (.tup S),W.laid (t':=Z.toks) (fun b u e=>Á _ e) (WV _) ?_,rfl,q _ R⟩;exact ⟨z,T,r,⟨_,Ï _ rfl,rfl,_,rfl⟩⟩
def DG (h:PA X es t):PE X (.List es pos) (Q7 t):=by
 intro V s σ H Q I U;refine wpAny_List_spliced (aH (h pos V s σ H _ I U) fun T Z ⟨S,Y,W,r,z,q⟩=>⟨by rw [<- r.length];exact z,?_⟩);have R:Y Z.heap.objs.size=none:=W.aD.fresh (WV _);refine ⟨.ref Z.heap.objs.size,upd Y Z.heap.objs.size (.lst S),W.laid (t':=Z.toks) (fun b u e=>Á _ e) (WV _) ?_,rfl,q _ R⟩;exact ⟨z,T,0,r,Ï _ rfl⟩
end
abbrev Sp:=List V->Hp->VK->XK->Prop
abbrev gO:=List Env->Hp->Ã->XK->Ä->Ã->Prop
structure nZ (P:ß) (w:ú) (K:č) (mg:Str->Option Ä) (base:ħ) (A:æ) (outer:List Env) (s:Ã) (H:Hp):Prop where
 frames:A.frames=some outer
 mod:Mod K mg base
 bs:∀b o,base.get? b=some o->s.heap.get? b=some o/\H b=none
 gv:base.objs.size<=s.heap.objs.size
 gp:s.heap.FunFrames base outer
 jH:∀b∈bM outer,H b=none
 aD:bR P w H s.heap
 bare:WL s.gens
def CE (outer:List Env) (P:ß) (w:ú) (H:Hp) (s:Ã) (Q:VK) (u:Ä) (s':Ã):Prop :=
 ∃v Z,s'.os=s.os/\WL s'.gens/\Un (bM outer) [] H Z s.heap s'.heap/\bR P w Z s'.heap/\RelV v u/\Q v Z
def CR (CX:gO) (outer:List Env) (P:ß) (w:ú) (H:Hp) (s:Ã) (Q:VK) (E:XK) (r:Result) (s':Ã):Prop :=
 match r with
 | .ok (.ret u)=>CE outer P w H s Q u s'
 | .ok _=>False
 | .error e=>CX outer H s E e s'
structure cG (P:ß) (w:ú) (K:č) (mg:Str->Option Ä) (base:ħ) (CX:gO) (k:Nat) (f:Ø) (fd:ę) (ps:List Str) (sp:Sp):Prop where
 len:∀vs H Q E,sp vs H Q E->vs.length=ps.length
 run:∀(A:æ) (outer:List Env) (s:Ã) (H:Hp) (args:Args) (us:List Ä) (vs:List V) (Q:VK) (E:XK),bC k A->nZ P w K mg base A outer s H->BindsTo s fd args (ps.zip us)->Vals vs us->sp vs H Q E ->
  ũ (à P w) A (.call (.ref f) args) (CR CX outer P w H s Q E) s
def cG.imp {P:ß} {w:ú} {K:č} {mg:Str->Option Ä} {base:ħ} {CX:gO} {k:Nat} {f:Ø} {fd:ę} {ps:List Str} {sp Gv:Sp} (F:cG P w K mg base CX k f fd ps sp)
  (h:∀vs H Q E,Gv vs H Q E->sp vs H Q E):cG P w K mg base CX k f fd ps Gv :=
 ⟨fun vs H Q E q=>F.len vs H Q E (h _ _ _ _ q),fun A outer s H args Z vs Q E Y X W V hs=>F.run A outer s H args Z vs Q E Y X W V (h _ _ _ _ hs)⟩
section
variable {X:Cx} {π:List (Ø×Obj)} {σ:St} {H:Hp} {s s':Ã}
def Inv.mF (I:Inv X π σ H s):nZ X.prog X.w X.K X.mg X.base X.A X.stack s H :=
 ⟨I.ok.frames,I.ok.mod,I.bs,á I.ok.gv I.sz,I.stack,I.pw,I.aD,I.bare⟩
def Inv.after (I:Inv X π σ H s) (h:CE X.stack X.prog X.w H s Q u s'):EP X π σ Q u s':=by
 obtain ⟨v,Z,os,bare,un,Y,r,q⟩:=h;obtain ⟨W,g,d,t,V⟩:=s';obtain rfl:V=s.os:=os;exact ⟨v,Z,I.call (h':=W) (g':=g) (d':=d) (t':=t) (ch:=[]) un Y bare (fun b z=>absurd z (by simp)),r,q⟩
end
def EN (sp:Sp) (aj:List V) (E:XK) (t:TA):TE:=fun σ H Q=>t σ H fun Z Y=>sp (Z++aj) Y Q E
def Binds (K:č) (fd:ę) (ps:List Str) (ds:List Ä):Prop :=
 ∀(s:Ã) (Z:List Ä),K.In s.heap->(Z++ds).length=ps.length->BindsTo s fd ⟨Z,[]⟩ (ps.zip (Z++ds))
def Binds.all {K:č} {fd:ę} {ps:List Str} (h:∀us:List Ä,us.length=ps.length->bindArgs fd ⟨us,[]⟩=pure (ps.zip us)):Binds K fd ps []:=fun s us _ Z=>by
 rw [Ĩ] at Z |-;exact .of_eq (h us Z)
def Passes (CX:gO) (X:Cx) (E:XK):Prop:=∀(Y:List (Ø×Obj)) (σ:St) (H:Hp) (s:Ã) (e:Ä) (Z:Ã),Inv X Y σ H s->CX X.stack H s E e Z->X.xe e Z
section
variable {X:Cx} {CX:gO} {k:Nat} {f C:Ø} {fd:ę} {ps:List Str} {sp:Sp} {aj:List V} {ds:List Ä} {E:XK} {x m:Str} {p pos apos:Pos} {e o:Ğ} {es:List Ğ} {ta:TE} {t:TA}
def N0 {π:List (Ø×Obj)} {σ:St} {H:Hp} {s:Ã} {Q:VK} {us:List Ä} {vs:List V} (F:cG X.prog X.w X.K X.mg X.base CX k f fd ps sp) (hr:bC k X.A) (hb:Binds X.K fd ps ds) (hd:Vals aj ds) (hx:Passes CX X E)
  (I:Inv X π σ H s) (r:Vals vs us) (h:sp (vs++aj) H Q E):Ù (à X.prog X.w) X.A (call (.ref f) us) (EP X π σ Q) X.xe s:=by
 have Y:Vals (vs++aj) (us++ds):=r.append hd;have W:(us++ds).length=ps.length:=by rw [<- Y.length];exact F.len _ _ _ _ h
 refine VN (ķ (F.run X.A X.stack s H ⟨us,[]⟩ (us++ds) (vs++aj) Q E hr I.mF (hb s us I.gw W) Y h) fun r U Z=>?_)
 cases r with
 |error e=>exact hx π σ H s e U I Z
 |ok T =>
  cases T with
  |ret u=>exact I.after Z
  |next=>exact ē Z
  |brk=>exact ē Z
  |cont=>exact ē Z
def CB (F:cG X.prog X.w X.K X.mg X.base CX k f fd ps sp) (hr:bC k X.A) (hg:Gl X x) (hm:X.mg x=some (.ref f)) (hk:ĵ X.K (.ref f)=true) (hb:Binds X.K fd ps ds) (hd:Vals aj ds) (hx:Passes CX X E)
  (ha:PA X (e::es) t) (cY:(x==("__debug__":Str))=false:=by decide) (he:Ê (e::es) X.env=(false,ļ e X.env)::Ê es X.env:=by rfl) (bu:(ı pos (Ê es X.env)).any (·.1)=false:=by rfl) :
  PE X (.Call (.Name x p) (e::es) [] pos) (EN sp aj E t):=by
 intro Y s σ H Q I h;refine Ŧ (nC I hg hm ?_ cY);refine Wx (h₀:=X.base) I.ok.mod.iR hk (aH (ha pos Y s σ H _ I h) fun W V ⟨U,T,Z,r,q⟩=>⟨Z.gw,?_⟩) he bu;exact N0 F hr hb hd hx Z r q
structure Mk (K:č) (C f:Ø):Prop where
 makes:PySem.W.makesIn K C=true
 init:VY K (.ref C) "__init__"=some (some (.ref f))
 fn:PySem.W.isFn K (.ref f)=true
 kp:ĵ K (.ref C)=true
end
section
variable {X:Cx} {CX:gO} {k:Nat} {f C:Ø} {fd:ę} {ps ks:List Str} {sp:Sp} {E:XK} {x m:Str} {p pos apos Q8:Pos} {e o:Ğ} {es:List Ğ} {Va:List V9} {te ta:TE} {t tk:TA} {nm:Option Str}
structure UZ (K:č) (fd:ę) (ps ks:List Str) (g:List Ä->List Ä->List Ä) (gV:List V->List V->List V):Prop where
 to:∀(s:Ã) (us ws:List Ä),K.In s.heap->(g us ws).length=ps.length->BindsTo s fd ⟨us,ks.zip ws⟩ (ps.zip (g us ws))
 rel:∀{vs:List V} {us:List Ä} {zs:List V} {ws:List Ä},Vals vs us->Vals zs ws->Vals (gV vs zs) (g us ws)
variable {g:List Ä->List Ä->List Ä} {gV:List V->List V->List V}
end
structure nD (N P:List Str) (sc:ŷ):Prop where
 kind:sc.kind=.function
 co:sc.isCoroutine=false
 gen:sc.isGenerator=false
 nd:N.Nodup
 pre:N.take P.length=P
 par:∀x∈P,sc.names.lookup x=some .local\/sc.names.lookup x=some .cell
 N1:∀y∈sc.names,y.2≠.free
theorem BE {kindOf:Str->Option Ŕ} {x:Str}:∀{binds:List (Str×Ä)} {m:Str->Option Ä},(∀v,(x,v)∉binds)->bindL kindOf binds m x=m x
 | [],_,_=>rfl
 |(n,v)::r,m,h=>by
  unfold bindL;rw [BE fun w hw=>h w (Õ _ hw)];split
  ·have:x≠n:=by rintro rfl;exact h v Ö
   simp [this]
  ·rfl
theorem BF {kindOf:Str->Option Ŕ} {x:Str}:∀{binds:List (Str×Ä)} {m:Str->Option Ä},(∀v,(x,v)∉binds)->bindC kindOf binds m x=m x
 | [],_,_=>rfl
 |(n,v)::r,m,h=>by
  unfold bindC;rw [BF fun w hw=>h w (Õ _ hw)];split
  ·rfl
  ·have:x≠n:=by rintro rfl;exact h v Ö
   simp [this]
theorem BG {kindOf:Str->Option Ŕ} {x:Str} {v:Ä}:∀{P:List Str} {vs:List Ä} {i:Nat} {m:Str->Option Ä},P.Nodup->P[i]?=some x->vs[i]?=some v->kindOf x=some .local ->
  bindL kindOf (P.zip vs) m x=some v
 | [],_,_,_,_,h,_,_=>by simp at h
 |_::_,[],_,_,_,_,h,_=>by simp at h
 |p::P,w::vs,0,m,X,Z,Y,W=>by
  simp at Z Y;subst Z;subst Y;show bindL kindOf ((p,w)::P.zip vs) m p=_;unfold bindL;rw [BE fun v V=>(Ū.mp X).1 (Wl V).1,ä W];simp
 |p::P,w::vs,i+1,m,X,Z,Y,W=>by
  show bindL kindOf ((p,w)::P.zip vs) m x=_;unfold bindL;exact BG (i:=i) (Ū.mp X).2 (by simpa using Z) (by simpa using Y) W
theorem BH {kindOf:Str->Option Ŕ} {x:Str} {v:Ä}:∀{P:List Str} {vs:List Ä} {i:Nat} {m:Str->Option Ä},P.Nodup->P[i]?=some x->vs[i]?=some v->kindOf x≠some .local ->
  bindC kindOf (P.zip vs) m x=some v
 | [],_,_,_,_,h,_,_=>by simp at h
 |_::_,[],_,_,_,_,h,_=>by simp at h
 |p::P,w::vs,0,m,X,Z,Y,W=>by
  simp at Z Y;subst Z;subst Y;show bindC kindOf ((p,w)::P.zip vs) m p=_;unfold bindC;rw [BF fun v V=>(Ū.mp X).1 (Wl V).1,í W];simp
 |p::P,w::vs,i+1,m,X,Z,Y,W=>by
  show bindC kindOf ((p,w)::P.zip vs) m x=_;unfold bindC;exact BH (i:=i) (Ū.mp X).2 (by simpa using Z) (by simpa using Y) W
def start (N:List Str) (vs:List V):St:=vs.map some++Î (N.length-vs.length) none
def fI (CX:gO) (P:ß) (w:ú) (K:č) (mg:Str->Option Ä) (base:ħ) (N:List Str) (qual:Str) (scope:ŷ) (f:Ø) (cd:Ä) (A:æ) (outer:List Env) (s:Ã) (H:Hp) (E:XK):Cx where
 prog:=P
 w:=w
 K:=K
 mg:=mg
 base:=base
 A:=A.deeper (WQ qual scope s.heap.objs.size f cd)
 N:=N
 cf:=s
 jz:=H
 env:=WQ qual scope s.heap.objs.size f cd
 outer:=outer
 stack:=WQ qual scope s.heap.objs.size f cd::outer
 ex:=[]
 calm:=true
 fn:=fun _=>true
 pn:=[]
 xe:=fun e Y=>Ù (à P w) (A.deeper (WQ qual scope s.heap.objs.size f cd)) (leaving (WQ qual scope s.heap.objs.size f cd) e) (fun _ Z=>CX outer H s E e Z) (fun X Z=>CX outer H s E X Z) Y
def B1 {sc:ŷ} {n:Nat} {x:Str} (h:sc.names.lookup x=some .cell):∃c,(Ż n sc.names []).lookup x=some c:=by
 have q:=Ť sc.names n [] (.inl h);exact Option.isSome_iff_exists.mp q
def BI {CX:gO} {P:ß} {w:ú} {K:č} {mg:Str->Option Ä} {base:ħ} {N ps:List Str} {qual:Str} {scope:ŷ} {f:Ø} {cd:Ä} {A:æ} {outer:List Env} {s s1:Ã} {H:Hp} {E:XK} {us:List Ä} {vs:List V}
  (S:nD N ps scope) (hd:A.handled=none) (e0:nZ P w K mg base A outer s H) (hl:vs.length=ps.length) (r:Vals vs us)
  (x:InCallC s s.heap.objs.size (bindL (WQ qual scope s.heap.objs.size f cd).kindOf (ps.zip us) fun _=>none) (Ż (s.heap.objs.size+1) scope.names []) (bindC (WQ qual scope s.heap.objs.size f cd).kindOf (ps.zip us) fun _=>none) s1) :
  Inv (fI CX P w K mg base N qual scope f cd A outer s H E) [] (start N vs) H s1:=by
 have M:ps.length<=N.length:=by have:=ĺ List.length S.pre;rw [Wa] at this;omega
 obtain ⟨X,L,rfl,U⟩:=x.done;have W:∀b:Ø,b∉(fI CX P w K mg base N qual scope f cd A outer s H E).ex:=fun b z=>absurd (show b∈([]:List Ø) from z) (by simp);refine ⟨⟨e0.mod,S.kind,rfl,rfl,WV _,fun y z c X Z=>?_,fun y hy=>?_,fun y c _ h=>?_,fun _=>hd,Around.frames_deeper e0.frames,.inr ⟨rfl,rfl⟩,fun b z=>absurd z (W b),e0.bs,e0.gv,fun b _ _=>W b,fun b z=>absurd z (W b),e0.gp,e0.jH⟩,
  rfl,e0.bare,Un.kept U,⟨_,x.toInCall.ns,fun i y v X Z J=>?_⟩,fun y c h=>⟨_,x.cell y c h⟩,e0.aD.fresh (WV _),fun y c h=>?_,fun p Y=>absurd (show p∈([]:List (Ø×Obj)) from Y) (by simp),e0.aD.kept U,?_⟩
 ·exact name_of_addr x.apart (ġ X) (ġ Z)
 ·have hy:scope.names.lookup y=some .cell\/scope.names.lookup y=some .free:=hy
  rcases hy with hy|hy
  ·exact B1 hy
  ·exact absurd rfl (S.N1 _ (ġ hy))
 ·exact Nat.le_of_lt (x.above y c (ġ h))
 ·have hi:i<vs.length:=by
   unfold start at Z;by_cases hi:i<vs.length
   ·exact hi
   ·rw [ô (by simpa using hi)] at Z
    rw [ğ] at Z
    split at Z<;>cases Z
  have Q:vs[i]?=some v:=by
   unfold start at Z;rw [Ú (by simpa using hi),ç] at Z
   cases e:vs[i]? with
   |none=>rw [e] at Z;cases Z
   |some a=>rw [e] at Z;cases Z;rfl
  obtain ⟨u,T,O⟩:=r.get Q;have Y:ps[i]?=some y:=by
   rw [<- S.pre,List.getElem?_take_of_lt (by omega)];exact X
  have R:ps.Nodup:=by rw [<- S.pre];exact S.nd.sublist (List.take_sublist _ _)
  refine ⟨u,O,?_⟩
  rcases S.par y (ĭ Y) with k|k
  ·exact .inl ⟨k,BG R Y T k⟩
  ·obtain ⟨c,e⟩:=B1 (n:=s.heap.objs.size+1) k
   refine .inr ⟨.inl k,c,e,?_⟩;have q:=x.cell y c e;rw [BH R Y T (by show scope.names.lookup y≠_;rw [k];decide)] at q;exact q
 ·exact e0.aD.fresh (Nat.le_of_lt (x.above y c (ġ h)))
 ·unfold start
  show _=N.length;rw [Ý,Ì,ū];omega
def xH {CX:gO} {P:ß} {w:ú} {K:č} {mg:Str->Option Ä} {base:ħ} {k:Nat} {f:Ø} {name qual:Str} {params:WI} {body:List WE} {scope:ŷ} {dV kV doc pm aR ct oc:Ä} {an od:Option Ø}
  {gQ:Array (Option Ä)} {N ps:List Str} {sp:Sp} (lk:K.lookup f=some ⟨oc,od,.func (ľ name qual params body scope dV kV doc pm an aR ct),gQ⟩) (cX:ż K aR qual=true) (S:nD N ps scope)
  (len:∀vs H Q E,sp vs H Q E->vs.length=ps.length)
  (iE:∀(A:æ) (outer:List Env) (s:Ã) (H:Hp) (vs:List V) (Q:VK) (E:XK),bC k (A.deeper (WQ qual scope s.heap.objs.size f aR))->sp vs H Q E ->
   ∃t,cg (fI CX P w K mg base N qual scope f aR A outer s H E) body t/\t { nx:=fun _ H'=>Q .ao H',rt:=Q } (start N vs) H) :
  cG P w K mg base CX (k+1) f (ľ name qual params body scope dV kV doc pm an aR ct) ps sp:=by
 refine ⟨len,fun A outer s H args L vs Q E X Z G r R=>?_⟩;have F:=len _ _ _ _ R;have O:K.In s.heap:=Z.mod.iR.keeps fun b o e=>(Z.bs b o e).1;have lim:s.heap.NoLimit:=Z.mod.nolimit.keeps fun b o e=>(Z.bs b o e).1;have D:∀y∈ps.zip L,scope.names.lookup y.1=some .local\/(scope.names.lookup y.1=some .cell/\((Ż (s.heap.objs.size+1) scope.names []).lookup y.1).isSome=true):=fun ⟨n,v⟩ C=>by
  rcases S.par n (Wl C).1 with q|q
  ·exact .inl q
  ·exact .inr ⟨q,Ť _ _ _ (.inl q)⟩
 refine codeAny_call_function X.depth (O _ _ lk) rfl S.co S.gen rfl (PySem.W.codeRec_of O cX) (G _ _ _ _ ?_);refine wpAny_newFunctionEnv_cells S.kind D fun env B M x=>?_;subst B;refine ⟨lim.keeps x.toInCall.keep,codeAny_func ?_⟩;obtain ⟨t,z,p⟩:=iE A outer s H vs Q E (X.deeper _) R;have I:Inv (fI CX P w K mg base N qual scope f aR A outer s H E) [] (start N vs) H M:=BI S X.hd Z F r x;refine ģ (z [] M (start N vs) H _ I p) (fun m U hs=>?_) fun e U hs=>hs;have fin:∀{Y:St} {H':Hp} {v:V} {u:Ä},Inv (fI CX P w K mg base N qual scope f aR A outer s H E) [] Y H' U->RelV v u->Q v H'->CE outer P w H s Q u U :=
  fun {Y H' v u} J T q=>⟨v,H',J.os,J.bare,J.base,J.aD,T,q⟩
 cases m with
 |ret u =>
  obtain ⟨v,Y,H',J,T,q⟩:=hs;exact fin J T q
 |next =>
  obtain ⟨Y,H',J,q⟩:=hs;exact fin (v:=V.ao) (u:=Value.none) J rfl q
 |brk =>
  obtain ⟨_,_,_,q⟩:=hs;exact ē q
 |cont =>
  obtain ⟨_,_,_,q⟩:=hs;exact ē q
section
variable {X:Cx} {x:Str} {p pos:Pos} {e:Ğ} {es:List Ğ} {t:TA} {id T:String} {r:List V->Hp->VK->Prop}
def yZ (r:List V->Hp->VK->Prop) (t:TA):TE:=fun σ H Q=>t σ H fun Z Y=>r Z Y Q
def sg (hc:bS X (.builtin id) r) (hg:Gl X x) (hm:X.mg x=none) (hv:ì x=some (.builtin id)) (ha:PA X (e::es) t) (hn:x≠"__name__":=by decide) (cY:(x==("__debug__":Str))=false:=by decide)
  (he:Ê (e::es) X.env=(false,ļ e X.env)::Ê es X.env:=by rfl) (bu:(ı pos (Ê es X.env)).any (·.1)=false:=by rfl):PE X (.Call (.Name x p) (e::es) [] pos) (yZ r t):=by
 intro Z s σ H Q I h;refine Ŧ (nI I hg hm hv ?_ hn cY);exact PyProof.Rows.callWith_builtin1 (aH (ha pos Z s σ H _ I h) fun Y W ⟨V,U,T,S,R⟩=>hc Z W σ U V Y Q T S R) he bu
def vv (hc:bS X (.type T) r) (hg:Gl X x) (hm:X.mg x=none) (hv:ì x=some (.type T)) (ha:PA X (e::es) t) (hn:x≠"__name__":=by decide) (cY:(x==("__debug__":Str))=false:=by decide)
  (he:Ê (e::es) X.env=(false,ļ e X.env)::Ê es X.env:=by rfl) (bu:(ı pos (Ê es X.env)).any (·.1)=false:=by rfl):PE X (.Call (.Name x p) (e::es) [] pos) (yZ r t):=by
 intro Z s σ H Q I h;refine Ŧ (nI I hg hm hv ?_ hn cY);exact Ń (aH (ha pos Z s σ H _ I h) fun Y W ⟨V,U,S,R,P⟩=>hc Z W σ U V Y Q S R P) he bu
end
end L2
namespace HT
open PySem PyProof.Rows
noncomputable def lexLt:List Int->List Int->Bool
 | [],[]=>false
 | [],_::_=>true
 |_::_,[]=>false
 |x::Z,y::Y=>if x=y then lexLt Z Y else decide (x<y)
def gY (x y:Int) (xs ys:List Int):lexLt (x::xs) (y::ys)=if x=y then lexLt xs ys else decide (x<y):=rfl
def B4 (A:æ) (s:Ã) (a:Int) (t:Tok) (c:Int) (u:Tok) (prog:ß) (w:ú) (E:Ä->Ã->Prop) (Q:Ä->Ã->Prop) (h:Q (.bool (decide (a<c))) s) :
  Ù (à prog w) A (richCompare .Lt (.int a t) (.int c u)) Q E s :=
 (PyProof.Rows.lt_int h:Ù (à prog w) A (Đ .Lt (.int a t) (.int c u)) Q E s)
section
open PySem.SeqAt
open PySem.AutoSeq1 (wpAny_loadPart')
open PySem.MeetsSeq PySem.MeetsSeq2 PySem.MeetsSeq3
end
section
variable {prog:ß} {w:ú} {A:æ} {E:Ä->Ã->Prop} {s:Ã}
def Mv (ht:IsTup s.heap t vs.toArray) (hb:IsTup s.heap b ws.toArray) (hv:vs≠[])
 (h1:ws=[]->Q (.ref t) s) (h2:ws≠[]->Q (.ref s.heap.objs.size) { s with heap:=s.heap.push { cls:=.type "tuple",data:=.seq (vs++ws).toArray } })
 (hsz:vs.length+ws.length<=Ñ):Ù (à prog w) A (İ .Add (.ref t) (.ref b)) Q E s:=by
 obtain ⟨⟨cls,X,data,W⟩,Z,V,n,U⟩:=id ht;obtain ⟨⟨O,T,data2,S⟩,Y,R,P,hd2⟩:=id hb;simp only at V U R hd2;subst V U R hd2;have e:vs.toArray++ws.toArray=(vs++ws).toArray:=by simp
 by_cases hw:ws=[]
 ·exact concat_meets ⟨_,Z,rfl⟩ ⟨_,Y,rfl⟩ noFill_tuple_add seq_tuple_add VM Vy (χ _ _)
   (tuple_addW1 t b vs.toArray ws.toArray n P X T W S (by simpa using hv) (by simp [hw])) ⟨Z,Y,h1 hw⟩
 ·refine concat_meets ⟨_,Z,rfl⟩ ⟨_,Y,rfl⟩ noFill_tuple_add seq_tuple_add VM Vy (χ _ _)
   (tuple_addW2 t b vs.toArray ws.toArray n P X T W S (by simpa using hv) (by simpa using hw) (by rw [Ô,Ô];exact hsz)) ⟨Z,Y,?_⟩
  rw [e];exact h2 hw
noncomputable def aS (n d:Nat):Option Int->Nat
 |none=>d
 |some v=>if v<0 then (v+(n:Int)).toNat else min v.toNat n
def N2 (n d:Nat) (hd:d<=n) (o:Option Int):aS n d o<=n:=by
 cases o with
 |none=>exact hd
 |some v =>
  show (if v<0 then (v+(n:Int)).toNat else min v.toNat n)<=n
  by_cases Z:v<0
  ·rw [ä Z];omega
  ·rw [í Z];exact Nat.min_le_right _ _
def CC (v:Int) (n d:Nat):(if v<0 then max (v+(n:Int)) 0 else min v (n:Int))=((aS n d (some v):Nat):Int):=by
 show (if v<0 then max (v+(n:Int)) 0 else min v (n:Int))=(((if v<0 then (v+(n:Int)).toNat else min v.toNat n):Nat):Int)
 by_cases Z:v<0
 ·simp only [ä Z];omega
 ·simp only [í Z];omega
def Ja (lo hi:Option Int) (n:Nat):Ž lo hi 1 (n:Int)=(((aS n 0 lo:Nat):Int),((aS n n hi:Nat):Int)):=by
 have Z:¬ ((1:Int)<0):=by omega
 unfold Ž;simp only [Z,ĉ];refine Prod.ext ?_ ?_
 ·cases lo with
  |none=>rfl
  |some v=>exact CC v n 0
 ·cases hi with
  |none=>rfl
  |some v=>exact CC v n n
def Jb (i j:Nat):Œ (i:Int) (j:Int) 1=j-i:=by
 unfold Œ;have Z:(1:Int) > 0:=by omega
 simp only [Z,Ċ,Int.ediv_one]
 split<;>omega
def Bt (p:IsPart v o) (h:Q o s):Ù (à prog w) A (Builtin.Slice.slicePartIndex v) Q E s:=by
 cases p with
 |none=>exact slicePart_none h
 |int i t=>exact slicePart_int h
def A7 {lo hi:Option Int} {n:Nat} {Q:Int×Int×Nat->Ã->Prop} (hs:s.heap.IsSliceOf sl vl vu .none) (pl:IsPart vl lo) (pu:IsPart vu hi)
 (h:Q (((aS n 0 lo:Nat):Int),1,aS n n hi-aS n 0 lo) s):Ù (à prog w) A (Ww (.ref sl) (pure (n:Int))) Q E s:=by
 obtain ⟨os,Z,X,Y⟩:=id hs;unfold Ww Builtin.Slice.sliceFields;refine À (À (ĩ Z Y (x:=vl) rfl (À (ĩ Z Y (x:=vu) rfl (À (ĩ Z Y (x:=.none) rfl (Â ?_)))))));refine À (slicePart_none ?_)
 show Ù _ _ (if ((1:Int)==0)=true then _ else _) _ _ s
 rw [í (by decide)];refine À (Bt pl (À (Bt pu (À (Â ?_)))))
 show Ù _ _ (match Ž lo hi 1 (n:Int) with | (lo,hi)=>pure (lo,(1:Int),Œ lo hi 1)) _ _ s
 rw [Ja lo hi n];show Ù _ _ (pure (((aS n 0 lo:Nat):Int),(1:Int),Œ ((aS n 0 lo:Nat):Int) ((aS n n hi:Nat):Int) 1)) _ _ s;rw [Jb];exact Â h
def K5 (xs:Array Ä) (i k:Nat):((Ă k).filterMap fun (m:Nat)=>xs[((i:Int)+(m:Int)*1).toNat]?).toArray=((xs.toList.drop i).take k).toArray:=by
 have e:(fun (m:Nat)=>xs[((i:Int)+(m:Int)*1).toNat]?)=fun m=>xs[i+m]?:=by
  funext m;have:((i:Int)+(m:Int)*1).toNat=i+m:=by omega
  rw [this]
 rw [e];have:=pick_run xs i k;rw [List.filterMap_map] at this;have e2:((fun x=>xs[x]?) ∘ fun x=>i+x)=fun m=>xs[i+m]?:=rfl;rw [e2] at this;rw [this]
def Hl {lo hi:Option Int} {Q:Ä->Ã->Prop} (ht:IsTup s.heap t items) (hs:s.heap.IsSliceOf sl vl vu .none) (pl:IsPart vl lo) (pu:IsPart vu hi)
 (hw:¬ (aS items.size 0 lo=0/\aS items.size items.size hi=items.size))
 (h:Q (.ref s.heap.objs.size) { s with heap:=s.heap.push { cls:=.type "tuple",data:=.seq ((items.toList.drop (aS items.size 0 lo)).take (aS items.size items.size hi-aS items.size 0 lo)).toArray } })
 (hsz:items.size<=Ñ):Ù (à prog w) A (getItem (.ref t) (.ref sl)) Q E s:=by
 have Z:sizeOk (.seq ((items.toList.drop (aS items.size 0 lo)).take (aS items.size items.size hi-aS items.size 0 lo)).toArray):=by
  show ((items.toList.drop (aS items.size 0 lo)).take (aS items.size items.size hi-aS items.size 0 lo)).toArray.size<=Ñ;rw [Ô,Wa,List.length_drop,î];omega
 have U:aS items.size items.size hi<=items.size:=N2 _ _ (WV _) hi;obtain ⟨os,Y,X,T⟩:=id hs;have W:s.TypeIs (.ref sl) "slice":=⟨os,Y,X⟩;unfold getItem
 try with_reducible refine Ĕ ?_
 first|refine À (Â ?_)|skip
 refine À (wpAny_sequenceKey ht.typeIs (by decide) ?_);refine À (Ā (name:=đ "__getitem__") ht.typeIs ċ
  (þ ċ ht.typeIs entry_tuple_getitem ?_ (args_tuple_getitem _ _)))
 show Ù _ _ (Ň (.ref t) >>= _) _ _ s;refine À (tupleItemsOf_ ht ?_);refine À (V3 W ?_);rw [ä (by decide)];refine À (A7 hs pl pu ?_);have V:¬ ((((aS items.size 0 lo:Nat):Int)==0&&(1:Int)==1&&(aS items.size items.size hi-aS items.size 0 lo)==items.size)=true):=by
  intro q;rw [È,È] at q;have S:((aS items.size 0 lo:Nat):Int)=0:=eq_of_beq q.1.1;have R:aS items.size items.size hi-aS items.size 0 lo=items.size:=eq_of_beq q.2;exact hw ⟨by omega,by omega⟩
 show Ù _ _ (if (((aS items.size 0 lo:Nat):Int)==0&&(1:Int)==1&&(aS items.size items.size hi-aS items.size 0 lo)==items.size)=true then _ else _) _ _ s
 rw [í V,K5]
 first
  |exact À (m:=Ļ _) (ò (Â ⟨_,rfl,Â h⟩) Z)
  |exact À (m:=Ļ _) (ò (À (Â (Â ⟨_,rfl,Â h⟩))) Z)
  |exact À (À (m:=Ļ _) (ò (Â (Â ⟨_,rfl,Â h⟩)) Z))
  |exact À (À (m:=Ļ _) (ò (Â ⟨_,rfl,Â h⟩) Z))
end
end HT
namespace L2
open PySem PySem.Spec PyProof.Rows
abbrev TO:=St->Hp->(Option Int->Hp->Prop)->Prop
def PO (X:Cx) (e:Option Ğ) (t:TO):Prop :=
 ∀(Z:List (Ø×Obj)) (s:Ã) (σ:St) (H:Hp) (Q:Option Int->Hp->Prop),Inv X Z σ H s->t σ H Q ->
  Ù (à X.prog X.w) X.A (evalPart e X.env) (fun u W=>∃o Y,Inv X Z σ Y W/\IsPart u o/\Q o Y) X.xe s
def Mw:TO:=fun _ H Q=>Q none H
def PH (t:TE):TO:=fun σ H Q=>t σ H fun x Z=>∃i,x=.int i/\Q (some i) Z
def intsAre_of:∀{us:List Ä},Vals (ns.map V.int) us->Vz us ns:=by
 induction ns with
 |nil=>intro us r;rw [Ŭ] at r;cases r;exact .nil
 |cons n ns ih =>
  intro us r;rw [ï] at r
  cases r with
  |cons Z Y =>
   obtain ⟨t,e⟩:=Z;subst e;exact .cons n t (ih Y)
section
variable {X:Cx} {e:Ğ} {te:TE} {lo hi:Option Ğ} {tl th:TO} {pos p2:Pos}
def Mx:PO X none Mw:=by
 intro Z s σ H Q I h;rw [evalPart_none];exact Â ⟨none,H,I,.none,h⟩
def My (h:PE X e te):PO X (some e) (PH te):=by
 intro Z s σ H Q I hw;rw [evalPart_some];refine aH (h Z s σ H _ I hw) fun u T ⟨x,Y,W,V,U⟩=>?_;obtain ⟨i,rfl,q⟩:=U;obtain ⟨t,rfl⟩:=V;exact ⟨some i,Y,W,.int i t,q⟩
def qR (X:Cx) (r:V->Option Int->Option Int->Hp->VK->Prop):Prop :=
 ∀(Z:List (Ø×Obj)) (s:Ã) (σ:St) (H:Hp) (x:V) (v Y W:Ä) (lo hi:Option Int) (U:Ø) (Q:VK),Inv X Z σ H s->RelV x v->s.heap.IsSliceOf U Y W .none->IsPart Y lo->IsPart W hi->r x lo hi H Q ->
  ∃T id,typeLookup (.type T) "__getitem__"=pure (some (.builtin id))/\s.TypeIs v T/\Ù (à X.prog X.w) X.A (getItem v (.ref U)) (EP X Z σ Q) X.xe s
def Sa (r:V->Option Int->Option Int->Hp->VK->Prop) (te:TE) (tl th:TO):TE:=fun σ H Q=>te σ H fun x Z=>tl σ Z fun l Y=>th σ Y fun u X=>r x l u X Q
def K6 (hr:qR X r) (he:PE X e te) (hl:PO X lo tl) (hu:PO X hi th):PE X (.Subscript e (.Slice lo hi none p2) pos) (Sa r te tl th):=by
 intro Y s σ H Q I h;refine Subscript_ (aH (he Y s σ H _ I h) fun v S ⟨x,R,P,O,N⟩=>?_);refine wpAny_Slice (aH (hl Y S σ R _ P N) fun W M ⟨l,L,K,J,G⟩=>aH (hu Y M σ L _ K G) fun V Z ⟨u,U,F,pu,E⟩=>?_);rw [evalPart_none];refine Â ?_
 have D:Inv X Y σ U { Z with heap:=Z.heap.push { cls:=.type "slice",data:=.fields #[W,V,.none] } }:=F.kept (t':=Z.toks) fun b y q=>Á _ q
 obtain ⟨T,id,C,B,z⟩:=hr Y { Z with heap:=Z.heap.push { cls:=.type "slice",data:=.fields #[W,V,.none] } } σ U x v W V l u Z.heap.objs.size Q D O (Heap.IsSliceOf.new ..) J pu E
 show Ù (à X.prog X.w) X.A (subscriptTail e (.Slice lo hi none p2) v (.ref Z.heap.objs.size)) (EP X Y σ Q) X.xe { Z with heap:=Z.heap.push { cls:=.type "slice",data:=.fields #[W,V,.none] } }
 exact tail_any (ops:=[.ref Z.heap.objs.size,v]) B C z (by with_unfolding_all rfl)
noncomputable def iJ (xs:List V) (lo hi:Option Int):List V:=(xs.drop (HT.aS xs.length 0 lo)).take (HT.aS xs.length xs.length hi-HT.aS xs.length 0 lo)
def Bk (xs:List V) (lo hi:Option Int):(iJ xs lo hi).length<=xs.length:=by
 unfold iJ;rw [Wa,List.length_drop];omega
def Q9 (K:č):V->Option Int->Option Int->Hp->VK->Prop:=fun x lo hi H Q=>∃a Z,x=.ref a/\bg K H a Z /\
 ¬ (HT.aS Z.length 0 lo=0/\HT.aS Z.length Z.length hi=Z.length)/\∀p,H p=none->Q (.ref p) (upd H p (.tup (iJ Z lo hi)))
def wR:qR X (Q9 X.K):=by
 intro R s σ H x v P O lo hi N Q I U hs T pu h;obtain ⟨a,Y,rfl,S,hw,q⟩:=h;cases U;obtain ⟨its,r,W,V⟩:=I.tuple S;have Z:its.toArray.size=Y.length:=by rw [Ô];exact r.length.symm
 refine ⟨"tuple",_,ċ.lookup,W.typeIs,?_⟩;refine HT.Hl W hs T pu (by rw [Z];exact hw) ?_ (by rw [Z];exact V);rw [Z];refine ⟨.ref s.heap.objs.size,_,I.laid (t':=s.toks) (o:=.tup (iJ Y lo hi)) (fun b M q=>Á _ q) (WV _) ?_,rfl,q _ (I.aD.fresh (WV _))⟩;exact ⟨á (Bk Y lo hi) V,_,(r.drop (HT.aS Y.length 0 lo)).take (HT.aS Y.length Y.length hi-HT.aS Y.length 0 lo),IsTup.new _ _⟩
def PJ (K:č):R2:=fun x y H Q=>∃a b Y Z,x=.ref a/\y=.ref b/\bg K H a Y/\bg K H b Z/\Y≠[]/\Y.length+Z.length<=Ñ /\
 (Z=[]->Q (.ref a) H)/\(Z≠[]->∀p,H p=none->Q (.ref p) (upd H p (.tup (Y++Z))))
def Vals.wg (r:Vals xs us):us=[]↔xs=[]:=by
 cases r with
 |nil=>simp
 |cons _ _=>simp
def Mz:bj X (İ .Add) (PJ X.K):=by
 intro J s σ H x y v u Q I V U h;obtain ⟨a,b,T,S,rfl,rfl,R,P,O,W,N,M⟩:=h;cases V;cases U;obtain ⟨its,Y,L,_⟩:=I.tuple R;obtain ⟨G,Z,p2,_⟩:=I.tuple P;refine HT.Mv L p2 (fun z=>O (Y.wg.mp z)) (fun z=>⟨.ref a,H,I,rfl,N (Z.wg.mp z)⟩) (fun z=>?_) (by rw [<- Y.length,<- Z.length];exact W);refine ⟨.ref s.heap.objs.size,_,I.laid (t':=s.toks) (o:=.tup (T++S)) (fun b F q=>Á _ q) (WV _) ?_,rfl,M (fun w=>z (Z.wg.mpr w)) _ (I.aD.fresh (WV _))⟩;exact ⟨by rw [Ý];exact W,_,Y.append Z,IsTup.new _ _⟩
end
noncomputable def ff (n:Nat) (i:Int):Option Nat:=if 0<=i then (if i<n then some i.toNat else none) else if -(n:Int)<=i then some (i+n).toNat else none
def dj {α:Type} (xs:List α) (i:Int):Option α:=(ff xs.length i).bind fun j=>xs[j]?
def CD (h:ff n i=some j):seqIndex? i n=some j/\j<n/\-(n:Int)<=i/\i<n:=by
 unfold ff at h;by_cases Y:0<=i
 ·rw [ä Y] at h
  by_cases Z:i<n
  ·rw [ä Z] at h
   have e:i.toNat=j:=WW h;exact ⟨by rw [seqIndex_of Y Z,e],by omega,by omega,Z⟩
  ·rw [í Z] at h;cases h
 ·rw [í Y] at h
  by_cases Z:-(n:Int)<=i
  ·rw [ä Z] at h
   have e:(i+n).toNat=j:=WW h;exact ⟨by rw [seqIndex_neg (by omega) Z,e],by omega,Z,by omega⟩
  ·rw [í Z] at h;cases h
def wj {α:Type} {xs:List α} {i:Int} {v:α} (h:dj xs i=some v):∃j,seqIndex? i xs.length=some j/\xs[j]?=some v/\j<xs.length/\-(xs.length:Int)<=i/\i<xs.length:=by
 unfold dj at h
 cases e:ff xs.length i with
 |none=>rw [e] at h;cases h
 |some j =>
  rw [e] at h;obtain ⟨Z,Y,X,W⟩:=CD e;exact ⟨j,Z,h,Y,X,W⟩
def wk {α:Type} {xs:List α} {j:Nat} {v:α} (h:xs[j]?=some v):dj xs (j:Int)=some v:=by
 have Z:j<xs.length:=(Æ.mp h).1;have e:ff xs.length (j:Int)=some j:=by
  unfold ff;rw [ä (by omega),ä (by omega)];simp
 unfold dj;rw [e];exact h
def CF (b:Ğ):Prop:=∀o i,subscripted b false o i=operate [o,i] (getItem o i)
def qS (X:Cx) (r:R2):Prop :=
 ∀(value slice:Ğ) (Z:List (Ø×Obj)) (s:Ã) (σ:St) (H:Hp) (x y:V) (v u:Ä) (Q:VK),Inv X Z σ H s->RelV x v->RelV y u->r x y H Q ->
  subscripted slice false v u=operate [v,u] (getItem v u)->Ù (à X.prog X.w) X.A (subscriptTail value slice v u) (EP X Z σ Q) X.xe s
def zb (X:Cx) (id:String) (r:V->List V->Hp->VK->Prop):Prop :=
 ∀(Z:List (Ø×Obj)) (s:Ã) (σ:St) (H:Hp) (x:V) (Y:List V) (v:Ä) (W:List Ä) (Q:VK),Inv X Z σ H s->RelV x v->Vals Y W->r x Y H Q ->
  Ù (à X.prog X.w) X.A (call (.builtin id) (v::W)) (EP X Z σ Q) X.xe s
section
variable {X:Cx} {a b:Ğ} {ta tb:TE} {pos:Pos}
def PK (hr:qS X r) (ha:PE X a ta) (hb:PE X b tb) (hs:CF b):PE X (.Subscript a b pos) (qP r ta tb):=by
 intro Z s σ H Q I h;exact Subscript_ (yr ha hb I h fun v u Y x y W V U T q=>hr a b Z Y σ W x y v u Q V U T q (hs _ _))
def Ra (K:č):R2:=fun x y H Q=>∃p Z i v,x=.ref p/\y=.int i/\bt K H p Z/\dj Z i=some v/\Q v H
def Rb (K:č):R2:=fun x y H Q=>∃p Z i v,x=.ref p/\y=.int i/\bg K H p Z/\dj Z i=some v/\Q v H
def Rc:R2:=fun x y H Q=>∃z i c,x=.str z/\y=.int i/\z.length<=Ñ/\dj z.cps.toList i=some c/\Q (.str ⟨#[c]⟩) H
def CG:qS X (Ra X.K):=by
 intro value slice V s σ H x y v u Q I S R h hs;obtain ⟨p,E,i,z,rfl,rfl,P,O,q⟩:=h;cases S;obtain ⟨t,rfl⟩:=R;obtain ⟨its,r,Y,D⟩:=I.list P;obtain ⟨j,Z,N,C,M,L⟩:=wj O;obtain ⟨w,U,J⟩:=r.get N;have G:=r.length;have B:=me;have fin:EP X V σ Q w s:=⟨z,H,I,J,q⟩;by_cases T:0<=i
 ·have W:i.toNat=j:=by
   rw [seqIndex_of T L] at Z;exact WW Z
  exact item_listR Y.isList T (by omega) (by rw [W];simpa using U) fin hs
 ·have W:(i+(its.toArray.size:Int)).toNat=j:=by
   rw [seqIndex_neg (by omega) M] at Z;rw [Ô,<- G];exact WW Z
  exact subscriptTail_builtinR (x:=w) Y.isList.typeIs slot_list_getitem.lookup
   (wpAny_getItem_list_neg (Q:=fun r F=>r=w/\EP X V σ Q r F) Y.isList (by omega) (by rw [Ô]<;>omega) (by omega) (by rw [W];simpa using U) ⟨rfl,fin⟩) hs
def N3:qS X (Rb X.K):=by
 intro value slice Z s σ H x y v u Q I W V h hs;obtain ⟨p,L,i,z,rfl,rfl,U,T,q⟩:=h;cases W;obtain ⟨t,rfl⟩:=V;obtain ⟨its,r,Y,J⟩:=I.tuple U;obtain ⟨j,S,R,G,F,E⟩:=wj T;obtain ⟨w,P,O⟩:=r.get R;have N:=r.length;have D:=me;have fin:EP X Z σ Q w s:=⟨z,H,I,O,q⟩;exact subscriptTail_builtinR (x:=w) Y.typeIs slot_tuple_getitem.lookup
  (getItem_tuple (j:=j) (Q:=fun r M=>r=w/\EP X Z σ Q r M) Y (by omega) (by omega) (by rw [Ô,<- N];exact S) (by simpa using P) ⟨rfl,fin⟩) hs
def N4:qS X Rc:=by
 intro value slice P s σ H x y v u Q I Y W h hs;obtain ⟨z,i,c,rfl,rfl,O,V,q⟩:=h;obtain ⟨t,rfl⟩:=Y;obtain ⟨N,rfl⟩:=W;obtain ⟨j,Z,U,M,T,S⟩:=wj V;have R:z.cps.toList.length=z.length:=by simp [Str.length]
 rw [R] at Z T S;have L:=me;exact tail_any (typeIs_str s z t) slot_str_getitem.lookup (getItem_str (c:=c) (by
  have e1:decide (i < -(2 ^ 63:Int))=false:=ù (by omega);have e2:decide (i ≥ 2 ^ 63)=false:=ù (by omega);rw [e1,e2,Bool.or_false]) (by rw [Z];simpa using U) ⟨.str ⟨#[c]⟩,H,I.tok _,⟨_,rfl⟩,q⟩) hs
def Jc (its:List Ä) (n j:Nat) (u:Ä):ŀ (·.setIfInBounds j u) { cls:=.type "list",data:=.seq its.toArray n }={ cls:=.type "list",data:=.seq (its.set j u).toArray n }:=by
 simp [ŀ]
theorem Inv.lst {π:List (Ø×Obj)} {σ:St} {H:Hp} {s:Ã} {p:Ø} {xs:List V} (I:Inv X π σ H s) (h:H p=some (.lst xs)) :
  ∃(its:List Ä) (n:Nat),Vals xs its/\s.heap.get? p=some { cls:=.type "list",data:=.seq its.toArray n }/\xs.length<=Ñ:=by
 obtain ⟨z,its,n,r,e⟩:=I.aD p _ h;exact ⟨its,n,r,e,z⟩
def Inv.N5 {π:List (Ø×Obj)} {σ:St} {H:Hp} {s:Ã} {p:Ø} {xs ys:List V} {its its':List Ä} {n n':Nat} {f:Obj->Obj} (I:Inv X π σ H s) (h:H p=some (.lst xs))
  (ho:s.heap.get? p=some { cls:=.type "list",data:=.seq its.toArray n }) (hf:f { cls:=.type "list",data:=.seq its.toArray n }={ cls:=.type "list",data:=.seq its'.toArray n' }) (r:Vals ys its') (hz:ys.length<=Ñ) (t:Nat) :
  Inv X π σ (upd H p (.lst ys)) { s with heap:=s.heap.update p f,toks:=t }:=by
 have e:(s.heap.update p f).get? p=some { cls:=.type "list",data:=.seq its'.toArray n' }:=by
  rw [Ē f ho (by rw [hf]<;>rfl),hf]
 refine I.write (x:=p) (e:=p) (by rw [h];trivial) (.inl rfl) (fun b u Z q=>(ť _ _ (Ÿ Z)).trans q) ⟨_,e⟩ ?_;exact ⟨hz,its',n',r,e⟩
def PL:V->V->V->Hp->(Hp->Prop)->Prop:=fun o i v H Q=>∃p Z k j,o=.ref p/\i=.int k/\H p=some (.lst Z)/\ff Z.length k=some j/\Q (upd H p (.lst (Z.set j v)))
def set_list:FI X PL:=by
 intro N s σ H o i v E D u Q I M L K h;obtain ⟨p,J,k,j,rfl,rfl,T,G,q⟩:=h;cases M;obtain ⟨t,rfl⟩:=L;obtain ⟨its,n,r,Y,F⟩:=I.lst T;obtain ⟨Z,C,S,R⟩:=CD G;have V:=r.length;have B:=me
 have P:Inv X N σ (upd H p (.lst (J.set j v))) { s with heap:=s.heap.update p (ŀ (·.setIfInBounds j u)) } :=
  I.N5 T Y (Jc its n j u) (r.set K j) (by rw [ą];exact F) s.toks
 by_cases O:0<=k
 ·have U:k.toNat=j:=by
   rw [seqIndex_of O R] at Z;exact WW Z
  exact PySem.W.ki_setAt Y O (by omega) (by rw [Ô,<- V];exact R) (by rw [U];exact ⟨_,P,q⟩)
 ·have U:(k+(its.toArray.size:Int)).toNat=j:=by
   rw [seqIndex_neg (by omega) S] at Z;rw [Ô,<- V];exact WW Z
  exact PySem.W.ki_setBack Y (by omega) (by rw [Ô,<- V];exact S) (by omega) (by rw [U];exact ⟨_,P,q⟩)
def HP (lo hi:Option Int) (n:Nat):(VO lo hi none n).1=((HT.aS n 0 lo:Nat):Int)/\(VO lo hi none n).2.1=((HT.aS n n hi:Nat):Int)/\(VO lo hi none n).2.2=1:=by
 refine ⟨?_,?_,rfl⟩
 ·cases lo with
  |none=>simp [VO,HT.aS]
  |some i =>
   simp only [VO,HT.aS,Option.getD_none,show (1:Int) > 0 by decide,Ċ];by_cases h:i<0
   ·simp only [h,Ċ]<;>omega
   ·simp only [h,ĉ]<;>omega
 ·cases hi with
  |none=>simp [VO,HT.aS]
  |some i =>
   simp only [VO,HT.aS,Option.getD_none,show (1:Int) > 0 by decide,Ċ];by_cases h:i<0
   ·simp only [h,Ċ]<;>omega
   ·simp only [h,ĉ]<;>omega
def HF (its:List Ä) (lo hi:Option Int):slicePick its.toArray lo hi none=((its.drop (HT.aS its.length 0 lo)).take (HT.aS its.length its.length hi-HT.aS its.length 0 lo)).toArray:=by
 obtain ⟨Z,Y,X⟩:=HP lo hi its.toArray.size;unfold slicePick;rw [Z,Y,X]
 simp only [sliceRange_one,pick_run,Ô]<;>rfl
def Rf (K:č):V->Option Int->Option Int->Hp->VK->Prop:=fun x lo hi H Q=>∃a Z,x=.ref a/\bt K H a Z/\∀p,H p=none->Q (.ref p) (upd H p (.lst (iJ Z lo hi)))
def MA:qR X (Rf X.K):=by
 intro R s σ H x v P O lo hi N Q I V hs U pu h;obtain ⟨a,Z,rfl,T,q⟩:=h;cases V;obtain ⟨its,r,W,S⟩:=I.list T;have Y:=r.length;refine ⟨"list",_,slot_list_getitem.lookup,W.isList.typeIs,?_⟩
 refine wpAny_getItem_list_slice W.isList hs U pu .none (by simp) ?_ (by rw [Ô]<;>omega)
 rw [HF,<- Y];refine ⟨.ref s.heap.objs.size,_,I.laid (t':=s.toks) (o:=.lst (iJ Z lo hi)) (fun b M q=>Á _ q) (WV _) ?_,rfl,q _ (I.aD.fresh (WV _))⟩;exact ⟨á (Bk Z lo hi) S,_,0,(r.drop (HT.aS Z.length 0 lo)).take (HT.aS Z.length Z.length hi-HT.aS Z.length 0 lo),Ï _ rfl⟩
def u9:bS X (.builtin "len") (fun xs H Q=>∃p ys,xs=[.ref p]/\(bt X.K H p ys\/bg X.K H p ys)/\Q (.int ys.length) H):=by
 intro T s σ H xs S Q I r h;obtain ⟨p,ys,rfl,hq,q⟩:=h;obtain ⟨u,rfl,V⟩:=vals1 r;cases V;have R:=me
 rcases hq with hq|hq
 ·obtain ⟨its,Y,W,U⟩:=I.list hq
  have Z:=Y.length
  exact Calls.call_len_list W.isList (by simp only [Ô]<;>omega) ⟨.int ys.length,H,I.tok _,⟨s.toks+1,by rw [Ô,Z]⟩,q⟩
 ·obtain ⟨its,Y,W,U⟩:=I.tuple hq
  have Z:=Y.length
  exact len_tuple W (by simp only [Ô]<;>omega) ⟨.int ys.length,H,I.tok _,⟨s.toks+1,by rw [Ô,Z]⟩,q⟩
def HQ:bS X (.builtin "len") (fun xs H Q=>∃z,xs=[.str z]/\z.length<=Ñ/\Q (.int z.length) H):=by
 intro Z s σ H xs Y Q I r h;obtain ⟨z,rfl,W,q⟩:=h;obtain ⟨u,rfl,t,rfl⟩:=vals1 r;have V:=me;exact len_str (by omega) ⟨.int z.length,H,I.tok _,⟨_,rfl⟩,q⟩
def Bb:bS X (.type "list") (fun xs H Q=>∃p ys,xs=[.ref p]/\(bt X.K H p ys\/bg X.K H p ys)/\∀l,H l=none->Q (.ref l) (upd H l (.lst ys))):=by
 intro M s σ H xs J Q I r h;obtain ⟨p,ys,rfl,hq,q⟩:=h;obtain ⟨u,rfl,L⟩:=vals1 r;cases L;have fin:∀(its:List Ä),Vals ys its->ys.length<=Ñ->∀(Z:ħ) (Y:Nat),(∀b N,s.heap.get? b=some N->Z.get? b=some N) ->
   Z.get? s.heap.objs.size=some { cls:=.type "list",dict:=none,data:=.seq its.toArray Y,slots:=#[] }->EP X M σ Q (.ref s.heap.objs.size) { s with heap:=Z }:=fun its W V Z Y U e =>
  ⟨.ref s.heap.objs.size,_,I.laid (t':=s.toks) U (WV _) (show cJ X.prog X.w _ Z _ (.lst ys) from ⟨V,its,Y,W,e⟩),rfl,q _ (I.aD.fresh (WV _))⟩
 rcases hq with hq|hq
 ·obtain ⟨its,W,S,V⟩:=I.list hq
  have T:=W.length;obtain ⟨o,R,P,n,O⟩:=S.isList
  exact call_list_seq p (.inl rfl) R P O (fun Z Y U e=>fin its W V Z Y U e) (by simp only [Ô]<;>omega)
 ·obtain ⟨its,W,S,V⟩:=I.tuple hq
  have T:=W.length;obtain ⟨o,R,P,n,O⟩:=S
  exact call_list_seq p (.inr rfl) R P O (fun Z Y U e=>fin its W V Z Y U e) (by simp only [Ô]<;>omega)
def A9:bS X (.type "tuple") (fun xs H Q=>∃p ys,xs=[.ref p]/\((bt X.K H p ys/\∀l,H l=none->Q (.ref l) (upd H l (.tup ys)))\/(bg X.K H p ys/\Q (.ref p) H))):=by
 intro U s σ H xs M Q I r h;obtain ⟨p,ys,rfl,h⟩:=h;obtain ⟨u,rfl,P⟩:=vals1 r;cases P
 rcases h with ⟨Y,q⟩ | ⟨Y,q⟩
 ·obtain ⟨its,W,V,T⟩:=I.list Y
  have S:=W.length
  refine call_tuple_list V.isList (fun Z O=>?_) (by simp only [Ô]<;>omega)
  have R:Inv X U σ H { s with heap:=Z }:=I.kept (t':=s.toks) O
  have N:Inv X U σ (upd H Z.objs.size (.tup ys)) { s with heap:=Z.push { cls:=.type "tuple",data:=.seq its.toArray } } :=
   R.laid (t':=s.toks) (fun b o e=>Á _ e) (WV _) (show cJ X.prog X.w _ _ _ (.tup ys) from ⟨T,its,W,IsTup.new _ _⟩)
  exact ⟨.ref Z.objs.size,_,N,rfl,q _ (R.aD.fresh (WV _))⟩
 ·obtain ⟨its,W,V,T⟩:=I.tuple Y
  exact call_tuple_same V ⟨.ref p,H,I,rfl,q⟩
def Gx (K:č) (T:String) (x:V) (H:Hp):Prop:=match x with
 | .str _=>T="str"
 | .int _=>T="int"
 | .ref p=>(T="list"/\∃Y,bt K H p Y)\/(T="tuple"/\∃o,K.lookup p=some o/\o.cls=.type "tuple"/\o.dict=none) \/
   (T="dict"/\((∃Z,H p=some (.dK Z))\/∃Z,H p=some (.dT Z)))\/(T="set"/\∃S n,H p=some (.set S n))
 |_=>False
def N6 {π:List (Ø×Obj)} {σ:St} {H:Hp} {s:Ã} {T:String} {x:V} {v:Ä} (I:Inv X π σ H s) (r:RelV x v) (ty:Gx X.K T x H) :
  s.TypeIs v T/\∀a,v=.ref a->∃ob,s.heap.get? a=some ob/\ob.dict=none:=by
 cases x with
 |str z =>
  obtain ⟨t,rfl⟩:=r;cases (show T="str" from ty)
  exact ⟨typeIs_str s z t,fun _ e=>nomatch e⟩
 |int i =>
  obtain ⟨t,rfl⟩:=r;cases (show T="int" from ty)
  exact ⟨typeIs_int s i t,fun _ e=>nomatch e⟩
 |ref p =>
  cases r
  rcases ty with ⟨rfl,P,U⟩ | ⟨rfl,o,Z,R,Y⟩ | ⟨rfl,Z⟩ | ⟨rfl,S,n,Z⟩
  ·obtain ⟨its,_,W,_⟩:=I.list U
   refine ⟨W.isList.typeIs,fun a e=>?_⟩;cases e;obtain ⟨o,n,e,c,Y,_⟩:=W;exact ⟨o,e,Y⟩
  ·refine ⟨⟨o,I.gw p o Z,R⟩,fun a e=>?_⟩
   cases e;exact ⟨o,I.gw _ o Z,Y⟩
  ·have z:∃o,s.heap.get? p=some o/\o.ExactDict:=by
    rcases Z with ⟨Q,Z⟩ | ⟨Q,Z⟩
    ·obtain ⟨_,_,_,_,o,_,_,e,ex,_⟩:=I.aD p _ Z
     exact ⟨o,e,ex⟩
    ·obtain ⟨_,_,_,_,o,_,_,e,ex,_⟩:=I.aD p _ Z
     exact ⟨o,e,ex⟩
   obtain ⟨o,e,ex⟩:=z;refine ⟨⟨o,e,ex.1⟩,fun a e2=>?_⟩;cases e2;exact ⟨o,e,ex.2.1⟩
  ·obtain ⟨o,_,_,_,e,ex,_⟩:=I.aD p _ Z
   refine ⟨⟨o,e,ex.1⟩,fun a e2=>?_⟩;cases e2;exact ⟨o,e,ex.2.1⟩
 |_=>exact ē ty
def Sb (K:č) (T:String) (r:V->List V->Hp->VK->Prop) (to:TE) (t:TA):TE:=fun σ H Q=>to σ H fun x Z=>Gx K T x Z/\t σ Z fun Y X=>r x Y X Q
variable {o e:Ğ} {es:List Ğ} {to:TE} {t:TA} {name:Str} {apos bh:Pos} {T id:String} {r:V->List V->Hp->VK->Prop}
def xI (pa:PlainAttrs T) (slot:Slot T name id) (Sd:typeOf (.builtin id)=pure (.type "method_descriptor")) (hm:zb X id r) (ho:PE X o to) (ha:PA X (e::es) t)
  (mm:VA o name X.env (ļ o X.env)=ļ o X.env:=by rfl)
  (mH:((ı bh (Ê (e::es) X.env)).all (fun x=>!x.1)&&(backToKw bh (Wm [] X.env)).all (fun x=>x.1.isSome)
   && decide ((e::es).length+([]:List V9).length+(if ([]:List V9).isEmpty then 0 else 1)<30))=true:=by rfl)
  (mq:(apos.endLine==bh.line)=true:=by rfl) (hs:Ê (e::es) X.env=(false,ļ e X.env)::Ê es X.env:=by rfl) (iA:(ı bh (Ê es X.env)).any (·.1)=false:=by rfl) :
  PE X (.Call (.Attribute o name apos) (e::es) [] bh) (Sb X.K T r to t):=by
 intro Z s σ H Q I h;refine wpAny_Call_method_late mm mH mq rfl (aH (ho Z s σ H _ I h) fun v U ⟨x,S,Y,W,ty,R⟩=>?_);obtain ⟨P,O⟩:=N6 Y W ty;refine ⟨T,id,pa,slot,Sd,P,O,?_⟩;have V:=ha bh Z U σ S _ Y R;rw [hs] at V |-
 refine Calls.callWith_builtin (by show (false||(ı bh (Ê es X.env)).any (·.1))=false;rw [iA]<;>rfl) (Calls.evalArgs_plain ?_)
 exact aH V fun N M ⟨L,J,G,F,E⟩=>hm Z M σ J x L v N Q G W F E
end
def Se (X:Cx) (id:String) (r:V->List V->Hp->VK->Prop):Prop :=
 ∀(Z:List (Ø×Obj)) (s:Ã) (σ:St) (H:Hp) (x:V) (Y:List V) (v:Ä) (W:List Ä) (Q:VK),Inv X Z σ H s->RelV x v->Vals Y W->r x Y H Q ->
  Ù (à X.prog X.w) X.A (call (.builtin id) (v::W)) (EP X Z σ Q) X.xe s
def Vals.one:∀{x:V} {us:List Ä},Vals [x] us->∃u,us=[u]/\RelV x u
 |_,_,.cons r .nil=>⟨_,rfl,r⟩
theorem Vals.rep (h:Vals xs us):∀k:Nat,Vals (Î k xs).flatten (Î k us).flatten
 |0=>.nil
 |k+1=>by
  rw [Ĳ,Ĳ,ŗ,ŗ];exact Vals.append h (Vals.rep h k)
theorem foldl_rep (its:List Ä):∀(k:Nat) (acc:List Ä),
  List.foldl (fun x1 x2=>x1++x2) acc.toArray (Î k its.toArray)=(acc++(Î k its).flatten).toArray
 |0,acc=>by simp
 |k+1,acc=>by
  have e:acc.toArray++its.toArray=(acc++its).toArray:=by simp
  have e2:(acc++its)++(Î k its).flatten=acc++(Î (k+1) its).flatten:=by
   rw [Ĳ,ŗ,Ł]
  rw [<- e2,<- foldl_rep its k (acc++its),<- e,Ĳ,List.foldl_cons]
section
variable {X:Cx} {π:List (Ø×Obj)} {σ:St} {H:Hp} {s:Ã} {l b:Ø} {xs ys zs:List V}
def Inv.Rg {its its':List Ä} {n:Nat} {f:Array Ä->Array Ä} {t':Nat} (I:Inv X π σ H s) (hH:H l=some (.lst xs))
  (e:s.heap.get? l=some { cls:=.type "list",data:=.seq its.toArray n }) (hf:f its.toArray=its'.toArray) (hv:Vals ys its') (hz:ys.length<=Ñ) :
  Inv X π σ (upd H l (.lst ys)) { s with heap:=s.heap.update l (ŀ f),toks:=t' }:=by
 have q:=PySem.IsL.update e f;rw [hf] at q;refine I.write (x:=l) (e:=l) (by rw [hH];exact trivial) (.inl rfl) (fun W u Z Y=>(ť s.heap (ŀ f) (Ÿ Z)).trans Y) ⟨_,q⟩ ?_;exact ⟨hz,its',_,hv,q⟩
def Inv.FO (I:Inv X π σ H s) (hv:Vals ys its) (hz:ys.length<=Ñ) :
  Inv X π σ (upd H s.heap.objs.size (.lst ys)) { s with heap:=s.heap.push { cls:=.type "list",data:=.seq its.toArray },toks:=t' } :=
 I.laid (fun _ _ q=>Á _ q) (WV _) ⟨hz,its,0,hv,Ï _ rfl⟩
theorem Inv.fresh (I:Inv X π σ H s):H s.heap.objs.size=none:=I.aD.fresh (WV _)
def Inv.tV (I:Inv X π σ H s) (hH:H l=some (.lst xs)):xs.length<=Ñ/\∃(its:List Ä) (n:Nat),Vals xs its/\xs.length=its.length/\s.heap.get? l=some { cls:=.type "list",data:=.seq its.toArray n }:=by
 obtain ⟨z,its,n,r,e⟩:=I.aD l _ hH;exact ⟨z,its,n,r,r.length,e⟩
def K7 (h:n<=Ñ):ψ n=false:=by
 unfold ψ;exact ù (by omega)
end
section
variable {X:Cx}
def MB:V->List V->Hp->VK->Prop:=fun x Y H Q=>∃l Z y,x=.ref l/\Y=[y]/\H l=some (.lst Z)/\Z.length<Ñ/\Q .ao (upd H l (.lst (Z++[y])))
def JW:Se X "list.append" MB:=by
 intro U s σ H x T v S Q I Y W h;obtain ⟨l,R,y,rfl,rfl,Z,P,q⟩:=h;cases Y;obtain ⟨u,rfl,V⟩:=W.one;obtain ⟨z,its,n,r,O,e⟩:=I.tV Z;refine call_meets F.slot_list_append ⟨_,e,rfl⟩ F.entry_list_append (F.args_list_append_2 _ _) (PySem.list_append l its.toArray n u (by rw [Ô];omega)) ⟨e,?_⟩;refine ⟨.ao,_,I.Rg (its':=its++[u]) Z e (by simp) (r.append (.cons V .nil)) ?_,rfl,q⟩;rw [Ý,List.length_singleton];omega
def Rh:R2:=fun x y H Q=>∃l b Z zs,x=.ref l/\y=.ref b/\H l=some (.lst Z)/\H b=some (.lst zs)/\Z.length+zs.length<=Ñ/\∀p,H p=none->Q (.ref p) (upd H p (.lst (Z++zs)))
def DH:bj X (İ .Add) Rh:=by
 intro R s σ H x y v u Q I Y W h;obtain ⟨l,b,O,zs,rfl,rfl,V,U,N,q⟩:=h;cases Y;cases W;obtain ⟨z,its,n,r,M,e⟩:=I.tV V;obtain ⟨L,Z,K,T,J,e2⟩:=I.tV U;refine PySem.P.add_list e e2 ?_ (by rw [Ô,Ô];omega);have S:its.toArray++Z.toArray=(its++Z).toArray:=by simp
 rw [S];exact ⟨.ref _,_,I.FO (t':=s.toks) (r.append T) (by rw [Ý];omega),rfl,q _ I.fresh⟩
def Ri:R2:=fun x y H Q=>∃l k Z,x=.ref l/\y=.int k/\H l=some (.lst Z)/\-(2 ^ 63)<=k/\k<2 ^ 63/\Z.length*k.toNat<=Ñ /\
 ∀p,H p=none->Q (.ref p) (upd H p (.lst (Î k.toNat Z).flatten))
def len_rep {α:Type} (xs:List α) (k:Nat):(Î k xs).flatten.length=k*xs.length:=by
 induction k with
 |zero=>simp
 |succ k ih=>rw [Ĳ,ŗ,Ý,ih,Nat.succ_mul,Nat.add_comm]
def N7:bj X (İ .Mult) Ri:=by
 intro D s σ H x y v u Q I S R h;obtain ⟨l,k,C,rfl,rfl,P,O,N,V,q⟩:=h;cases S;obtain ⟨t,rfl⟩:=R;obtain ⟨z,its,n,r,M,e⟩:=I.tV P;have Z:its.toArray.size*k.toNat<=Ñ:=by rw [Ô,<- M];exact V
 have L:¬ its.toArray.size*k.toNat > (2 ^ 63-1) / 8:=by
  have:(Ñ:Nat)<=(2 ^ 63-1) / 8:=by decide
  omega
 have K:¬ (!Builtin.List.listFitsIndex k)=true:=by
  rw [fitsIndex_both O N];exact Ò
 have J:¬ ψ (its.toArray.size*k.toNat)=true:=by
  rw [K7 Z];exact Ò
 have G:List.foldl (fun Y W=>Y++W) #[] (Î (if its.toArray.isEmpty=true then 0 else k.toNat) its.toArray)=(Î k.toNat its).flatten.toArray:=by
  have f0:∀m:Nat,List.foldl (fun Y W=>Y++W) #[] (Î m its.toArray)=(Î m its).flatten.toArray:=fun m=>by
   have:=foldl_rep its m [];rw [Č] at this;exact this
  rw [f0]
  cases its with
  |nil=>simp
  |cons a B=>rw [í (by simp)]
 refine wpAny_binaryOp_repeat_ref (T:="list") (U:="int") (by decide) ⟨_,e,rfl⟩ (fun E=>typeIs_int E k t) noFill_list_mul F.fills_int_mul Wn repeat_list F.slot_int_index.lookup
  (call_meets Wn (typeIs_int s k t) F.entry_int_rmul (F.args_int_rmul_2 _ _) (int___rmul___int_list k t l its.toArray n)
   ⟨e,rfl,⟨_,e,rfl⟩,call_meets F.slot_list_mul ⟨_,e,rfl⟩ F.entry_list_mul (F.args_list_mul_2 _ _) (AutoListH.list___mul___list_int_3 l its.toArray n k t K L J) ⟨e,?_⟩⟩)
 rw [G];exact ⟨.ref _,_,I.FO (t':=s.toks) (r.rep k.toNat) (by rw [len_rep,Nat.mul_comm];exact V),rfl,q _ I.fresh⟩
end
section
variable {prog:ß} {w:ú} {A:æ} {E:Ä->Ã->Prop} {s:Ã}
set_option maxRecDepth 100000 in
end
section
variable {X:Cx}
end
end L2
namespace Gy
open PySem PySem.W PySem.Calls PyProof.Rows
def Hu:∀(ns:List Int) (vs:List Ä),WellAll P h vs (ns.map WData.int)->Vz vs ns:=by
 intro ns
 induction ns with
 |nil =>
  intro vs w;rw [Ŭ] at w;cases w;exact .nil
 |cons n ns ih =>
  intro vs w;rw [ï] at w
  cases w with
  |cons a b =>
   cases a;exact .cons _ _ (ih _ b)
def JX {l:OpenLaw} {n:Nat} (hn:l.most=some n) {P:Params} {h:ħ} {args:List WData} {vals:List Ä}
  (tW:l.row.toRowW.claim.pre args=true) (zc:WellAll P h vals args) :
  ∃a vs ns,vals=[V2 a]/\args=[WData.list (ns.map WData.int)]/\h.get? a=some { cls:=.type "list",data:=.seq vs.toArray }/\Vz vs ns/\ns.length<=n:=by
 have V:WShape.hasAll [] args [.list .int]=true:=(pre_splitW tW).1;have W:l.pre.holds [] { args:=args }=true:=(pre_splitW tW).2;obtain ⟨d,r,rfl,U,T⟩:=hasAllW_cons V;obtain rfl:=hasAllW_nil T;obtain ⟨L,rfl,S⟩:=hasW_list U;obtain ⟨ns,rfl⟩:=items_int S;have Z:ns.length<=n:=by
  unfold OpenLaw.pre at W;have Y:(WTm.not (.lt (.lit (.int (n:Int))) (.len (.arg 0)))).holds [] { args:=[.list (ns.map .int)] }=true:=by
   have Y:=(holds_andW W).1;rw [hn] at Y;exact Y
  have X:=condW_of Y (w_not (w_lt w_lit (w_len_list (w_arg rfl))));rw [Ì] at X;refine ŝ fun q=>?_;have R:(n:Int)<((ns.length:Nat):Int):=by omega
  first
   |(rw [Þ R] at X;exact absurd X (by decide))
   |(simp at X;omega)
 cases zc with
 |cons Q O =>
  cases O
  cases Q with
  |list N M=>exact ⟨_,_,ns,rfl,rfl,N,Hu ns _ M,Z⟩
def JY (l:OpenLaw) (args:List WData):l.row.toRowW.claim.post args (.bool true) args=true :=
 postW_of (r:=l.row.toRowW) (X:=(true==true))
  (show WShape.has [] (.bool true) .bool=true by first|rfl|decide|simp [WShape.has,WShape.arms,WShape.armsAll])
  (show (WTm.eq .res (.lit (.bool true))).value [] { args:=args,res:=some (.bool true),after:=args }=some (.bool (true==true)) from w_eq_bool (w_res rfl) w_lit) rfl
def Im {l:OpenLaw} {n:Nat} {q:ß} {loose:List Str} {XP:(Str->Option Ä)->ħ->Prop} {YP:ú->ħ->Prop} {d:DefRec}
  (hn:l.most=some n) (qT:d.params.defaults=[])
  (call:∀(w:ú) (cf bc:Ã) (mg mb:Str->Option Ä) (fa:Ø) (o:Obj) (pm cd doc:Ä) (a:Ø) (vs:List Ä) (ns:List Int),
   Ground q loose [] XP w cf mg mb bc.heap->YP w bc.heap ->
   bc.heap.get? fa=some o->o.data=.func (docDef d.name d.params d.body d.scope pm cd doc)->bc.heap.CodeRec cd d.name->mg d.name=some (.ref fa) ->
   bc.heap.get? a=some { cls:=.type "list",data:=.seq vs.toArray }->Vz vs ns->ns.length<=n->bc.gens=#[] ->
   ũ (à l.prog w) callerA (.call (.ref fa) ⟨[.ref a],[]⟩) (fun r s'=>r=.ok (.ret (.bool true))/\OldK bc.heap s'.heap/\s'.os=bc.os/\WL s'.gens) bc) :
  WalkO q loose XP YP l.row.toRowW d [] (fun f vs=>PySem.call f vs):=by
 intro w cf bc mg mb G Y fa o pm cd doc W kV V U T X S R args vals as Q I H P F;obtain rfl:W=.none:=Dflts.none X qT;obtain rfl:kV=.none:=Dflts.noKw X;obtain ⟨a,vs,ns,rfl,rfl,O,hints,Z⟩:=JX hn Q P;refine enter_call (ķ (call w cf bc mg mb fa o pm cd doc a vs ns G Y V (fd_plain U) T S O hints Z R) fun r s' N=>?_);obtain ⟨rfl,M,L,K⟩:=N
 exact ⟨.inl ⟨.bool true,.bool true,[],rfl,fun _=>rfl,.bool true,JY l _,fun _=>⟨List.Pairwise.nil,fun _ J=>(nomatch J)⟩⟩,M,L,K⟩
section
variable {prog:ß} {w:ú} {A:æ} {E:Ä->Ã->Prop} {s:Ã} {K:č}
noncomputable def ledger (h:ħ) (L d:Ø):List (Ø×Obj):=(Ă h.objs.size).filterMap fun a=>if a=L\/a=d then none else (h.get? a).map fun o=>(a,o)
end
end Gy
namespace L2
open PySem PySem.Spec PyProof.Rows
theorem BJ:∀{vs:List Ä} {ns:List Int},Vz vs ns->Vals (ns.map V.int) vs
 |_,_,.nil=>.nil
 |_,_,.cons n t h=>.cons ⟨t,rfl⟩ (BJ h)
noncomputable abbrev Vc {K:č} {h:ħ} (_:K.In h):č:=K
noncomputable def l9 (s:WE):WI:=match s with
 | .FunctionDef _ a _ _ _ _ _ _ _ _=>a
 |_=>{ posonlyargs:=[],args:=[],vararg:=none,kwonlyargs:=[],kw_defaults:=[],kwarg:=none,defaults:=[] }
noncomputable def gb (s:WE):List WE:=match s with
 | .FunctionDef _ _ b _ _ _ _ _ _ _=>b
 |_=>[]
noncomputable def bX (s:WE):ŷ:=match s with
 | .FunctionDef _ _ _ _ _ _ sc _ _ _=>sc
 |_=>{ kind:=.function,names:=[],isGenerator:=false,isCoroutine:=false }
abbrev cP:gO:=fun _ _ _ _ _ _=>False
abbrev E0:XK:=fun _ _ _=>False
def PN:Passes cP X E0:=fun _ _ _ _ _ _ _ h=>h.elim
structure mW (K:č) (x qual:Str) (st:WE) (f:Ø) (fd:ę):Prop where
 ex:∃(oc:Ä) (od:Option Ø) (kV doc pm:Ä) (an:Option Ø) (aR ct:Ä) (gQ:Array (Option Ä)),
  fd=ľ x qual (l9 st) (gb st) (bX st) .none kV doc pm an aR ct/\K.lookup f=some ⟨oc,od,.func fd,gQ⟩/\ż K aR qual=true
 kp:ĵ K (.ref f)=true
section
variable {P:ß} {w:ú} {K:č} {mg:Str->Option Ä} {base:ħ}
def mW.ok {x qual:Str} {st:WE} {f:Ø} {fd:ę} {N ps:List Str} {k:Nat} {sp:Sp} (F:mW K x qual st f fd) (S:nD N ps (bX st)) (len:∀vs H Q E,sp vs H Q E->vs.length=ps.length)
  (iE:∀(aR:Ä) (A:æ) (outer:List Env) (s:Ã) (H:Hp) (vs:List V) (Q:VK) (E:XK),bC k (A.deeper (WQ qual (bX st) s.heap.objs.size f aR))->sp vs H Q E ->
   ∃t,cg (fI cP P w K mg base N qual (bX st) f aR A outer s H E).kF (gb st) t/\t { nx:=fun _ H'=>Q .ao H',rt:=Q } (start N vs) H):cG P w K mg base cP (k+1) f fd ps sp:=by
 obtain ⟨W,U,kV,doc,pm,an,aR,T,R,rfl,lk,Z⟩:=F.ex;refine xH lk Z S len fun A outer s H vs Q E Y X=>?_;obtain ⟨t,h,q⟩:=iE aR A outer s H vs Q E Y X;exact ⟨t,h.kF,q⟩
def mW.binds {x qual:Str} {st:WE} {f:Ø} {fd:ę} {ps:List Str} (F:mW K x qual st f fd)
  (h:∀(kV doc pm:Ä) (an:Option Ø) (aR ct:Ä) (us:List Ä),us.length=ps.length->bindArgs (ľ x qual (l9 st) (gb st) (bX st) .none kV doc pm an aR ct) ⟨us,[]⟩=pure (ps.zip us)):Binds K fd ps []:=by
 obtain ⟨Z,Y,kV,doc,pm,an,aR,ct,X,rfl,lk,W⟩:=F.ex;exact .all (h kV doc pm an aR ct)
def DJ {x qual:Str} {st:WE} {f:Ø} {oc:Ä} {od an:Option Ø} {gQ:Array (Option Ä)} {kV doc pm aR ct:Ä} (l:K.lookup f=some ⟨oc,od,.func (ľ x qual (l9 st) (gb st) (bX st) .none kV doc pm an aR ct),gQ⟩)
  (c:ż K aR qual=true) (k:ĵ K (.ref f)=true):mW K x qual st f (ľ x qual (l9 st) (gb st) (bX st) .none kV doc pm an aR ct):=⟨⟨oc,od,kV,doc,pm,an,aR,ct,gQ,rfl,l,c⟩,k⟩
end
section
variable {X:Cx}
end
def iK (H H':Hp):Prop:=∀b o,H b=some o->H' b=some o
def iK.refl (H:Hp):iK H H:=fun _ _ h=>h
def Jd (J:Nat->Ã->Prop)
 (turn:∀n s,J n s->Ù (à P w) A (υ fe) (fun r s1=>match r with
   |none=>R (.ok .next) s1
   |some v=>Ù (à P w) A (ł tg fe v) (fun _ s2=>Ù (à P w) A (WO tg ce v) (fun _ s3 =>
     Ù (à P w) A (forIn tests true fun c r=>if r=true then do let ok <- isTrue c ce (ļ c ce);pure (Ī ok) else pure (Ī r)) (fun ok s4 =>
      if ok=true then Ù (à P w) A (ļ el ce) (fun y s5=>Ù (à P w) A (call (.builtin "list.append") [av,y]) (fun _ s6=>∃m,m<n/\J m s6) (fun _ _=>False) s5) (fun _ _=>False) s4
      else ∃m,m<n/\J m s4) (fun _ _=>False) s3) (fun _ _=>False) s2) (fun _ _=>False) s1) (fun _ _=>False) s)
 (n:Nat) (h:J n s):ũ (à P w) A (.compLoop (.ListComp el [⟨tg,src,tests,0⟩] sc ps) 0 fe av ce) R s:=by
 refine codeAny_loop rfl J (fun n s X=>?_) n h
 show Ù _ A ((compTurn (.ListComp el [⟨tg,src,tests,0⟩] sc ps) 0 fe av ce).onRaise (fun x=>do noteFrame x ce;theTreesLotGoes x)) _ _ s
 refine wpAny_noted ?_;rw [compTurn_list];refine À (ů (À (ģ (turn n s X) (fun r s1 Z=>?_) fun _ _ z=>z.elim)))
 cases r with
 |none=>exact Â Z
 |some v =>
  refine À (ģ Z (fun _ s2 W=>?_) fun _ _ z=>z.elim);refine À (ģ W (fun _ s3 V=>À (ģ V (fun ok s4 Y=>?_) fun _ _ z=>z.elim)) fun _ _ z=>z.elim)
  cases ok with
  |false=>exact Â ⟨rfl,Y⟩
  |true =>
   exact À (À (ģ Y (fun y s5 U=>À (ģ U (fun _ s6 T=>Â (Â ⟨rfl,T⟩)) fun _ _ z=>z.elim)) fun _ _ z=>z.elim))
theorem vF (env:Env):∀(l:List (Str×Ŕ)) (acc:List (Str×Ø)),(∀n,(n,ã)∈l->∃c,env.cells.lookup n=some c) ->
  ∃cl,(forIn l acc (fun (p:Str×Ŕ) (cs:List (Str×Ø))=>(do
   if (p.2==ã)=true then do let c <- cellOf env p.1;pure (Ī ((p.1,c)::cs)) else pure (Ī cs):Sem (ForInStep (List (Str×Ø))))))=pure cl /\
   ∀n c,cl.lookup n=some c↔(((n,ã)∈l/\env.cells.lookup n=some c)\/((n,ã)∉l/\acc.lookup n=some c))
 | [],acc,_=>⟨acc,rfl,fun n c=>by simp⟩
 |(x,k)::r,acc,h=>by
  rw [VB]
  cases Y:(k==ã) with
  |false =>
   have U:k≠.free:=by intro e;rw [e] at Y;cases Y
   obtain ⟨cl,e,q⟩:=vF env r acc fun n X=>h n (Õ _ X);refine ⟨cl,?_,fun n c=>?_⟩
   ·simp only [É,ĉ]
    exact e
   ·rw [q n c]
    have:(n,ã)∈(x,k)::r↔(n,ã)∈r:=by
     constructor
     ·intro Z
      rcases Ð.mp Z with z|z
      ·injection z with _ T
       exact absurd T.symm U
      ·exact z
     ·exact Õ _
    rw [this]
  |true =>
   have S:k=.free:=by cases k<;>first|rfl|cases Y
   subst S;obtain ⟨R,W⟩:=h x Ö;obtain ⟨cl,e,q⟩:=vF env r ((x,R)::acc) fun n X=>h n (Õ _ X);refine ⟨cl,?_,fun n c=>?_⟩
   ·simp only [Ċ,cellOf,W]
    exact e
   ·rw [q n c]
    by_cases V:n=x
    ·subst V
     constructor
     ·rintro (⟨_,z⟩ | ⟨_,z⟩)
      ·exact .inl ⟨Ö,z⟩
      ·rw [Ė,Ş] at z
       exact .inl ⟨Ö,W.trans z⟩
     ·rintro (⟨_,z⟩ | ⟨z,_⟩)
      ·by_cases Z:(n,ã)∈r
       ·exact .inl ⟨Z,z⟩
       ·refine .inr ⟨Z,?_⟩
        rw [Ė,Ş];exact W.symm.trans z
      ·exact absurd Ö z
    ·have:(n,ã)∈(x,ã)::r↔(n,ã)∈r:=by
      constructor
      ·intro Z
       rcases Ð.mp Z with z|z
       ·injection z with Q _
        exact absurd Q V
       ·exact z
      ·exact Õ _
     rw [this,Ė,beq_false_of_ne V]
def DK (h:∀n,(n,ã)∈sc.names->∃c,env.cells.lookup n=some c) :
  ∃cl,closureFor sc env=pure cl/\∀n c,cl.lookup n=some c↔((n,ã)∈sc.names/\env.cells.lookup n=some c):=by
 obtain ⟨cl,e,q⟩:=vF env sc.names [] h;refine ⟨cl,?_,fun n c=>?_⟩
 ·unfold closureFor
  exact (ĺ (fun z:Sem (List (Str×Ø))=>z >>= fun r=>pure r) e)
 ·rw [q n c]
  simp
theorem B5 (f:Str->Ŕ->Ŕ) (x:Str):∀l:List (Str×Ŕ),(l.map fun p=>(p.1,f p.1 p.2)).lookup x=(l.lookup x).map (f x)
 | []=>rfl
 |(n,k)::r=>by
  rw [ï,Ė,Ė]
  cases h:x==n with
  |true =>
   have e:x=n:=by simpa using h
   subst e;rfl
  |false=>exact B5 f x r
def rP (sc:ŷ) (env:Env) (x:Str):(relabel sc env).names.lookup x=(sc.names.lookup x).map fun k=>if (k==ã&&env.scope.kind==.function&&env.kindOf x==some .cell)=true then NameKind.cell else k:=by
 rw [<- B5 (fun x k=>if (k==ã&&env.scope.kind==.function&&env.kindOf x==some .cell)=true then NameKind.cell else k)]
 show List.lookup x (sc.names.map _)=_;congr 1;apply List.map_congr_left;rintro ⟨n,k⟩ _;dsimp only
 split<;>rfl
abbrev cR (X:Cx) (N:List Str) (sc:ŷ) (cl:List (Str×Ø)) (C:Ø) (s:Ã) (H:Hp) (ex:List Ø) (pn:List (Ø×Obj)):Cx where
 prog:=X.prog
 w:=X.w
 K:=X.K
 mg:=X.mg
 base:=X.base
 A:=X.A
 N:=N
 cf:=s
 jz:=H
 env:=compEnvC sc cl C X.env
 outer:=X.stack
 stack:=X.stack
 ex:=ex
 fn:=fun _=>false
 calm:=X.calm
 pn:=pn
 xe:=fun _ _=>False
structure pJ (X:Cx) (sc:ŷ) (N:List Str) (nt:Nat) (cap:List Nat):Prop where
 kind:sc.kind=.function
 pK:∀x∈sc.names,x.2≠.cell
 names:∀x∈sc.names,x.2=.local->sc.names.lookup x.1=some .local
 frees:∀x∈sc.names,x.2=.free->sc.names.lookup x.1=some .free/\(X.env.scope.names.lookup x.1=some .cell\/X.env.scope.names.lookup x.1=some .free)
 len:N.length=nt+cap.length
 yw:∀(k:Nat) j,cap[k]?=some j->∃x,X.N[j]?=some x/\N[nt+k]?=some x/\(x,ã)∈sc.names
def jf (nt:Nat) (cap:List Nat) (σ:St):St:=Î nt none++cap.map fun j=>(σ[j]?).getD none
def PF (X:Cx) (tests:List Ğ) (t:TT):Prop :=
 ∀(Z:List (Ø×Obj)) (s:Ã) (σ:St) (H:Hp) (Q:Bool->Hp->Prop),Inv X Z σ H s->t σ H Q ->
  Ù (à X.prog X.w) X.A (forIn tests true fun c r=>if r=true then do let ok <- isTrue c X.env (ļ c X.env);pure (Ī ok) else pure (Ī r)) (TP X Z σ Q) X.xe s
def Rm:TT:=fun _ H Q=>Q true H
def N8:PF X [] Rm:=fun _ _ _ H _ I h=>wpAny_tests_nil ⟨H,I,h⟩
def N9 (h:PT X c t):PF X [c] t:=fun Z s σ H Q I hw=>wpAny_tests_one (h Z s σ H Q I hw)
def lO (g:TG) (nt:Nat):Prop:=∀(x:V) (o Z:St) (H:Hp) (R:St->Hp->Prop),o.length=nt->g x (o++Z) H R->g x (o++Z) H fun Y W=>(∃X:St,X.length=nt/\Y=X++Z)/\R Y W
def kg (cap:List Nat) (σ:St):St:=cap.map fun j=>(σ[j]?).getD none
def GA (mk:Ø->List V->HO) (iV:List V->Prop) (J:It) (nt:Nat) (caps:St) (g:TG) (tf:TT) (te:TE) (H:Hp) (Q:VK):Prop:=∃W:Nat->Nat->List V->Hp->Prop,(∃m,W 0 m [] H) /\
 ∀i m Z Y,W i m Z Y->(J.stop i Y/\iV Z/\∀D,Y D=none->Q (.ref D) (upd Y D (mk D Z))) \/
  (J.go i Y/\iV Z/\∃N:List V->Hp->Prop,(∀X U,N X U->∃T,T < m/\W (i+1) T X U) /\
   ∀o x S,o.length=nt->J.qK i Y x S->g x (o++caps) S fun R O=>tf R O fun b P=>if b=true then te R P fun v M=>N (Z++[v]) M else N Z P)
def CW (J:It) (nt:Nat) (caps:St) (g:TG) (tf:TT) (te:TE) (H:Hp) (Q:VK):Prop:=GA (fun _ Z=>.lst Z) (fun Z=>Z.length<=Ñ) J nt caps g tf te H Q
def pZ (wi:TI) (nt:Nat) (cap:List Nat) (g:TG) (tf:TT) (te:TE):TE:=fun σ H Q=>wi σ H fun J Z=>CW J nt (kg cap σ) g tf te Z Q
section
variable {fs ex:List Ø} {H H':Hp} {h h1 h2:ħ} {P:ß} {w:ú}
def Un.adopt {D:Ø} {o:HO} (u:Un fs ex H H' h h1) (hp:h.objs.size<=D) (hn:H' D=none):Un fs ex H (upd H' D o) h h1 where
 keep:=u.keep
 slot:=u.slot
 free:=fun b Y q n X=>by rw [aT (Û (Å (Ç q) hp))];exact u.free b Y q n X
 there:=u.there
 dB:=fun b Z q=>by rw [aT (cz (u.dB b Z q) hn)];exact u.dB b Z q
 de:=fun b Y Z q=>by rw [aT (cz (u.de b Y Z q) hn)];exact u.de b Y Z q
 dC:=fun b W q=>by
  obtain ⟨more,e⟩:=u.dC b W q;exact ⟨more,by rw [aT (cz e hn)];exact e⟩
def Un.but {C:Ø} (u:Un fs ex H H' h h1) (hp:h.objs.size<=C) (sb:Į C h1 h2):Un fs ex H H' h h2:=by
 have ne:∀b Z,h.get? b=some Z->b≠C:=fun b Z q=>Û (Å (Ç q) hp);refine ⟨fun b Z q n X Y=>(sb.2 b (ne b Z q)).trans (u.keep b Z q n X Y),fun b Z q n X Y=>?_,u.free,fun b Z q Y=>?_,u.dB,u.de,u.dC⟩
 ·obtain ⟨W,e⟩:=u.slot b Z q n X Y
  exact ⟨W,(sb.2 b (ne b Z q)).trans e⟩
 ·obtain ⟨V,e⟩:=u.there b Z q Y
  exact ⟨V,(sb.2 b (ne b Z q)).trans e⟩
def bR.but (x:bR P w H h1) (hn:H C=none) (sb:Į C h1 h2):bR P w H h2:=fun a o e =>
 (x a o e).cV (fun b u Z q=>(sb.2 b (by
  rintro rfl
  rcases Z with z|z
  ·subst z;rw [hn] at e;cases e
  ·rw [hn] at z;cases z)).trans q) (fun _ q=>q) fun _ _ q=>q
def bR.adopt (x:bR P w H h) (hn:H D=none) (new:cJ P w (upd H D o) h D o):bR P w (upd H D o) h:=fun b u e=>by
 by_cases Z:b=D
 ·subst Z;rw [cm] at e;cases e;exact new
 ·rw [aT Z] at e
  exact (x b u e).cV (fun c v _ q=>q) (fun c q=>by rw [aT (cz q hn)];exact q) fun c Y q=>by rw [aT (cz q hn)];exact q
end
section
variable {X:Cx} {sc:ŷ} {N:List Str} {nt:Nat} {cap:List Nat} {cl:List (Str×Ø)} {s:Ã} {h1:ħ} {H:Hp} {σ:St} {π:List (Ø×Obj)} {fp:List Ø} {C:Ø} {t':Nat}
def Inv.block (I:Inv X π σ H s) (S:pJ X sc N nt cap) (ck:∀n c,cl.lookup n=some c↔((n,ã)∈sc.names/\X.env.cells.lookup n=some c)) (hf:∀b∈fp,dM X π H b) (dW:∀b∈fp,b<s.heap.objs.size)
  (hk:∀b o,s.heap.get? b=some o->h1.get? b=some o) (hC:s.heap.objs.size<=C) (lP:∃m,h1.Ns C m):Inv (cR X N sc cl C s H fp (X.pn++π)) [] (jf nt cap σ) H { s with heap:=h1,toks:=t' }:=by
 have Q:∀b∈bM X.stack,b∈X.env.locals::X.fs:=I.iz;have g:C∉bM X.stack:=fun z=>by
  rcases Ð.mp (I.iz C z) with e|e
  ·exact absurd (Å I.lt hC) (by rw [e];exact è _)
  ·exact I.ql hC e
 have M:∀x,(relabel sc X.env).names.lookup x=some .cell\/(relabel sc X.env).names.lookup x=some .free->(x,ã)∈sc.names:=fun x Z=>by
  rw [rP] at Z
  cases e:sc.names.lookup x with
  |none=>rw [e] at Z;rcases Z with z|z<;>cases z
  |some k =>
   have Y:(x,k)∈sc.names:=by
    obtain ⟨f,a,e1,_⟩:=List.lookup_eq_some_iff.mp e;rw [e1];simp
   rw [e] at Z
   cases k with
   |free=>exact Y
   |cell=>exact absurd rfl (S.pK _ Y)
   |_=>exfalso;revert Z;simp
 have L:∀x,(x,ã)∈sc.names->∃c,X.env.cells.lookup x=some c:=fun x Z=>I.ok.has x (S.frees _ Z rfl).2;have ok:Cx.Ok (cR X N sc cl C s H fp (X.pn++π)):=by
  refine ⟨I.ok.mod,?_,I.ok.glob,I.ok.blt,hC,?_,?_,?_,I.ok.hd,I.ok.frames,.inl rfl,?_,I.bs,á I.ok.gv I.sz,?_,?_,I.stack,I.pw⟩
  ·exact S.kind
  ·intro x y c Z K
   exact I.ok.inj x y c ((ck x c).mp Z).2 ((ck y c).mp K).2
  ·intro x Z
   have Y:=M x Z;obtain ⟨c,e⟩:=L x Y;exact ⟨c,(ck x c).mpr ⟨Y,e⟩⟩
  ·intro x c Z
   cases Z
  ·intro b W
   refine ⟨Û (Å (dW b W) hC),fun x c e=>?_⟩;exact (hf b W).2.2.2.2.1 x c ((ck x c).mp e).2
  ·intro b o e W
   rcases (hf b W).2.2.2.1 with z|z
   ·exact I.ok.lD b o e z
   ·exact absurd (Å (Ç e) (á I.ok.gv z)) (è _)
  ·intro b W z
   rcases Ð.mp (Q b z) with e|e
   ·exact (hf b W).2.1 e
   ·exact (hf b W).2.2.1 e
 obtain ⟨m,Y⟩:=lP;obtain ⟨mX,Sh,J⟩:=I.loc;refine ⟨ok,rfl,I.bare,Un.kept hk,⟨m,Y,fun i x v e1 e2 e3=>?_⟩,fun x c e=>?_,I.aD.fresh hC,fun x c e=>I.gG x c ((ck x c).mp e).2,fun p G=>?_,I.aD.kept hk,?_⟩
 ·
  have hi:nt<=i:=by
   apply ŝ;intro P;have:(jf nt cap σ)[i]?=some none:=by
    unfold jf;rw [Ú (by simpa using P),ğ,ä P]
   rw [this] at e2;cases e2
  have V:(cap.map fun j=>(σ[j]?).getD none)[i-nt]?=some (some v):=by
   have e:=e2;unfold jf at e;rw [ô (by simpa using hi)] at e;simpa using e
  rw [ç] at V
  cases U:cap[i-nt]? with
  |none=>rw [U] at V;cases V
  |some j =>
   rw [U] at V;have ev:(σ[j]?).getD none=some v:=WW V;have F:σ[j]?=some (some v):=by
    cases q:σ[j]? with
    |none=>rw [q] at ev;cases ev
    |some z=>rw [q] at ev;exact ĺ some ev
   obtain ⟨y,f1,f2,O⟩:=S.yw _ _ U;rw [Nat.add_sub_cancel' hi] at f2;have E:y=x:=WW (f2.symm.trans e1);subst E;obtain ⟨g1,g2⟩:=S.frees _ O rfl;have D:mR X.env.scope y:=.inr g2;obtain ⟨u,r,l⟩:=J j y v f1 F D;refine ⟨u,r,.inr ⟨?_,?_⟩⟩
   ·show (relabel sc X.env).names.lookup y=some .cell\/(relabel sc X.env).names.lookup y=some .free
    rw [rP,g1];simp only [VD];split
    ·exact .inl rfl
    ·exact .inr rfl
   ·rcases l with ⟨k,_⟩ | ⟨_,c,B,A⟩
    ·exfalso
     have w:X.env.scope.names.lookup y=some .local:=k;dsimp only at g2;rw [w] at g2
     rcases g2 with z|z<;>cases z
    ·obtain ⟨T,R,hd⟩:=A
     exact ⟨c,(ck y c).mpr ⟨O,B⟩,T,hk _ _ R,hd⟩
 ·obtain ⟨v,T,R,hd⟩:=I.cell x c ((ck x c).mp e).2
  exact ⟨v,T,hk _ _ R,hd⟩
 ·have t:p∈X.pn++π:=by simpa using G
  obtain ⟨e,n,ne,h,d⟩:=I.pin p t;refine ⟨hk _ _ e,n,Û (Å (Ç e) hC),fun z=>?_,d⟩
  rcases Ð.mp (Q p.1 z) with q|q
  ·exact ne q
  ·exact h q
 ·unfold jf
  rw [Ý,ū,Ì];exact S.len.symm
end
section
variable {X:Cx}
end
inductive Kn where
 |ao|bl|int|str|tup|lst|bq
 deriving DecidableEq
def oB (K:č) (H:Hp):V->Kn->Prop
 | .ao,.ao=>True
 | .bl _,.bl=>True
 | .int _,.int=>True
 | .str _,.str=>True
 | .ref a,.tup=>∃Z,bg K H a Z
 | .ref a,.lst=>∃Z,bt K H a Z
 | .ref a,.bq=>∃Y,H a=some (.dK Y)
 |_,_=>False
noncomputable def n5:Kn->String->Bool
 | .int,"int"=>true
 | .bl,"int"=>true
 | .bl,"bool"=>true
 | .str,"str"=>true
 | .tup,"tuple"=>true
 | .lst,"list"=>true
 |_,_=>false
section
variable {X:Cx}
def Inv.pL {π:List (Ø×Obj)} {σ:St} {H:Hp} {s:Ã} {a:Ø} {xs:List V} (I:Inv X π σ H s) (h:bg X.K H a xs):∃o,s.heap.get? a=some o/\o.cls=.type "tuple":=by
 obtain ⟨its,r,⟨o,e,c,_⟩,_⟩:=I.tuple h;exact ⟨o,e,c⟩
def Inv.pM {π:List (Ø×Obj)} {σ:St} {H:Hp} {s:Ã} {a:Ø} {xs:List V} (I:Inv X π σ H s) (h:bt X.K H a xs):∃o,s.heap.get? a=some o/\o.cls=.type "list":=by
 obtain ⟨its,r,⟨o,n,e,c,_⟩,_⟩:=I.list h;exact ⟨o,e,c⟩
def Inv.pN {π:List (Ø×Obj)} {σ:St} {H:Hp} {s:Ã} {a:Ø} {aB:List (Key×V)} (I:Inv X π σ H s) (h:H a=some (.dK aB)):∃o,s.heap.get? a=some o/\o.cls=.type "dict":=by
 obtain ⟨_,_,W,_,p⟩:=(show cJ X.prog X.w H s.heap a (.dK aB) from I.aD a _ h);obtain ⟨o,U,T,Z,Y,_⟩:=p;exact ⟨o,Z,Y.1⟩
def HR:bS X (.builtin "isinstance") (fun xs H Q=>∃x k,xs=[x,.ty "int"]/\oB X.K H x k/\Q (.bl (n5 k "int")) H):=by
 intro T s σ H xs S Q I r h;obtain ⟨x,k,rfl,Z,q⟩:=h;obtain ⟨u,c,rfl,Y,rc⟩:=vals2 r;cases rc
 cases k with
 |ao =>
  cases x with
  |ao =>
   cases Y;exact IsiPair.NoneType_int ⟨.bl false,H,I.tok _,rfl,q⟩
  |_=>exact Z.elim
 |bl =>
  cases x with
  |bl b =>
   cases Y;exact IsiPair.bool_int ⟨.bl true,H,I,rfl,q⟩
  |_=>exact Z.elim
 |int =>
  cases x with
  |int i =>
   obtain ⟨t,rfl⟩:=Y;exact IsiPair.int_int ⟨.bl true,H,I,rfl,q⟩
  |_=>exact Z.elim
 |str =>
  cases x with
  |str y =>
   obtain ⟨t,rfl⟩:=Y;exact IsiPair.str_int ⟨.bl false,H,I.tok _,rfl,q⟩
  |_=>exact Z.elim
 |tup =>
  cases x with
  |ref a =>
   cases Y;obtain ⟨z,W⟩:=Z;obtain ⟨o,V,U⟩:=I.pL W;exact IsiPair.tuple_int V U ⟨.bl false,H,I.tok _,rfl,q⟩
  |_=>exact Z.elim
 |lst =>
  cases x with
  |ref a =>
   cases Y;obtain ⟨z,W⟩:=Z;obtain ⟨o,V,U⟩:=I.pM W;exact IsiPair.list_int V U ⟨.bl false,H,I.tok _,rfl,q⟩
  |_=>exact Z.elim
 |bq =>
  cases x with
  |ref a =>
   cases Y;obtain ⟨z,W⟩:=Z;obtain ⟨o,V,U⟩:=I.pN W;exact IsiPair.dict_int V U ⟨.bl false,H,I.tok _,rfl,q⟩
  |_=>exact Z.elim
def HG:bS X (.builtin "isinstance") (fun xs H Q=>∃x k,xs=[x,.ty "bool"]/\oB X.K H x k/\Q (.bl (n5 k "bool")) H):=by
 intro T s σ H xs S Q I r h;obtain ⟨x,k,rfl,Z,q⟩:=h;obtain ⟨u,c,rfl,Y,rc⟩:=vals2 r;cases rc
 cases k with
 |ao =>
  cases x with
  |ao =>
   cases Y;exact IsiPair.NoneType_bool ⟨.bl false,H,I.tok _,rfl,q⟩
  |_=>exact Z.elim
 |bl =>
  cases x with
  |bl b =>
   cases Y;exact IsiPair.bool_bool ⟨.bl true,H,I,rfl,q⟩
  |_=>exact Z.elim
 |int =>
  cases x with
  |int i =>
   obtain ⟨t,rfl⟩:=Y;exact IsiPair.int_bool ⟨.bl false,H,I.tok _,rfl,q⟩
  |_=>exact Z.elim
 |str =>
  cases x with
  |str y =>
   obtain ⟨t,rfl⟩:=Y;exact IsiPair.str_bool ⟨.bl false,H,I.tok _,rfl,q⟩
  |_=>exact Z.elim
 |tup =>
  cases x with
  |ref a =>
   cases Y;obtain ⟨z,W⟩:=Z;obtain ⟨o,V,U⟩:=I.pL W;exact IsiPair.tuple_bool V U ⟨.bl false,H,I.tok _,rfl,q⟩
  |_=>exact Z.elim
 |lst =>
  cases x with
  |ref a =>
   cases Y;obtain ⟨z,W⟩:=Z;obtain ⟨o,V,U⟩:=I.pM W;exact IsiPair.list_bool V U ⟨.bl false,H,I.tok _,rfl,q⟩
  |_=>exact Z.elim
 |bq =>
  cases x with
  |ref a =>
   cases Y;obtain ⟨z,W⟩:=Z;obtain ⟨o,V,U⟩:=I.pN W;exact IsiPair.dict_bool V U ⟨.bl false,H,I.tok _,rfl,q⟩
  |_=>exact Z.elim
def HS:bS X (.builtin "isinstance") (fun xs H Q=>∃x k,xs=[x,.ty "str"]/\oB X.K H x k/\Q (.bl (n5 k "str")) H):=by
 intro T s σ H xs S Q I r h;obtain ⟨x,k,rfl,Z,q⟩:=h;obtain ⟨u,c,rfl,Y,rc⟩:=vals2 r;cases rc
 cases k with
 |ao =>
  cases x with
  |ao =>
   cases Y;exact IsiPair.NoneType_str ⟨.bl false,H,I.tok _,rfl,q⟩
  |_=>exact Z.elim
 |bl =>
  cases x with
  |bl b =>
   cases Y;exact IsiPair.bool_str ⟨.bl false,H,I.tok _,rfl,q⟩
  |_=>exact Z.elim
 |int =>
  cases x with
  |int i =>
   obtain ⟨t,rfl⟩:=Y;exact IsiPair.int_str ⟨.bl false,H,I.tok _,rfl,q⟩
  |_=>exact Z.elim
 |str =>
  cases x with
  |str y =>
   obtain ⟨t,rfl⟩:=Y;exact IsiPair.str_str ⟨.bl true,H,I,rfl,q⟩
  |_=>exact Z.elim
 |tup =>
  cases x with
  |ref a =>
   cases Y;obtain ⟨z,W⟩:=Z;obtain ⟨o,V,U⟩:=I.pL W;exact IsiPair.tuple_str V U ⟨.bl false,H,I.tok _,rfl,q⟩
  |_=>exact Z.elim
 |lst =>
  cases x with
  |ref a =>
   cases Y;obtain ⟨z,W⟩:=Z;obtain ⟨o,V,U⟩:=I.pM W;exact IsiPair.list_str V U ⟨.bl false,H,I.tok _,rfl,q⟩
  |_=>exact Z.elim
 |bq =>
  cases x with
  |ref a =>
   cases Y;obtain ⟨z,W⟩:=Z;obtain ⟨o,V,U⟩:=I.pN W;exact IsiPair.dict_str V U ⟨.bl false,H,I.tok _,rfl,q⟩
  |_=>exact Z.elim
def Hz:bS X (.builtin "isinstance") (fun xs H Q=>∃x k,xs=[x,.ty "tuple"]/\oB X.K H x k/\Q (.bl (n5 k "tuple")) H):=by
 intro T s σ H xs S Q I r h;obtain ⟨x,k,rfl,Z,q⟩:=h;obtain ⟨u,c,rfl,Y,rc⟩:=vals2 r;cases rc
 cases k with
 |ao =>
  cases x with
  |ao =>
   cases Y;exact IsiPair.NoneType_tuple ⟨.bl false,H,I.tok _,rfl,q⟩
  |_=>exact Z.elim
 |bl =>
  cases x with
  |bl b =>
   cases Y;exact IsiPair.bool_tuple ⟨.bl false,H,I.tok _,rfl,q⟩
  |_=>exact Z.elim
 |int =>
  cases x with
  |int i =>
   obtain ⟨t,rfl⟩:=Y;exact IsiPair.int_tuple ⟨.bl false,H,I.tok _,rfl,q⟩
  |_=>exact Z.elim
 |str =>
  cases x with
  |str y =>
   obtain ⟨t,rfl⟩:=Y;exact IsiPair.str_tuple ⟨.bl false,H,I.tok _,rfl,q⟩
  |_=>exact Z.elim
 |tup =>
  cases x with
  |ref a =>
   cases Y;obtain ⟨z,W⟩:=Z;obtain ⟨o,V,U⟩:=I.pL W;exact IsiPair.tuple_tuple V U ⟨.bl true,H,I,rfl,q⟩
  |_=>exact Z.elim
 |lst =>
  cases x with
  |ref a =>
   cases Y;obtain ⟨z,W⟩:=Z;obtain ⟨o,V,U⟩:=I.pM W;exact IsiPair.list_tuple V U ⟨.bl false,H,I.tok _,rfl,q⟩
  |_=>exact Z.elim
 |bq =>
  cases x with
  |ref a =>
   cases Y;obtain ⟨z,W⟩:=Z;obtain ⟨o,V,U⟩:=I.pN W;exact IsiPair.dict_tuple V U ⟨.bl false,H,I.tok _,rfl,q⟩
  |_=>exact Z.elim
def HH:bS X (.builtin "isinstance") (fun xs H Q=>∃x k,xs=[x,.ty "list"]/\oB X.K H x k/\Q (.bl (n5 k "list")) H):=by
 intro T s σ H xs S Q I r h;obtain ⟨x,k,rfl,Z,q⟩:=h;obtain ⟨u,c,rfl,Y,rc⟩:=vals2 r;cases rc
 cases k with
 |ao =>
  cases x with
  |ao =>
   cases Y;exact IsiPair.NoneType_list ⟨.bl false,H,I.tok _,rfl,q⟩
  |_=>exact Z.elim
 |bl =>
  cases x with
  |bl b =>
   cases Y;exact IsiPair.bool_list ⟨.bl false,H,I.tok _,rfl,q⟩
  |_=>exact Z.elim
 |int =>
  cases x with
  |int i =>
   obtain ⟨t,rfl⟩:=Y;exact IsiPair.int_list ⟨.bl false,H,I.tok _,rfl,q⟩
  |_=>exact Z.elim
 |str =>
  cases x with
  |str y =>
   obtain ⟨t,rfl⟩:=Y;exact IsiPair.str_list ⟨.bl false,H,I.tok _,rfl,q⟩
  |_=>exact Z.elim
 |tup =>
  cases x with
  |ref a =>
   cases Y;obtain ⟨z,W⟩:=Z;obtain ⟨o,V,U⟩:=I.pL W;exact IsiPair.tuple_list V U ⟨.bl false,H,I.tok _,rfl,q⟩
  |_=>exact Z.elim
 |lst =>
  cases x with
  |ref a =>
   cases Y;obtain ⟨z,W⟩:=Z;obtain ⟨o,V,U⟩:=I.pM W;exact IsiPair.list_list V U ⟨.bl true,H,I,rfl,q⟩
  |_=>exact Z.elim
 |bq =>
  cases x with
  |ref a =>
   cases Y;obtain ⟨z,W⟩:=Z;obtain ⟨o,V,U⟩:=I.pN W;exact IsiPair.dict_list V U ⟨.bl false,H,I.tok _,rfl,q⟩
  |_=>exact Z.elim
end
section
variable {X:Cx} {es:List Ğ} {t:TA} {pos:Pos}
def B6 {bs:List Bool} (r:Vals (bs.map V.bl) its):TruthOf X.prog X.w A (fun i v=>its.toArray[i]?=some v) (fun i=>bs.getD i false):=by
 intro i v s Q E T S;have Z:its[i]?=some v:=by simpa using T
 have hi:i<its.length:=(Æ.mp Z).1;have Y:i<bs.length:=by
  have e:=r.length;rw [Ì] at e;omega
 have R:(bs.map V.bl)[i]?=some (.bl (bs[i])):=by rw [ç,Ë Y];rfl
 obtain ⟨u,W,P⟩:=Vals.get r R;rw [Z] at W;cases W;cases P;have e:bs.getD i false=bs[i]:=by simp [Ř,Ë Y]
 have U:Q (bs.getD i false) s:=S;rw [e] at U;exact Ŀ U
def range_all (bs:List Bool):(Ă bs.length).all (fun i=>bs.getD i false)=bs.all id:=by
 rw [ń,ĝ,ĝ];constructor
 ·intro h b Z
  obtain ⟨i,hi,e⟩:=ο Z;have:=h i (Ĝ.mpr hi);simpa [Ř,Ë hi,e] using this
 ·intro h i hi
  have hi:=Ĝ.mp hi;have:=h _ (Wb hi);simpa [Ř,Ë hi] using this
def range_any (bs:List Bool):(Ă bs.length).any (fun i=>bs.getD i false)=bs.any id:=by
 rw [ń,Wc,Wc];constructor
 ·rintro ⟨i,hi,h⟩
  have hi:=Ĝ.mp hi;exact ⟨bs[i],Wb hi,by simpa [Ř,Ë hi] using h⟩
 ·rintro ⟨b,Z,h⟩
  obtain ⟨i,hi,e⟩:=ο Z;exact ⟨i,Ĝ.mpr hi,by simpa [Ř,Ë hi,e] using h⟩
def K8 (hc:X.calm=true):bS X (.builtin "all") (fun xs H Q=>∃(p:Ø) (bs:List Bool),xs=[.ref p]/\bt X.K H p (bs.map V.bl)/\Q (.bl (bs.all id)) H):=by
 intro O s σ H xs N Q I r h;obtain ⟨p,bs,rfl,W,q⟩:=h;obtain ⟨u,rfl,U⟩:=vals1 r;cases U;obtain ⟨its,Y,Z,M⟩:=I.list W;have T:its.toArray.size=bs.length:=by
  have e:=Y.length;rw [Ì] at e;simpa using e.symm
 have S:X.A.in1.handled=none:=I.ok.hd hc;refine call_all_walk (Ų Z.isList ?_);have old:p≠s.heap.objs.size:=Û (by obtain ⟨o,n,e,_⟩:=Z;exact Ç e);refine ⟨s.heap.objs.size,[s.heap.objs.size,p],[s.heap.objs.size],its.toArray.size,_,_,fun i=>bs.getD i false,rfl,Walks.list S s.heap.objs.size p old its.toArray,⟨⟨_,Ï _ rfl,rfl,rfl⟩,Z.isList.at fun o e=>Á _ e⟩,B6 Y,fun L R P=>?_⟩;rw [T,range_all];exact ⟨.bl _,H,I.kept (t':=R) fun b o e=>P b o (by simpa using Û (Ç e)) (Á _ e),rfl,q⟩
def K9 (hc:X.calm=true):bS X (.builtin "any") (fun xs H Q=>∃(p:Ø) (bs:List Bool),xs=[.ref p]/\bt X.K H p (bs.map V.bl)/\Q (.bl (bs.any id)) H):=by
 intro O s σ H xs N Q I r h;obtain ⟨p,bs,rfl,W,q⟩:=h;obtain ⟨u,rfl,U⟩:=vals1 r;cases U;obtain ⟨its,Y,Z,M⟩:=I.list W;have T:its.toArray.size=bs.length:=by
  have e:=Y.length;rw [Ì] at e;simpa using e.symm
 have S:X.A.in1.handled=none:=I.ok.hd hc;refine call_any_walk (Ų Z.isList ?_);have old:p≠s.heap.objs.size:=Û (by obtain ⟨o,n,e,_⟩:=Z;exact Ç e);refine ⟨s.heap.objs.size,[s.heap.objs.size,p],[s.heap.objs.size],its.toArray.size,_,_,fun i=>bs.getD i false,rfl,Walks.list S s.heap.objs.size p old its.toArray,⟨⟨_,Ï _ rfl,rfl,rfl⟩,Z.isList.at fun o e=>Á _ e⟩,B6 Y,fun L R P=>?_⟩;rw [T,range_any];exact ⟨.bl _,H,I.kept (t':=R) fun b o e=>P b o (by simpa using Û (Ç e)) (Á _ e),rfl,q⟩
end
def qq:Key->ž
 | .inl i=>.int i
 | .inr x=>.str x
mutual
def DV (K:č) (Z:Ø->Prop) (H:Hp):ž->V->Prop
 | .none,v=>v=.ao
 | .bool b,v=>v=.bl b
 | .int i,v=>v=.int i
 | .str x,v=>v=.str x
 | .tuple X,v=>∃a Y,v=.ref a/\bg K H a Y/\ak K Z H X Y
 | .list X,v=>∃a Y,v=.ref a/\¬ Z a/\H a=some (.lst Y)/\ak K Z H X Y
 | .dict U,v=>∃a W,v=.ref a/\¬ Z a/\H a=some (.dK W)/\∃l:List (Key×Int),W=l.map (fun p=>(p.1,V.int p.2))/\U=l.map fun p=>(qq p.1,PyData.int p.2)
def ak (K:č) (Z:Ø->Prop) (H:Hp):List ž->List V->Prop
 | [],Y=>Y=[]
 |d::X,Y=>∃v r,Y=v::r/\DV K Z H d v/\ak K Z H X r
end
structure FP (K:č) (Z:Ø->Prop) (H H':Hp):Prop where
 tup:∀b xs,bg K H b xs->bg K H' b xs
 lst:∀b xs,¬ Z b->H b=some (.lst xs)->H' b=some (.lst xs)
 bq:∀b es,¬ Z b->H b=some (.dK es)->H' b=some (.dK es)
mutual
theorem DV.cV {K:č} {Z:Ø->Prop} {H H':Hp} (S:FP K Z H H'):∀{d:ž} {v:V},DV K Z H d v->DV K Z H' d v
 | .none,_,h=>h
 | .bool _,_,h=>h
 | .int _,_,h=>h
 | .str _,_,h=>h
 | .tuple T,v,h=>by
  simp only [DV] at h |-;obtain ⟨a,Y,e,X,r⟩:=h;exact ⟨a,Y,e,S.tup a Y X,ak.cV S r⟩
 | .list T,v,h=>by
  simp only [DV] at h |-;obtain ⟨a,Y,e,W,X,r⟩:=h;exact ⟨a,Y,e,W,S.lst a Y W X,ak.cV S r⟩
 | .dict R,v,h=>by
  simp only [DV] at h |-;obtain ⟨a,U,e,W,X,r⟩:=h;exact ⟨a,U,e,W,S.bq a U W X,r⟩
theorem ak.cV {K:č} {Z:Ø->Prop} {H H':Hp} (S:FP K Z H H'):∀{ds:List ž} {vs:List V},ak K Z H ds vs->ak K Z H' ds vs
 | [],_,h=>h
 |d::ds,vs,h=>by
  simp only [ak] at h |-;obtain ⟨v,r,e,Y,X⟩:=h;exact ⟨v,r,e,DV.cV S Y,ak.cV S X⟩
end
mutual
theorem DV.more {K:č} {Z:Ø->Prop} {H:Hp} {p:Ø} (hp:H p=none):∀{d:ž} {v:V},DV K Z H d v->DV K (fun a=>Z a\/a=p) H d v
 | .none,_,h=>h
 | .bool _,_,h=>h
 | .int _,_,h=>h
 | .str _,_,h=>h
 | .tuple U,v,h=>by
  simp only [DV] at h |-;obtain ⟨a,X,e,Y,r⟩:=h;exact ⟨a,X,e,Y,ak.more hp r⟩
 | .list U,v,h=>by
  simp only [DV] at h |-;obtain ⟨a,X,e,W,Y,r⟩:=h;exact ⟨a,X,e,(fun z=>z.elim W fun e=>by subst e;rw [hp] at Y;cases Y),Y,ak.more hp r⟩
 | .dict S,v,h=>by
  simp only [DV] at h |-;obtain ⟨a,T,e,W,Y,r⟩:=h;exact ⟨a,T,e,(fun z=>z.elim W fun e=>by subst e;rw [hp] at Y;cases Y),Y,r⟩
theorem ak.more {K:č} {Z:Ø->Prop} {H:Hp} {p:Ø} (hp:H p=none):∀{ds:List ž} {vs:List V},ak K Z H ds vs->ak K (fun a=>Z a\/a=p) H ds vs
 | [],_,h=>h
 |d::ds,vs,h=>by
  simp only [ak] at h |-;obtain ⟨v,r,e,Y,X⟩:=h;exact ⟨v,r,e,DV.more hp Y,ak.more hp X⟩
end
mutual
theorem DV.less {K:č} {Z Z':Ø->Prop} {H:Hp} (dX:∀a,Z' a->Z a):∀{d:ž} {v:V},DV K Z H d v->DV K Z' H d v
 | .none,_,h=>h
 | .bool _,_,h=>h
 | .int _,_,h=>h
 | .str _,_,h=>h
 | .tuple U,v,h=>by
  simp only [DV] at h |-;obtain ⟨a,X,e,Y,r⟩:=h;exact ⟨a,X,e,Y,ak.less dX r⟩
 | .list U,v,h=>by
  simp only [DV] at h |-;obtain ⟨a,X,e,W,Y,r⟩:=h;exact ⟨a,X,e,fun z=>W (dX _ z),Y,ak.less dX r⟩
 | .dict S,v,h=>by
  simp only [DV] at h |-;obtain ⟨a,T,e,W,Y,r⟩:=h;exact ⟨a,T,e,fun z=>W (dX _ z),Y,r⟩
theorem ak.less {K:č} {Z Z':Ø->Prop} {H:Hp} (dX:∀a,Z' a->Z a):∀{ds:List ž} {vs:List V},ak K Z H ds vs->ak K Z' H ds vs
 | [],_,h=>h
 |d::ds,vs,h=>by
  simp only [ak] at h |-;obtain ⟨v,r,e,Y,X⟩:=h;exact ⟨v,r,e,DV.less dX Y,ak.less dX X⟩
end
section
variable {X:Cx} {π:List (Ø×Obj)} {σ:St} {H:Hp} {s:Ã} {Z:Ø->Prop}
theorem vf:∀{l:List (Key×Int)} {vs:List (Key×Ä)} {es:List DictEntry},KV (l.map fun p=>(p.1,V.int p.2)) vs->Pairs (sy P w) es vs ->
  ReadsAll h (es.map (·.key)) ((l.map fun p=>(qq p.1,PyData.int p.2)).map (·.1)) []/\ReadsAll h (es.map (·.val)) ((l.map fun p=>(qq p.1,PyData.int p.2)).map (·.2)) []
 | [],_,_,.nil,.nil=>⟨.nil,.nil⟩
 |(k,i)::l,_,_,.cons (b:=q) r t,.cons (e:=e) U T S=>by
  obtain ⟨a1,a2⟩:=vf (h:=h) t S;obtain ⟨Z,X,Y⟩:=r;have Z:k=q.1:=Z;have Y:q.2=WG i X:=Y;refine ⟨?_,?_⟩
  ·have W:xD q.1 e.key=true:=U
   rw [<- Z] at W;have:Reads h e.key (qq k) []:=by
    rcases i7 W with ⟨j,u,e1,e2⟩ | ⟨x,u,e1,e2⟩
    ·rw [e1,e2];exact .int j u
    ·rw [e1,e2];exact .str x u
   exact ReadsAll.cons (as:=[]) (bs:=[]) this a1
  ·have:Reads h e.val (.int i) []:=by rw [T,Y];exact .int i X
   exact ReadsAll.cons (as:=[]) (bs:=[]) this a2
mutual
theorem DV.reads (I:Inv X π σ H s):∀{d:ž} {v:V} {u:Ä},DV X.K Z H d v->RelV v u->∃as,Reads s.heap u d as
 | .none,v,u,h,r=>by
  have e:v=.ao:=h;subst e;cases r;exact ⟨[],.none⟩
 | .bool b,v,u,h,r=>by
  have e:v=.bl b:=h;subst e;cases r;exact ⟨[],.bool b⟩
 | .int i,v,u,h,r=>by
  have e:v=.int i:=h;subst e;obtain ⟨t,rfl⟩:=r;exact ⟨[],.int i t⟩
 | .str x,v,u,h,r=>by
  have e:v=.str x:=h;subst e;obtain ⟨t,rfl⟩:=r;exact ⟨[],.str x t⟩
 | .tuple R,v,u,h,r=>by
  simp only [DV] at h;obtain ⟨a,Q,e,Y,W⟩:=h;subst e;cases r;obtain ⟨its,U,⟨o,e,c,n,T⟩,_⟩:=I.tuple Y;obtain ⟨as,S⟩:=ak.reads I W U;exact ⟨as,.tuple e c T (by simpa using S)⟩
 | .list R,v,u,h,r=>by
  simp only [DV] at h;obtain ⟨a,Q,e,_,Y,W⟩:=h;subst e;cases r;obtain ⟨its,U,⟨o,n,e,c,_,T⟩,_⟩:=I.list (bt.of Y);obtain ⟨as,S⟩:=ak.reads I W U;exact ⟨a::as,.list e c T (by simpa using S)⟩
 | .dict L,v,u,h,r=>by
  simp only [DV] at h;obtain ⟨a,J,e,_,Y,l,e1,e2⟩:=h;subst e e1 e2;cases r;obtain ⟨_,_,G,P,o,F,E,g1,g2,g3,_,O,_⟩:=(show cJ X.prog X.w H s.heap a (.dK _) from I.aD a _ Y);obtain ⟨N,M⟩:=vf (h:=s.heap) P O;exact ⟨a::[]++[],.dict g1 g2.1 g3 N M⟩
theorem ak.reads (I:Inv X π σ H s):∀{ds:List ž} {vs:List V} {us:List Ä},ak X.K Z H ds vs->Vals vs us->∃as,ReadsAll s.heap us ds as
 | [],vs,us,h,r=>by
  have e:vs=[]:=h;subst e;cases r;exact ⟨[],.nil⟩
 |d::ds,vs,us,h,r=>by
  obtain ⟨v,S,e,Y,W⟩:=h;subst e
  cases r with
  |cons U T =>
   obtain ⟨as,a1⟩:=DV.reads I Y U;obtain ⟨bs,a2⟩:=ak.reads I W T;exact ⟨as++bs,.cons a1 a2⟩
end
def FQ (K:č) (neg:Bool):R2:=fun x y H Q=>∃(d e:ž) (Z:Ø->Prop),DV K Z H d x/\DV K Z H e y/\d.canLay0=true/\e.canLay0=true/\min d.depth e.depth<=100/\Q (.bl (if neg then !PyData.eqv d e else ė d e)) H
def Oa (hr:bC k X.A):bj X (Đ .Eq) (FQ X.K false):=by
 intro O s σ H x y v u Q I Y W h;obtain ⟨d,e,Z,V,U,T,S,N,q⟩:=h;obtain ⟨as,R⟩:=V.reads I Y;obtain ⟨bs,P⟩:=U.reads I W;exact SeqAt.eqOverData _ _ _ _ _ _ _ _ _ _ _ _ R P T S (by have:=hr.un;omega) ⟨.bl _,H,I,rfl,q⟩
def Ob (hr:bC k X.A):bj X (Đ .NotEq) (FQ X.K true):=by
 intro O s σ H x y v u Q I Y W h;obtain ⟨d,e,Z,V,U,T,S,N,q⟩:=h;obtain ⟨as,R⟩:=V.reads I Y;obtain ⟨bs,P⟩:=U.reads I W;exact SeqAt.neOverData _ _ _ _ _ _ _ _ _ _ _ _ R P T S (by have:=hr.un;omega) ⟨.bl _,H,I,rfl,q⟩
end
end L2
namespace HT
open PySem PySem.Spec PyProof.Rows
section
variable {prog:ß} {w:ú} {A:æ} {E:Ä->Ã->Prop} {s:Ã}
def BK (ht:IsTup s.heap t items) (h:Q true s):Ù (à prog w) A (Ŷ (.ref t)) Q E s:=by
 unfold Ŷ;exact À (V3 ht.typeIs (Â h))
def HA {lo hi:Option Int} {Q:Ä->Ã->Prop} (ht:IsTup s.heap t items) (hs:s.heap.IsSliceOf sl vl vu .none) (pl:IsPart vl lo) (pu:IsPart vu hi)
 (hw:aS items.size 0 lo=0/\aS items.size items.size hi=items.size) (h:Q (.ref t) s):Ù (à prog w) A (getItem (.ref t) (.ref sl)) Q E s:=by
 obtain ⟨os,Z,Y,U⟩:=id hs;have X:s.TypeIs (.ref sl) "slice":=⟨os,Z,Y⟩;unfold getItem
 try with_reducible refine Ĕ ?_
 first|refine À (Â ?_)|skip
 refine À (wpAny_sequenceKey ht.typeIs (by decide) ?_);refine À (Ā (name:=đ "__getitem__") ht.typeIs ċ
  (þ ċ ht.typeIs entry_tuple_getitem ?_ (args_tuple_getitem _ _)))
 show Ù _ _ (Ň (.ref t) >>= _) _ _ s;refine À (tupleItemsOf_ ht ?_);refine À (V3 X ?_);rw [ä (by decide)];refine À (A7 hs pl pu ?_);obtain ⟨W,V⟩:=hw
 show Ù _ _ (if (((aS items.size 0 lo:Nat):Int)==0&&(1:Int)==1&&(aS items.size items.size hi-aS items.size 0 lo)==items.size)=true then _ else _) _ _ s
 rw [W,V,ä (by simp)]
 first
  |exact À (BK ht (by simp only [Ċ];exact À (ŋ (Â ⟨_,rfl,Â h⟩))))
  |exact À (BK ht (by simp only [Ċ];exact À (ŋ (À (Â (Â ⟨_,rfl,Â h⟩))))))
end
end HT
namespace L2
open PySem PySem.Spec PyProof.Rows
def iK.Si {K:č} {H H':Hp} {a:Ø} {xs:List V} (e:iK H H') (h:bg K H a xs):bg K H' a xs:=by
 rcases h with (h | ⟨o,h⟩)|h
 ·exact .inl (.inl (e _ _ h))
 ·exact .inl (.inr ⟨o,e _ _ h⟩)
 ·exact .inr h
theorem iK.upd (hn:H p=none):iK H (upd H p o):=fun b u e=>by rw [aT (cz e hn)];exact e
def lF (K:č) (H:Hp) (ys:List V) (Q:VK):Prop:=∀a Z,iK H Z->bg K Z a ys->Q (.ref a) Z
def lF.here {K:č} {H:Hp} {ys:List V} {Q:VK} {a:Ø} (h:lF K H ys Q) (hs:bg K H a ys):Q (.ref a) H:=h a H (iK.refl H) hs
def lF.new {K:č} {H:Hp} {ys:List V} {Q:VK} {p:Ø} (h:lF K H ys Q) (hn:H p=none):Q (.ref p) (L2.upd H p (.tup ys)):=h p _ (iK.upd hn) (bg.of cm)
section
variable {X:Cx} {e:Ğ} {te:TE} {pos p2 p3 p4:Pos}
def La {lo hi:Option Int} (h:HT.aS xs.length 0 lo=0/\HT.aS xs.length xs.length hi=xs.length):iJ xs lo hi=xs:=by
 unfold iJ;rw [h.1,h.2];simp
def Rn (K:č):V->Option Int->Option Int->Hp->VK->Prop:=fun x lo hi H Q=>∃a Z,x=.ref a/\bg K H a Z/\lF K H (iJ Z lo hi) Q
def MC:qR X (Rn X.K):=by
 intro S s σ H x v R P lo hi O Q I V hs U pu h;obtain ⟨a,Z,rfl,W,q⟩:=h;by_cases hw:HT.aS Z.length 0 lo=0/\HT.aS Z.length Z.length hi=Z.length
 ·cases V
  obtain ⟨its,r,T,M⟩:=I.tuple W;have Y:its.toArray.size=Z.length:=by rw [Ô];exact r.length.symm
  rw [La hw] at q;exact ⟨"tuple",_,ċ.lookup,T.typeIs,HT.HA T hs U pu (by rw [Y];exact hw) ⟨.ref a,H,I,rfl,q.here W⟩⟩
 ·exact wR S s σ H _ v R P lo hi O Q I V hs U pu ⟨a,Z,rfl,W,hw,fun p N=>q.new N⟩
def PQ (K:č):R2:=fun x y H Q=>∃a b Z Y,x=.ref a/\y=.ref b/\bg K H a Z/\bg K H b Y/\Z.length+Y.length<=Ñ/\lF K H (Z++Y) Q
def MD:bj X (İ .Add) (PQ X.K):=by
 intro M s σ H x y v u Q I W V h;obtain ⟨a,b,U,L,rfl,rfl,Z,Y,J,q⟩:=h;by_cases T:U=[]
 ·subst T
  cases W;cases V;obtain ⟨its,G,F,_⟩:=I.tuple Z;obtain ⟨E,t,p2,_⟩:=I.tuple Y;cases G;obtain ⟨⟨cls,D,data,C⟩,S,R,n,P⟩:=id F;obtain ⟨⟨r,B,data2,A⟩,O,N,z,hd2⟩:=id p2;simp only at R P N hd2;subst R P N hd2;exact concat_meets ⟨_,S,rfl⟩ ⟨_,O,rfl⟩ noFill_tuple_add seq_tuple_add VM Vy (χ _ _)
   (tuple_addW0 a b _ E.toArray n z D B C A (by simp)) ⟨S,O,⟨.ref b,H,I,rfl,q.here Y⟩⟩
 ·refine Mz M s σ H _ _ v u Q I W V ⟨a,b,U,L,rfl,rfl,Z,Y,T,J,fun e=>?_,fun _ p w=>q.new w⟩
  subst e;rw [Ĩ] at q;exact q.here Z
end
end L2
namespace HZ
open PySem PySem.Spec PyProof.Rows
structure iX (P:ß) (w:ú) (A:æ) (i l:Ø) (tn:Nat->ħ->Prop) (val:Nat->Option Ä):Prop where
 keep:∀k h h',tn k h->(∀o,h.get? i=some o->h'.get? i=some o)->(∀o,h.get? l=some o->h'.get? l=some o)->tn k h'
 item:∀k (s:Ã) (Q:Ä->Ã->Prop) (E:Ä->Ã->Prop) x,tn k s.heap->val k=some x->(∀h',tn (k+1) h'->Į i s.heap h'->Q x { s with heap:=h' })->Ù (à P w) A (ø (.ref i)) Q E s
 stop:∀k (s:Ã) (Q:Ä->Ã->Prop) (E:Ä->Ã->Prop),tn k s.heap->val k=none->(∀h' e,VP i s.heap h'->(∃o,h'.get? e=some o/\o.cls=.type "StopIteration")->E (.ref e) { s with heap:=h' })->Ù (à P w) A (ø (.ref i)) Q E s
 obj:∀k h,tn k h->∃o,h.get? i=some o/\∀v,o.data≠.cell v
section
variable {P:ß} {w:ú} {A:æ} {E:Ä->Ã->Prop} {s:Ã}
def Je (g:s.heap.IsTupleIter it t k) (gt:s.heap.IsTuple t its) (gx:its[k]?=some x)
 (q:∀h',h'.IsTupleIter it t (k+1)->Į it s.heap h'->Q x { s with heap:=h' }):Ù (à P w) A (ø (.ref it)) Q E s:=by
 obtain ⟨o,go,Y,Z⟩:=id g;obtain ⟨ol,X,_,nl,W⟩:=gt;unfold ø;refine À (Ā (name:=đ "__next__") g.typeIs ň
  (þ ň g.typeIs F.entry_tuple_iterator_next ?_ (F.args_tuple_iterator_next_1 _)))
 show Ù _ _ (field (.ref it) 0 >>= _) _ _ _;refine À (ĩ go Z (x:=.ref t) rfl ?_)
 show Ù _ _ (if (V2 t==Value.none)=true then _ else _) _ _ _
 rw [í (fun z:(V2 t==Value.none)=true=>Ò z)];show Ù _ _ (field (.ref it) 1 >>= _) _ _ _;refine À (ĩ go Z (x:=.int k 0) rfl ?_);show Ù _ _ (seqItems? (.ref t) >>= _) _ _ _;refine À (Ġ X W ?_);simp only [ĳ,gx];refine À (ţ go Z (by simp) (Â ⟨x,rfl,Â (q _ ?_ (ĕ ..))⟩));exact ⟨_,Ē _ go (ĸ (Ą Z _)),(VQ ..).trans Y,by rw [Ą Z];simp [ź]⟩
def HB (gh:A.handled=none) (g:s.heap.IsTupleIter it t k) (gt:s.heap.IsTuple t its) (gx:its[k]?=none)
 (q:∀h' e,VP it s.heap h'->(∃o,h'.get? e=some o/\o.cls=.type "StopIteration")->E (.ref e) { s with heap:=h' }):Ù (à P w) A (ø (.ref it)) Q E s:=by
 obtain ⟨o,go,W,Z⟩:=id g;obtain ⟨ol,Y,_,nl,X⟩:=gt;unfold ø;refine À (Ā (name:=đ "__next__") g.typeIs ň
  (þ ň g.typeIs F.entry_tuple_iterator_next ?_ (F.args_tuple_iterator_next_1 _)))
 show Ù _ _ (field (.ref it) 0 >>= _) _ _ _;refine À (ĩ go Z (x:=.ref t) rfl ?_)
 show Ù _ _ (if (V2 t==Value.none)=true then _ else _) _ _ _
 rw [í (fun z:(V2 t==Value.none)=true=>Ò z)];show Ù _ _ (field (.ref it) 1 >>= _) _ _ _;refine À (ĩ go Z (x:=.int k 0) rfl ?_);show Ù _ _ (seqItems? (.ref t) >>= _) _ _ _;refine À (Ġ Y X ?_);simp only [ĳ,gx];refine À (ŋ (À (ţ go Z (by simp) ?_)));show Ù _ _ (newExc (.type "StopIteration") [] >>= _) _ _ (_:Ã);refine À ?_;simp only [newExc,newTuple];refine À (ò ?_ (by size_fits))
 refine À (m:=firstArgMember _ _) (wpAny_of_eq (a:=Value.none) (by first|rfl | (unfold firstArgMember;rfl)) ?_)
 refine ò ?_ (by size_fits);simp only [raiseNew];refine À (wpAny_handled ?_)
 first|rw [gh]|rw [show A.in1.handled=none from gh]
 refine À (Â (wpAny_throw ?_));exact q _ _ (((ĕ ..).extBut.push _).push _) ⟨_,Ï _ rfl,rfl⟩
def ME (gh:A.handled=none) (i l:Ø) (its:Array Ä):iX P w A i l (fun k h=>h.IsTupleIter i l k/\h.IsTuple l its) (fun k=>its[k]?) where
 keep:=fun k h Y Z U T=>⟨Z.1.at U,by obtain ⟨o,e,r⟩:=Z.2;exact ⟨o,T o e,r⟩⟩
 item:=fun k s Q E x Z e q=>Je Z.1 Z.2 e fun Y g X=>by
  by_cases W:l=i
  ·exfalso
   subst W;obtain ⟨o,e1,S,_⟩:=Z.1;obtain ⟨R,e2,V,_⟩:=Z.2;rw [e1] at e2;cases e2;rw [S] at V;simp at V
  ·obtain ⟨o,e2,r⟩:=Z.2
   exact q Y ⟨g,o,(X.2 l W).trans e2,r⟩ X
 stop:=fun k s Q E Z e q=>HB gh Z.1 Z.2 e q
 obj:=fun k h Z=>by
  obtain ⟨o,e,_,d⟩:=Z.1;exact ⟨o,e,fun v z=>by rw [d] at z;cases z⟩
def MF (gh:A.handled=none) (i l:Ø) (its:Array Ä):iX P w A i l (fun k h=>h.IsListIter i l k/\h.IsList l its) (fun k=>its[k]?) where
 keep:=fun k h Y Z U T=>⟨Z.1.at U,Z.2.at T⟩
 item:=fun k s Q E x Z e q=>wpAny_nextOf_list_item Z.1 Z.2 e fun Y g X=>by
  by_cases W:l=i
  ·exfalso
   subst W;obtain ⟨o,e1,S,_⟩:=Z.1;obtain ⟨R,e2,V,_⟩:=Z.2;rw [e1] at e2;cases e2;rw [S] at V;simp at V
  ·exact q Y ⟨g,Z.2.at fun o e2=>(X.2 l W).trans e2⟩ X
 stop:=fun k s Q E Z e q=>wpAny_nextOf_list_end gh Z.1 Z.2 e q
 obj:=fun k h Z=>by
  obtain ⟨o,e,_,d⟩:=Z.1;exact ⟨o,e,fun v z=>by rw [d] at z;cases z⟩
structure Apart (z ti to j1 j2 m1 m2:Ø):Prop where
 a1:ti≠z
 a2:to≠z
 a3:j1≠z
 a4:j2≠z
 a5:ti≠to
 a6:ti≠j1
 a7:ti≠j2
 a8:to≠j1
 a9:to≠j2
 b0:j1≠j2
 b1:m1≠z
 b2:m1≠to
 b3:m1≠j1
 b4:m1≠j2
 b5:m2≠z
 b6:m2≠to
 b7:m2≠j1
 b8:m2≠j2
def Lb {t1 t2:Nat->ħ->Prop} {v1 v2:Nat->Option Ä} {k:Nat} {Q:Ä->Ã->Prop} (D:Apart z ti to j1 j2 m1 m2) (S1:iX P w A j1 m1 t1 v1) (S2:iX P w A j2 m2 t2 v2)
 (gz:IsZip s.heap z ti to .none) (gi:ſ s.heap ti (.ref j1) (.ref j2)) (go:ſ s.heap to a b) (h1:t1 k s.heap) (h2:t2 k s.heap) (hx:v1 k=some x) (hy:v2 k=some y)
 (q:∀h',IsZip h' z ti to (ź s.heap.objs.size)->ſ h' to x y->t1 (k+1) h'->t2 (k+1) h'->ſ h' s.heap.objs.size x y->h'.objs.size=s.heap.objs.size+1 ->
 (∀c o,c≠z->c≠to->c≠j1->c≠j2->s.heap.get? c=some o->h'.get? c=some o)->Q (.ref s.heap.objs.size) { s with heap:=h' }) :
  Ù (à P w) A (œ.«zip.__next__» ⟨[.ref z],[]⟩) (fun fin s'=>∃v,fin=.done (.ret v)/\Q v s') E s:=by
 show Ù _ _ (field (.ref z) 2 >>= _) _ _ (_:Ã);refine À (ĩ gz rfl (x:=.bool false) rfl ?_);show Ù _ _ (field (.ref z) 3 >>= _) _ _ (_:Ã);refine À (ĩ gz rfl (x:=.ref ti) rfl ?_);refine À (Ġ gi rfl ?_);show Ù _ _ (Ģ (.ref z) >>= _) _ _ (_:Ã);refine À ?_;unfold Ģ;refine À (ĩ gz rfl (x:=.none) rfl (Â ?_));simp only [Ċ];refine À (ŋ ?_);refine À (ĩ gz rfl (x:=.ref to) rfl ?_);refine À (ŏ gz (by simp) fun p N Y=>?_)
 replace N:IsZip p z ti to .ellipsis:=N
 refine À ?_;simp only [List.zipIdx_cons,List.zipIdx_nil,VB,List.forIn_nil];refine À (À (wpAny_onRaise ?_));show Ù _ _ (ø (.ref j1) >>= _) _ _ (_:Ã);refine À (S1.item k _ _ _ x (S1.keep k _ _ h1 (fun o e=>Y.extBut _ _ D.a3 e) (fun o e=>Y.extBut _ _ D.b1 e)) hx fun n m V=>Â ?_);have G:ſ n to a b:=V.extBut _ _ D.a8 (Y.extBut _ _ D.a2 go);refine À (Ġ G rfl ?_);refine À (wpAny_updateSeq_pair G fun l M X=>?_)
 replace M:ſ l to x b:=M
 refine À (wpAny_letGo (Â ?_));refine À (À (wpAny_onRaise ?_));show Ù _ _ (ø (.ref j2) >>= _) _ _ (_:Ã);refine À (S2.item k _ _ _ y (S2.keep k _ _ h2 (fun o e=>X.extBut _ _ D.a9.symm (V.extBut _ _ D.b0.symm (Y.extBut _ _ D.a4 e))) (fun o e=>X.extBut _ _ D.b6 (V.extBut _ _ D.b7 (Y.extBut _ _ D.b5 e)))) hy fun j i U=>Â ?_);have F:ſ j to x b:=U.extBut _ _ D.a9 M;refine À (Ġ F rfl ?_);refine À (wpAny_updateSeq_pair F fun Z S s5=>?_)
 replace S:ſ Z to x y:=S
 refine À (wpAny_letGo (Â (Â ?_)));refine À (Ġ S rfl ?_);refine À (wpAny_newTuple ?_);have C:Z.objs.size=s.heap.objs.size:=by rw [s5.1,U.1,X.1,V.1,Y.1]
 have B:IsZip Z z ti to .ellipsis:=s5.extBut _ _ D.a2.symm (U.extBut _ _ D.a4.symm (X.extBut _ _ D.a2.symm (V.extBut _ _ D.a3.symm N)));have h:∀c o,c≠z->c≠to->c≠j1->c≠j2->s.heap.get? c=some o->Z.get? c=some o:=fun c o W R L K e=>s5.extBut _ _ R (U.extBut _ _ K (X.extBut _ _ R (V.extBut _ _ L (Y.extBut _ _ W e))));have g:t1 (k+1) Z:=S1.keep _ _ _ m (fun o e=>s5.extBut _ _ D.a8.symm (U.extBut _ _ D.b0 (X.extBut _ _ D.a8.symm e))) (fun o e=>s5.extBut _ _ D.b2 (U.extBut _ _ D.b4 (X.extBut _ _ D.b2 e)));have f:t2 (k+1) Z:=S2.keep _ _ _ i (fun o e=>s5.extBut _ _ D.a9.symm e) (fun o e=>s5.extBut _ _ D.b6 e);have u:z<Z.objs.size:=Ç B;show Ù _ _ (δ (.ref z) (.ref Z.objs.size) >>= _) _ _ (_:Ã);refine À ?_;unfold δ;have d:IsZip (Z.push { cls:=.type "tuple",data:=.seq #[x,y] }) z ti to .ellipsis:=Á _ B;refine À (ŏ d (by simp) fun p7 J I=>?_)
 replace J:IsZip p7 z ti to (ź Z.objs.size):=J
 refine ŏ J (by simp) fun T O H=>?_
 replace O:IsZip T z ti to (ź Z.objs.size):=O
 have up:∀c o,c≠z->Z.get? c=some o->T.get? c=some o:=fun c o W e=>H.extBut _ _ W (I.extBut _ _ W (Á _ e));have t:ſ T Z.objs.size x y:=H.extBut _ _ (Ľ u) (I.extBut _ _ (Ľ u) (Ï _ rfl));have r:T.objs.size=Z.objs.size+1:=by rw [H.1,I.1,ó]
 rw [C] at O t r;refine Â ⟨_,rfl,?_⟩;show Q (.ref Z.objs.size) _;rw [C];exact q T O (up _ _ D.a2 S) (S1.keep _ _ _ g (fun o e=>up _ o D.a3 e) (fun o e=>up _ o D.b1 e)) (S2.keep _ _ _ f (fun o e=>up _ o D.a4 e) (fun o e=>up _ o D.b5 e)) t r fun c o W R L K e=>up c o W (h c o W R L K e)
def MG (D:Apart z ti to j1 j2 m1 m2) (S1:iX P w A j1 m1 t1 v1) (S2:iX P w A j2 m2 t2 v2)
 (gz:IsZip s.heap z ti to .none) (gi:ſ s.heap ti (.ref j1) (.ref j2)) (go:ſ s.heap to a b) (h1:t1 k s.heap) (h2:t2 k s.heap) (yx:v1 k=none\/v2 k=none)
 (q:∀h' e,(∀c o,c≠z->c≠to->c≠j1->c≠j2->s.heap.get? c=some o->h'.get? c=some o)->(∃o,h'.get? e=some o/\o.cls=.type "StopIteration")->E (.ref e) { s with heap:=h' }) :
  Ù (à P w) A (œ.«zip.__next__» ⟨[.ref z],[]⟩) Q E s:=by
 show Ù _ _ (field (.ref z) 2 >>= _) _ _ (_:Ã);refine À (ĩ gz rfl (x:=.bool false) rfl ?_);show Ù _ _ (field (.ref z) 3 >>= _) _ _ (_:Ã);refine À (ĩ gz rfl (x:=.ref ti) rfl ?_);refine À (Ġ gi rfl ?_);show Ù _ _ (Ģ (.ref z) >>= _) _ _ (_:Ã);refine À ?_;unfold Ģ;refine À (ĩ gz rfl (x:=.none) rfl (Â ?_));simp only [Ċ];refine À (ŋ ?_);refine À (ĩ gz rfl (x:=.ref to) rfl ?_);refine À (ŏ gz (by simp) fun N V Y=>?_)
 replace V:IsZip N z ti to .ellipsis:=V
 refine À ?_;simp only [List.zipIdx_cons,List.zipIdx_nil,VB,List.forIn_nil];refine À (À (wpAny_onRaise ?_));show Ù _ _ (ø (.ref j1) >>= _) _ _ (_:Ã);have M:t1 k N:=S1.keep k _ _ h1 (fun o e=>Y.extBut _ _ D.a3 e) (fun o e=>Y.extBut _ _ D.b1 e)
 cases U:v1 k with
 |none =>
  refine À (S1.stop k _ _ _ M U fun T e Z S=>?_);obtain ⟨R,g1,g2⟩:=S;have L:IsZip T z ti to .ellipsis:=Z _ _ D.a3.symm V;have ne:e≠z:=fun u=>by subst u;rw [L] at g1;cases g1;simp at g2
  refine ŏ L (by simp) fun K _ X=>q K e (fun c o W _ O _ u=>X.extBut _ _ W (Z _ _ O (Y.extBut _ _ W u))) ⟨R,X.extBut _ _ ne g1,g2⟩
 |some x =>
  have G:v2 k=none:=by
   rcases yx with h|h
   ·rw [U] at h;cases h
   ·exact h
  refine À (S1.item k _ _ _ x M U fun T v Z=>Â ?_);have J:ſ T to a b:=Z.extBut _ _ D.a8 (Y.extBut _ _ D.a2 go);refine À (Ġ J rfl ?_);refine À (wpAny_updateSeq_pair J fun K t X=>?_);refine À (wpAny_letGo (Â ?_));refine À (À (wpAny_onRaise ?_));show Ù _ _ (ø (.ref j2) >>= _) _ _ (_:Ã);refine À (S2.stop k _ _ _ (S2.keep k _ _ h2 (fun o e=>X.extBut _ _ D.a9.symm (Z.extBut _ _ D.b0.symm (Y.extBut _ _ D.a4 e))) (fun o e=>X.extBut _ _ D.b6 (Z.extBut _ _ D.b7 (Y.extBut _ _ D.b5 e)))) G fun F e I S=>?_);obtain ⟨R,g1,g2⟩:=S;have H:IsZip F z ti to .ellipsis:=I _ _ D.a4.symm (X.extBut _ _ D.a2.symm (Z.extBut _ _ D.a3.symm V));have ne:e≠z:=fun u=>by subst u;rw [H] at g1;cases g1;simp at g2
  refine ŏ H (by simp) fun C _ s5=>q C e (fun c o W B O y u=>s5.extBut _ _ W (I _ _ y (X.extBut _ _ B (Z.extBut _ _ O (Y.extBut _ _ W u))))) ⟨R,s5.extBut _ _ ne g1,g2⟩
def next_item (D:Apart z ti to j1 j2 m1 m2) (S1:iX P w A.in1 j1 m1 t1 v1) (S2:iX P w A.in1 j2 m2 t2 v2)
 (gz:IsZip s.heap z ti to .none) (gi:ſ s.heap ti (.ref j1) (.ref j2)) (go:ſ s.heap to a b) (h1:t1 k s.heap) (h2:t2 k s.heap) (hx:v1 k=some x) (hy:v2 k=some y)
 (q:∀h',IsZip h' z ti to (ź s.heap.objs.size)->ſ h' to x y->t1 (k+1) h'->t2 (k+1) h'->ſ h' s.heap.objs.size x y->h'.objs.size=s.heap.objs.size+1 ->
 (∀c o,c≠z->c≠to->c≠j1->c≠j2->s.heap.get? c=some o->h'.get? c=some o)->Q (some (.ref s.heap.objs.size)) { s with heap:=h' }):Ù (à P w) A (υ (.ref z)) Q E s:=by
 have Z:s.TypeIs (.ref z) "zip":=⟨_,gz,rfl⟩;unfold υ;exact À (ś (Ā (name:=đ "__next__") Z Wo
  (þ Wo Z F.entry_zip_next (Lb D S1 S2 gz gi go h1 h2 hx hy fun h' a1 a2 Y X W V U=>Â (q h' a1 a2 Y X W V U)) (F.args_zip_next_1 _))))
def next_end (D:Apart z ti to j1 j2 m1 m2) (S1:iX P w A.in1 j1 m1 t1 v1) (S2:iX P w A.in1 j2 m2 t2 v2)
 (gz:IsZip s.heap z ti to .none) (gi:ſ s.heap ti (.ref j1) (.ref j2)) (go:ſ s.heap to a b) (h1:t1 k s.heap) (h2:t2 k s.heap) (yx:v1 k=none\/v2 k=none)
 (q:∀h',(∀c o,c≠z->c≠to->c≠j1->c≠j2->s.heap.get? c=some o->h'.get? c=some o)->Q none { s with heap:=h' }):Ù (à P w) A (υ (.ref z)) Q E s:=by
 have Z:s.TypeIs (.ref z) "zip":=⟨_,gz,rfl⟩;unfold υ;refine À (ś (Ā (name:=đ "__next__") Z Wo
  (þ Wo Z F.entry_zip_next (MG D S1 S2 gz gi go h1 h2 yx fun h' e Y X=>?_) (F.args_zip_next_1 _))))
 obtain ⟨o,W,V⟩:=X;exact À (We (T:="StopIteration") (b:=true) ⟨o,W,V⟩ isSubtype_stop (Â (q _ Y)))
end
end HZ
namespace L2
open PySem PySem.Spec PyProof.Rows
def Oc {X:Cx} {π:List (Ø×Obj)} {σ:St} {H:Hp} {s:Ã} {a b:Ø} {xs:List V} (I:Inv X π σ H s) (h:bg X.K H a xs) (f:dM X π H b):a≠b:=by
 rintro rfl;obtain ⟨f0,_,_,Y,_⟩:=f
 rcases h with (h | ⟨o,h⟩) | ⟨o,its,n,W,_⟩
 ·rw [f0] at h;cases h
 ·rw [f0] at h;cases h
 ·have Z:=I.mod.iR a o W
  rcases Y with z|z
  ·exact I.ok.lD a o Z z
  ·exact absurd (Å (Ç Z) (á I.ok.gv z)) (è _)
def Od {X:Cx} {π:List (Ø×Obj)} {σ:St} {H:Hp} {s:Ã} {a b:Ø} {xs:List V} (I:Inv X π σ H s) (h:bt X.K H a xs) (f:dM X π H b):a≠b:=by
 rintro rfl;obtain ⟨f0,_,_,Y,_⟩:=f
 rcases h with (h | ⟨o,h⟩) | ⟨o,its,n,W,_⟩
 ·rw [f0] at h;cases h
 ·rw [f0] at h;cases h
 ·have Z:=I.mod.iR a o W
  rcases Y with z|z
  ·exact I.ok.lD a o Z z
  ·exact absurd (Å (Ç Z) (á I.ok.gv z)) (è _)
def Inv.BL {X:Cx} {π:List (Ø×Obj)} {σ:St} {H:Hp} {s:Ã} {h':ħ} {t':Nat} {ch:List Ø} (I:Inv X π σ H s) (k:∀b o,b∉ch->s.heap.get? b=some o->h'.get? b=some o) (hf:∀b∈ch,dM X π H b) :
  Inv X π σ H { s with heap:=h',toks:=t' }:=by
 have Y:∀b u,H b=some u->b∉ch:=fun b u e z=>by rw [(hf b z).1] at e;cases e
 refine I.step (g':=s.gens) (d':=s.drawn) (ch:=ch) (fun b W=>?_) (fun b o _ _ Z e _=>k b o Z e) (fun b o _ _ Z e _=>⟨o.slots,k b o Z e⟩) (fun _ _ _ _ n=>n) (fun b o Z e=>⟨o,k b o Z e⟩) (fun _ _ e=>e) (fun _ _ _ e=>e)
  (fun b P e=>⟨#[],by rw [e];simp⟩) (fun m V=>?_) (fun b u e=>?_) I.bare
 ·obtain ⟨_,f1,_,U,f4,T⟩:=hf b W
  exact ⟨U,f1,f4,T⟩
 ·obtain ⟨o,S,R,Q,r⟩:=V
  exact ⟨o,S,R,k _ o (fun z=>(hf _ z).2.1 rfl) Q,r⟩
 ·refine (I.aD b u e).cV (fun c v Z q=>k c v ?_ q) (fun _ q=>q) fun _ _ q=>q
  rcases Z with z|z
  ·rw [z];exact Y b u e
  ·exact Y c _ z
def Inv.JZ {X:Cx} {π:List (Ø×Obj)} {σ:St} {H:Hp} {s:Ã} {h':ħ} {t':Nat} {ch:List Ø} {p:Ø} {u:HO} (I:Inv X π σ H s) (k:∀b o,b∉ch->s.heap.get? b=some o->h'.get? b=some o) (hf:∀b∈ch,dM X π H b)
  (hp:s.heap.objs.size<=p) (new:cJ X.prog X.w (upd H p u) h' p u):Inv X π σ (upd H p u) { s with heap:=h',toks:=t' }:=by
 have Y:H p=none:=I.aD.fresh hp;have aD:bR X.prog X.w (upd H p u) h':=(I.BL (t':=t') k hf).aD.adopt Y new;refine I.step (g':=s.gens) (d':=s.drawn) (ch:=ch) (fun b W=>?_) (fun b o _ _ Z e _=>k b o Z e) (fun b o _ _ Z e _=>⟨o.slots,k b o Z e⟩) (fun b o _ e n=>?_) (fun b o Z e=>⟨o,k b o Z e⟩) (fun c P e=>by rw [aT (cz e Y)];exact e) (fun c o v e=>by rw [aT (cz e Y)];exact e)
  (fun c O e=>⟨#[],by rw [aT (cz e Y),e];simp⟩) (fun m V=>?_) aD I.bare
 ·obtain ⟨_,f1,_,U,f4,T⟩:=hf b W
  exact ⟨U,f1,f4,T⟩
 ·rw [aT (Û (Å (Ç e) hp))]
  exact n
 ·obtain ⟨o,S,R,Q,r⟩:=V
  exact ⟨o,S,R,k _ o (fun z=>(hf _ z).2.1 rfl) Q,r⟩
@[reducible] def gS:Bool->č->Hp->Ø->List V->Prop
 |true=>bg
 |false=>bt
@[reducible] def iY:Bool->ħ->Ø->Array Ä->Prop
 |true=>Heap.IsTuple
 |false=>Heap.IsList
@[reducible] def kH:Bool->ħ->Ø->Ø->Nat->Prop
 |true=>Heap.IsTupleIter
 |false=>Heap.IsListIter
def Inv.n6 {X:Cx} {π:List (Ø×Obj)} {σ:St} {H:Hp} {s:Ã} {a:Ø} {xs:List V} (I:Inv X π σ H s):∀{k},gS k X.K H a xs->∃its,Vals xs its/\iY k s.heap a its.toArray
 |true,h=>by obtain ⟨i,r,p,_⟩:=I.tuple h;exact ⟨i,r,p⟩
 |false,h=>by obtain ⟨i,r,p,_⟩:=I.list h;exact ⟨i,r,p.isList⟩
def Inv.B7 {X:Cx} {π:List (Ø×Obj)} {σ:St} {H:Hp} {s:Ã} {a:Ø} {xs ys:List V} (I:Inv X π σ H s):∀{k},gS k X.K H a xs->gS k X.K H a ys->xs=ys
 |true,h,g=>I.BC h g
 |false,h,g=>I.BZ h g
def sM {X:Cx} {π:List (Ø×Obj)} {σ:St} {H:Hp} {s:Ã} {a b:Ø} {xs:List V} (I:Inv X π σ H s):∀{k},gS k X.K H a xs->dM X π H b->a≠b
 |true,h,f=>Oc I h f
 |false,h,f=>Od I h f
def tX (gh:A.handled=none) (i l:Ø) (its:Array Ä):∀k,HZ.iX P w A i l (fun n h=>kH k h i l n/\iY k h l its) (fun n=>its[n]?)
 |true=>HZ.ME gh i l its
 |false=>HZ.MF gh i l its
def sN (k:∀o,h.get? i=some o->h'.get? i=some o):∀{b},kH b h i l n->kH b h' i l n
 |true,x=>x.at k
 |false,x=>x.at k
def sA:∀{b},kH b h i l n->∃o,h.get? i=some o/\∀v,o.data≠.cell v
 |true,x=>by obtain ⟨o,e,_,d⟩:=x;exact ⟨o,e,fun v q=>by rw [d] at q;cases q⟩
 |false,x=>by obtain ⟨o,e,_,d⟩:=x;exact ⟨o,e,fun v q=>by rw [d] at q;cases q⟩
def tY (k l:Bool) (K:č) (a b:Ø):It :=
 ⟨fun i H=>∃Z Y x y,gS k K H a Z/\gS l K H b Y/\Z[i]?=some x/\Y[i]?=some y,fun i H v X=>∃p x y,H p=none/\v=.ref p/\X=upd H p (.tup [x,y])/\∀Z Y,gS k K H a Z->gS l K H b Y->Z[i]?=some x/\Y[i]?=some y,
  fun i H=>∃Z Y,gS k K H a Z/\gS l K H b Y/\(Z.length<=i\/Y.length<=i)⟩
abbrev Ro:=tY true true
structure PR (it:Nat->ħ->Prop) (gU:Nat->ħ->Prop) (z ti to j1 j2:Ø) (i:Nat) (h:ħ):Prop where
 z:IsZip h z ti to .none
 ti:ſ h ti (.ref j1) (.ref j2)
 to:∃u v,ſ h to u v
 h1:it i h
 h2:gU i h
structure FR (z ti to j1 j2:Ø):Prop where
 a1:ti≠z
 a2:to≠z
 a3:j1≠z
 a4:j2≠z
 a5:ti≠to
 a6:ti≠j1
 a7:ti≠j2
 a8:to≠j1
 a9:to≠j2
 b0:j1≠j2
def J0 {k1 k2:Bool} {P:ß} {w:ú} {K:č} {elts:List Ğ} {kk:Nat} {pos:Pos} (a b z ti to j1 j2:Ø) (F:FR z ti to j1 j2) :
  Turn P w K (.Tuple elts kk pos) (tY k1 k2 K a b) [z,ti,to,j1,j2] z (PR (fun i h=>kH k1 h j1 a i) (fun i h=>kH k2 h j2 b i) z ti to j1 j2) where
 mem:=by simp
 obj:=fun i h Z c S=>by
  have M:c=z\/c=ti\/c=to\/c=j1\/c=j2:=by simpa using S
  rcases M with rfl|rfl|rfl|rfl|rfl
  ·exact ⟨_,Z.z,fun v q=>nomatch q⟩
  ·exact ⟨_,Z.ti,fun v q=>nomatch q⟩
  ·obtain ⟨u,v,q⟩:=Z.to;exact ⟨_,q,fun v q=>nomatch q⟩
  ·exact sA Z.h1
  ·exact sA Z.h2
 keep:=fun i h l Z k=>⟨k z (by simp) _ Z.z,k ti (by simp) _ Z.ti,by obtain ⟨u,v,q⟩:=Z.to;exact ⟨u,v,k to (by simp) _ q⟩,sN (fun o e=>k j1 (by simp) o e) Z.h1,sN (fun o e=>k j2 (by simp) o e) Z.h2⟩
 item:=by
  intro X L hw J S i j s σ H E I Y Z G;subst L hw J;obtain ⟨f,d,x,y,V,U,ex,g⟩:=G;obtain ⟨C,B,t⟩:=I.n6 V;obtain ⟨r,p,n⟩:=I.n6 U;obtain ⟨u,eu,ru⟩:=B.get ex;obtain ⟨v,ev,rv⟩:=p.get g;have ne:∀c∈[z,ti,to,j1,j2],a≠c/\b≠c:=fun c W=>⟨sM I V (Y c W),sM I U (Y c W)⟩;have D:HZ.Apart z ti to j1 j2 a b:=⟨F.a1,F.a2,F.a3,F.a4,F.a5,F.a6,F.a7,F.a8,F.a9,F.b0,(ne z (by simp)).1,(ne to (by simp)).1,(ne j1 (by simp)).1,(ne j2 (by simp)).1,(ne z (by simp)).2,(ne to (by simp)).2,(ne j1 (by simp)).2,(ne j2 (by simp)).2⟩;obtain ⟨w1,w2,O⟩:=Z.to;have R:X.A.in1.handled=none:=I.ok.hd S;refine HZ.next_item D (tX R j1 a C.toArray k1) (tX R j2 b r.toArray k2) Z.z Z.ti O ⟨Z.h1,t⟩ ⟨Z.h2,n⟩ (by simpa using eu) (by simpa using ev) fun l c1 c2 c3 c4 c5 c6 N=>⟨_,rfl,?_⟩;refine wpAny_letOwnedTupleGo_zip c1 fun h2 d1 T=>?_;have hn:H s.heap.objs.size=none:=I.aD.fresh (WV _);have So:z<s.heap.objs.size:=Ç Z.z;have qr:IsTup h2 s.heap.objs.size #[u,v]:=⟨_,T.extBut _ _ (Ľ So) c5,rfl,_,rfl⟩
  have I2:Inv X j σ (upd H s.heap.objs.size (.tup [x,y])) { s with heap:=h2,toks:=s.toks }:=I.JZ (ch:=[z,ti,to,j1,j2]) (fun c o m e=>by
   have q:c≠z/\c≠ti/\c≠to/\c≠j1/\c≠j2:=by simpa using m
   exact T.extBut c o q.1 (N c o q.1 q.2.2.1 q.2.2.2.1 q.2.2.2.2 e)) Y (WV _) ⟨by show 2<=Ñ;decide,[u,v],.cons ru (.cons rv .nil),qr⟩
  refine ⟨.ref s.heap.objs.size,_,I2,rfl,⟨_,x,y,hn,rfl,rfl,fun Ve Vf q1 q2=>?_⟩,?_,fun c W=>?_⟩
  ·rw [I.B7 q1 V,I.B7 q2 U];exact ⟨ex,g⟩
  ·refine ⟨d1,T.extBut _ _ F.a1 (N _ _ F.a1 F.a5 F.a6 F.a7 Z.ti),⟨_,_,T.extBut _ _ F.a2 c2⟩,sN (fun o e=>T.extBut _ _ F.a3 e) c3.1,sN (fun o e=>T.extBut _ _ F.a4 e) c4.1⟩
  ·rw [aT]
   ·exact (Y c W).1
   ·intro e
    obtain ⟨o,eo⟩:∃o,s.heap.get? c=some o:=by
     have M:c=z\/c=ti\/c=to\/c=j1\/c=j2:=by simpa using W
     rcases M with q|q|q|q|q
     ·rw [q];exact ⟨_,Z.z⟩
     ·rw [q];exact ⟨_,Z.ti⟩
     ·rw [q];exact ⟨_,O⟩
     ·rw [q];obtain ⟨o,e,_⟩:=sA Z.h1;exact ⟨o,e⟩
     ·rw [q];obtain ⟨o,e,_⟩:=sA Z.h2;exact ⟨o,e⟩
    exact absurd (Ç eo) (by rw [e];exact è _)
 done:=by
  intro X L hw J S i j s σ H E I Y Z G;subst L hw J;obtain ⟨f,d,V,U,hle⟩:=G;obtain ⟨C,B,t⟩:=I.n6 V;obtain ⟨r,p,n⟩:=I.n6 U;have ne:∀c∈[z,ti,to,j1,j2],a≠c/\b≠c:=fun c W=>⟨sM I V (Y c W),sM I U (Y c W)⟩;have D:HZ.Apart z ti to j1 j2 a b:=⟨F.a1,F.a2,F.a3,F.a4,F.a5,F.a6,F.a7,F.a8,F.a9,F.b0,(ne z (by simp)).1,(ne to (by simp)).1,(ne j1 (by simp)).1,(ne j2 (by simp)).1,(ne z (by simp)).2,(ne to (by simp)).2,(ne j1 (by simp)).2,(ne j2 (by simp)).2⟩;obtain ⟨w1,w2,O⟩:=Z.to;have R:X.A.in1.handled=none:=I.ok.hd S;have l1:=B.length;have l2:=p.length;refine HZ.next_end D (tX R j1 a C.toArray k1) (tX R j2 b r.toArray k2) Z.z Z.ti O ⟨Z.h1,t⟩ ⟨Z.h2,n⟩ ?_ fun l N=>⟨rfl,I.BL (t':=s.toks) (ch:=[z,ti,to,j1,j2]) (fun c o m e=>by
   have q:c≠z/\c≠ti/\c≠to/\c≠j1/\c≠j2:=by simpa using m
   exact N c o q.1 q.2.2.1 q.2.2.2.1 q.2.2.2.2 e) Y⟩
  rcases hle with q|q
  ·left;simp;omega
  ·right;simp;omega
 self:=fun A i s Q E Z h=>wpAny_pyIter_zip Z.z h
end L2
namespace HZ
open PySem PySem.Spec PyProof.Rows L2
@[reducible] noncomputable def qW:Bool->String
 |true=>"tuple_iterator"
 |false=>"list_iterator"
abbrev y1 (k:Bool) (h:ħ) (m1:Ø):ħ:=h.push { cls:=.type (qW k),data:=.fields #[.ref m1,.int 0 0] }
abbrev y2 (k l:Bool) (h:ħ) (m1 m2:Ø):ħ:=(y1 k h m1).push { cls:=.type (qW l),data:=.fields #[.ref m2,.int 0 0] }
abbrev y3 (k l:Bool) (h:ħ) (m1 m2:Ø):ħ:=(y2 k l h m1 m2).push { cls:=.type "tuple",data:=.seq #[.ref h.objs.size,.ref (y1 k h m1).objs.size] }
abbrev y4 (k l:Bool) (h:ħ) (m1 m2:Ø):ħ:=(y3 k l h m1 m2).push { cls:=.type "tuple",data:=.seq #[.none,.none] }
abbrev y5 (k l:Bool) (h:ħ) (m1 m2:Ø):ħ:=(y4 k l h m1 m2).push { cls:=.type "zip",data:=.fields #[.none,.bool false,.bool false,.ref (y2 k l h m1 m2).objs.size,.ref (y3 k l h m1 m2).objs.size] }
def EO:∀{k},iY k s.heap m xs->Q (.ref s.heap.objs.size) { s with heap:=s.heap.push { cls:=.type (qW k),data:=.fields #[.ref m,.int 0 0] } }->Ù (à P w) A (pyIter (.ref m)) Q E s
 |true,h,q=>wpAny_pyIter_tuple h q
 |false,h,q=>Ų h q
def Lc (o:Obj):∀{k},iY k h m xs->iY k (h.push o) m xs
 |true,x=>Heap.IsTuple.push x o
 |false,x=>Heap.IsList.push x o
def MH (k l:Bool) (m1 m2:Ø) (xs ys:Array Ä) :
  Meets (œ.«zip.__new__» ⟨[.type "zip",.ref m1,.ref m2],[]⟩) (fun _ R s=>iY k s.heap m1 xs/\iY l s.heap m2 ys/\R (.ok (.ret (.ref (y4 k l s.heap m1 m2).objs.size))) { s with heap:=y5 k l s.heap m1 m2 }) :=
 .of_wp fun prog w A R s h=>by
  obtain ⟨Z,g,d,Y,os⟩:=s;obtain ⟨X,W,h⟩:=h;have U:=sub_zip;have V:iY k (Shared.heap ⟨Z,g,d,Y,os⟩) m1 xs:=X;have L2:iY l (Shared.heap ⟨Z.push { cls:=.type (qW k),data:=.fields #[.ref m1,.int 0 0] },g,d,Y,os⟩) m2 ys:=Lc _ W
  wp_walk using EO V,EO L2
  exact ⟨_,rfl,h⟩
section
variable {P:ß} {w:ú} {A:æ} {E:Ä->Ã->Prop} {s:Ã}
def CH:∀{k},h.get? i=some { cls:=.type (qW k),data:=.fields #[.ref m,.int 0 0] }->kH k h i m 0
 |true,e=>⟨_,e,rfl,rfl⟩
 |false,e=>⟨_,e,rfl,rfl⟩
def J1 (h1:iY k s.heap m1 xs) (h2:iY l s.heap m2 ys)
 (h:∀h',IsZip h' (s.heap.objs.size+4) (s.heap.objs.size+2) (s.heap.objs.size+3) .none->ſ h' (s.heap.objs.size+2) (.ref s.heap.objs.size) (.ref (s.heap.objs.size+1)) ->
   ſ h' (s.heap.objs.size+3) .none .none->kH k h' s.heap.objs.size m1 0->kH l h' (s.heap.objs.size+1) m2 0->h'.objs.size=s.heap.objs.size+5 ->
 (∀c o,s.heap.get? c=some o->h'.get? c=some o)->Q (.ref (s.heap.objs.size+4)) { s with heap:=h' }):Ù (à P w) A (call (.type "zip") [.ref m1,.ref m2]) Q E s:=by
 refine callType_new F.called_zip (by decide) (F.typeCall_zip_2 _ _) (F.newCall_zip_2 _ _) (fun obj=>F.args_object_init_3 obj _ _) F.entry_zip_new (MH k l m1 m2 xs ys) ⟨h1,h2,?_⟩;have e1:(y1 k s.heap m1).objs.size=s.heap.objs.size+1:=ó ..;have e2:(y2 k l s.heap m1 m2).objs.size=s.heap.objs.size+2:=by rw [ó,e1]
 have Z:(y3 k l s.heap m1 m2).objs.size=s.heap.objs.size+3:=by rw [ó,e2]
 have Y:(y4 k l s.heap m1 m2).objs.size=s.heap.objs.size+4:=by rw [ó,Z]
 have V:(y5 k l s.heap m1 m2).objs.size=s.heap.objs.size+5:=by rw [ó,Y]
 have X:(y5 k l s.heap m1 m2).get? (y4 k l s.heap m1 m2).objs.size=some _:=Ï _ rfl;have W:(y5 k l s.heap m1 m2).get? (y3 k l s.heap m1 m2).objs.size=some _:=Á _ (Ï _ rfl);have g3:(y5 k l s.heap m1 m2).get? (y2 k l s.heap m1 m2).objs.size=some _:=Á _ (Á _ (Ï _ rfl));have g2:(y5 k l s.heap m1 m2).get? (y1 k s.heap m1).objs.size=some _:=Á _ (Á _ (Á _ (Ï _ rfl)));have g1:(y5 k l s.heap m1 m2).get? s.heap.objs.size=some _:=Á _ (Á _ (Á _ (Á _ (Ï _ rfl))));show _/\_;rw [e2,Z,Y] at X;rw [e1,e2] at g3;rw [Z] at W;rw [e1] at g2;rw [Y];exact ⟨⟨_,X,rfl⟩,h _ X g3 W (CH g1) (CH g2) V fun c o q=>Á _ (Á _ (Á _ (Á _ (Á _ q))))⟩
end
end HZ
namespace L2
open PySem PySem.Spec PyProof.Rows
def Ld (n:Nat):FR (n+4) (n+2) (n+3) n (n+1):=by constructor<;>(show (_:Nat)≠_)<;>omega
section
variable {X:Cx} {elts:List Ğ} {kk:Nat} {tp:Pos}
def ER (k l:Bool) (K:č) (ta:TA):TI:=fun σ H R=>ta σ H fun Y Z=>∃a b X W,Y=[.ref a,.ref b]/\gS k K Z a X/\gS l K Z b W/\R (tY k l K a b) Z
noncomputable abbrev PU:=ER true true
def J2:ì "zip"=some (.type "zip"):=by decide +kernel
def Oe {π:List (Ø×Obj)} {σ:St} {H:Hp} {s:Ã} (I:Inv X π σ H s):∀b∈[s.heap.objs.size+4,s.heap.objs.size+2,s.heap.objs.size+3,s.heap.objs.size,s.heap.objs.size+1],dM X π H b:=fun b Y=>by
 have Z:s.heap.objs.size<=b:=by
  have q:b=s.heap.objs.size+4\/b=s.heap.objs.size+2\/b=s.heap.objs.size+3\/b=s.heap.objs.size\/b=s.heap.objs.size+1:=by simpa using Y
  omega
 exact I.tR Z (I.aD.fresh Z)
def MI {k l:Bool} {a b:Ğ} {ta:TA} {p pos:Pos} (hg:Gl X "zip") (hm:X.mg "zip"=none) (ha:PA X [a,b] ta) (hs:Ê [a,b] X.env=[(false,ļ a X.env),(false,ļ b X.env)]:=by rfl) (fx:Ê [b] X.env=[(false,ļ b X.env)]:=by rfl) :
  PI X (.Tuple elts kk tp) (.Call (.Name "zip" p) [a,b] [] pos) (ER k l X.K ta):=by
 intro V s σ H R I h;refine Call_ (nI I hg hm J2 (Ń (aH (ha pos V s σ H _ I h) fun z Z ⟨y,U,Y,T,S⟩=>?_) (by rw [hs,fx]) (by rw [fx];rfl)));obtain ⟨a,b,xs,ys,e,Q,P,q⟩:=S;subst e;obtain ⟨u,v,rfl,O,N⟩:=vals2 T;cases O;cases N;obtain ⟨M,_,L⟩:=Y.n6 Q;obtain ⟨J,_,G⟩:=Y.n6 P;refine HZ.J1 (xs:=M.toArray) (ys:=J.toArray) L G fun F W E D C B x A=>?_
 refine wpAny_pyIter_zip (s:={ Z with heap:=F }) W ?_
 exact ⟨_,[Z.heap.objs.size+4,Z.heap.objs.size+2,Z.heap.objs.size+3,Z.heap.objs.size,Z.heap.objs.size+1],_,_,U,rfl,Y.kept (t':=Z.toks) A,J0 a b _ _ _ _ _ (Ld _),⟨W,E,⟨_,_,D⟩,C,B⟩,Oe Y,q⟩
def MJ {a b:Ğ} {ta:TA} {p pos:Pos} (hg:Gl X "zip") (hm:X.mg "zip"=none) (ha:PA X [a,b] ta) (hs:Ê [a,b] X.env=[(false,ļ a X.env),(false,ļ b X.env)]:=by rfl) (fx:Ê [b] X.env=[(false,ļ b X.env)]:=by rfl) :
  PI X (.Tuple elts kk tp) (.Call (.Name "zip" p) [a,b] [] pos) (PU X.K ta):=MI hg hm ha hs fx
end
end L2
namespace PySem
section
variable {P:ß} {w:ú} {A:æ} {E:Ä->Ã->Prop} {s:Ã}
end
end PySem
namespace L2
open PySem PySem.Spec PyProof.Rows
def map_getD (ns:List Int):(Ă ns.length).map (fun i=>ns.getD i 0)=ns:=by
 apply ų;intro i;rw [ç];by_cases h:i<ns.length
 ·rw [Wq h,Ë h]
  simp [Ř,Ë h]
 ·rw [Ĥ (by simpa using h),Ĥ (by omega)]
  rfl
section
variable {X:Cx}
end
section
variable {κ:Type} [DecidableEq κ]
end
section
variable {P:ß} {w:ú} {H:Hp} {h:ħ} {a:Ø}
end
section
variable {X:Cx} {π:List (Ø×Obj)} {σ:St} {H:Hp} {s:Ã} {a:Ø} {y v:V} {u r:Ä} {o:Option V} {A:æ} {E:Ä->Ã->Prop}
def Inv.big (I:Inv X π σ H s):ς<s.heap.objs.size:=by
 have h:Ó<s.heap.objs.size:=(I.mod.glob.keeps I.bk).lt;exact Nat.lt_trans (by decide) h
end
section
variable {X:Cx} {π:List (Ø×Obj)} {σ:St} {H:Hp} {s:Ã} {a:Ø} {aB:List (Key×V)} {k:Key} {u:Ä} {A:æ} {E:Ä->Ã->Prop}
end
section
variable {X:Cx} {o i e value:Ğ} {pos pos' qp:Pos} {td ty tv:TE}
end
def Lf (h:ħ) (hb:ς<h.objs.size):cJ P w H (h.push { cls:=.type "dict",data:=.dict #[] }) h.objs.size (.dK []) :=
 ⟨Ć _,beq_eq_false_iff_ne.mpr (Ÿ (Û hb)),[],.nil,Heap.DictOf.new h⟩
def Of:TE:=fun _ H Q=>∀p,H p=none->Q (.ref p) (upd H p (.dK []))
section
variable {X:Cx} {pos:Pos}
def Lg:PE X (.Dict [] [] pos) Of:=fun Z s σ H Q I h =>
 wpAny_Dict_empty ⟨.ref s.heap.objs.size,_,I.laid (a:=s.heap.objs.size) (o:=.dK []) (t':=s.toks) (fun _ _ q=>Á _ q) (WV _) (Lf s.heap I.big),rfl,h _ (I.aD.fresh (WV _))⟩
end
structure M1 (X:Cx) (o:Ğ) (m:Str) (apos:Pos) (e:Ğ) (bh:Pos):Prop where
 base:VA o m X.env (ļ o X.env)=ļ o X.env
 jP:((ı bh (Ê [e] X.env)).all (fun x=>!x.1)&&(backToKw bh (Wm [] X.env)).all (fun x=>x.1.isSome)
  && decide (([e]:List Ğ).length+([]:List V9).length+(if ([]:List V9).isEmpty then 0 else 1)<30))=true
 line:(apos.endLine==bh.line)=true
 trees:ı bh (Ê [e] X.env)=[(false,ļ e X.env)]
structure M2 (X:Cx) (o:Ğ) (m:Str) (apos:Pos) (e f:Ğ) (bh:Pos):Prop where
 base:VA o m X.env (ļ o X.env)=ļ o X.env
 jP:((ı bh (Ê [e,f] X.env)).all (fun x=>!x.1)&&(backToKw bh (Wm [] X.env)).all (fun x=>x.1.isSome)
  && decide (([e,f]:List Ğ).length+([]:List V9).length+(if ([]:List V9).isEmpty then 0 else 1)<30))=true
 line:(apos.endLine==bh.line)=true
 trees:ı bh (Ê [e,f] X.env)=[(false,ļ e X.env),(false,ļ f X.env)]
section
variable {X:Cx} {π:List (Ø×Obj)} {σ:St} {H:Hp} {s:Ã} {a:Ø} {y d:V} {u r:Ä} {o:Option V} {A:æ} {E:Ä->Ã->Prop}
end
section
variable {X:Cx} {o e f:Ğ} {apos bh:Pos} {td ty tx:TE}
end
section
variable {X:Cx} {π:List (Ø×Obj)} {σ:St} {H:Hp} {s:Ã} {a:Ø} {aB:List (Key×V)} {A:æ} {E:Ä->Ã->Prop}
end
section
variable {X:Cx} {π:List (Ø×Obj)} {σ:St} {H:Hp} {s:Ã} {a:Ø} {y:V} {u:Ä} {A:æ} {E:Ä->Ã->Prop}
end
section
variable {K:č} {caps:St} {H:Hp} {tf:TT} {te:TE} {Q:VK}
end
noncomputable def DL (sc:ŷ) (on:List (Str×Ŕ)) (oN N:List Str) (nt:Nat) (cap:List Nat):Bool :=
 decide (sc.kind=.function)&&sc.names.all (fun x=>decide (x.2≠.cell))&&sc.names.all (fun x=>decide (x.2=.local->sc.names.lookup x.1=some .local)) &&
 sc.names.all (fun x=>decide (x.2=.free->sc.names.lookup x.1=some .free/\(on.lookup x.1=some .cell\/on.lookup x.1=some .free)))&&decide (N.length=nt+cap.length) &&
 (Ă cap.length).all (fun k=>match cap[k]? with
  |some j=>match oN[j]? with
   |some x=>decide (N[nt+k]?=some x)&&decide ((x,ã)∈sc.names)
   |none=>false
  |none=>true)
def ES (h:DL sc X.env.scope.names X.N N nt cap=true):pJ X sc N nt cap:=by
 unfold DL at h;simp only [È,ĝ,Ü] at h;obtain ⟨⟨⟨⟨⟨Z,Y⟩,W⟩,V⟩,U⟩,T⟩:=h;refine ⟨Z,Y,W,fun x S e=>V x S e,U,fun k j e=>?_⟩;have R:k<cap.length:=(Æ.mp e).1;have:=T k (Ĝ.mpr R);rw [e] at this;dsimp only at this
 cases ex:X.N[j]? with
 |none=>rw [ex] at this;cases this
 |some x =>
  rw [ex] at this;simp only [È,Ü] at this;exact ⟨x,rfl,this.1,this.2⟩
end L2
namespace TS
open PySem
abbrev iL (l:List Nat):Prop:=l.Pairwise (· < ·)
def Lh (xs:Array Nat) (k d:Nat):xs.getD k d=xs.toList.getD k d:=by
 cases xs with
 |mk l =>
  by_cases h:k<l.length
  ·simp [WJ,Ř,h]
  ·simp [WJ,Ř,h]
def sC (h:iL l) (GD:a<b) (hb:b<l.length):l.getD a 0<l.getD b 0:=by
 have:=List.pairwise_iff_getElem.mp h a b (by omega) hb GD;simpa [Ř,Ë hb,Ë (show a<l.length by omega)] using this
def Li (l:List Nat) (hk:k<l.length) (d e:Nat):l.getD k d=l.getD k e:=by
 simp [Ř,Ë hk]
theorem wq (xs:Array Nat) (j:Nat) (hr:iL xs.toList):∀(fuel lo hi:Nat),hi-lo<=fuel->lo<=hi->hi<=xs.toList.length->(∀k,k<lo->xs.toList.getD k 0<j)->(∀k,hi<=k->k<xs.toList.length->j<=xs.toList.getD k 0) ->
  VR xs j fuel lo hi<=xs.toList.length/\(∀k,k<VR xs j fuel lo hi->xs.toList.getD k 0<j)/\(∀k,VR xs j fuel lo hi<=k->k<xs.toList.length->j<=xs.toList.getD k 0)
 |0,lo,hi,S,R,Z,Y,X=>by
  have e:lo=hi:=by omega
  subst e;exact ⟨Z,Y,X⟩
 |fuel+1,lo,hi,S,R,Z,Y,X=>by
  unfold VR;by_cases U:lo<hi
  ·rw [ä U]
   dsimp only;have T:(lo+hi) / 2<xs.toList.length:=by omega
   rw [Lh,Li _ T j 0];by_cases W:xs.toList.getD ((lo+hi) / 2) 0<j
   ·rw [ä W]
    refine wq xs j hr fuel _ _ (by omega) (by omega) Z (fun k Q=>?_) X;by_cases V:k=(lo+hi) / 2
    ·rw [V];exact W
    ·exact Nat.lt_trans (sC hr (by omega) T) W
   ·rw [í W]
    refine wq xs j hr fuel _ _ (by omega) (by omega) (by omega) Y (fun k Q V=>?_);by_cases P:k=(lo+hi) / 2
    ·rw [P];omega
    ·have:=sC hr (show (lo+hi) / 2<k by omega) V
     omega
  ·rw [í U]
   have e:lo=hi:=by omega
   subst e;exact ⟨Z,Y,X⟩
def Bu (xs:Array Nat) (j:Nat) (hr:iL xs.toList):ā xs j<=xs.toList.length/\(∀k,k<ā xs j->xs.toList.getD k 0<j)/\(∀k,ā xs j<=k->k<xs.toList.length->j<=xs.toList.getD k 0):=by
 unfold ā;exact wq xs j hr xs.size 0 xs.size (by omega) (Ć _) (by simp) (fun k Z=>by omega) (fun k Z Y=>by simp at Y;omega)
def Io {l:List Nat} {p j:Nat} (h:∀k,k<p->l.getD k 0<j):∀x∈l.take p,x<j:=by
 intro x Y;obtain ⟨k,X,e⟩:=ο Y;have Z:k<p/\k<l.length:=by rw [Wa] at X;omega
 have:=h k Z.1;rw [List.getElem_take] at e;rw [<- e];simpa [Ř,Ë Z.2] using this
def Ip {l:List Nat} {p j:Nat} (h:∀k,p<=k->k<l.length->j<=l.getD k 0):∀x∈l.drop p,j<=x:=by
 intro x Y;obtain ⟨k,X,e⟩:=ο Y;have Z:p+k<l.length:=by rw [List.length_drop] at X;omega
 have:=h (p+k) (by omega) Z;rw [List.getElem_drop] at e;rw [<- e];simpa [Ř,Ë Z] using this
def Lj {xs:Array Nat} {j:Nat} (hr:iL xs.toList) (hn:xs[ā xs j]?≠some j):iL (SetTable.insertAt xs (ā xs j) j).toList:=by
 obtain ⟨T,V,U⟩:=Bu xs j hr;rw [SetTable.toList_insertAt];have a1:=Io V;have a2:∀x∈xs.toList.drop (ā xs j),j<x:=by
  intro x hx;have Y:=Ip U;have X:iL (xs.toList.drop (ā xs j)):=V4 (List.drop_sublist _ _) hr
  cases Z:xs.toList.drop (ā xs j) with
  |nil=>rw [Z] at hx;cases hx
  |cons y r =>
   rw [Z] at X hx Y;have hy:j≠y:=by
    intro e;apply hn;have:(xs.toList.drop (ā xs j))[0]?=some y:=by rw [Z];rfl
    rw [List.getElem?_drop] at this;have e2:xs.toList[ā xs j]?=some y:=by simpa using this
    rw [<- ĥ,e2,e]
   have W:j<y:=Nat.lt_of_le_of_ne (Y y Ö) hy
   rcases Ð.mp hx with e|hx
   ·rw [e];exact W
   ·exact Nat.lt_trans W ((ü.mp X).1 x hx)
 first
  |(refine List.pairwise_append.mpr ⟨V4 (List.take_sublist _ _) hr,ü.mpr ⟨a2,V4 (List.drop_sublist _ _) hr⟩,fun x hx y hy=>?_⟩
    rcases Ð.mp hy with e|hy
    ·rw [e];exact a1 x hx
    ·exact Nat.lt_trans (a1 x hx) (a2 y hy))
  |trace_state
theorem wu (t:SetTable) (h:Int):∀(fuel:Nat) (p:SetTable.Probe) (j:Nat) (dm:Option Nat),(∀d,p.dummy=some d->t.slot d=.dummy)->WK t (fun _=>h+1) h fuel p=some (.empty j dm)->t.slot j=.empty/\∀d,dm=some d->t.slot d=.dummy
 |0,p,j,dm,Y,e=>by simp [WK] at e
 |fuel+1,p,j,dm,Y,e=>by
  unfold WK at e
  cases hs:t.slot p.j with
  |empty =>
   rw [hs] at e;simp at e;rw [<- e.1,<- e.2];exact ⟨hs,Y⟩
  |dummy =>
   rw [hs] at e;refine wu t h fuel _ j dm (fun d Z=>?_) e;unfold SetTable.advance at Z;split at Z
   ·simp at Z;rw [<- Z];exact hs
   ·simp at Z;rw [<- Z];exact hs
  |live i =>
   rw [hs] at e;have X:(h+1==h)=false:=by simp;omega
   simp only [X,É,ĉ] at e;refine wu t h fuel _ j dm (fun d Z=>?_) e;unfold SetTable.advance at Z;split at Z
   ·exact Y d Z
   ·exact Y d Z
def BM {t:SetTable} {j:Nat} (h:t.slot j=.empty\/t.slot j=.dummy):t.place[ā t.place j]?≠some j:=by
 intro e;have:t.slot j=.live (ā t.place j):=by
  unfold SetTable.slot;simp [e]
 rw [this] at h
 rcases h with h|h<;>cases h
def J3 {t:SetTable} {h:Int} {j:Nat} {b:Bool} (e:t.freeSlot h=some (j,b)):t.place[ā t.place j]?≠some j:=by
 unfold SetTable.freeSlot SetTable.probe at e;split at e
 ·rename_i Y Z X
  have k:=wu t h _ _ Y Z (fun d W=>by simp [SetTable.probeStart] at W) X;simp at e;rw [<- e.1]
  cases Z with
  |none=>exact BM (.inl k.1)
  |some d=>exact BM (.inr (k.2 d rfl))
 ·cases e
structure gj (led:Bool) (t:SetTable):Prop where
 led:t.led=led
 rise:t.plain=true->iL t.place.toList
def rS (h:gj led t) (n:Nat):gj led (t.standIn n):=⟨h.led,fun z=>by simp [SetTable.standIn] at z⟩
def Jf {led:Bool} {t:SetTable} (h:gj led t) (es:Array (Int×Ä)) (hs:Int) (x:Ä):gj led (layNew t es hs x).2.1:=by
 unfold layNew;split
 ·rename_i slot Y e
  dsimp only;unfold SetTable.orStandIn;have Z:gj led (t.put slot).1:=⟨h.led,fun z=>Lj (h.rise z) (J3 e)⟩;split
  ·exact Z
  ·exact rS Z _
 ·exact rS h _
def Lk {mask finger moves:Nat} {led plain:Bool} {hs:Array Int} {o:Array Nat} (e:SetTable.laid mask finger moves led plain hs=some (t,o)):gj led t/\t.plain=plain:=by
 unfold SetTable.laid at e
 cases X:SetTable.layClean mask hs with
 |none=>rw [X] at e;simp at e
 |some owner =>
  rw [X] at e;simp at e;obtain ⟨e1,e2⟩:=e;subst e1;refine ⟨⟨rfl,fun _=>?_⟩,rfl⟩;show iL (V5 _).toList;simp only [List.map_filterMap];refine List.pairwise_filterMap.mpr ?_;refine List.Pairwise.imp (R:=(· < ·)) ?_ (List.pairwise_lt_range);intro a b U x Z y Y
  cases W:(owner[a]?.getD none) with
  |none=>rw [W] at Z;simp at Z
  |some q =>
   cases V:(owner[b]?.getD none) with
   |none=>rw [V] at Y;simp at Y
   |some r =>
    rw [W] at Z;rw [V] at Y;simp at Z Y;omega
def J4 (h:gj led t) (es:Array (Int×Ä)) (n:Nat):gj led (relayAll t es n).2.1:=by
 unfold relayAll;split
 ·rename_i Z o e
  dsimp only;split
  ·unfold SetTable.relaid at e
   have k:=Lk e;exact ⟨k.1.led.trans h.led,k.1.rise⟩
  ·exact rS h _
 ·exact rS h _
def BN (led:Bool):gj led (.fresh 0 0 led):=⟨rfl,fun _=>List.Pairwise.nil⟩
open PySem.Spec PyProof.Rows
section
variable {P:ß} {w:ú} {A:æ} {E:Ä->Ã->Prop} {s:Ã} {led:Bool}
def dO (P:ß) (w:ú) (led:Bool) (h:ħ) (a:Ø) (S:Int->Bool) (n:Nat):Prop :=
 ∃o Z Y t,h.get? a=some o/\o.ExactSet/\o.data=.set Z Y t/\ElemsOf (ņ P w) Z.toList/\(∀k,S k=true↔∃e∈Z.toList,(ņ P w).is k e.2=true)/\Z.size<ş/\t.fits Z.size=true/\Z.size=n/\gj led t
def dO.at (x:dO P w led h a S n) (k:∀o,h.get? a=some o->h'.get? a=some o):dO P w led h' a S n:=by
 obtain ⟨o,Z,Y,t,X,r⟩:=x;exact ⟨o,Z,Y,t,k o X,r⟩
def dO.congr (x:dO P w led h a S n) (e:∀k,S k=S' k) (en:n=n'):dO P w led h a S' n':=by
 obtain rfl:S=S':=funext e;subst en;exact x
def wx {a:Ø} {u:Obj} {es fP:Array (Int×Ä)} {ep:Nat} {t t':SetTable} {h:ħ} (hu:h.get? a=some u) (hx:u.ExactSet) (hd:u.data=.set es ep t) {S:Int->Bool}
  (c1:ElemsOf (ņ P w) fP.toList) (c2:∀k,S k=true↔∃e∈fP.toList,(ņ P w).is k e.2=true) (c3:fP.size<ş) (c4:t'.fits fP.size=true) (c5:gj led t') :
  (h.update a (Obj.putSet fP t')).get? a=some { u with data:=.set fP (ep+1) t' }/\dO P w led (h.update a (Obj.putSet fP t')) a S fP.size:=by
 have g:=(SetOf_store (knd:=ņ P w) hu hx hd c1 c2 c3 c4).1;exact ⟨g,_,fP,ep+1,t',g,hx,rfl,c1,c2,c3,c4,rfl,c5⟩
def MK {a:Ø} {S:Int->Bool} {n:Nat} {k:Int} {tk:Tok} {Q:Bool->Ã->Prop} (hS:dO P w led s.heap a S n) (PV:n+1<ş)
  (h:∀h',Į a s.heap h'->dO P w led h' a (fun j=>S j||decide (j=k)) (if S k then n else n+1)->Q (!S k) { s with heap:=h' }) :
  Ù (à P w) A (setAddHashed a (.int k tk) ((ņ P w).hash k)) Q E s:=by
 obtain ⟨u,W,d,t,R,H,O,G,F,m,B,y,i⟩:=hS;have ky:(ņ P w).is k (.int k tk)=true:=intKind_is _ _ _ _;have sc:(WG k tk).scannable=true:=rfl;have qX:W.size+1<ş:=by rw [y];exact PV
 unfold setAddHashed setAddHashedIn;refine Ĕ ?_;refine À (ř R O B ?_);dsimp only;rw [byScan_of sc m G,ä rfl];unfold setAddByScan;refine À (À (ŋ ?_));refine À (wpAny_setScan_of ky R O B G ?_)
 cases g:W.toList.findIdx? (fun e=>(ņ P w).is k e.2) with
 |some j =>
  dsimp only;obtain ⟨c,pj,_⟩:=List.findIdx?_eq_some_iff_getElem.mp g;have K:S k=true:=(F k).mpr ⟨W.toList[j],Wb c,pj⟩;have q:=h s.heap (Heap.SameBut.refl a s.heap) ⟨u,W,d,t,R,H,O,G,fun j'=>by
   rw [Bool.or_eq_true,Ü,<- F j'];exact ⟨fun z=>z.elim id fun e=>by rw [e];exact K,Wy⟩,m,B,by rw [K];exact y,i⟩
  rw [K] at q;exact Â (Â q)
 |none =>
  dsimp only;have K:S k=false:=by
   rw [<- ι,F k];rintro ⟨e,X,pe⟩;have z:=List.findIdx?_eq_none_iff.mp g e X;rw [pe] at z;cases z
  have way:∀(b:Bool) {x:Ã} {v:Unit->Ã->Prop},v () x->Ù (à P w) A (match b with|true=>rule "set.scan.the-table-gave-way"|false=>pure ()) v E x :=
   fun b x v q=>by cases b<;>first|exact Â q|exact ŋ q
  have pm:=layNew_perm t W ((ņ P w).hash k) (.int k tk);have r:=layNew_fits t W ((ņ P w).hash k) (.int k tk);have D:=Jf i W ((ņ P w).hash k) (.int k tk);generalize layNew t W ((ņ P w).hash k) (.int k tk)=L at pm r D |-;obtain ⟨Z,t1,UY,U3⟩:=L;dsimp only at pm r D |-;rw [VS] at pm;have p:ElemsOf (ņ P w) Z.toList:=(G.push ky sc).perm pm;have o:∀j,(S j||decide (j=k))=true↔∃e∈Z.toList,(ņ P w).is j e.2=true:=mem_push_iff ky F pm;have z1:Z.size=n+1:=by
   have l:=pm.length_eq;rw [Ý,î,î,y] at l;exact l
  have V:Z.size<ş:=by omega
  refine À (way _ ?_);obtain ⟨g1,f⟩:=wx (S:=fun j=>S j||decide (j=k)) R H O p o V r D;have C:=ĕ s.heap a (Obj.putSet Z t1)
  have fin:∀h',Į a s.heap h'->dO P w led h' a (fun j=>S j||decide (j=k)) Z.size->Q true { s with heap:=h' }:=fun h' sb T=>by
   have q:=h h' sb;rw [K] at q;rw [z1] at T;exact q T
  have Y:=relayAll_perm t1 Z (VZ Z.size);have N:=relayAll_fits t1 Z (VZ Z.size);have M:=J4 D Z (VZ Z.size);have hv:hashByValue 8 (WG k tk)=pure true:=rfl;split
  ·refine À ?_
   rw [hv];refine Â ?_;simp only [Ċ];refine À (VT R O ?_ (Ŵ V));split
   ·generalize relayAll t1 Z (VZ Z.size)=L2 at Y N M |-
    obtain ⟨J,t2,PX⟩:=L2;dsimp only at Y N M |-;have U:J.size=Z.size:=by
     have l:=Y.length_eq;rwa [î,î] at l
    have f2:∀j,(S j||decide (j=k))=true↔∃e∈J.toList,(ņ P w).is j e.2=true:=fun j=>(o j).trans ⟨fun ⟨e,X,q⟩=>⟨e,Y.mem_iff.mpr X,q⟩,fun ⟨e,X,q⟩=>⟨e,Y.mem_iff.mp X,q⟩⟩;refine À (way _ ?_);refine À (VT g1 rfl ?_ (Ŵ (by rw [U];exact V)));obtain ⟨g2,I⟩:=wx (S:=fun j=>S j||decide (j=k)) (led:=led) g1 H rfl (p.perm Y) f2 (by rw [U];exact V) N M;rw [U] at I;exact Â (Â (fin _ (C.trans (ĕ _ a _)) I))
   ·exact Â (Â (fin _ C f))
  ·refine À (Â ?_)
   simp only [Ċ];refine À (VT R O ?_ (Ŵ V));split
   ·generalize relayAll t1 Z (VZ Z.size)=L2 at Y N M |-
    obtain ⟨J,t2,PX⟩:=L2;dsimp only at Y N M |-;have U:J.size=Z.size:=by
     have l:=Y.length_eq;rwa [î,î] at l
    have f2:∀j,(S j||decide (j=k))=true↔∃e∈J.toList,(ņ P w).is j e.2=true:=fun j=>(o j).trans ⟨fun ⟨e,X,q⟩=>⟨e,Y.mem_iff.mpr X,q⟩,fun ⟨e,X,q⟩=>⟨e,Y.mem_iff.mp X,q⟩⟩;refine À (way _ ?_);refine À (VT g1 rfl ?_ (Ŵ (by rw [U];exact V)));obtain ⟨g2,I⟩:=wx (S:=fun j=>S j||decide (j=k)) (led:=led) g1 H rfl (p.perm Y) f2 (by rw [U];exact V) N M;rw [U] at I;exact Â (Â (fin _ (C.trans (ĕ _ a _)) I))
   ·exact Â (Â (fin _ C f))
end
def HC:entryFor table "set.__iter__"=some œ.«frozenset.__iter__»:=entryFor_alias (id':="frozenset.__iter__") (by kernel_rfl) rfl (by decide +kernel) (by kernel_rfl)
def iu:Slot "set_iterator" "__next__" "set_iterator.__next__" :=
 .of (owner:="set_iterator") (n:="__next__") (by rw [typeLookup_type,builtinLookup_eq_fast];kernel_rfl) (by decide +kernel) (by decide +kernel) (by decide +kernel)
  (by first|exact .inl (by decide +kernel)|exact .inr (by decide +kernel)) (by rw [isSubtype_type];kernel_rfl)
def rN:entryFor table "set_iterator.__next__"=some œ.«set_iterator.__next__»:=entryFor_of_tree (by kernel_rfl)
def rQ (a:Ä):argsOk "set_iterator.__next__" ⟨[a],[]⟩:=by unfold argsOk;kernel_rfl
def Bc:Slot "set_iterator" "__iter__" "set_iterator.__iter__" :=
 .of (owner:="set_iterator") (n:="__iter__") (by rw [typeLookup_type,builtinLookup_eq_fast];kernel_rfl) (by decide +kernel) (by decide +kernel) (by decide +kernel)
  (by first|exact .inl (by decide +kernel)|exact .inr (by decide +kernel)) (by rw [isSubtype_type];kernel_rfl)
def gJ (h:ħ) (I a:Ø) (first:Ä) (i n ep:Nat):Prop:=∃o,h.get? I=some o/\o.cls=.type "set_iterator"/\o.data=.fields #[first,.int i 0,.ref a,.int n 0,.int ep 0]
section
variable {P:ß} {w:ú} {A:æ} {E:Ä->Ã->Prop} {s:Ã}
def CI {slot i n ep nx:Nat} {es:Array (Int×Ä)} {Q:Option Ä->Ã->Prop} (hit:gJ s.heap I a (.int slot 0) i n ep)
 (hu:s.heap.get? a=some u) (hd:u.data=.set es ep t) (hf:t.fits es.size=true) (hn:es.size=n)
 (hs:∀(A':æ) (Q':Option (Ä×Nat)->Ã->Prop) (E':Ä->Ã->Prop),Q' (some (x,nx)) s->Ù (à P w) A' (setNext a slot i ep) Q' E' s)
 (hQ:∀h',gJ h' I a (.int nx 0) (i+1) n ep->Į I s.heap h'->Q (some x) { s with heap:=h' }):Ù (à P w) A (υ (.ref I)) Q E s:=by
 obtain ⟨o,Y,X,Z⟩:=id hit;have W:s.TypeIs (.ref I) "set_iterator":=⟨o,Y,X⟩;unfold υ;refine À (ś (Ā (name:=đ "__next__") W iu
  (þ iu W rN ?_ (rQ _))))
 unfold œ.«set_iterator.__next__» slotArgs;simp only [μ,Ő,É,↓reduceIte,bind_assoc,õ,ć];refine À (Â ?_);refine À (wpAny_fieldsOf Y Z ?_);dsimp only;refine À (Ŝ hu hd hf ?_);rw [hn];simp only [ć,É,↓reduceIte,ĳ];refine À (hs _ _ _ ?_);dsimp only;refine À (ţ Y Z (by simp) ?_);refine À (ţ (Ē _ Y (ĸ (Ą Z _))) (Ą Z _) (by simp) ?_);refine Â ⟨x,rfl,Â (hQ _ ⟨_,Ē _ (Ē _ Y (ĸ (Ą Z _))) (ĸ (Ą (Ą Z _) _)),(VQ ..).trans ((VQ ..).trans X),?_⟩ ((ĕ ..).trans (ĕ ..)))⟩;rw [Ą (Ą Z _)];simp [ź]
def Jg (hm:m≠0) (h:Q (w.draws src (s.drawn.get src) % m) { s with drawn:=s.drawn.bump src }):Ù (à P w) A (choose src m) Q E s:=fun Z p Y=>by
 unfold choose;rw [Sem.wp_choose];exact ⟨hm,h⟩
def BO (hh:A.handled=none) (ho:s.heap.get? I=some o) (cZ:o.data=.fields vs) (h2:2<vs.size)
 (hQ:∀h',VP I s.heap h'->Q none { s with heap:=h' }) :
  Ù (à P w) A.in1 (setField (.ref I) 2 .none >>= fun _=>newExc (.type "StopIteration") [] >>= fun e=>(raiseNew e:Sem Fin)) (fun fin s'=>∃v,fin=Fin.done (Flow.ret v)/\Ù (à P w) A (pure (some v)) Q E s')
   (fun e s'=>Ù (à P w) A (isInstance e (Ů "StopIteration") >>= fun b=>if b=true then pure none else throw e) Q E s') s:=by
 refine À (ţ ho cZ h2 ?_);refine À ?_;simp only [newExc,newTuple];refine À (ò ?_ (by size_fits))
 refine À (m:=firstArgMember _ _) (wpAny_of_eq (a:=Value.none) (by first|rfl | (simp only [firstArgMember];rfl)) ?_)
 refine ò ?_ (by size_fits);simp only [raiseNew];refine À (wpAny_handled ?_)
 first|rw [show A.in1.handled=none from hh]|rw [hh]
 refine À (Â (wpAny_throw ?_));refine À (We (T:="StopIteration") (b:=true) ⟨_,Ï _ rfl,rfl⟩ isSubtype_stop ?_);exact Â (hQ _ (((ĕ ..).extBut.push _).push _))
def DM {slot i n ep:Nat} {es:Array (Int×Ä)} {Q:Option Ä->Ã->Prop} (hh:A.handled=none) (hit:gJ s.heap I a (.int slot 0) i n ep)
 (hu:s.heap.get? a=some u) (hd:u.data=.set es ep t) (hf:t.fits es.size=true) (hn:es.size=n)
 (hs:∀(A':æ) (Q':Option (Ä×Nat)->Ã->Prop) (E':Ä->Ã->Prop),Q' none s->Ù (à P w) A' (setNext a slot i ep) Q' E' s)
 (hQ:∀h',VP I s.heap h'->Q none { s with heap:=h' }):Ù (à P w) A (υ (.ref I)) Q E s:=by
 obtain ⟨o,Z,W,Y⟩:=id hit;have X:s.TypeIs (.ref I) "set_iterator":=⟨o,Z,W⟩;unfold υ;refine À (ś (Ā (name:=đ "__next__") X iu
  (þ iu X rN ?_ (rQ _))))
 unfold œ.«set_iterator.__next__» slotArgs;simp only [μ,Ő,É,↓reduceIte,bind_assoc,õ,ć];refine À (Â ?_);refine À (wpAny_fieldsOf Z Y ?_);dsimp only;refine À (Ŝ hu hd hf ?_);rw [hn];simp only [ć,É,↓reduceIte,ĳ];refine À (hs _ _ _ ?_);dsimp only;exact BO hh Z Y (by simp) hQ
def Ll {i n ep pl:Nat} {es:Array (Int×Ä)} {x:Int×Ä} {Q:Option Ä->Ã->Prop} (hit:gJ s.heap I a (.ref tp) i n ep)
 (hu:s.heap.get? a=some u) (hd:u.data=.set es ep t) (hf:t.fits es.size=true) (hn:es.size=n) (qZ:s.heap.IsTuple tp places) (bu:places[i]?=some (.int pl tk)) (hx:es[pl]?=some x)
 (hQ:∀h',gJ h' I a (.ref tp) (i+1) n ep->Į I s.heap h'->Q (some x.2) { s with heap:=h' }):Ù (à P w) A (υ (.ref I)) Q E s:=by
 obtain ⟨o,Z,X,Y⟩:=id hit;obtain ⟨op,V,T,np,U⟩:=qZ;have W:s.TypeIs (.ref I) "set_iterator":=⟨o,Z,X⟩;unfold υ;refine À (ś (Ā (name:=đ "__next__") W iu
  (þ iu W rN ?_ (rQ _))))
 unfold œ.«set_iterator.__next__» slotArgs;simp only [μ,Ő,É,↓reduceIte,bind_assoc,õ,ć];refine À (Â ?_);refine À (wpAny_fieldsOf Z Y ?_);dsimp only;refine À (Ŝ hu hd hf ?_);rw [hn];simp only [ć,É,↓reduceIte,ĳ];refine À (Ġ V U ?_);dsimp only;rw [bu];dsimp only;unfold setNextDrawn;refine À (À (ř hu hd hf ?_));dsimp only;simp only [ć,É,↓reduceIte,ĳ];rw [hx];dsimp only;refine Â ?_;refine À (ţ Z Y (by simp) ?_);refine Â ⟨x.2,rfl,Â (hQ _ ⟨_,Ē _ Z (ĸ (Ą Y _)),(VQ ..).trans X,?_⟩ (ĕ ..))⟩;rw [Ą Y];simp [ź]
def ML (hh:A.handled=none) (hit:gJ s.heap I a (.ref tp) i n ep)
 (hu:s.heap.get? a=some u) (hd:u.data=.set es ep t) (hf:t.fits es.size=true) (hn:es.size=n) (qZ:s.heap.IsTuple tp places) (bu:places[i]?=none)
 (hQ:∀h',VP I s.heap h'->Q none { s with heap:=h' }):Ù (à P w) A (υ (.ref I)) Q E s:=by
 obtain ⟨o,Z,W,Y⟩:=id hit;obtain ⟨op,V,T,np,U⟩:=qZ;have X:s.TypeIs (.ref I) "set_iterator":=⟨o,Z,W⟩;unfold υ;refine À (ś (Ā (name:=đ "__next__") X iu
  (þ iu X rN ?_ (rQ _))))
 unfold œ.«set_iterator.__next__» slotArgs;simp only [μ,Ő,É,↓reduceIte,bind_assoc,õ,ć];refine À (Â ?_);refine À (wpAny_fieldsOf Z Y ?_);dsimp only;refine À (Ŝ hu hd hf ?_);rw [hn];simp only [ć,É,↓reduceIte,ĳ];refine À (Ġ V U ?_);dsimp only;rw [bu];dsimp only;refine À (ţ Z Y (by simp) ?_)
 exact BO (s:={ s with heap:=_ }) hh (Ē _ Z (ĸ (Ą Y _))) (Ą Y _) (by simp) fun h' e=>hQ h' (Heap.ExtBut.trans (ĕ ..).extBut e)
end
def HJ:entryFor table "set_iterator.__iter__"=some œ.«dict_keyiterator.__iter__»:=entryFor_alias (id':="dict_keyiterator.__iter__") (by kernel_rfl) rfl (by decide +kernel) (by kernel_rfl)
def HU (a:Ä):argsOk "set_iterator.__iter__" ⟨[a],[]⟩:=by unfold argsOk;kernel_rfl
section
variable {P:ß} {w:ú} {A:æ} {E:Ä->Ã->Prop} {s:Ã}
def wy (hit:gJ s.heap I a f i n ep) (h:Q (.ref I) s):Ù (à P w) A (pyIter (.ref I)) Q E s:=by
 obtain ⟨o,Y,X,W⟩:=id hit;have Z:s.TypeIs (.ref I) "set_iterator":=⟨o,Y,X⟩;refine wpAny_pyIter_slot Z Bc (þ Bc Z HJ ?_ (HU _));show Ù _ _ (ret (.ref I)) _ _ s;exact Â ⟨_,rfl,"set_iterator",_,Z,iu.lookup,h⟩
def gJ.at (x:gJ h I a f i n ep) (k:∀o,h.get? I=some o->h'.get? I=some o):gJ h' I a f i n ep:=by
 obtain ⟨o,Z,r⟩:=x;exact ⟨o,k o Z,r⟩
def BP (fT:w.params.followText "set-order"=true) (hu:s.heap.get? a=some u) (hd:u.data=.set es ep t) (hf:t.fits es.size=true)
 (h:Q' (((Š (w.params.setOrder a ep) es)[i]?).map fun e=>(e.2,slot)) s):Ù (à P w) A (setNext a slot i ep) Q' E s:=by
 unfold setNext;refine À (ř hu hd hf ?_);dsimp only;unfold setsByText;refine À (À (Ō (Â ?_)))
 show Ù _ _ (if w.params.followText "set-order"=true then _ else _) _ _ _
 rw [ä fT];simp only [ć,É,↓reduceIte];unfold setWalk;refine À (À (ř hu hd hf ?_));dsimp only;unfold setsByText;refine À (À (Ō (Â ?_)))
 show Ù _ _ (if w.params.followText "set-order"=true then _ else _) _ _ _
 rw [ä fT];refine À (Ō (Â ?_));exact Â h
def si (hr:iL xs.toList) (hi:i<=xs.toList.length) (h1:∀k,k<i->xs.toList.getD k 0<slot) (h2:∀k,i<=k->k<xs.toList.length->slot<=xs.toList.getD k 0):ā xs slot=i:=by
 obtain ⟨V,a1,a2⟩:=Bu xs slot hr;by_cases Z:ā xs slot<i
 ·have Y:=a2 _ (WV _) (by omega)
  have X:=h1 _ Z;omega
 ·by_cases W:i<ā xs slot
  ·have Y:=a1 i W
   have X:=h2 i (WV _) (by omega);omega
  ·omega
def Bv (fT:w.params.followText "set-order"=false) (hu:s.heap.get? a=some u) (hd:u.data=.set es ep t) (hf:t.fits es.size=true)
 (hl:t.led=true) (hp:t.plain=true\/es.size<=1) (hb:ā t.place slot=i)
 (h:Q' (match es[i]?,t.place[i]? with|some (_,x),some j=>some (x,j+1) | _,_=>none) s):Ù (à P w) A (setNext a slot i ep) Q' E s:=by
 unfold setNext;refine À (ř hu hd hf ?_);dsimp only;unfold setsByText;refine À (À (Ō (Â ?_)))
 show Ù _ _ (if w.params.followText "set-order"=true then _ else _) _ _ _
 rw [í (by rw [fT];decide)];split
 ·rename_i Y
  have Z:(!t.plain&&decide (es.size > 1))=true:=Y
  rcases hp with hp|hp
  ·rw [hp] at Z;cases Z
  ·simp at Z;omega
 ·refine À ?_
  show Ù _ _ (if (!t.led&&!es.isEmpty)=true then _ else _) _ _ _
  rw [hl];simp only [Ő,Bool.false_and,É,↓reduceIte];refine Â ?_;rw [hb];exact Â h
def vp (sb:Į I s.heap h'):Moved [I] (fun a b=>b=a) s { s with heap:=h' }:=⟨fun b o Z e=>by rw [sb.2 b (fun z=>Z (by simp [z]))];exact e,rfl,rfl,rfl,WV _⟩
def vw (sb:VP I s.heap h'):Moved [I] (fun a b=>b=a) s { s with heap:=h' }:=⟨fun b o Z e=>sb b o (fun z=>Z (by simp [z])) e,rfl,rfl,rfl,WV _⟩
end
def Jh (hh:A.handled=none) (dU:a≠I) (fT:w.params.followText "set-order"=true) (hd:u.data=.set es ep t) (hf:t.fits es.size=true) (hsz:(Š (w.params.setOrder a ep) es).size=es.size) :
  WalksS P w A I [I,a] [I] (fun a b=>b=a) es.size (fun i v=>((Š (w.params.setOrder a ep) es).map (·.2))[i]?=some v) (fun i s=>gJ s.heap I a (.int 0 0) i es.size ep/\s.heap.get? a=some u) where
 sub:=fun b W=>by simp at W;simp [W]
 grefl:=fun _=>rfl
 gtrans:=fun _ _ _ T S=>S.trans T
 frame:=fun i s V L Z _ U=>⟨Z.1.at fun o e=>U I (by simp) o e,U a (by simp) _ Z.2⟩
 item:=fun i s Q E hi Z Y=>by
  have R:i<(Š (w.params.setOrder a ep) es).size:=by rw [hsz];exact hi
  have ex:(Š (w.params.setOrder a ep) es)[i]?=some (Š (w.params.setOrder a ep) es)[i]:=by simp [R]
  refine CI (nx:=0) (x:=(Š (w.params.setOrder a ep) es)[i].2) (slot:=0) Z.1 Z.2 hd hf rfl (fun O N M q=>BP fT Z.2 hd hf (by rw [ex];exact q)) fun V it X=>?_;exact Y _ _ (by simp [ex]) ⟨it,by rw [X.2 a dU];exact Z.2⟩ (vp X)
 done:=fun s Q E Z Y=>by
  refine DM (slot:=0) hh Z.1 Z.2 hd hf rfl (fun O N M q=>BP fT Z.2 hd hf (by
   rw [show (Š (w.params.setOrder a ep) es)[es.size]?=none by simp [hsz]];exact q)) fun V X=>Y _ (vw X)
 self:=fun i s Q E Z Y=>wy Z.1 Y
def Iq (hh:A.handled=none) (dU:a≠I) (fT:w.params.followText "set-order"=false) (hd:u.data=.set es ep t) (hf:t.fits es.size=true) (hl:t.led=true) (hp:t.plain=true\/es.size<=1) (hr:iL t.place.toList) :
  WalksS P w A I [I,a] [I] (fun a b=>b=a) es.size (fun i v=>(es.map (·.2))[i]?=some v) (fun i s=>∃slot:Nat,gJ s.heap I a (.int slot 0) i es.size ep/\s.heap.get? a=some u/\i<=es.size/\(∀k,k<i->t.place.toList.getD k 0<slot)/\∀k,i<=k->k<t.place.toList.length->slot<=t.place.toList.getD k 0) where
 sub:=fun b N=>by simp at N;simp [N]
 grefl:=fun _=>rfl
 gtrans:=fun _ _ _ L K=>K.trans L
 frame:=fun i s M B Y _ V=>by
  obtain ⟨slot,X,Z,T⟩:=Y;exact ⟨slot,X.at fun o e=>V I (by simp) o e,V a (by simp) _ Z,T⟩
 item:=fun i s Q E hi Y W=>by
  obtain ⟨slot,X,Z,T,S,R⟩:=Y;have J:t.place.toList.length=es.size:=by
   simp only [SetTable.fits,È,beq_iff_eq,Ü] at hf;simpa using hf.1
  have O:i<t.place.toList.length:=by omega
  have e1:es[i]?=some es[i]:=by simp [hi]
  have e2:t.place[i]?=some (t.place.toList.getD i 0):=by
   rw [<- ĥ,Ë O];simp [Ř,Ë O]
  refine CI (nx:=t.place.toList.getD i 0+1) (x:=es[i].2) (slot:=slot) X Z hd hf rfl (fun H G F q=>Bv fT Z hd hf hl hp (si hr (by omega) S R) (by rw [e1,e2];exact q)) fun M it U=>?_;refine W _ _ (by simp [e1]) ⟨_,it,by rw [U.2 a dU];exact Z,hi,fun k V=>?_,fun k V D=>?_⟩ (vp U)
  ·by_cases C:k=i
   ·rw [C];omega
   ·have:=sC hr (show k<i by omega) O
    omega
  ·have:=sC hr (show i<k by omega) D
   omega
 done:=fun s Q E Y W=>by
  obtain ⟨slot,X,Z,T,S,R⟩:=Y;have J:t.place.toList.length=es.size:=by
   simp only [SetTable.fits,È,beq_iff_eq,Ü] at hf;simpa using hf.1
  refine DM (slot:=slot) hh X Z hd hf rfl (fun H G F q=>Bv fT Z hd hf hl hp (si hr (by omega) S R) (by
   rw [show es[es.size]?=none by simp];exact q)) fun M U=>W _ (vw U)
 self:=fun i s Q E Y W=>by
  obtain ⟨slot,X,_⟩:=Y;exact wy X W
def Ir (hh:A.handled=none) (dU:a≠I) (Sv:tp≠I) (hd:u.data=.set es ep t) (hf:t.fits es.size=true) (pl:List Nat) (bu:pl.length=es.size) (zk:∀x∈pl,x<es.size) :
  WalksS P w A I [I,a,tp] [I] (fun a b=>b=a) es.size (fun i v=>(pl.map fun k=>(es.getD k (0,Value.none)).2)[i]?=some v) (fun i s=>gJ s.heap I a (.ref tp) i es.size ep/\s.heap.get? a=some u/\s.heap.IsTuple tp (pl.map fun (k:Nat)=>ź k).toArray) where
 sub:=fun b U=>by simp at U;simp [U]
 grefl:=fun _=>rfl
 gtrans:=fun _ _ _ R O=>O.trans R
 frame:=fun i s T tk Z _ Y=>⟨Z.1.at fun o e=>Y I (by simp) o e,Y a (by simp) _ Z.2.1,let ⟨o,V,r⟩:=Z.2.2;⟨o,Y tp (by simp) o V,r⟩⟩
 item:=fun i s Q E hi Z X=>by
  have S:i<pl.length:=by omega
  have e1:pl[i]?=some pl[i]:=Ë S;have Y:=zk _ (Wb S);refine Ll (pl:=pl[i]) (x:=es.getD pl[i] (0,Value.none)) (tk:=0) Z.1 Z.2.1 hd hf rfl Z.2.2 (by simp [e1,ź]) (by simp [Y,WJ]) fun T it W=>?_
  refine X _ _ (by simp [e1]) ⟨it,by rw [W.2 a dU];exact Z.2.1,let ⟨o,V,r⟩:=Z.2.2;⟨o,by rw [W.2 tp Sv];exact V,r⟩⟩ (vp W)
 done:=fun s Q E Z X=>ML hh Z.1 Z.2.1 hd hf rfl Z.2.2 (by simp [bu]) fun T W=>X _ (vw W)
 self:=fun i s Q E Z X=>wy Z.1 X
noncomputable def bP (w:ú):Bool:=!(w.params.followText "set-order")
section
variable {P:ß} {w:ú} {A:æ} {E:Ä->Ã->Prop} {s:Ã}
def B9 (a:Ä)
 (hq:Q₁ (.ref s.heap.objs.size) { s with heap:=s.heap.push { cls:=.type "set",dict:=none,data:=.set #[] 0 (.fresh 0 0 (bP w)) } }) :
  ũ (à P w) A (.call (.builtin "set.__new__") ⟨[.type "set",a],[]⟩) (wants Q₁ E) s:=by
 refine Wr ?_;show Ù _ A.in1 (checkBuiltinCall "set.__new__" ⟨[.type "set",a],[]⟩ >>= fun _=>again (.builtin "set.__new__" ⟨[.type "set",a],[]⟩)) _ _ s;refine À ?_;refine wpAny_of_eq (F.newCall_set_1 a) ?_;refine Â ⟨plainId_quiet F.plain_set_new _,Ņ F.entry_set_new ?_⟩;rw [ŕ F.plain_set_new _];unfold œ.«set.__new__» Builtin.Frozenset.newClass;have ss:=sub_set_self;obtain ⟨Z,Y,X,W,V⟩:=s;dsimp only
 wp_walk
 refine Ō (Â ?_);dsimp only;simp only [newObj];refine À (wpAny_alloc ?_);exact Â (Â hq)
end
section
variable {P:ß} {w:ú} {A:æ} {R:Result->Ã->Prop} {I:Ø} {fp wr:List Ø} {G:Array GenState->Array GenState->Prop} {n:Nat} {Pv:Nat->Ä->Prop} {St:Nat->Ã->Prop} {led:Bool}
def Lm (val:Nat->Int) {i n:Nat} (h:i<=n):(Ħ val i).length<=(Ħ val n).length:=by
 induction h with
 |refl=>exact WV _
 |step _ ih =>
  refine á ih ?_;rw [firstMet_succ,step_length]
  split<;>omega
def Ca (W:WalksS P w A.in1 I fp wr G n Pv St) (S:Ø) (q0:S∉fp)
  (val:Nat->Int) (Rp:∀i v,Pv i v->∃t,v=.int (val i) t) (hb:(Ħ val n).length+1<ş) :
  ∀(k i:Nat) (s:Ã),n-i=k->i<=n->St i s ->
   dO P w led s.heap S (fun j=>(Ħ val i).any (·==j)) (Ħ val i).length ->
   (∀s',Moved (S::wr) G s s'->dO P w led s'.heap S (fun j=>(Ħ val n).any (·==j)) (Ħ val n).length->R (.ok (.ret .none)) s') ->
   ũ (à P w) A (.builtin "set.update.loop" ⟨[.ref S,.ref I],[]⟩) R s:=by
 have nw:S∉wr:=fun z=>q0 (W.sub _ z);have sw:∀b∈wr,b∈S::wr:=fun b z=>Õ _ z;intro k
 induction k with
 |zero =>
  intro i s U hi Z T Y;obtain rfl:i=n:=by omega
  refine Ņ F.entry_set_update_loop ?_;rw [ŕ VE _];show Ù _ A.in1 (υ (.ref I) >>= _) _ _ s;refine À (W.done s _ _ Z fun s' m=>?_);show Ù _ A.in1 (ret Value.none) _ _ s';exact Â (Y s' (m.mono sw) (T.at fun o e=>m.heap S o nw e))
 |succ k ih =>
  intro i s U hi Z T Y;have lt:i<n:=by omega
  refine Ņ F.entry_set_update_loop ?_;rw [ŕ VE _];show Ù _ A.in1 (υ (.ref I) >>= _) _ _ s;refine À (W.item i s _ _ lt Z fun v s' Q O m=>?_);obtain ⟨t,rfl⟩:=Rp i v Q;have N:=T.at (h':=s'.heap) fun o e=>m.heap S o nw e;show Ù _ A.in1 (Wk [WG (val i) t] (setAdd S (.int (val i) t)) >>= _) _ _ s';refine À (Ĕ ?_);unfold setAdd;refine Ĕ ?_;refine À ((ņ P w).pyHash (k:=val i) (intKind_is _ _ _ _) ?_);have room:(Ħ val i).length+1<ş:=by have:=Lm val hi;omega
  refine MK (s:={ s' with toks:=s'.toks+1 }) N room fun h' V M=>?_
  have L:dO P w led h' S (fun j=>(Ħ val (i+1)).any (·==j)) (Ħ val (i+1)).length:=M.congr (fun j=>by rw [firstMet_succ,step_any]) (by rw [firstMet_succ,step_length]);refine Â ⟨plainId_quiet VE _,ih (i+1) _ (by omega) lt (W.frame _ s' _ _ O (Ws _) fun b X o e=>?_) L fun K J H=>?_⟩
  ·rw [V.2 b fun z:b=S=>q0 (z ▸ X)];exact e
  ·refine Y K (Moved.trans W.gtrans ((m.mono sw).then_heap (Ws _) fun b o X e=>?_) J) H
   rw [V.2 b fun z:b=S=>X (by rw [z];exact Ö)];exact e
end
section
variable {P:ß} {w:ú} {A:æ} {E:Ä->Ã->Prop} {s:Ã}
def Ji   
 (hh:A.handled=none) (hl:s.heap.IsTuple l its) (hi:Vz its.toList ns) (hb:(Ħ (fun i=>ns.getD i 0) its.size).length+1<ş)
 (h:∀(h':ħ) (tk:Nat),dO P w (bP w) h' s.heap.objs.size (fun k'=>(Ħ (fun i=>ns.getD i 0) its.size).any (·==k')) (Ħ (fun i=>ns.getD i 0) its.size).length ->
 (∀b o,b<s.heap.objs.size->s.heap.get? b=some o->h'.get? b=some o)->Q (.ref s.heap.objs.size) { s with heap:=h',toks:=tk }) :
  Ù (à P w) A (call (.type "set") [.ref l]) Q E s:=by
 obtain ⟨c,tl,ur⟩:=Ě.mro;have um:=Ě.made;have ub:=Ě.sub;refine VN (Wr ?_);show Ù _ _ (callAny (.type "set") _) _ _ _;refine Â ⟨Code.quiet_builtin _ (by decide +kernel),Ņ F.entry_type_call ?_⟩;rw [Around.under_plain (weight_type_call_type "set" [.ref l] []) rfl];have h1:=Ě.notType;have h2:=Ě.canCreate;have Sy:=F.typeCall_set_1 (.ref l)
 repeat (any_goals (first|assumption|wp_step))
 refine ķ (B9 (.ref l) (E:=E) (Q₁:=fun obj V=>obj=.ref s.heap.objs.size/\V={ s with heap:=s.heap.push { cls:=.type "set",dict:=none,data:=.set #[] 0 (.fresh 0 0 (bP w)) } }) ⟨rfl,rfl⟩) fun r V Y=>?_
 cases r with
 |error e=>exact Y
 |ok M =>
  cases M with
  |ret obj =>
   obtain ⟨rfl,rfl⟩:=Y;have v:(s.heap.push { cls:=.type "set",dict:=none,data:=.set #[] 0 (.fresh 0 0 (bP w)) }).get? s.heap.objs.size=some { cls:=.type "set",dict:=none,data:=.set #[] 0 (.fresh 0 0 (bP w)) }:=Ï _ rfl
   have L:Shared.TypeIs { s with heap:=s.heap.push { cls:=.type "set",dict:=none,data:=.set #[] 0 (.fresh 0 0 (bP w)) } } (.ref s.heap.objs.size) "set":=⟨_,v,rfl⟩
   have vl:=Ě.init.lookup;have vb:=Ě.init.bind (.ref s.heap.objs.size)
   repeat (any_goals (first|assumption|wp_step))
   refine ķ (Ź (R:=wants (fun r U=>r=.none/\∃h' tk,U={ s with heap:=h',toks:=tk } /\
     dO P w (bP w) h' s.heap.objs.size (fun k'=>(Ħ (fun i=>ns.getD i 0) its.size).any (·==k')) (Ħ (fun i=>ns.getD i 0) its.size).length /\
     (∀b o,b<s.heap.objs.size->s.heap.get? b=some o->h'.get? b=some o)) E) Ě.init.plain F.entry_set_init (check_set_init_1 L ?_)) fun K U X=>?_
   ·obtain ⟨ol,T,S,nn,O⟩:=hl
    obtain ⟨oc,J,oa,I⟩:=ol;simp only at S O;subst S;subst O;have H:(s.heap.push { cls:=.type "set",dict:=none,data:=.set #[] 0 (.fresh 0 0 (bP w)) }).get? l=some { cls:=.type "tuple",dict:=J,data:=.seq its nn,slots:=I }:=Á _ T;have u1:=F.sub_tuple_set;have u2:=F.sub_tuple_frozenset;have dU:(Ů "tuple"==Ů "dict")=false:=by decide
    have ul:(s.heap.push { cls:=.type "set",dict:=none,data:=.set #[] 0 (.fresh 0 0 (bP w)) }).IsTuple l its:=⟨_,H,rfl,nn,rfl⟩;unfold œ.«set.__init__» noKeywords Wi;generalize G:pyIter=PI
    wp_walk
    subst G;refine wpAny_pyIter_tuple ul ?_;refine À (wpAny_runValue ?_);have N:l<s.heap.objs.size:=Ç T;have D:A.in1.in1.in1.handled=none:=by simp [hh]
    have C:l≠(s.heap.push { cls:=.type "set",dict:=none,data:=.set #[] 0 (.fresh 0 0 (bP w)) }).objs.size:=by
     rw [ó];exact Û (Ĉ N)
    have B:s.heap.objs.size∉[(s.heap.push { cls:=.type "set",dict:=none,data:=.set #[] 0 (.fresh 0 0 (bP w)) }).objs.size,l]:=by
     rw [ó];simp only [Ð,ý,ê,or_false,not_or];exact ⟨Û (ō _),Ľ N⟩
    have z:∀(i:Nat) (v:Ä),its[i]?=some v->∃t,v=.int ((fun i=>ns.getD i 0) i) t:=fun i v y =>
     IntsAre.int_at hi i v (by rw [ĥ];exact y)
    refine Ca (led:=bP w) ((Walks.tuple D _ l C its).toS) s.heap.objs.size
     B (fun i=>ns.getD i 0) z hb (its.size-0) 0 _ (by omega) (Ć _)
     ⟨⟨_,Ï _ rfl,rfl,rfl⟩,(ul.push _)⟩ ?v0 ?vR
    case v0 =>
     have x:((s.heap.push { cls:=.type "set",dict:=none,data:=.set #[] 0 (.fresh 0 0 (bP w)) }).push { cls:=.type "tuple_iterator",data:=.fields #[.ref l,.int 0 0] }).get? s.heap.objs.size
       = some { cls:=.type "set",dict:=none,data:=.set #[] 0 (.fresh 0 0 (bP w)) }:=Á _ v
     exact ⟨_,#[],0,_,x,⟨rfl,rfl,rfl⟩,rfl,fun e u=>by simp at u,fun k=>by simp [firstMet_zero],by unfold ş;simp,by rfl,rfl,BN _⟩
    case vR =>
     intro q Z W;obtain ⟨h',p,n,m,j⟩:=q;have g:p=s.gens:=Z.gens;have f:n=s.drawn:=Z.drawn;have d:j=s.os:=Z.os;subst g;subst f;subst d;show Ù _ _ _ _ _ _;refine Â ?_;show Ù _ _ (ret Value.none) _ _ _;refine Â ⟨rfl,h',m,rfl,W,fun b o hb e=>?_⟩;have v1:b≠s.heap.objs.size:=Û hb;have v2:b≠(s.heap.push { cls:=.type "set",dict:=none,data:=.set #[] 0 (.fresh 0 0 (bP w)) }).objs.size:=by
      rw [ó];exact Û (Ĉ hb)
     exact Z.heap b o (by simp only [Ð,ý,ê,or_false,not_or];exact ⟨v1,v2⟩) (Á _ (Á _ e))
   ·cases K with
    |error e=>exact X
    |ok a =>
     cases a with
     |ret r =>
      obtain ⟨rfl,h',tk,rfl,W,vk⟩:=X
      repeat (any_goals (first|assumption|wp_step))
      exact h _ _ W vk
     |_=>exact X.elim
  |_=>exact Y.elim
def Jj   
 (hh:A.handled=none) (hl:s.heap.IsList l its) (hi:Vz its.toList ns) (hb:(Ħ (fun i=>ns.getD i 0) its.size).length+1<ş)
 (h:∀(h':ħ) (tk:Nat),dO P w (bP w) h' s.heap.objs.size (fun k'=>(Ħ (fun i=>ns.getD i 0) its.size).any (·==k')) (Ħ (fun i=>ns.getD i 0) its.size).length ->
 (∀b o,b<s.heap.objs.size->s.heap.get? b=some o->h'.get? b=some o)->Q (.ref s.heap.objs.size) { s with heap:=h',toks:=tk }) :
  Ù (à P w) A (call (.type "set") [.ref l]) Q E s:=by
 obtain ⟨c,tl,ur⟩:=Ě.mro;have um:=Ě.made;have ub:=Ě.sub;refine VN (Wr ?_);show Ù _ _ (callAny (.type "set") _) _ _ _;refine Â ⟨Code.quiet_builtin _ (by decide +kernel),Ņ F.entry_type_call ?_⟩;rw [Around.under_plain (weight_type_call_type "set" [.ref l] []) rfl];have h1:=Ě.notType;have h2:=Ě.canCreate;have Sy:=F.typeCall_set_1 (.ref l)
 repeat (any_goals (first|assumption|wp_step))
 refine ķ (B9 (.ref l) (E:=E) (Q₁:=fun obj V=>obj=.ref s.heap.objs.size/\V={ s with heap:=s.heap.push { cls:=.type "set",dict:=none,data:=.set #[] 0 (.fresh 0 0 (bP w)) } }) ⟨rfl,rfl⟩) fun r V Y=>?_
 cases r with
 |error e=>exact Y
 |ok M =>
  cases M with
  |ret obj =>
   obtain ⟨rfl,rfl⟩:=Y;have v:(s.heap.push { cls:=.type "set",dict:=none,data:=.set #[] 0 (.fresh 0 0 (bP w)) }).get? s.heap.objs.size=some { cls:=.type "set",dict:=none,data:=.set #[] 0 (.fresh 0 0 (bP w)) }:=Ï _ rfl
   have L:Shared.TypeIs { s with heap:=s.heap.push { cls:=.type "set",dict:=none,data:=.set #[] 0 (.fresh 0 0 (bP w)) } } (.ref s.heap.objs.size) "set":=⟨_,v,rfl⟩
   have vl:=Ě.init.lookup;have vb:=Ě.init.bind (.ref s.heap.objs.size)
   repeat (any_goals (first|assumption|wp_step))
   refine ķ (Ź (R:=wants (fun r U=>r=.none/\∃h' tk,U={ s with heap:=h',toks:=tk } /\
     dO P w (bP w) h' s.heap.objs.size (fun k'=>(Ħ (fun i=>ns.getD i 0) its.size).any (·==k')) (Ħ (fun i=>ns.getD i 0) its.size).length /\
     (∀b o,b<s.heap.objs.size->s.heap.get? b=some o->h'.get? b=some o)) E) Ě.init.plain F.entry_set_init (check_set_init_1 L ?_)) fun K U X=>?_
   ·obtain ⟨ol,T,S,nn,O⟩:=hl
    obtain ⟨oc,J,oa,I⟩:=ol;simp only at S O;subst S;subst O;have H:(s.heap.push { cls:=.type "set",dict:=none,data:=.set #[] 0 (.fresh 0 0 (bP w)) }).get? l=some { cls:=.type "list",dict:=J,data:=.seq its nn,slots:=I }:=Á _ T;have u1:=F.sub_list_set;have u2:=F.sub_list_frozenset;have dU:(Ů "list"==Ů "dict")=false:=by decide
    have ul:(s.heap.push { cls:=.type "set",dict:=none,data:=.set #[] 0 (.fresh 0 0 (bP w)) }).IsList l its:=⟨_,H,rfl,nn,rfl⟩;unfold œ.«set.__init__» noKeywords Wi;generalize G:pyIter=PI
    wp_walk
    subst G;refine Ų ul ?_;refine À (wpAny_runValue ?_);have N:l<s.heap.objs.size:=Ç T;have D:A.in1.in1.in1.handled=none:=by simp [hh]
    have C:l≠(s.heap.push { cls:=.type "set",dict:=none,data:=.set #[] 0 (.fresh 0 0 (bP w)) }).objs.size:=by
     rw [ó];exact Û (Ĉ N)
    have B:s.heap.objs.size∉[(s.heap.push { cls:=.type "set",dict:=none,data:=.set #[] 0 (.fresh 0 0 (bP w)) }).objs.size,l]:=by
     rw [ó];simp only [Ð,ý,ê,or_false,not_or];exact ⟨Û (ō _),Ľ N⟩
    have z:∀(i:Nat) (v:Ä),its[i]?=some v->∃t,v=.int ((fun i=>ns.getD i 0) i) t:=fun i v y =>
     IntsAre.int_at hi i v (by rw [ĥ];exact y)
    refine Ca (led:=bP w) ((Walks.list D _ l C its).toS) s.heap.objs.size
     B (fun i=>ns.getD i 0) z hb (its.size-0) 0 _ (by omega) (Ć _)
     ⟨⟨_,Ï _ rfl,rfl,rfl⟩,(ul.push _)⟩ ?v0 ?vR
    case v0 =>
     have x:((s.heap.push { cls:=.type "set",dict:=none,data:=.set #[] 0 (.fresh 0 0 (bP w)) }).push { cls:=.type "list_iterator",data:=.fields #[.ref l,.int 0 0] }).get? s.heap.objs.size
       = some { cls:=.type "set",dict:=none,data:=.set #[] 0 (.fresh 0 0 (bP w)) }:=Á _ v
     exact ⟨_,#[],0,_,x,⟨rfl,rfl,rfl⟩,rfl,fun e u=>by simp at u,fun k=>by simp [firstMet_zero],by unfold ş;simp,by rfl,rfl,BN _⟩
    case vR =>
     intro q Z W;obtain ⟨h',p,n,m,j⟩:=q;have g:p=s.gens:=Z.gens;have f:n=s.drawn:=Z.drawn;have d:j=s.os:=Z.os;subst g;subst f;subst d;show Ù _ _ _ _ _ _;refine Â ?_;show Ù _ _ (ret Value.none) _ _ _;refine Â ⟨rfl,h',m,rfl,W,fun b o hb e=>?_⟩;have v1:b≠s.heap.objs.size:=Û hb;have v2:b≠(s.heap.push { cls:=.type "set",dict:=none,data:=.set #[] 0 (.fresh 0 0 (bP w)) }).objs.size:=by
      rw [ó];exact Û (Ĉ hb)
     exact Z.heap b o (by simp only [Ð,ý,ê,or_false,not_or];exact ⟨v1,v2⟩) (Á _ (Á _ e))
   ·cases K with
    |error e=>exact X
    |ok a =>
     cases a with
     |ret r =>
      obtain ⟨rfl,h',tk,rfl,W,vk⟩:=X
      repeat (any_goals (first|assumption|wp_step))
      exact h _ _ W vk
     |_=>exact X.elim
  |_=>exact Y.elim
end
theorem vq {α:Type}:∀{l:List α} {i:Nat} {x:α},l[i]?=some x->(x::l.eraseIdx i).Perm l
 | [],i,x,h=>by simp at h
 |y::l,0,x,h=>by
  have:y=x:=by simpa using h
  subst this;exact List.Perm.refl _
 |y::l,i+1,x,h=>by
  have ih:=vq (l:=l) (i:=i) (x:=x) (by simpa using h);rw [List.eraseIdx_cons_succ];exact (List.Perm.swap y x _).trans (List.Perm.cons y ih)
theorem CJ {α:Type} (next:Nat->Nat):∀(fuel k:Nat) (left:List α) (out:Array α),left.length=fuel->(pickOrder.go next fuel k left out).toList.Perm (out.toList++left)
 |0,k,left,out,h=>by
  have:left=[]:=VF.mp h;subst this;unfold pickOrder.go;simp
 |fuel+1,k,left,out,h=>by
  unfold pickOrder.go
  have Z:next k % left.length<left.length:=Nat.mod_lt _ (by omega)
  rw [Ë Z];dsimp only;have Y:=vq (Ë Z)
  have ih:=CJ next fuel (k+1) (left.eraseIdx (next k % left.length)) (out.push left[next k % left.length]) (by rw [List.length_eraseIdx_of_lt Z];omega)
  refine ih.trans ?_;rw [VS,Ł];exact List.Perm.append_left _ Y
def BQ {α:Type} (next:Nat->Nat) (xs:Array α):(Š next xs).toList.Perm xs.toList:=by
 unfold Š
 have:=CJ next xs.size 0 xs.toList #[] (by simp)
 simpa using this
section
variable {P:ß} {w:ú} {A:æ} {E:Ä->Ã->Prop}
def Jk {α:Type} (n:Nat):∀(xs:List α) (s:Ã) (Q:List α->Ã->Prop),xs.length=n->(∀ys d,ys.Perm xs->Q ys { s with drawn:=d })->Ù (à P w) A (drawOrder n xs) Q E s:=by
 induction n with
 |zero =>
  intro xs s Q h Z;have:xs=[]:=VF.mp h;subst this;unfold drawOrder;exact Â (Z [] s.drawn (List.Perm.refl _))
 |succ n ih =>
  intro xs s Q h Z
  cases xs with
  |nil=>simp at h
  |cons x xs =>
   unfold drawOrder;refine À (Jg (by simp) ?_);have Y:w.draws .order (s.drawn.get .order) % (x::xs).length<(x::xs).length:=Nat.mod_lt _ (by simp);rw [Ë Y];dsimp only;refine À (ih _ _ _ (by rw [List.length_eraseIdx_of_lt Y];omega) fun ys d X=>?_);refine Â (Z _ d ?_);exact (List.Perm.cons _ X).trans (vq (Ë Y))
def Ln {s:Ã} {a:Ø} {u:Obj} {es:Array (Int×Ä)} {ep:Nat} {t:SetTable} {Q:Ä->Ã->Prop} (hu:s.heap.get? a=some u) (hx:u.ExactSet) (hd:u.data=.set es ep t) (hf:t.fits es.size=true) (ht:gj (bP w) t)
  (hsz:es.size<=Ñ)
  (hQ:∀(h':ħ) (d':Drawn) (I:Ø) (fp:List Ø) (St:Nat->Ã->Prop) (order:List Ä),(∀b o,s.heap.get? b=some o->h'.get? b=some o)->(∀b∈fp,b<h'.objs.size)->(∀b∈fp,b=a\/s.heap.objs.size<=b)->I∈fp->s.heap.objs.size<=I->order.Perm (es.toList.map (·.2)) ->
   (∀A':æ,A'.handled=none->WalksS P w A' I fp [I] (fun a b=>b=a) es.size (fun i v=>order[i]?=some v) St)->St 0 { s with heap:=h',drawn:=d' }->Q (.ref I) { s with heap:=h',drawn:=d' }) :
  Ù (à P w) A (pyIter (.ref a)) Q E s:=by
 have O:s.TypeIs (.ref a) "set":=⟨u,hu,hx.1⟩;have X:a<s.heap.objs.size:=Ç hu;refine wpAny_pyIter_slot O F.slot_set_iter (þ F.slot_set_iter O HC ?_ (F.args_set_iter_1 _));unfold œ.«frozenset.__iter__» Builtin.Frozenset.slot0 slotArgs;simp only [μ,Ő,É,↓reduceIte,bind_assoc,õ,ć];unfold Builtin.Frozenset.addrOf Builtin.Frozenset.sizeOf;refine À (Â ?_)
 try dsimp only
 refine À (Â ?_);refine À (À (Ŝ hu hd hf (Â ?_)));unfold setDrawn;refine À (À (ř hu hd hf ?_));dsimp only;unfold setsByText;refine À (À (Ō (Â ?_)));refine Â ?_
 show Ù _ _ (if (!(w.params.followText "set-order")&&(!t.plain&&decide (es.size > 1)))=true then _ else _) _ _ _
 have H:∀(W:Obj) b o,s.heap.get? b=some o->(s.heap.push W).get? b=some o:=fun W b o e=>Á _ e;by_cases V:(!w.params.followText "set-order"&&(!t.plain&&decide (es.size > 1)))=true
 ·rw [ä V]
  refine À (Jk _ _ _ _ (by simp) fun U d hp=>?_);refine À ?_;simp only [newTuple];refine ò ?_ (by have:=hp.length_eq;rw [List.length_range] at this;show (V5 _).size<=Ñ;rw [Ô,Ì,this];exact hsz);have M:∀x∈U,x<es.size:=fun x hx=>by simpa using hp.mem_iff.mp hx
  have R:U.length=es.size:=by simpa using hp.length_eq
  refine À (wpAny_setEpoch_of (Á _ hu) hd hf ?_);refine À (ò ?_);refine Â ⟨_,rfl,"set_iterator",_,⟨_,Ï _ rfl,rfl⟩,iu.lookup,?_⟩;have Y:(s.heap.push { cls:=.type "tuple",data:=.seq (U.map fun (i:Nat)=>ź i).toArray }).objs.size=s.heap.objs.size+1:=by simp [ó]
  refine hQ _ d _ [_,a,s.heap.objs.size] _ (U.map fun k=>(es.getD k (0,Value.none)).2) (fun b o e=>Á _ (Á _ e)) ?_ ?_ (by simp) (by rw [Y];exact Ws _) ?_ (fun A' T=>Ir (u:=u) (t:=t) (ep:=ep) T (I:=_) (a:=a) (tp:=s.heap.objs.size) (by rw [Y];exact Û (Ĉ X)) (by rw [Y];exact Û (ō _)) hd hf U R M) ⟨⟨_,Ï _ rfl,rfl,rfl⟩,Á _ (Á _ hu),⟨_,Á _ (Ï _ rfl),rfl,_,rfl⟩⟩
  ·intro b Z
   simp only [Ð,ê,or_false] at Z;rw [ó]
   rcases Z with e|e|e
   ·rw [e];exact ō _
   ·rw [e,Y];exact Ĉ (Ĉ X)
   ·rw [e,Y];exact Ĉ (ō _)
  ·intro b Z
   simp only [Ð,ê,or_false] at Z
   rcases Z with e|e|e
   ·right;rw [e,Y];exact Ws _
   ·exact .inl e
   ·right;rw [e];exact WV _
  ·refine (List.Perm.map _ hp).trans ?_
   have:(Ă es.size).map (fun k=>(es.getD k (0,Value.none)).2)=es.toList.map (·.2):=by
    apply ų;intro i;rw [ç,ç];by_cases hi:i<es.size
    ·rw [Wq hi,ĥ]
     simp [WJ,hi]
    ·rw [Ĥ (by simpa using hi),Ĥ (by simpa using hi)]
     rfl
   rw [this]
 ·rw [í V]
  refine À (Â ?_);refine À (wpAny_setEpoch_of hu hd hf ?_);refine À (ò ?_);refine Â ⟨_,rfl,"set_iterator",_,⟨_,Ï _ rfl,rfl⟩,iu.lookup,?_⟩;have ai:∀(W:Obj),∀b∈[s.heap.objs.size,a],b<(s.heap.push W).objs.size:=fun W b Z=>by
   simp only [Ð,ê,or_false] at Z;rw [ó]
   rcases Z with e|e
   ·rw [e];exact ō _
   ·rw [e];exact Ĉ X
  have N:∀b∈[s.heap.objs.size,a],b=a\/s.heap.objs.size<=b:=fun b Z=>by
   simp only [Ð,ê,or_false] at Z
   rcases Z with e|e
   ·right;rw [e];exact WV _
   ·exact .inl e
  cases S:w.params.followText "set-order" with
  |true =>
   have L:(Š (w.params.setOrder a ep) es).size=es.size:=by
    have:=(BQ (w.params.setOrder a ep) es).length_eq;simpa using this
   have hw:∀A':æ,A'.handled=none->WalksS P w A' s.heap.objs.size [s.heap.objs.size,a] [s.heap.objs.size] (fun a b=>b=a) es.size (fun i v=>((Š (w.params.setOrder a ep) es).toList.map (·.2))[i]?=some v) _:=fun A' T=>by
    have:=Jh (P:=P) (u:=u) (t:=t) T (I:=s.heap.objs.size) (a:=a) (Û X) S hd hf L;simpa using this
   exact hQ _ s.drawn _ [_,a] _ ((Š (w.params.setOrder a ep) es).toList.map (·.2)) (fun b o e=>Á _ e) (ai _) N (by simp) (WV _) (List.Perm.map _ (BQ _ _)) hw ⟨⟨_,Ï _ rfl,rfl,rfl⟩,Á _ hu⟩
  |false =>
   have hp:t.plain=true\/es.size<=1:=by
    rw [S] at V;simp at V
    cases K:t.plain with
    |true=>exact .inl rfl
    |false=>exact .inr (V K)
   have R:t.led=true:=by rw [ht.led];unfold bP;rw [S];rfl
   have J:iL t.place.toList:=by
    rcases hp with hp|hp
    ·exact ht.rise hp
    ·simp only [SetTable.fits,È,beq_iff_eq,Ü] at hf
     have hle:t.place.toList.length<=1:=by simp [hf.1];exact hp
     match t.place.toList,hle with
     | [],_=>exact List.Pairwise.nil
     | [x],_=>exact List.pairwise_singleton _ _
   have hw:∀A':æ,A'.handled=none->WalksS P w A' s.heap.objs.size [s.heap.objs.size,a] [s.heap.objs.size] (fun a b=>b=a) es.size (fun i v=>(es.toList.map (·.2))[i]?=some v) _:=fun A' T=>by
    have:=Iq (P:=P) (u:=u) (t:=t) (ep:=ep) T (I:=s.heap.objs.size) (a:=a) (Û X) S hd hf R hp J;simpa using this
   exact hQ _ s.drawn _ [_,a] _ (es.toList.map (·.2)) (fun b o e=>Á _ e) (ai _) N (by simp) (WV _) (List.Perm.refl _) hw ⟨0,⟨_,Ï _ rfl,rfl,rfl⟩,Á _ hu,Ć _,fun k G=>by omega,fun k _ _=>Ć _⟩
end
section
variable {P:ß} {w:ú} {A:æ} {E:Ä->Ã->Prop} {s:Ã}
def split_len:splitId "set.__len__"=some ("set","__len__"):=by decide +kernel
def ints_of (h:ElemsOf (ņ P w) es) (hp:vs.Perm (es.map (·.2))):∃ns,Vz vs ns:=by
 have Z:∀v∈vs,∃k t,v=.int k t:=fun v Z=>by
  obtain ⟨e,W,rfl⟩:=į.mp (hp.mem_iff.mp Z);obtain ⟨⟨k,X,_⟩,_⟩:=h e W
  cases Y:e.2 with
  |int i t=>exact ⟨i,t,rfl⟩
  |_=>rw [Y] at X;simp [ņ,Value.isInt] at X
 clear hp
 induction vs with
 |nil=>exact ⟨[],.nil⟩
 |cons v vs ih =>
  obtain ⟨k,t,rfl⟩:=Z v Ö;obtain ⟨ns,V⟩:=ih fun x Y=>Z x (Õ _ Y);exact ⟨k::ns,.cons k t V⟩
def DN {α:Type} {c:Bool} {x y:Sem α} {Q:α->Ã->Prop} (hc:c=true) (h:Ù (à P w) A x Q E s):Ù (à P w) A (if c=true then x else y) Q E s:=by
 rw [ä hc];exact h
def Iu {a:Ø} {u:Obj} {es:Array (Int×Ä)} {ep:Nat} {t:SetTable} {Q:List Ä->Ã->Prop} (hh:A.handled=none) (hu:s.heap.get? a=some u) (hx:u.ExactSet) (hd:u.data=.set es ep t) (hf:t.fits es.size=true) (ht:gj (bP w) t) (hsz:es.size<ş)
  (hQ:∀(h':ħ) (d':Drawn) (tk:Nat) (vs:List Ä),s.heap.objs.size<=h'.objs.size->(∀b o,s.heap.get? b=some o->h'.get? b=some o)->vs.Perm (es.toList.map (·.2))->Q vs { s with heap:=h',drawn:=d',toks:=tk }):Ù (à P w) A (collect (.ref a)) Q E s:=by
 have O:es.size<=Ñ:=Ŵ hsz;have N:a<s.heap.objs.size:=Ç hu;unfold collect;refine À (wpAny_runValue (Ņ F.entry_proto_collect ?_));rw [ŕ F.plain_proto_collect _];show Ù _ A.in1 (newList [] >>= fun l=>again (.builtin "list.__iadd__" ⟨[l,.ref a],[]⟩)) _ _ s;refine À (ò ?_);refine Â ⟨plainId_quiet F.plain_list_iadd _,Ņ F.entry_list_iadd ?_⟩;rw [ŕ F.plain_list_iadd _];show Ù _ A.in1 (Wt (.ref s.heap.objs.size) (.ref a) (.ref s.heap.objs.size)) _ _ _
 generalize U:({ s with heap:=s.heap.push { cls:=.type "list",data:=.seq ([]:List Ä).toArray } }:Ã)=Y
 have M:Y.heap.objs.size=s.heap.objs.size+1:=by rw [<- U];simp [ó]
 have r:∀b o,s.heap.get? b=some o->Y.heap.get? b=some o:=fun b o e=>by rw [<- U];exact Á _ e
 have T:Y.heap.get? a=some u:=by rw [<- U];exact Á _ hu
 have p:Y.TypeIs (.ref a) "set":=⟨u,T,hx.1⟩;have n:Y.heap.get? s.heap.objs.size=some { cls:=.type "list",data:=.seq ([]:List Ä).toArray }:=by rw [<- U];exact Ï _ rfl
 unfold Wt;refine À (V3 p ?_);have k:Builtin.List.listSameRef (.ref s.heap.objs.size) (.ref a)=false:=by
  simp [Builtin.List.listSameRef];exact Ľ N
 have i:(Ů "set"==Ů "list")=false:=by decide
 have h:(Ů "set"==Ů "tuple")=false:=by decide
 simp only [k,i,h,Bool.or_false,É,ĉ];refine À (Ln T hx hd hf ht O fun h' d' I g St order S k2 f k3 L K W d=>?_)
 have R:Shared.TypeIs { Y with heap:=h',drawn:=d' } (.ref a) "set":=⟨u,S _ _ T,hx.1⟩
 have J:=S _ _ n;refine À (Ĕ ?_);unfold Builtin.List.listLengthHint;refine À (Wu R F.slot_set_len.lookup ?_);dsimp only;rw [split_len];dsimp only;refine À (We R sub_set_self ?_);rw [í (by decide)];refine DN (by decide +kernel) ?_;refine À (V3 R ?_);dsimp only;refine Â ?_;refine DN (by decide +kernel) ?_
 ··refine À (ŋ ?_)
   refine À ?_;show Ù _ A.in1 (updateSeq s.heap.objs.size (·.push .none) >>= fun _=>updateSeq s.heap.objs.size (·.pop)) _ _ _;refine À (wpAny_updateSeq J rfl ?_);have H:=Ē (ŀ (·.push Value.none)) J rfl;refine wpAny_updateSeq H rfl ?_;have SD:=Ē (ŀ (·.pop)) H rfl;have G:s.heap.objs.size∉g:=fun hm=>by
    rcases f _ hm with e|e
    ·exact Ľ N e
    ·rw [M] at e;exact Nat.not_succ_le_self _ e
   have D:∀b o,b≠s.heap.objs.size->h'.get? b=some o->((h'.update s.heap.objs.size (ŀ (·.push Value.none))).update s.heap.objs.size (ŀ (·.pop))).get? b=some o :=
    fun b o X e=>(ť _ _ (Ÿ X)).trans ((ť _ _ (Ÿ X)).trans e)
   refine Â ⟨plainId_quiet F.plain_extend_loop _,codeAny_extend_loopS (W A.in1 (by simp [hh])) O _ G _ es.size 0 _ _ _ rfl (Ć _) ((W A.in1 (by simp [hh])).frame 0 ({ Y with heap:=h',drawn:=d' }:Ã) _ Y.toks d (WV _) fun b X o e=>D b o (fun z=>G (z ▸ X)) e) SD (ItemsOf.nil _) fun C Z c m B y=>?_⟩
   show Ù _ A (load s.heap.objs.size >>= _) _ _ C;refine À (wpAny_load B ?_);refine Â ?_;have SE:order.length=es.size:=by simpa using K.length_eq
   have Rq:Z.toList=order:=by
    apply ų;intro j;by_cases x:j<Z.size
    ·have e1:Z[j]?=some Z[j]:=by simp [x]
     rw [ĥ,e1,y.2 j _ e1]
    ·rw [Ĥ (by simpa using x),Ĥ (by rw [SE,<- y.1];omega)]
   obtain ⟨h2,g2,v,t2,o2⟩:=C;have eg:g2=Y.gens:=m.gens;have ed:v=d':=m.drawn;have eo:o2=Y.os:=m.os;subst eg ed eo;have q:=hQ h2 v t2 Z.toList (Nat.le_of_lt (Ç B)) (fun b o e=>m.heap b o (fun X=>by
    simp only [Ð,ê,or_false] at X;have V:=Ç e
    rcases X with z|z
    ·rw [z] at V;exact è _ V
    ·rw [M] at L;rw [z] at V;exact è _ (Å V (Nat.le_of_succ_le L))) (D b o (fun z=>by
     have V:=Ç e;rw [z] at V;exact è _ V) (S b o (r b o e)))) (by rw [Rq];exact K)
   rw [<- U];exact q
end
section
variable {P:ß} {w:ú} {A:æ} {E:Ä->Ã->Prop} {s:Ã}
def Jl (hh:A.handled=none) (hu:s.heap.get? a=some u) (hx:u.ExactSet) (hd:u.data=.set es ep t) (hf:t.fits es.size=true) (ht:gj (bP w) t) (zr:ElemsOf (ņ P w) es.toList) (Vh:es.size<64)
 (h:∀(h':ħ) (d':Drawn) (tk:Nat) (p:Ø) (vs:List Ä) (ns:List Int) (out:List Ä) (ms:List Int) (e:Nat),(∀b o,s.heap.get? b=some o->h'.get? b=some o)->s.heap.objs.size<=p->vs.Perm (es.toList.map (·.2))->Vz vs ns->h'.get? p=some { cls:=.type "list",data:=.seq out.toArray e }->Vz out ms->ms.Perm ns->ms.Pairwise (·<=·)->Q (.ref p) { s with heap:=h',drawn:=d',toks:=tk }) :
  Ù (à P w) A (call (.builtin "sorted") [.ref a]) Q E s:=by
 refine Calls.call_function_entry kind_sorted plain_sorted entry_sorted (args_sorted1 _) ?_;unfold œ.«sorted»;refine À (m:=checkCount "sorted" 1 1 _) (Â ?_);refine À (Iu (by simp [hh]) hu hx hd hf ht (by unfold ş;omega) fun h' d' tk vs U T Z=>?_);obtain ⟨ns,X⟩:=ints_of zr Z;have S:vs.length<64:=by have:=Z.length_eq;simp at this;omega
 refine À (wpAny_newList ?_);have Y:(h'.push (Wz "list" vs.toArray 0)).get? h'.objs.size=some (Wz "list" vs.toArray 0):=Ï _ rfl;refine À (Ĕ (þ slot_list_sort ⟨_,Y,rfl⟩ entry_list_sort (list_sort_tree Y X S fun out ms a1 a2 R=>⟨_,rfl,?_⟩) (args_list_sort _)));obtain ⟨e,O⟩:=sortedHeap_at (out:=out) Y;refine Â ⟨_,rfl,h _ d' tk h'.objs.size vs ns out.toList ms e (fun b o N=>?_) ?_ Z X (by simpa [Wz] using O) a1 a2 R⟩
 ·have W:=T b o N
  have V:=Ç W;rw [sortedHeap_old (Û V) (by rw [size_push'];exact Ĉ V)];exact Á _ W
 ·exact U
end
end TS
namespace L2
open PySem PySem.Spec PyProof.Rows
def fJ (P:ß) (w:ú) (p:Ø) (ns:List Int):ħ->Prop:=fun h=>∃(S:Int->Bool) (n:Nat),TS.dO P w (TS.bP w) h p S n/\(∀k,S k=true↔k∈ns)/\n<=ns.length/\n=(ns.foldl step_dedup []).length
section
variable {X:Cx}
def pA (l:List Int) (k:Int):(l.any (·==k))=true↔k∈l:=by
 rw [Wc];exact ⟨fun ⟨x,Z,Y⟩=>by rw [<- beq_iff_eq.mp Y];exact Z,fun h=>⟨k,h,by simp⟩⟩
def CK (hm:m=ns.length) (hS:TS.dO X.prog X.w (TS.bP X.w) h p (fun k'=>(Ħ (fun i=>ns.getD i 0) m).any (·==k')) (Ħ (fun i=>ns.getD i 0) m).length):fJ X.prog X.w p ns h:=by
 subst hm;refine ⟨_,_,hS,fun k=>?_,firstMet_length_le _ _,?_⟩
 ·rw [firstMet_any,map_getD]
  exact pA ns k
 ·unfold Ħ
  rw [map_getD]
def CL (hx:fJ X.prog X.w p ns h):cJ X.prog X.w (upd H p (.ext (fJ X.prog X.w p ns))) h p (.ext (fJ X.prog X.w p ns)):=by
 refine ⟨hx,?_,fun Y W q k=>?_⟩
 ·obtain ⟨_,_,⟨o,_,_,_,Z,_⟩,_⟩:=hx
  exact ⟨o,Z⟩
 ·obtain ⟨S,n,T,r⟩:=q
  exact ⟨S,n,T.at k,r⟩
def Jm (hc:X.calm=true):bS X (.type "set") (fun xs H Q=>∃(a:Ø) (ns:List Int),xs=[.ref a]/\bt X.K H a (ns.map V.int)/\(ns.foldl step_dedup []).length<4000/\∀p,H p=none->Q (.ref p) (upd H p (.ext (fJ X.prog X.w p ns)))):=by
 intro P s σ H xs O Q I r h;obtain ⟨a,ns,rfl,W,N,q⟩:=h;obtain ⟨u,rfl,U⟩:=vals1 r;cases U;obtain ⟨its,Z,p,_⟩:=I.list W;have Y:its.toArray.size=ns.length:=by
  have e:=Z.length;rw [Ì] at e;simpa using e.symm
 refine TS.Jj (its:=its.toArray) (ns:=ns) (I.ok.hd hc) p.isList (by simpa using intsAre_of Z) (by rw [Y];unfold Ħ;rw [map_getD];show _ + 1<4096;omega) fun M T S R=>?_;exact ⟨.ref _,_,I.laid (t':=T) (fun b o e=>R b o (Ç e) e) (WV _) (CL (CK Y S)),rfl,q _ (I.aD.fresh (WV _))⟩
def Jn (hc:X.calm=true):bS X (.type "set") (fun xs H Q=>∃(a:Ø) (ns:List Int),xs=[.ref a]/\bg X.K H a (ns.map V.int)/\ns.length<4000/\∀p,H p=none->Q (.ref p) (upd H p (.ext (fJ X.prog X.w p ns)))):=by
 intro P s σ H xs O Q I r h;obtain ⟨a,ns,rfl,W,N,q⟩:=h;obtain ⟨u,rfl,U⟩:=vals1 r;cases U;obtain ⟨its,Z,p,_⟩:=I.tuple W;have Y:its.toArray.size=ns.length:=by
  have e:=Z.length;rw [Ì] at e;simpa using e.symm
 refine TS.Ji (its:=its.toArray) (ns:=ns) (I.ok.hd hc) p (by simpa using intsAre_of Z) (by rw [Y];have:=firstMet_length_le (fun i=>ns.getD i 0) ns.length;show _ + 1<4096;omega) fun M T S R=>?_;exact ⟨.ref _,_,I.laid (t':=T) (fun b o e=>R b o (Ç e) e) (WV _) (CL (CK Y S)),rfl,q _ (I.aD.fresh (WV _))⟩
theorem Bd:∀{out:List Ä} {ms:List Int},Vz out ms->Vals (ms.map V.int) out
 |_,_,.nil=>.nil
 |_,_,.cons n t h=>.cons ⟨t,rfl⟩ (Bd h)
theorem vh:∀(ns acc:List Int),acc.Nodup->(ns.foldl step_dedup acc).Nodup
 | [],acc,h=>h
 |n::ns,acc,h=>by
  refine vh ns _ ?_;unfold step_dedup;split
  ·exact h
  ·rename_i Z
   rw [ι] at Z;refine List.nodup_append.mpr ⟨h,by simp,fun a Y b X=>?_⟩;have:b=n:=by simpa using X
   subst this;intro e;subst e;rw [(pA acc a).mpr Y] at Z;cases Z
theorem Cb:∀{vs:List Ä} {ns:List Int},Vz vs ns->∀k,k∈ns↔∃t,WG k t∈vs
 |_,_,.nil,k=>by simp
 |_,_,.cons n t h,k=>by
  rw [Ð,Cb h k];constructor
  ·rintro (e | ⟨Z,h'⟩)
   ·subst e;exact ⟨t,Ö⟩
   ·exact ⟨Z,Õ _ h'⟩
  ·rintro ⟨Z,h'⟩
   rcases Ð.mp h' with e|h'
   ·injection e with e _;exact .inl e
   ·exact .inr ⟨Z,h'⟩
theorem sub_len:∀{m l:List Int},m.Nodup->(∀k,k∈m->k∈l)->m.length<=l.length
 | [],l,_,_=>Ć _
 |x::m,l,h,Z=>by
  obtain ⟨W,V⟩:=Ū.mp h;have Y:=Z x Ö;have ih:=sub_len (m:=m) (l:=l.erase x) V fun k X=>(List.mem_erase_of_ne (fun (e:k=x)=>W (by rw [<- e];exact X))).mpr (Z k (Õ _ X));rw [List.length_erase_of_mem Y] at ih;have:=List.length_pos_of_mem Y;rw [ë];omega
theorem Be:∀{l m:List Int},m.Nodup->(∀k,k∈m↔k∈l)->l.length<=m.length->l.Nodup
 | [],m,_,_,_=>List.nodup_nil
 |a::r,m,Z,Y,X=>by
  have W:a∉r:=fun h=>by
   have:=sub_len Z fun k V=>(Ð.mp ((Y k).mp V)).elim (fun e=>e ▸ h) id;rw [ë] at X;omega
  have U:a∈m:=(Y a).mpr Ö;refine Ū.mpr ⟨W,Be (m:=m.erase a) (Z.erase a) (fun k=>?_) ?_⟩
  ·rw [Z.mem_erase_iff,Y k,Ð]
   constructor
   ·rintro ⟨T,h2|h2⟩
    ·exact absurd h2 T
    ·exact h2
   ·intro h
    exact ⟨fun e=>W (e ▸ h),.inr h⟩
  ·rw [List.length_erase_of_mem U]
   rw [ë] at X;omega
def BR (ns:List Int) (k:Int):k∈ns.foldl step_dedup []↔k∈ns:=by
 have:=firstMet_any (fun i=>ns.getD i 0) ns.length k;unfold Ħ at this;rw [map_getD] at this;rw [<- pA,<- pA,this]
def Bf (hc:X.calm=true):bS X (.builtin "sorted") (fun xs H Q=>∃(p:Ø) (ns:List Int),xs=[.ref p]/\H p=some (.ext (fJ X.prog X.w p ns))/\(ns.foldl step_dedup []).length<64 /\
  ∀(l:Ø) (ms:List Int),H l=none->ms.Pairwise (· < ·)->(∀k,k∈ms↔k∈ns)->Q (.ref l) (upd H l (.lst (ms.map V.int)))):=by
 intro π s σ H xs us Q I r h;obtain ⟨p,ns,rfl,K,hl,q⟩:=h;obtain ⟨v,rfl,G⟩:=vals1 r;cases G;obtain ⟨⟨S,n,⟨u,es,ep,t,F,E,hd,D,C,P,B,A,z⟩,y,zt,m⟩,_⟩:=I.aD p _ K;refine TS.Jl (I.ok.hd hc) F E hd B z D (by omega) fun j g O l vs ks out ms e f N Y W d c U k8=>?_;have M:∀k,k∈ms↔k∈ns:=fun k=>by
  rw [U.mem_iff,Cb W k,<- y k,C k];constructor
  ·rintro ⟨t',zv⟩
   obtain ⟨x,T,Z⟩:=į.mp (Y.mem_iff.mp zv);exact ⟨x,T,by rw [Z];exact intKind_is _ _ _ _⟩
  ·rintro ⟨x,T,Z⟩
   obtain ⟨i,t',L⟩:∃i t',x.2=.int i t':=by
    cases hv:x.2 with
    |int i t'=>exact ⟨i,t',rfl⟩
    |_=>rw [hv] at Z;simp [ņ,Value.isInt] at Z
   have m7:k=i:=(ņ X.prog X.w).inj (.int i t') k i (by rw [<- L];exact Z) (intKind_is _ _ _ _);subst m7;exact ⟨t',Y.mem_iff.mpr (į.mpr ⟨x,T,L⟩)⟩
 have Rt:ms.Nodup:=by
  have GO:=vh ns [] List.nodup_nil;refine Be GO (fun k=>?_) ?_
  ·rw [M k,BR]
  ·rw [<- m,<- A]
   have e1:=U.length_eq;have e2:=W.length;have R:=Y.length_eq;simp at R;omega
 have aV:ms.Pairwise (· < ·):=by
  have:=List.pairwise_and_iff.mpr ⟨k8,Rt⟩;exact this.imp fun ⟨a,b⟩=>by omega
 have J:=I.laid (t':=O) (a:=l) (o:=.lst (ms.map V.int)) f N ⟨by
  rw [Ì,Ũ];have e1:=U.length_eq;have e2:=W.length;have R:=Y.length_eq;simp at R;omega,out,e,Bd c,d⟩
 exact ⟨.ref l,_,J.pY (s':={ s with heap:=j,drawn:=g,toks:=O }) (ch:=[]) rfl Un.refl J.aD J.bare (fun b P=>by cases P),rfl,q l ms (I.aD.fresh N) aV M⟩
end
section
variable {X:Cx}
end
mutual
noncomputable def uH:ž->Bool
 | .tuple Z=>tZ Z
 | .list _=>false
 |_=>true
noncomputable def tZ:List ž->Bool
 | []=>true
 |d::Z=>uH d&&tZ Z
end
section
variable {X:Cx} {π:List (Ø×Obj)} {σ:St} {H:Hp} {s:Ã} {Z:Ø->Prop}
mutual
theorem DV.pO (I:Inv X π σ H s):∀{d:ž} {v:V} {u:Ä},DV X.K Z H d v->RelV v u->uH d=true->∃as,Reads s.heap u d as/\ς∉as
 | .none,v,u,h,r,_=>by
  have e:v=.ao:=h;subst e;cases r;exact ⟨[],.none,by simp⟩
 | .bool b,v,u,h,r,_=>by
  have e:v=.bl b:=h;subst e;cases r;exact ⟨[],.bool b,by simp⟩
 | .int i,v,u,h,r,_=>by
  have e:v=.int i:=h;subst e;obtain ⟨t,rfl⟩:=r;exact ⟨[],.int i t,by simp⟩
 | .str x,v,u,h,r,_=>by
  have e:v=.str x:=h;subst e;obtain ⟨t,rfl⟩:=r;exact ⟨[],.str x t,by simp⟩
 | .tuple U,v,u,h,r,Y=>by
  simp only [DV] at h;obtain ⟨a,G,e,W,T⟩:=h;subst e;cases r;obtain ⟨its,S,⟨o,e,c,n,R⟩,_⟩:=I.tuple W;obtain ⟨as,Q,hs⟩:=ak.pO I T S (by simpa only [uH] using Y);exact ⟨as,.tuple e c R (by simpa using Q),hs⟩
 | .list U,v,u,h,r,Y=>by
  simp only [uH] at Y;cases Y
 | .dict F,v,u,h,r,_=>by
  simp only [DV] at h;obtain ⟨a,E,e,_,W,l,e1,e2⟩:=h;subst e e1 e2;cases r;obtain ⟨_,P,D,O,o,C,B,g1,g2,g3,_,N,_⟩:=(show cJ X.prog X.w H s.heap a (.dK _) from I.aD a _ W);obtain ⟨M,L⟩:=vf (h:=s.heap) O N;refine ⟨a::[]++[],.dict g1 g2.1 g3 M L,fun J=>?_⟩;have e:ς=a:=by simpa using J
  subst e;simp at P
theorem ak.pO (I:Inv X π σ H s):∀{ds:List ž} {vs:List V} {us:List Ä},ak X.K Z H ds vs->Vals vs us->tZ ds=true->∃as,ReadsAll s.heap us ds as/\ς∉as
 | [],vs,us,h,r,_=>by
  have e:vs=[]:=h;subst e;cases r;exact ⟨[],.nil,by simp⟩
 |d::ds,vs,us,h,r,Y=>by
  obtain ⟨v,O,e,W,U⟩:=h;subst e;simp only [tZ,È] at Y
  cases r with
  |cons T S =>
   obtain ⟨as,a1,R⟩:=DV.pO I W T Y.1;obtain ⟨bs,a2,Q⟩:=ak.pO I U S Y.2;refine ⟨as++bs,.cons a1 a2,fun P=>?_⟩
   rcases ð.mp P with z|z
   ·exact R z
   ·exact Q z
end
end
section
variable {X:Cx}
end
end L2
namespace HZ
open PySem PySem.Spec PyProof.Rows
open AutoSeq1 (wpAny_loadPart')
section
variable {P:ß} {w:ú} {A:æ} {E:Ä->Ã->Prop} {s:Ã}
end
end HZ
namespace L2
open PySem PySem.Spec PyProof.Rows
section
variable {X:Cx} {elts:List Ğ} {kk:Nat} {tp:Pos}
end
section
variable {K:č} {caps:St} {H:Hp} {tf:TT} {te:TE} {Q:VK}
end
end L2
namespace HZ
open PySem PySem.Spec PyProof.Rows
def Ho:fillsNumberSlot (.type "tuple") "mul"=pure false:=by
 first|rfl | (unfold fillsNumberSlot;kernel_rfl)|kernel_rfl
def HV:seqRepeat? (.type "tuple")=pure (some (.builtin "tuple.__mul__")):=by
 first|rfl|kernel_rfl
def Jo (a:Int) (t:Tok) (l:Ø) (items:Array Ä) (n:Nat) (d:Option Ø) (sl:Array (Option Ä)) :
  Meets (œ.«int.__rmul__» ⟨[.int a t,.ref l],[]⟩) (fun _ R s=>s.heap.get? l=some { cls:=.type "tuple",dict:=d,data:=.seq items n,slots:=sl }/\R (.ok (.ret Value.notImplemented)) s) :=
 .of_wp fun prog w A R s h=>by
  obtain ⟨Z,Y,X,W,V⟩:=s;obtain ⟨U,h⟩:=h;wp_walk;exact ⟨_,rfl,h⟩
section
variable {P:ß} {w:ú} {A:æ} {E:Ä->Ã->Prop} {s:Ã}
def MM (ht:IsTup s.heap t vs.toArray) (hv:vs≠[]) (hk:1<=k) (hz:vs.length*k.toNat<=Ñ)
 (h1:k=1->Q (.ref t) s) (h2:k≠1->Q (.ref s.heap.objs.size) { s with heap:=s.heap.push { cls:=.type "tuple",data:=.seq (Î k.toNat vs).flatten.toArray } }) :
  Ù (à P w) A (İ .Mult (.ref t) (.int k tk)) Q E s:=by
 obtain ⟨⟨cls,V,data,S⟩,Z,Y,n,X⟩:=id ht;simp only at Y X;subst Y X;have K:k<=16777216:=by
  have R:1<=vs.length:=by
   cases vs with
   |nil=>exact absurd rfl hv
   |cons a r=>simp
  have J:vs.length*k.toNat<=16777216:=by rw [<- Ũ];exact hz
  have:1*k.toNat<=vs.length*k.toNat:=Wg _ R;omega
 refine wpAny_binaryOp_repeat_ref (T:="tuple") (U:="int") (by decide) ⟨_,Z,rfl⟩ (fun O=>typeIs_int O k tk) Ho F.fills_int_mul Wn HV F.slot_int_index.lookup
  (call_meets Wn (typeIs_int s k tk) F.entry_int_rmul (F.args_int_rmul_2 _ _) (Jo k tk t vs.toArray n V S) ⟨Z,rfl,⟨_,Z,rfl⟩,?_⟩)
 refine þ F.slot_tuple_mul ⟨_,Z,rfl⟩ F.entry_tuple_mul ?_ (F.args_tuple_mul_2 _ _);show Ù _ _ (asIndex (.int k tk) >>= _) _ _ _;refine À ?_
 refine wpAny_of_eq (a:=k) (by first|rfl | (unfold asIndex;rfl)) ?_
 dsimp only;rw [í (by simp;omega)];unfold Ň;refine À (À (Ġ Z rfl ?_));refine Â ?_;have ne:vs.toArray.isEmpty=false:=by
  cases vs with
  |nil=>exact absurd rfl hv
  |cons a r=>simp
 by_cases h:k=1
 ·rw [ä (by rw [h];simp)]
  unfold Ŷ;refine À (À (V3 (T:="tuple") ⟨_,Z,rfl⟩ (Â ?_)));rw [ä (by decide)];exact À (ŋ (Â ⟨_,rfl,h1 h⟩))
 ·rw [í (by rw [ne];simp [h])]
  rw [í (by rw [ne];simp;omega)];have W:(vs.toArray.size:Int)*k=((vs.length*k.toNat:Nat):Int):=by
   rw [Ô,Int.natCast_mul];congr 1;omega
  have N:vs.length*k.toNat<=16777216:=by rw [<- Ũ];exact hz
  rw [í (by rw [W];omega)];rw [í (by
   unfold Builtin.Tuple.tupleTooMany;rw [W,Ũ,Ü];generalize vs.length*k.toNat=q at N;omega)]
  unfold Ļ;have e:List.foldl (fun M L=>M++L) #[] (Î k.toNat vs.toArray)=(Î k.toNat vs).flatten.toArray:=by
   have:=L2.foldl_rep vs k.toNat [];rw [Č] at this;exact this
  rw [e];refine À (ò ?_ (by
   show (V5 _).size<=Ñ;rw [Ô,L2.len_rep,Nat.mul_comm];exact hz))
  exact Â ⟨_,rfl,h2 h⟩
end
end HZ
namespace L2
open PySem PySem.Spec PyProof.Rows
section
variable {X:Cx}
def PY (K:č):R2:=fun x y H Q=>∃a Z k,x=.ref a/\y=.int k/\bg K H a Z/\Z≠[]/\1<=k/\Z.length*k.toNat<=Ñ/\lF K H (Î k.toNat Z).flatten Q
def MN:bj X (İ .Mult) (PY X.K):=by
 intro P s σ H x y v u Q I V U h;obtain ⟨a,Z,k,rfl,rfl,hs,T,S,W,q⟩:=h;cases V;obtain ⟨t,rfl⟩:=U;obtain ⟨its,r,p,z⟩:=I.tuple hs;have Y:=r.length;refine HZ.MM p (fun e=>T (by rw [e] at Y;exact VF.mp Y)) S (by rw [<- Y];exact W) (fun e=>?_) (fun _=>?_)
 ·have e1:(Î k.toNat Z).flatten=Z:=by rw [e];simp
  rw [e1] at q;exact ⟨.ref a,H,I,rfl,q.here hs⟩
 ·have R:(Î k.toNat Z).flatten.length<=Ñ:=by rw [len_rep,Nat.mul_comm];exact W
  exact ⟨.ref _,_,I.laid (t':=s.toks) (o:=.tup (Î k.toNat Z).flatten) (fun b o e=>Á _ e) (WV _) ⟨R,_,r.rep k.toNat,⟨_,Ï _ rfl,rfl,_,rfl⟩⟩,rfl,q.new (I.aD.fresh (WV _))⟩
end
end L2
namespace HZ
open PySem PySem.Spec PyProof.Rows
section
variable {P:ß} {w:ú} {A:æ} {E:Ä->Ã->Prop} {s:Ã}
end
end HZ
namespace L2
open PySem PySem.Spec PyProof.Rows
section
variable {X:Cx} {tg:Ğ}
end
end L2
namespace HZ
open PySem PySem.Spec PyProof.Rows
section
variable {P:ß} {w:ú} {A:æ} {R:Result->Ã->Prop} {I:Ø} {fp wr:List Ø} {n:Nat} {Pv:Nat->Ä->Prop} {St:Nat->ħ->Prop} {kw:List (Str×Ä)}
end
section
variable {P:ß} {w:ú} {A:æ} {E:Ä->Ã->Prop} {s:Ã}
end
end HZ
namespace L2
open PySem PySem.Spec PyProof.Rows
section
variable {X:Cx} {p pos kp:Pos} {e d:Ğ} {ta tk:TA}
end
end L2
namespace DI
open PySem L2
set_option genInjectivity true in
inductive D where
 |ao|bl (b:Bool)|int (i:Int)|str (x:Str)|tup (ds:List D)|lst (ds:List D)|bq (aB:List (Key×Int))|au (k:Nat)|ty (n:String)|bz (ns:List Int)|exc (c:Str)|bT (a:Ø) (vs:List V) (ds:List D)
set_option genInjectivity true in
inductive Cell where
 |dead|lst (ds:List D)|dK (aB:List (Key×D))|dT (aB:List (D×Int))|tb (x:Str)
noncomputable abbrev aa:=List Cell
noncomputable abbrev Env:=List (Option D)
structure aW where
 c:Str
 many:Option D
abbrev Res (α:Type):=Option (Except aW α×aa)
abbrev WR (α:Type):=Env->aa->Res α
abbrev ok {α:Type} (a:α) (s:aa):Res α:=some (.ok a,s)
def ai {α β:Type} (r:Res α) (k:α->aa->Res β):Res β:=match r with
 |some (.ok a,s)=>k a s
 |some (.error x,s)=>some (.error x,s)
 |none=>none
@[simp] theorem iB {α β:Type} {a:α} {s:aa} {k:α->aa->Res β}:ai (some (.ok a,s)) k=k a s:=rfl
structure Wd where
 ρ:List Ø
 aF:aa
 H:Hp
def Wd.Z (w:Wd) (a:Ø):Prop:=∃(k:Nat) (c:Cell),w.ρ[k]?=some a/\w.aF[k]?=some c/\c≠.dead
def LstAt (w:Wd) (a:Ø) (xs:List V):Prop:=¬ w.Z a/\w.H a=some (.lst xs)
def LstAt.sq (h:LstAt w a xs):bt K w.H a xs:=bt.of h.2
def p9 (K:č) (w:Wd) (a:Ø) (xs:List V):Prop:=(¬ w.Z a/\Rd w.H a (.lst xs)) \/
 ∃(o:Obj) (its:Array Ä) (n:Nat),K.lookup a=some o/\o.cls=.type "list"/\o.dict=none/\o.data=.seq its n/\its.size<=Ñ/\Vals xs its.toList
def p9.sq (h:p9 K w a xs):bt K w.H a xs:=by
 rcases h with ⟨_,h⟩|h
 ·exact .inl h
 ·exact .inr h
mutual
def DV (K:č) (w:Wd):D->V->Prop
 | .ao,v=>v=.ao
 | .bl b,v=>v=.bl b
 | .int i,v=>v=.int i
 | .str x,v=>v=.str x
 | .tup Y,v=>∃a X,v=.ref a/\bg K w.H a X/\ak K w Y X
 | .lst Y,v=>∃a X,v=.ref a/\LstAt w a X/\ak K w Y X
 | .bq W,v=>∃a,v=.ref a/\¬ w.Z a/\w.H a=some (.dK (W.map fun p=>(p.1,V.int p.2)))
 | .au k,v=>∃a,w.ρ[k]?=some a/\v=.ref a
 | .ty n,v=>v=.ty n
 | .bz U,v=>∃a,v=.ref a/\p9 K w a (U.map V.int)
 | .exc c,v=>∃a o C,v=.ref a/\(¬ w.Z a/\w.H a=some (.ba o (.own a)))/\o.cls=.ref C/\é K Ó c=some (some (.ref C))
 | .bT a T Y,v=>v=.ref a/\ak K w Y T
def ak (K:č) (w:Wd):List D->List V->Prop
 | [],Z=>Z=[]
 |d::Y,Z=>∃v r,Z=v::r/\DV K w d v/\ak K w Y r
end
structure Fw (K:č) (w w':Wd):Prop where
 zx:∀(k:Nat) a,w.ρ[k]?=some a->w'.ρ[k]?=some a
 tup:∀a xs,bg K w.H a xs->bg K w'.H a xs
 lst:∀a xs,¬ w.Z a->w.H a=some (.lst xs)->¬ w'.Z a/\w'.H a=some (.lst xs)
 ba:∀a o u,¬ w.Z a->w.H a=some (.ba o u)->¬ w'.Z a/\w'.H a=some (.ba o u)
 bq:∀a es,¬ w.Z a->w.H a=some (.dK es)->¬ w'.Z a/\w'.H a=some (.dK es)
def Fw.EU (S:Fw K w w') (h:LstAt w a xs):LstAt w' a xs:=S.lst a xs h.1 h.2
def Fw.PZ (S:Fw K w w') (h:p9 K w a xs):p9 K w' a xs:=by
 rcases h with ⟨Y,Z | ⟨o,Z⟩⟩|h
 ·have q:=S.lst a xs Y Z
  exact .inl ⟨q.1,.inl q.2⟩
 ·have q:=S.ba a o _ Y Z
  exact .inl ⟨q.1,.inr ⟨o,q.2⟩⟩
 ·exact .inr h
mutual
theorem DV.fw (S:Fw K w w'):∀{d:D} {v:V},DV K w d v->DV K w' d v
 | .ao,_,h=>h
 | .bl _,_,h=>h
 | .int _,_,h=>h
 | .str _,_,h=>h
 | .tup X,v,h=>by
  simp only [DV] at h |-;obtain ⟨a,Y,e,Z,r⟩:=h;exact ⟨a,Y,e,S.tup a Y Z,ak.fw S r⟩
 | .lst X,v,h=>by
  simp only [DV] at h |-;obtain ⟨a,Y,e,Z,r⟩:=h;exact ⟨a,Y,e,S.EU Z,ak.fw S r⟩
 | .bq R,v,h=>by
  simp only [DV] at h |-;obtain ⟨a,e,W,Z⟩:=h;obtain ⟨U,T⟩:=S.bq a _ W Z;exact ⟨a,e,U,T⟩
 | .au k,v,h=>by
  simp only [DV] at h |-;obtain ⟨a,e,e2⟩:=h;exact ⟨a,S.zx k a e,e2⟩
 | .ty _,_,h=>h
 | .bz Q,v,h=>by
  simp only [DV] at h |-;obtain ⟨a,e,Z⟩:=h;exact ⟨a,e,S.PZ Z⟩
 | .exc c,v,h=>by
  simp only [DV] at h |-;obtain ⟨a,o,C,e,Z,r⟩:=h;exact ⟨a,o,C,e,S.ba a o _ Z.1 Z.2,r⟩
 | .bT a P X,v,h=>by
  simp only [DV] at h |-;exact ⟨h.1,ak.fw S h.2⟩
theorem ak.fw (S:Fw K w w'):∀{ds:List D} {vs:List V},ak K w ds vs->ak K w' ds vs
 | [],_,h=>h
 |d::ds,vs,h=>by
  simp only [ak] at h |-;obtain ⟨v,r,e,Z,Y⟩:=h;exact ⟨v,r,e,DV.fw S Z,ak.fw S Y⟩
end
structure Le (K:č) (w w':Wd):Prop where
 dv:∀d v,DV K w d v->DV K w' d v
 lst:∀a xs,LstAt w a xs->LstAt w' a xs
 tup:∀a xs,bg K w.H a xs->bg K w'.H a xs
 ba:∀a o u,¬ w.Z a->w.H a=some (.ba o u)->¬ w'.Z a/\w'.H a=some (.ba o u)
noncomputable instance {K:č} {w w':Wd}:CoeFun (Le K w w') (fun _=>∀d v,DV K w d v->DV K w' d v):=⟨Le.dv⟩
def Le.refl (w:Wd):Le K w w:=⟨fun _ _ h=>h,fun _ _ h=>h,fun _ _ h=>h,fun _ _ _ h g=>⟨h,g⟩⟩
def Le.trans (h:Le K a b) (g:Le K b c):Le K a c:=⟨fun d v x=>g.dv d v (h.dv d v x),fun p Z x=>g.lst p Z (h.lst p Z x),fun p Z x=>g.tup p Z (h.tup p Z x),fun p o u z x=>let q:=h.ba p o u z x;g.ba p o u q.1 q.2⟩
def Fw.le (S:Fw K w w'):Le K w w':=⟨fun _ _ h=>h.fw S,fun _ _ h=>S.EU h,S.tup,S.ba⟩
theorem Le.all (h:Le K w w'):∀{ds:List D} {vs:List V},ak K w ds vs->ak K w' ds vs
 | [],_,x=>x
 |d::ds,vs,x=>by
  simp only [ak] at x |-;obtain ⟨v,r,e,Z,Y⟩:=x;exact ⟨v,r,e,h d v Z,Le.all h Y⟩
theorem ak.length:∀{ds:List D} {vs:List V},ak K w ds vs->ds.length=vs.length
 | [],vs,h=>by
  have e:vs=[]:=h;subst e;rfl
 |d::ds,vs,h=>by
  obtain ⟨v,r,e,_,Z⟩:=h;subst e;simp [ak.length Z]
theorem ak.get:∀{ds:List D} {vs:List V},ak K w ds vs->∀(i:Nat) v,vs[i]?=some v->∃d,ds[i]?=some d/\DV K w d v
 | [],vs,h,i,v,e=>by
  have Z:vs=[]:=h;subst Z;simp at e
 |d::ds,vs,h,i,v,e=>by
  obtain ⟨u,r,Z,Y,X⟩:=h;subst Z
  cases i with
  |zero =>
   have:u=v:=by simpa using e
   subst this;exact ⟨d,rfl,Y⟩
  |succ i=>exact ak.get X i v (by simpa using e)
theorem ak.get':∀{ds:List D} {vs:List V},ak K w ds vs->∀(i:Nat) d,ds[i]?=some d->∃v,vs[i]?=some v/\DV K w d v
 | [],vs,h,i,d,e=>by simp at e
 |d::ds,vs,h,i,Z,e=>by
  obtain ⟨u,r,Y,X,W⟩:=h;subst Y
  cases i with
  |zero =>
   have:d=Z:=by simpa using e
   subst this;exact ⟨u,rfl,X⟩
  |succ i=>exact ak.get' W i Z (by simpa using e)
theorem ak.append:∀{ds es:List D} {vs ws:List V},ak K w ds vs->ak K w es ws->ak K w (ds++es) (vs++ws)
 | [],es,vs,ws,h,Z=>by
  have e:vs=[]:=h;subst e;exact Z
 |d::ds,es,vs,ws,h,Z=>by
  obtain ⟨v,r,e,Y,X⟩:=h;subst e;exact ⟨v,r++ws,rfl,Y,ak.append X Z⟩
theorem ak.take:∀{ds:List D} {vs:List V} (n:Nat),ak K w ds vs->ak K w (ds.take n) (vs.take n)
 | [],vs,n,h=>by
  have e:vs=[]:=h;subst e;simp [ak]
 |d::ds,vs,0,h=>by simp [ak]
 |d::ds,vs,n+1,h=>by
  obtain ⟨v,r,e,Z,Y⟩:=h;subst e;exact ⟨v,r.take n,rfl,Z,ak.take n Y⟩
theorem ak.drop:∀{ds:List D} {vs:List V} (n:Nat),ak K w ds vs->ak K w (ds.drop n) (vs.drop n)
 | [],vs,n,h=>by
  have e:vs=[]:=h;subst e;simp [ak]
 |d::ds,vs,0,h=>h
 |d::ds,vs,n+1,h=>by
  obtain ⟨v,r,e,Y,Z⟩:=h;subst e;exact ak.drop n Z
theorem ak.reverse:∀{ds:List D} {vs:List V},ak K w ds vs->ak K w ds.reverse vs.reverse
 | [],vs,h=>by
  have e:vs=[]:=h;subst e;simp [ak]
 |d::ds,vs,h=>by
  obtain ⟨v,r,e,Z,Y⟩:=h;subst e;rw [List.reverse_cons,List.reverse_cons];exact ak.append (ak.reverse Y) ⟨v,[],rfl,Z,rfl⟩
theorem ak.set (hd:DV K w d v):∀{ds:List D} {vs:List V} (i:Nat),ak K w ds vs->ak K w (ds.set i d) (vs.set i v)
 | [],vs,i,h=>by
  have e:vs=[]:=h;subst e;simp [ak]
 |d'::ds,vs,0,h=>by
  obtain ⟨u,r,e,Y,Z⟩:=h;subst e;exact ⟨v,r,rfl,hd,Z⟩
 |d'::ds,vs,i+1,h=>by
  obtain ⟨u,r,e,Y,Z⟩:=h;subst e;exact ⟨u,r.set i v,rfl,Y,ak.set hd i Z⟩
def ak.one (h:DV K w d v):ak K w [d] [v]:=⟨v,[],rfl,h,rfl⟩
def ak.two (h:DV K w d v) (h':DV K w d' v'):ak K w [d,d'] [v,v']:=⟨v,_,rfl,h,ak.one h'⟩
theorem ak.ints:∀(ns:List Int),ak K w (ns.map D.int) (ns.map V.int)
 | []=>rfl
 |n::ns=>⟨.int n,_,rfl,rfl,ak.ints ns⟩
theorem ak.vG:∀{ns:List Int} {vs:List V},ak K w (ns.map D.int) vs->vs=ns.map V.int
 | [],_,h=>h
 |n::ns,vs,h=>by
  obtain ⟨v,r,e,Z,Y⟩:=h;have e1:v=.int n:=Z;rw [e,e1,ak.vG Y];rfl
theorem ak.pB:∀{bs:List Bool} {vs:List V},ak K w (bs.map D.bl) vs->vs=bs.map V.bl
 | [],_,h=>h
 |n::X,vs,h=>by
  obtain ⟨v,r,e,Z,Y⟩:=h;have e1:v=.bl n:=Z;rw [e,e1,ak.pB Y];rfl
def DX (a:Ø) (es:List (Int×Ø)) (h:ħ):Prop:=(a==ς)=false/\∃(o:Obj) (Z:Array DictEntry) (Y:Nat),h.get? a=some o/\o.ExactDict/\o.data=.dict Z Y/\Z.toList=es.map fun p=>(⟨p.1,.ref p.2,.bool true⟩:DictEntry)
def P0 (w:Wd) (q:Str) (cv:Ä):Prop:=∃Y X W t,cv=.ref Y/\(¬ w.Z Y/\w.H Y=some (.ba X (.own Y)))/\X.data=.fields W/\W[1]?=some (.str q t)
def Rv (K:č) (w:Wd) (a:Ø) (x:Str):Prop:=∃c Z,WM K x=some (c,a)/\w.H a=some (.cO Z)/\PySem.TriplesOk Z.toList/\∀pos Y,PySem.codeAmong pos Z.toList=some Y->P0 w (x++".<locals>."++"<lambda>") Y
def nJ (K:č) (w:Wd) (a:Ø):Cell->Prop
 | .dead=>True
 | .lst W=>∃X,w.H a=some (.lst X)/\ak K w W X
 | .dK Z=>∃Y:List (Key×V),w.H a=some (.dK Y)/\Y.map (·.1)=Z.map (·.1)/\ak K w (Z.map (·.2)) (Y.map (·.2))
 | .dT Z=>∃as:List Ø,w.H a=some (.ext (DX a ((Z.map (·.2)).zip as)))/\ak K w (Z.map (·.1)) (as.map V.ref)/\(Z.map (·.1)).Nodup
 | .tb x=>Rv K w a x
structure aL (K:č) (w:Wd):Prop where
 len:w.ρ.length=w.aF.length
 nd:w.ρ.Nodup
 there:∀(k:Nat) a,w.ρ[k]?=some a->w.H a≠none
 cell:∀(k:Nat) a c,w.ρ[k]?=some a->w.aF[k]?=some c->nJ K w a c
theorem nJ.le (h:nJ K w a c) (le:Le K w w') (e:c≠.dead->w'.H a=w.H a):nJ K w' a c:=by
 cases c with
 |dead=>trivial
 |lst J =>
  obtain ⟨T,Z,Y⟩:=h;exact ⟨T,(e (by intro z;cases z)).trans Z,le.all Y⟩
 |dK S =>
  obtain ⟨R,Z,Y,X⟩:=h;exact ⟨R,(e (by intro z;cases z)).trans Z,Y,le.all X⟩
 |dT S =>
  obtain ⟨as,Z,Y,X⟩:=h;exact ⟨as,(e (by intro z;cases z)).trans Z,le.all Y,X⟩
 |tb x =>
  obtain ⟨c,Q,Z,Y,X,P⟩:=h
  exact ⟨c,Q,Z,(e (by intro z;cases z)).trans Y,X,fun pos O q=>let ⟨W,V,N,t,M,U,L⟩:=P pos O q;⟨W,V,N,t,M,le.ba W V _ U.1 U.2,L⟩⟩
section
variable {K:č} {w:Wd}
def Wd.grow (w:Wd) (p:Ø) (o:HO):Wd:={ w with H:=upd w.H p o }
def Rd.grow (hp:H p=none) (h:Rd H a u):Rd (upd H p o) a u:=by
 rcases h with h | ⟨Z,h⟩
 ·exact .inl (by rw [aT (cz h hp)];exact h)
 ·exact .inr ⟨Z,by rw [aT (cz h hp)];exact h⟩
theorem bg.grow (hp:H p=none) (h:bg K H a xs):bg K (upd H p o) a xs:=by
 rcases h with h|h
 ·exact .inl (Rd.grow hp h)
 ·exact .inr h
theorem Fw.grow (hp:w.H p=none):Fw K w (w.grow p o) where
 zx:=fun _ _ e=>e
 tup:=fun a Y h=>bg.grow hp h
 lst:=fun a Y Z h=>⟨Z,by show upd w.H p o a=_;rw [aT (cz h hp)];exact h⟩
 ba:=fun a X Y Z h=>⟨Z,by show upd w.H p o a=_;rw [aT (cz h hp)];exact h⟩
 bq:=fun a W Z h=>⟨Z,by show upd w.H p o a=_;rw [aT (cz h hp)];exact h⟩
theorem aL.grow (S:aL K w) (hp:w.H p=none):aL K (w.grow p o) where
 len:=S.len
 nd:=S.nd
 there:=fun k a e=>by
  have h:=S.there k a e;show upd w.H p o a≠none;unfold upd;split
  ·intro z;cases z
  ·exact h
 cell:=fun k a c e1 e2=>(S.cell k a c e1 e2).le (Fw.grow hp).le fun _=>by
  have h:=S.there k a e1;show upd w.H p o a=w.H a;rw [aT];intro z;rw [z] at h;exact h hp
def Wd.cell (w:Wd) (p:Ø) (o:HO) (c:Cell):Wd:=⟨w.ρ++[p],w.aF++[c],upd w.H p o⟩
def Wd.wU (S:aL K w) (h:(w.cell p o c).Z a):w.Z a\/a=p:=by
 obtain ⟨k,Y,e1,e2,V⟩:=h;have e1:(w.ρ++[p])[k]?=some a:=e1;have e2:(w.aF++[c])[k]?=some Y:=e2;by_cases X:k<w.ρ.length
 ·rw [Ú X] at e1
  rw [Ú (by rw [<- S.len];exact X)] at e2;exact .inl ⟨k,Y,e1,e2,V⟩
 ·rw [ô (by omega)] at e1
  right
  cases W:k-w.ρ.length with
  |zero=>rw [W] at e1;exact (WW e1).symm
  |succ j=>rw [W] at e1;cases e1
theorem Fw.cell (S:aL K w) (hp:w.H p=none):Fw K w (w.cell p o c) where
 zx:=fun k a e=>by
  show (w.ρ++[p])[k]?=some a;rw [Ú (Æ.mp e).1];exact e
 tup:=fun a Y h=>bg.grow hp h
 lst:=fun a Y Z h=>⟨fun z=>(Wd.wU S z).elim Z (fun e=>by (subst e;rw [hp] at h;cases h)),by show upd w.H p o a=_;rw [aT (cz h hp)];exact h⟩
 ba:=fun a X Y Z h=>⟨fun z=>(Wd.wU S z).elim Z (fun e=>by (subst e;rw [hp] at h;cases h)),by show upd w.H p o a=_;rw [aT (cz h hp)];exact h⟩
 bq:=fun a W Z h=>⟨fun z=>(Wd.wU S z).elim Z (fun e=>by (subst e;rw [hp] at h;cases h)),by show upd w.H p o a=_;rw [aT (cz h hp)];exact h⟩
def aL.EV (S:aL K w) (hp:w.H p=none) (hc:nJ K (w.cell p o c) p c):aL K (w.cell p o c) where
 len:=by show (w.ρ++[p]).length=(w.aF++[c]).length;simp [S.len]
 nd:=by
  show (w.ρ++[p]).Nodup;rw [List.nodup_append];refine ⟨S.nd,by simp,fun a W b V=>?_⟩;obtain ⟨k,e⟩:=List.getElem?_of_mem W;have h:=S.there k a e;have U:b=p:=by simpa using V
  rw [U];intro z;rw [z] at h;exact h hp
 there:=fun k a e=>by
  have e:(w.ρ++[p])[k]?=some a:=e;show upd w.H p o a≠none;unfold upd;split
  ·intro z;cases z
  ·rename_i T
   by_cases Y:k<w.ρ.length
   ·rw [Ú Y] at e
    exact S.there k a e
   ·rw [ô (by omega)] at e
    cases Z:k-w.ρ.length with
    |zero=>rw [Z] at e;exact absurd (WW e).symm T
    |succ j=>rw [Z] at e;cases e
 cell:=fun k a X e1 e2=>by
  have e1:(w.ρ++[p])[k]?=some a:=e1;have e2:(w.aF++[c])[k]?=some X:=e2;by_cases Y:k<w.ρ.length
  ·rw [Ú Y] at e1
   rw [Ú (by rw [<- S.len];exact Y)] at e2;refine (S.cell k a X e1 e2).le (Fw.cell S hp).le fun _=>?_;have h:=S.there k a e1;show upd w.H p o a=w.H a;rw [aT];intro z;rw [z] at h;exact h hp
  ·rw [ô (by omega)] at e1
   rw [ô (by rw [<- S.len];omega)] at e2;rw [<- S.len] at e2
   cases Z:k-w.ρ.length with
   |zero =>
    rw [Z] at e1 e2;have e1:p=a:=WW e1;have e2:c=X:=WW e2;subst e1 e2;exact hc
   |succ j=>rw [Z] at e1;cases e1
def Wd.same (w:Wd) (H':Hp):Wd:={ w with H:=H' }
theorem Fw.same (e:iK w.H H'):Fw K w (w.same H') :=
 ⟨fun _ _ e=>e,fun a Y h=>e.Si h,fun a Y Z h=>⟨Z,e _ _ h⟩,fun a o Y Z h=>⟨Z,e _ _ h⟩,fun a X Z h=>⟨Z,e _ _ h⟩⟩
theorem aL.same (S:aL K w) (e:iK w.H H'):aL K (w.same H') where
 len:=S.len
 nd:=S.nd
 there:=fun k a q=>by
  have h:=S.there k a q;show H' a≠none
  cases Z:w.H a with
  |none=>exact absurd Z h
  |some o=>rw [e _ _ Z];intro z;cases z
 cell:=fun k a c e1 e2=>(S.cell k a c e1 e2).le (Fw.same e).le fun _=>by
  have h:=S.there k a e1;show H' a=w.H a
  cases Z:w.H a with
  |none=>exact absurd Z h
  |some o=>exact e _ _ Z
def Wd.put (w:Wd) (k:Nat) (a:Ø) (o:HO) (c:Cell):Wd:=⟨w.ρ,w.aF.set k c,upd w.H a o⟩
def HW {α:Type} {l:List α} (nd:l.Nodup) {i j:Nat} {a:α} (h1:l[i]?=some a) (h2:l[j]?=some a):i=j:=by
 exact (List.getElem?_inj (Æ.mp h1).1 nd).mp (h1.trans h2.symm)
def Wd.xM (h0:w.ρ[k]?=some a) (h1:w.aF[k]?=some c0) (h2:c0≠.dead) (h:(w.put k a o c).Z b):w.Z b:=by
 obtain ⟨j,Y,e1,e2,W⟩:=h;have e1:w.ρ[j]?=some b:=e1;have e2:(w.aF.set k c)[j]?=some Y:=e2;by_cases X:k=j
 ·subst X
  exact ⟨k,c0,e1,h1,h2⟩
 ·rw [â X] at e2
  exact ⟨j,Y,e1,e2,W⟩
theorem Fw.put (S:aL K w) (h0:w.ρ[k]?=some a) (h1:w.aF[k]?=some c0) (h2:c0≠.dead):Fw K w (w.put k a o c):=by
 have W:w.Z a:=⟨k,c0,h0,h1,h2⟩;have T:∀X,¬ Rd w.H a (.tup X):=fun X h=>by
  have q:=S.cell k a c0 h0 h1
  cases c0 with
  |dead=>exact h2 rfl
  |lst Q=>obtain ⟨V,e,_⟩:=q;rcases h with h | ⟨_,h⟩<;>(rw [e] at h;cases h)
  |dK R=>obtain ⟨V,e,_⟩:=q;rcases h with h | ⟨_,h⟩<;>(rw [e] at h;cases h)
  |dT R=>obtain ⟨V,e,_⟩:=q;rcases h with h | ⟨_,h⟩<;>(rw [e] at h;cases h)
  |tb x=>obtain ⟨_,V,_,e,_⟩:=q;rcases h with h | ⟨_,h⟩<;>(rw [e] at h;cases h)
 refine ⟨fun _ _ e=>e,fun b X h=>?_,fun b X Y h=>⟨fun z=>Y (Wd.xM h0 h1 h2 z),?_⟩,fun b U X Y h=>⟨fun z=>Y (Wd.xM h0 h1 h2 z),?_⟩,fun b P Y h=>⟨fun z=>Y (Wd.xM h0 h1 h2 z),?_⟩⟩
 ·rcases h with h|h
  ·have ne:b≠a:=fun e=>by subst e;exact T X h
   refine .inl ?_
   rcases h with h | ⟨U,h⟩
   ·exact .inl (by show upd w.H a o b=_;rw [aT ne];exact h)
   ·exact .inr ⟨U,by show upd w.H a o b=_;rw [aT ne];exact h⟩
  ·exact .inr h
 ·have ne:b≠a:=fun e=>by subst e;exact Y W
  show upd w.H a o b=_;rw [aT ne];exact h
 ·have ne:b≠a:=fun e=>by subst e;exact Y W
  show upd w.H a o b=_;rw [aT ne];exact h
 ·have ne:b≠a:=fun e=>by subst e;exact Y W
  show upd w.H a o b=_;rw [aT ne];exact h
def aL.yB {k:Nat} {a:Ø} {o:HO} {c c0:Cell} (S:aL K w) (h0:w.ρ[k]?=some a) (h1:w.aF[k]?=some c0) (h2:c0≠.dead) (hc:nJ K (w.put k a o c) a c):aL K (w.put k a o c) where
 len:=by show w.ρ.length=(w.aF.set k c).length;rw [ą];exact S.len
 nd:=S.nd
 there:=fun j b e=>by
  show upd w.H a o b≠none;unfold upd;split
  ·intro z;cases z
  ·exact S.there j b e
 cell:=fun j b Z e1 e2=>by
  have e1:w.ρ[j]?=some b:=e1;have e2:(w.aF.set k c)[j]?=some Z:=e2;by_cases Y:k=j
  ·subst Y
   rw [h0] at e1;have e1:a=b:=WW e1;rw [å (Æ.mp h1).1] at e2;have e2:c=Z:=WW e2;subst e1 e2;exact hc
  ·rw [â Y] at e2
   refine (S.cell j b Z e1 e2).le (Fw.put S h0 h1 h2).le fun _=>?_;show upd w.H a o b=w.H b;rw [aT];intro z;subst z;exact Y (HW S.nd h0 e1)
end
structure bB (K:č) (w:Wd) (env:Env) (σ:St):Prop where
 len:env.length=σ.length
 val:∀(i:Nat) d,env[i]?=some (some d)->∃v,σ[i]?=some (some v)/\DV K w d v
theorem bB.le (h:bB K w env σ) (le:Le K w w'):bB K w' env σ :=
 ⟨h.len,fun i d e=>by obtain ⟨v,e1,e2⟩:=h.val i d e;exact ⟨v,e1,le d v e2⟩⟩
theorem bB.set (h:bB K w env σ) (hd:DV K w d v) (i:Nat):bB K w (env.set i (some d)) (σ.set i (some v)):=by
 refine ⟨by rw [ą,ą];exact h.len,fun j X e=>?_⟩;by_cases Z:i=j
 ·subst Z
  have Y:=(Æ.mp e).1;rw [ą] at Y;rw [å Y] at e;have e:d=X:=WW (WW e);subst e;exact ⟨v,by rw [å (by rw [<- h.len];exact Y)],hd⟩
 ·rw [â Z] at e
  rw [â Z];exact h.val j X e
def Out (K:č) (Ξ:Wd->aW->Prop) (w:Wd) {α:Type} (r:Res α) (k:Wd->α->Prop):Prop:=match r with
 |none=>False
 |some (.ok a,s)=>∀Z,Le K w Z->aL K Z->Z.aF=s->k Z a
 |some (.error x,s)=>∀Z,Le K w Z->aL K Z->Z.aF=s->Ξ Z x
section
variable {K:č} {Ξ:Wd->aW->Prop} {w w':Wd} {α β:Type} {r:Res α} {k k':Wd->α->Prop}
def Out.from (h:Out K Ξ w r k) (le:Le K w w'):Out K Ξ w' r k:=by
 unfold Out at h |-
 split<;>simp only at h
 ·exact fun Z Y X e2=>h Z (le.trans Y) X e2
 ·exact fun Z Y X e2=>h Z (le.trans Y) X e2
def Out.mono (h:Out K Ξ w r k) (hk:∀w2 a,Le K w w2->aL K w2->k w2 a->k' w2 a):Out K Ξ w r k':=by
 unfold Out at h |-
 split<;>simp only at h
 ·exact fun w2 Z Y e2=>hk w2 _ Z Y (h w2 Z Y e2)
 ·exact h
theorem Out.ai {q:Wd->β->Prop} (h:Out K Ξ w (DI.ai r g) q):Out K Ξ w r (fun w2 a=>Out K Ξ w2 (g a w2.aF) q):=by
 match r,h with
 |some (.ok a,s),h =>
  intro w2 Z Y e2;rw [e2];exact Out.from h Z
 |some (.error x,s),h=>exact h
def Out.done (h:Out K Ξ w (some (.ok a,w.aF)) k) (S:aL K w):k w a:=h w (Le.refl w) S rfl
end
end DI
namespace DI
open PySem L2
def tE (K:č) (Ξ:Wd->aW->Prop) (f:WR D):TE:=fun σ H Q=>∃w env,w.H=H/\aL K w/\bB K w env σ/\Out K Ξ w (f env w.aF) fun Z d=>∀v,DV K Z d v->Q v Z.H
def tT (K:č) (Ξ:Wd->aW->Prop) (f:WR Bool):TT:=fun σ H Q=>∃w env,w.H=H/\aL K w/\bB K w env σ/\Out K Ξ w (f env w.aF) fun Z b=>Q b Z.H
def tA (K:č) (Ξ:Wd->aW->Prop) (f:WR (List D)):TA:=fun σ H Q=>∃w env,w.H=H/\aL K w/\bB K w env σ/\Out K Ξ w (f env w.aF) fun Z X=>∀Y,ak K Z X Y->Q Y Z.H
def rO (K:č) (Ξ:Wd->aW->Prop) (o:D->D->aa->Res D):R2:=fun x y H Q=>∃w Z Y,w.H=H/\aL K w/\DV K w Z x/\DV K w Y y/\Out K Ξ w (o Z Y w.aF) fun X d=>∀v,DV K X d v->Q v X.H
def rU (K:č) (Ξ:Wd->aW->Prop) (o:D->aa->Res D):V->Hp->VK->Prop:=fun x H Q=>∃w Z,w.H=H/\aL K w/\DV K w Z x/\Out K Ξ w (o Z w.aF) fun Y d=>∀v,DV K Y d v->Q v Y.H
def rC (K:č) (Ξ:Wd->aW->Prop) (o:List D->aa->Res D):List V->Hp->VK->Prop:=fun X H Q=>∃w Z,w.H=H/\aL K w/\ak K w Z X/\Out K Ξ w (o Z w.aF) fun Y d=>∀v,DV K Y d v->Q v Y.H
def af (i:Nat):WR D:=fun env s=>match env[i]? with
 |some (some d)=>ok d s
 |_=>none
def eC (d:D):WR D:=fun _ s=>ok d s
def e1 (o:D->aa->Res D) (f:WR D):WR D:=fun env s=>ai (f env s) fun x s=>o x s
def e2 (o:D->D->aa->Res D) (f g:WR D):WR D:=fun env s=>ai (f env s) fun x s=>ai (g env s) fun y s=>o x y s
def ah:WR (List D):=fun _ s=>ok [] s
def ae (f:WR D) (g:WR (List D)):WR (List D):=fun env s=>ai (f env s) fun x s=>ai (g env s) fun Z s=>ok (x::Z) s
def eB (o:List D->aa->Res D) (f:WR (List D)):WR D:=fun env s=>ai (f env s) fun Z s=>o Z s
def gk {α:Type} (ds:List D) (r:Res α):Res α:=if ds.length<=Ñ then r else none
def aU (f:WR (List D)):WR D:=fun env s=>ai (f env s) fun Z s=>gk Z (ok (.tup Z) s)
def cC (f:WR (List D)):WR D:=fun env s=>ai (f env s) fun Z s=>gk Z (ok (.lst Z) s)
def eNew (f:WR (List D)):WR D:=fun env s=>ai (f env s) fun Z s=>gk Z (ok (.au s.length) (s++[.lst Z]))
def ba:D->aa->Res D:=fun d s=>match d with
 | .au k=>match s[k]? with
  |some (.lst Z)=>ok (.lst Z) (s.set k .dead)
  |_=>none
 |_=>none
def yC (f:WR D):WR D:=fun env s=>ai (f env s) ba
def fK (d:D) (s:aa):Res Bool:=match d with
 | .bl b=>ok b s
 |_=>none
def aY (f:WR D):WR Bool:=fun env s=>ai (f env s) fK
def truth (d:D) (s:aa):Res Bool:=match d with
 | .ao=>ok false s
 | .bl b=>ok b s
 | .int i=>ok (i != 0) s
 | .str x=>if x.length<=Ñ then ok ((x.length:Int) != 0) s else none
 | .tup Z=>ok (!Z.isEmpty) s
 | .lst Z=>ok (!Z.isEmpty) s
 | .bq Y=>ok (!Y.isEmpty) s
 | .au k=>match s[k]? with
  |some (.lst Z)=>ok (!Z.isEmpty) s
  |some (.dK Y)=>ok (!Y.isEmpty) s
  |_=>none
 | .ty _=>none
 | .bz _=>none
 | .exc _=>none
 | .bT _ _ _=>none
def cQ (f:WR D):WR Bool:=fun env s=>ai (f env s) truth
def dJ (f g:WR Bool):WR Bool:=fun env s=>ai (f env s) fun b s=>if b=true then g env s else ok false s
def iS (f g:WR Bool):WR Bool:=fun env s=>ai (f env s) fun b s=>if b=true then ok true s else g env s
def eY (f:WR Bool):WR Bool:=fun env s=>ai (f env s) fun b s=>ok (!b) s
def dP (f g:WR D):WR D:=fun env s=>ai (f env s) fun x s=>ai (fK x s) fun b s=>if b=true then g env s else ok (.bl false) s
def rf (f g:WR D):WR D:=fun env s=>ai (f env s) fun x s=>ai (fK x s) fun b s=>if b=true then ok (.bl true) s else g env s
def qt (f:WR D):WR D:=fun env s=>ai (f env s) fun x s=>ai (fK x s) fun b s=>ok (.bl (!b)) s
def rg (c:WR Bool) (f g:WR D):WR D:=fun env s=>ai (c env s) fun b s=>if b=true then f env s else g env s
def oJ (o o':D->D->aa->Res D) (f g h:WR D):WR D:=fun env s=>ai (f env s) fun x s=>ai (g env s) fun y s=>ai (o x y s) fun z s=>ai (fK z s) fun b s =>
 if b=true then ai (h env s) fun u s=>o' y u s else ok (.bl false) s
section
variable {X:Cx} {Ξ:Wd->aW->Prop} {e a b c:Ğ} {es rest:List Ğ} {pos:Pos} {f g h:WR D} {fa:WR (List D)} {ft gt:WR Bool}
def bZ {t t':TE} (h:PE X e t) (i:∀ σ H Q,t' σ H Q->t σ H Q):PE X e t':=fun Z s σ H Q I Y=>h Z s σ H Q I (i σ H Q Y)
def wV {t t':TT} (h:PT X e t) (i:∀ σ H Q,t' σ H Q->t σ H Q):PT X e t':=fun Z s σ H Q I Y=>h Z s σ H Q I (i σ H Q Y)
def DO {t t':TT} (h:PW X e t) (i:∀ σ H Q,t' σ H Q->t σ H Q):PW X e t':=fun Z Y s σ H Q I W=>h Z Y s σ H Q I (i σ H Q W)
def DP {t t':TA} (h:PA X es t) (i:∀ σ H Q,t' σ H Q->t σ H Q):PA X es t':=fun p Z s σ H Q I Y=>h p Z s σ H Q I (i σ H Q Y)
def jg (h:PS X st t) (i:∀D σ H,t' D σ H->t D σ H):PS X st t':=fun Z s σ H D I Y=>h Z s σ H D I (i D σ H Y)
def CN (h:cg X st t) (i:∀D σ H,t' D σ H->t D σ H):cg X st t':=fun Z s σ H D I Y=>h Z s σ H D I (i D σ H Y)
def ay {α:Type} {K:č} {w:Wd} {a:α} {k:Wd->α->Prop} (S:aL K w) (h:Out K Ξ w (ok a w.aF) k):k w a:=h w (Le.refl w) S rfl
def ag (i:Nat) {x:Str} (hN:X.N[i]?=some x:=by rfl) (hv:mR X.env.scope x:=by first|exact Wy rfl|exact Or.inr (Wy rfl)|exact Or.inr (Or.inr rfl)) (hd:(x==("__debug__":Str))=false:=by decide)
  (cX:(x==("__classdict__":Str))=false:=by decide):PE X (.Name x pos) (tE X.K Ξ (af i)):=bZ (DB hN hv hd cX) fun σ H Q Z=>by
 obtain ⟨w,env,Y,S,W,h⟩:=Z;unfold af at h;split at h
 ·rename_i d V
  obtain ⟨v,e1,e2⟩:=W.val i d V;subst Y;exact ⟨v,e1,ay S h v e2⟩
 ·exact h.elim
def nN {d:D} {v:V} (h:PE X e (tC v)) (hd:∀w,DV X.K w d v):PE X e (tE X.K Ξ (eC d)):=bZ h fun σ H Q Z=>by
 obtain ⟨w,env,Y,S,W,h⟩:=Z;subst Y;exact ay S h v (hd w)
def aq {i j}:PE X (.Constant (.int i) j pos) (tE X.K Ξ (eC (.int i))):=nN ND fun _=>rfl
def er {b j}:PE X (.Constant (.bool b) j pos) (tE X.K Ξ (eC (.bl b))):=nN xE fun _=>rfl
def mr {j}:PE X (.Constant .none j pos) (tE X.K Ξ (eC .ao)):=nN NF fun _=>rfl
def cT {x j}:PE X (.Constant (.str x) j pos) (tE X.K Ξ (eC (.str x))):=nN NG fun _=>rfl
def sD (σ:St) (H:Hp) (Q:VK):tE K Ξ (e2 o f g) σ H Q->qP (rO K Ξ o) (tE K Ξ f) (tE K Ξ g) σ H Q:=by
 rintro ⟨w,env,rfl,S,Z,h⟩;exact ⟨w,env,rfl,S,Z,(Out.ai h).mono fun Y x X W V v1 U=>⟨Y,env,rfl,W,Z.le X,(Out.ai V).mono fun T y R P O v2 N=>⟨T,x,y,rfl,P,R _ _ U,N,O⟩⟩⟩
def bG (ho:bj X (İ op) (rO X.K Ξ o)) (ha:PE X a (tE X.K Ξ f)) (hb:PE X b (tE X.K Ξ g)):PE X (.BinOp a op b pos) (tE X.K Ξ (e2 o f g)):=bZ (Pu ho ha hb) sD
def jr (ho:bj X (Đ op) (rO X.K Ξ o)) (ha:PE X a (tE X.K Ξ f)) (hb:PE X b (tE X.K Ξ g)) (hm:Vw op b=false):PE X (.Compare a [op] [b] pos) (tE X.K Ξ (e2 o f g)):=bZ (Mt ho ha hb hm) sD
def Og {K:č} (σ:St) (H:Hp) (Q:Bool->Hp->Prop):tT K Ξ (aY f) σ H Q->tm (tE K Ξ f) σ H Q:=by
 rintro ⟨w,env,rfl,S,Y,h⟩;refine ⟨w,env,rfl,S,Y,(Out.ai h).mono fun V x U X Z v1 W=>?_⟩
 cases x with
 |bl b =>
  have e:v1=.bl b:=W;exact ⟨b,e,ay X Z⟩
 |_=>exact Z.elim
def Jp (i:∀ σ H Q,t' σ H Q->t σ H Q) (σ:St) (H:Hp) (Q:Bool->Hp->Prop):tm t' σ H Q->tm t σ H Q:=fun h=>i _ _ _ h
def bE (ho:bj X (Đ op) (rO X.K Ξ o)) (ha:PE X a (tE X.K Ξ f)) (hb:PE X b (tE X.K Ξ g)) (hm:Vw op b=false):PT X (.Compare a [op] [b] pos) (tT X.K Ξ (aY (e2 o f g))) :=
 wV (Mu ho ha hb hm) fun σ H Q h=>Jp sD σ H Q (Og σ H Q h)
def Oh {K:č} {o o':D->D->aa->Res D} (σ:St) (H:Hp) (Q:VK):tE K Ξ (oJ o o' f g h) σ H Q->DE (rO K Ξ o) (rO K Ξ o') (tE K Ξ f) (tE K Ξ g) (tE K Ξ h) σ H Q:=by
 rintro ⟨w,env,rfl,S,Y,h⟩;refine ⟨w,env,rfl,S,Y,(Out.ai h).mono fun P x W O N v1 M=>⟨P,env,rfl,O,Y.le W,(Out.ai N).mono fun L y V J I v2 U=>⟨L,x,y,rfl,J,V _ _ M,U,(Out.ai I).mono fun G z T X F E C=>?_⟩⟩⟩;have R:=Out.ai F
 cases z with
 |bl b =>
  have e:E=.bl b:=C;have Z:=ay X R;refine ⟨b,e,?_⟩
  cases b with
  |true =>
   rw [ä rfl] at Z |-;exact ⟨G,env,rfl,X,Y.le (W.trans (V.trans T)),(Out.ai Z).mono fun B u A v t v4 s=>⟨B,y,u,rfl,v,(T.trans A) _ _ U,s,t⟩⟩
  |false =>
   rw [í Ò] at Z |-;exact ay X Z _ rfl
 |_=>exact R.elim
def CO (ho:bj X (Đ op) (rO X.K Ξ o)) (dS:bj X (Đ oA) (rO X.K Ξ o')) (ha:PE X a (tE X.K Ξ f)) (hb:PE X b (tE X.K Ξ g)) (hc:PE X c (tE X.K Ξ h))
 (hm:lastMarks [op,oA] [b,c]=false:=by with_unfolding_all rfl):PE X (.Compare a [op,oA] [b,c] pos) (tE X.K Ξ (oJ o o' f g h)):=bZ (K3 ho dS ha hb hc hm) Oh
def FU (ho:qO X (unaryOp op) (rU X.K Ξ o)) (ha:PE X a (tE X.K Ξ f)):PE X (.UnaryOp op a pos) (tE X.K Ξ (e1 o f)):=bZ (Pw ho ha) fun σ H Q Z=>by
 obtain ⟨w,env,Y,S,W,h⟩:=Z;subst Y;exact ⟨w,env,rfl,S,W,(Out.ai h).mono fun V x P U T v1 R=>⟨V,x,rfl,U,R,T⟩⟩
def cq:PA X [] (tA X.K Ξ ah):=DP j8 fun σ H Q Z=>by
 obtain ⟨w,env,Y,S,W,h⟩:=Z;subst Y;exact ay S h _ rfl
def aQ (ha:PE X e (tE X.K Ξ f)) (hr:PA X es (tA X.K Ξ fa)) (hs:Ê (e::es) X.env=(false,ļ e X.env)::Ê es X.env:=by rfl):PA X (e::es) (tA X.K Ξ (ae f fa)):=DP (i9 ha hr hs) fun σ H Q Y=>by
 obtain ⟨w,env,W,S,Z,h⟩:=Y;subst W;exact ⟨w,env,rfl,S,Z,(Out.ai h).mono fun V x U T R v1 P=>⟨V,env,rfl,T,Z.le U,(Out.ai R).mono fun I G O N M L J=>ay N M _ ⟨v1,L,rfl,O _ _ P,J⟩⟩⟩
def pb {α:Type} {K:č} {w:Wd} {ds:List D} {r:Res α} {k:Wd->α->Prop} (h:Out K Ξ w (gk ds r) k):ds.length<=Ñ/\Out K Ξ w r k:=by
 unfold gk at h;split at h
 ·exact ⟨by assumption,h⟩
 ·exact h.elim
def bp {x1} (ha:PA X es (tA X.K Ξ fa)):PE X (.Tuple es x1 pos) (tE X.K Ξ (aU fa)):=bZ (NZ ha) fun σ H Q V=>by
 obtain ⟨w,env,U,S,T,h⟩:=V;subst U;refine ⟨w,env,rfl,S,T,(Out.ai h).mono fun R L J P O Y W=>?_⟩;obtain ⟨N,M⟩:=pb O;refine ⟨by rw [<- W.length];exact N,fun p Z=>?_⟩;exact M (R.grow p (.tup Y)) (Fw.grow Z).le (P.grow Z) rfl (.ref p) ⟨p,Y,rfl,bg.of cm,(Fw.grow Z).le.all W⟩
def j9 {K:č} {w:Wd} {p:Ø} (S:aL K w) (hp:w.H p=none):¬ w.Z p:=fun ⟨k,c,e1,_,_⟩=>S.there k p e1 hp
def dh (ha:PA X es (tA X.K Ξ fa)):PE X (.List es pos) (tE X.K Ξ (cC fa)):=bZ (DG ha) fun σ H Q R=>by
 obtain ⟨w,env,P,S,O,h⟩:=R;subst P;refine ⟨w,env,rfl,S,O,(Out.ai h).mono fun W J I V N U T=>?_⟩;obtain ⟨M,L⟩:=pb N;refine ⟨by rw [<- T.length];exact M,fun p Y=>?_⟩;exact L (W.grow p (.lst U)) (Fw.grow Y).le (V.grow Y) rfl (.ref p) ⟨p,U,rfl,⟨(show ¬ W.Z p from j9 V Y),cm⟩,(Fw.grow Y).le.all T⟩
def nO (ha:PA X es (tA X.K Ξ fa)):PE X (.List es pos) (tE X.K Ξ (eNew fa)):=bZ (DG ha) fun σ H Q R=>by
 obtain ⟨w,env,P,S,O,h⟩:=R;subst P;refine ⟨w,env,rfl,S,O,(Out.ai h).mono fun Z V J Y N W U=>?_⟩;obtain ⟨M,L⟩:=pb N;refine ⟨by rw [<- U.length];exact M,fun p T=>?_⟩;have le:=(Fw.cell (o:=.lst W) (c:=.lst V) Y T).le;refine L (Z.cell p (.lst W) (.lst V)) le (Y.EV T ⟨W,cm,le.all U⟩) rfl (.ref p) ⟨p,?_,rfl⟩;show (Z.ρ++[p])[Z.aF.length]?=some p;rw [<- Y.len];simp
theorem mE.of {K:č} {w:Wd} {d:D} {v:V} {k:Wd->Bool->Prop} (S:aL K w) (hd:DV K w d v) (h:Out K Ξ w (truth d w.aF) k):∃b,mE K v w.H b/\k w b:=by
 cases d with
 |ao=>have e:v=.ao:=hd;subst e;exact ⟨_,rfl,ay S h⟩
 |bl b=>have e:v=.bl b:=hd;subst e;exact ⟨_,rfl,ay S h⟩
 |int i=>have e:v=.int i:=hd;subst e;exact ⟨_,rfl,ay S h⟩
 |str x =>
  have e:v=.str x:=hd;subst e;unfold truth at h
  split at h<;>first|contradiction|skip
  all_goals (rename_i e;cases e)
  split at h
  ·exact ⟨_,⟨by assumption,rfl⟩,ay S h⟩
  ·exact h.elim
 |tup Y =>
  simp only [DV] at hd;obtain ⟨a,Z,rfl,X,r⟩:=hd;refine ⟨_,.inr (.inl ⟨Z,X,?_⟩),ay S h⟩;have e:=r.length
  cases Y<;>cases Z<;>first|rfl|cases e
 |lst Y =>
  simp only [DV] at hd;obtain ⟨a,Z,rfl,X,r⟩:=hd;refine ⟨_,.inl ⟨Z,X.sq,?_⟩,ay S h⟩;have e:=r.length
  cases Y<;>cases Z<;>first|rfl|cases e
 |bq W =>
  simp only [DV] at hd;obtain ⟨a,rfl,_,X⟩:=hd;refine ⟨_,.inr (.inr ⟨_,X,?_⟩),ay S h⟩
  cases W<;>rfl
 |au j =>
  simp only [DV] at hd;obtain ⟨a,e1,rfl⟩:=hd;simp only [truth] at h;split at h
  ·rename_i Y U
   obtain ⟨Z,T,R⟩:=S.cell j a _ e1 U;refine ⟨_,.inl ⟨Z,bt.of T,?_⟩,ay S h⟩;have e:=R.length
   cases Y<;>cases Z<;>first|rfl|cases e
  ·rename_i W U
   obtain ⟨es,T,R,Q⟩:=S.cell j a _ e1 U;refine ⟨_,.inr (.inr ⟨es,T,?_⟩),ay S h⟩;have e:=ĺ List.length R
   cases W<;>cases es<;>first|rfl|simp at e
  ·exact h.elim
 |ty n=>exact h.elim
 |bz P=>exact h.elim
 |exc o=>exact h.elim
 |bT o _ _=>exact h.elim
def gn (ha:PE X a (tE X.K Ξ f)) (he:∀whole,isTrue a X.env whole=(do let v <- whole;WC a.pos;Wk [v] (truthy v)):=by intro _;rfl):PT X a (tT X.K Ξ (cQ f)):=wV (K4 ha he) fun σ H Q Z=>by
 obtain ⟨w,env,Y,S,W,h⟩:=Z;subst Y;exact ⟨w,env,rfl,S,W,(Out.ai h).mono fun R x P V U v1 T=>mE.of V T U⟩
def kh (ha:PT X a (tT X.K Ξ ft)):PT X (.UnaryOp .Not a pos) (tT X.K Ξ (eY ft)):=wV (NJ ha) fun σ H Q Z=>by
 obtain ⟨w,env,Y,S,W,h⟩:=Z;subst Y;exact ⟨w,env,rfl,S,W,(Out.ai h).mono fun T b R V U=>ay V U⟩
def jh (ha:PT X a (tT X.K Ξ ft)):PW X (.BoolOp .And [a] pos) (tT X.K Ξ ft):=Mn ha
def nP (ha:PT X a (tT X.K Ξ ft)):PW X (.BoolOp .Or [a] pos) (tT X.K Ξ ft):=NH ha
def w_and (ha:PT X a (tT X.K Ξ ft)) (hb:PW X (.BoolOp .And (b::rest) pos) (tT X.K Ξ gt)):PW X (.BoolOp .And (a::b::rest) pos) (tT X.K Ξ (dJ ft gt)):=DO (NI ha hb) fun σ H Q V=>by
 obtain ⟨w,env,U,S,Z,h⟩:=V;subst U;refine ⟨w,env,rfl,S,Z,(Out.ai h).mono fun T b R Y W=>?_⟩
 cases b with
 |true=>exact ⟨T,env,rfl,Y,Z.le R,W⟩
 |false=>exact ay Y W
def w_or (ha:PT X a (tT X.K Ξ ft)) (hb:PW X (.BoolOp .Or (b::rest) pos) (tT X.K Ξ gt)):PW X (.BoolOp .Or (a::b::rest) pos) (tT X.K Ξ (iS ft gt)):=DO (Ph ha hb) fun σ H Q V=>by
 obtain ⟨w,env,U,S,Z,h⟩:=V;subst U;refine ⟨w,env,rfl,S,Z,(Out.ai h).mono fun T b R Y W=>?_⟩
 cases b with
 |false=>exact ⟨T,env,rfl,Y,Z.le R,W⟩
 |true=>exact ay Y W
def js {op} (ha:PE X a (tE X.K Ξ f)):PE X (.BoolOp op [a] pos) (tE X.K Ξ f):=NK ha
def wz {K:č} {w:Wd} {d:D} {v:V} {k:Wd->Bool->Prop} (S:aL K w) (hd:DV K w d v) (h:Out K Ξ w (fK d w.aF) k):∃b,v=.bl b/\k w b:=by
 cases d with
 |bl b=>exact ⟨b,hd,ay S h⟩
 |_=>exact h.elim
def fF (ha:PE X a (tE X.K Ξ f)) (hb:PE X (.BoolOp .And (b::rest) pos) (tE X.K Ξ g)):PE X (.BoolOp .And (a::b::rest) pos) (tE X.K Ξ (dP f g)):=bZ (NL ha hb) fun σ H Q V=>by
 obtain ⟨w,env,U,S,Y,h⟩:=V;subst U;refine ⟨w,env,rfl,S,Y,(Out.ai h).mono fun T x R Z P v1 O=>?_⟩;obtain ⟨b,e,W⟩:=wz Z O (Out.ai P);refine ⟨b,e,?_⟩
 cases b with
 |true=>exact ⟨T,env,rfl,Z,Y.le R,W⟩
 |false=>exact ay Z W _ rfl
def Rw (ha:PE X a (tE X.K Ξ f)) (hb:PE X (.BoolOp .Or (b::rest) pos) (tE X.K Ξ g)):PE X (.BoolOp .Or (a::b::rest) pos) (tE X.K Ξ (rf f g)):=bZ (Pl ha hb) fun σ H Q V=>by
 obtain ⟨w,env,U,S,Y,h⟩:=V;subst U;refine ⟨w,env,rfl,S,Y,(Out.ai h).mono fun T x R Z P v1 O=>?_⟩;obtain ⟨b,e,W⟩:=wz Z O (Out.ai P);refine ⟨b,e,?_⟩
 cases b with
 |false=>exact ⟨T,env,rfl,Z,Y.le R,W⟩
 |true=>exact ay Z W _ rfl
def EW (ha:PE X a (tE X.K Ξ f)):PE X (.UnaryOp .Not a pos) (tE X.K Ξ (qt f)):=bZ (NM ha) fun σ H Q Y=>by
 obtain ⟨w,env,W,S,V,h⟩:=Y;subst W;refine ⟨w,env,rfl,S,V,(Out.ai h).mono fun P x O Z U v1 T=>?_⟩;obtain ⟨b,e,R⟩:=wz Z T (Out.ai U);exact ⟨b,e,ay Z R _ rfl⟩
def FV (hc:PT X c (tT X.K Ξ ft)) (ha:PE X a (tE X.K Ξ f)) (hb:PE X b (tE X.K Ξ g)):PE X (.IfExp c a b pos) (tE X.K Ξ (rg ft f g)):=bZ (K1 hc ha hb) fun σ H Q T=>by
 obtain ⟨w,env,R,S,Z,h⟩:=T;subst R;refine ⟨w,env,rfl,S,Z,(Out.ai h).mono fun Y b W V U=>?_⟩
 cases b with
 |true=>exact ⟨Y,env,rfl,V,Z.le W,U⟩
 |false=>exact ⟨Y,env,rfl,V,Z.le W,U⟩
def DQ (σ:St) (H:Hp) (Q:VK):tE K Ξ (eB o fa) σ H Q->yZ (rC K Ξ o) (tA K Ξ fa) σ H Q:=by
 rintro ⟨w,env,rfl,S,Z,h⟩;exact ⟨w,env,rfl,S,Z,(Out.ai h).mono fun Y X T W V R U=>⟨Y,X,rfl,W,U,V⟩⟩
def cA {x:Str} {p:Pos} {id:String} {o:List D->aa->Res D} (hc:bS X (.builtin id) (rC X.K Ξ o)) (hg:Gl X x) (hm:X.mg x=none) (hv:ì x=some (.builtin id)) (ha:PA X (e::es) (tA X.K Ξ fa)) (hn:x≠"__name__":=by decide) (cY:(x==("__debug__":Str))=false:=by decide)
  (he:Ê (e::es) X.env=(false,ļ e X.env)::Ê es X.env:=by rfl) (bu:(ı pos (Ê es X.env)).any (·.1)=false:=by rfl):PE X (.Call (.Name x p) (e::es) [] pos) (tE X.K Ξ (eB o fa)):=bZ (sg hc hg hm hv ha hn cY he bu) DQ
def iw {x:Str} {p:Pos} {T:String} {o:List D->aa->Res D} (hc:bS X (.type T) (rC X.K Ξ o)) (hg:Gl X x) (hm:X.mg x=none) (hv:ì x=some (.type T)) (ha:PA X (e::es) (tA X.K Ξ fa)) (hn:x≠"__name__":=by decide) (cY:(x==("__debug__":Str))=false:=by decide)
  (he:Ê (e::es) X.env=(false,ļ e X.env)::Ê es X.env:=by rfl) (bu:(ı pos (Ê es X.env)).any (·.1)=false:=by rfl):PE X (.Call (.Name x p) (e::es) [] pos) (tE X.K Ξ (eB o fa)):=bZ (vv hc hg hm hv ha hn cY he bu) DQ
end
set_option genInjectivity true in
inductive Fl where
 |nx (env:Env)|rt (d:D)|bk (env:Env)|ct (env:Env)
def t5 (K:č) (D:Ends) (w:Wd):Fl->Prop
 | .nx env=>∀ σ,bB K w env σ->D.nx σ w.H
 | .rt d=>∀v,DV K w d v->D.rt v w.H
 | .bk env=>∀ σ,bB K w env σ->D.bk σ w.H
 | .ct env=>∀ σ,bB K w env σ->D.ct σ w.H
def tS (K:č) (Ξ:Wd->aW->Prop) (f:WR Fl):TS:=fun D σ H=>∃w env,w.H=H/\aL K w/\bB K w env σ/\Out K Ξ w (f env w.aF) (t5 K D)
def bK:WR Fl:=fun env s=>ok (.nx env) s
def ar (f g:WR Fl):WR Fl:=fun env s=>ai (f env s) fun fl s=>match fl with
 | .nx env=>g env s
 |fl=>ok fl s
def aP (f:WR D):WR Fl:=fun env s=>ai (f env s) fun d s=>ok (.rt d) s
def c9 (f:WR D):WR Fl:=fun env s=>ai (f env s) fun _ s=>ok (.nx env) s
def bA (c:WR Bool) (f g:WR Fl):WR Fl:=fun env s=>ai (c env s) fun b s=>if b=true then f env s else g env s
def EX:WR Fl:=fun env s=>ok (.ct env) s
def bb (f:WR D) (g:D->Env->Option Env):WR Fl:=fun env s=>ai (f env s) fun d s=>match g d env with
 |some Z=>ok (.nx Z) s
 |none=>none
def gN (i:Nat):D->Env->Option Env:=fun d env=>some (env.set i (some d))
def fv:List (D->Env->Option Env)->List D->Env->Option Env
 | [],[],env=>some env
 |g::Z,d::Y,env=>match g d env with
  |some X=>fv Z Y X
  |none=>none
 |_,_,_=>none
def gT (gs:List (D->Env->Option Env)):D->Env->Option Env:=fun d env=>match d with
 | .tup Z=>fv gs Z env
 |_=>none
def jt (g:D->Env->Option Env) (b:WR Fl):List D->WR Fl
 | [],env,s=>ok (.nx env) s
 |d::Z,env,s=>match g d env with
  |none=>none
  |some Y=>ai (b Y s) fun X s=>match X with
   | .nx e=>jt g b Z e s
   | .ct e=>jt g b Z e s
   | .bk e=>ok (.nx e) s
   | .rt d=>ok (.rt d) s
def et (it:WR (List D)) (g:D->Env->Option Env) (b:WR Fl):WR Fl:=fun env s=>ai (it env s) fun Z s=>jt g b Z env s
def ne {α:Type} (r:Res α):Res α:=match r with
 |some (.ok a,s)=>some (.ok a,s)
 |_=>none
@[simp] theorem tw {α:Type} {a:α} {s:aa}:ne (some (.ok a,s))=some (.ok a,s):=rfl
def iF (cap:List Nat) (env:Env):Env:=cap.map fun j=>(env[j]?).getD none
def eh (nt:Nat) (caps:Env) (g:D->Env->Option Env) (t:WR Bool) (f:WR D):List D->aa->Res (List D)
 | [],s=>ok [] s
 |d::Z,s=>match g d (Î nt none++caps) with
  |none=>none
  |some env=>ai (ne (t env s)) fun b s=>if b=true then ai (ne (f env s)) fun x s=>ai (eh nt caps g t f Z s) fun Y s=>ok (x::Y) s
   else eh nt caps g t f Z s
def cK (nt:Nat) (cap:List Nat) (it:WR (List D)) (g:D->Env->Option Env) (t:WR Bool) (f:WR D):WR D:=fun env s =>
 ai (it env s) fun Z s=>gk Z (ai (eh nt (iF cap env) g t f Z s) fun Y s=>ok (.lst Y) s)
def dD:WR Bool:=fun _ s=>ok true s
def aJ (np ns:Nat) (b:WR Fl):List D->aa->Res D:=fun Z s=>if Z.length=np then ai (b (Z.map some++Î (ns-np) none) s) fun Y s=>match Y with
 | .rt d=>ok d s
 | .nx _=>ok .ao s
 |_=>none else none
abbrev bQ:Wd->aW->Prop:=fun _ _=>False
def i4 (K:č) (f:List D->aa->Res D):Sp:=fun X H Q _=>∃w Z,w.H=H/\aL K w/\ak K w Z X/\Out K bQ w (f Z w.aF) fun Y d=>∀v,DV K Y d v->Q v Y.H
section
variable {X:Cx} {Ξ:Wd->aW->Prop} {e a b c tg:Ğ} {es rest:List Ğ} {pos:Pos} {f g h:WR D} {fa:WR (List D)} {ft gt:WR Bool} {st:WE} {lR yD:List WE} {fs gs:WR Fl}
def cB:cg X [] (tS X.K Ξ bK):=CN Mo fun D σ H Z=>by
 obtain ⟨w,env,Y,S,W,h⟩:=Z;subst Y;exact ay S h σ W
def aK (h1:PS X st (tS X.K Ξ fs)) (h2:cg X lR (tS X.K Ξ gs)):cg X (st::lR) (tS X.K Ξ (ar fs gs)):=CN (K2 h1 h2) fun D σ H W=>by
 obtain ⟨w,env,V,S,U,h⟩:=W;subst V;refine ⟨w,env,rfl,S,U,(Out.ai h).mono fun T R P Z h1=>?_⟩
 cases R with
 |nx Y=>exact fun O Q=>⟨T,Y,rfl,Z,Q,h1⟩
 |rt d=>have q:=ay Z h1;exact q
 |bk Y=>have q:=ay Z h1;exact q
 |ct Y=>have q:=ay Z h1;exact q
def aM (h1:PS X st (tS X.K Ξ fs)):cg X [st] (tS X.K Ξ fs):=Mp h1
def aX (he:PE X e (tE X.K Ξ f)):PS X (.Return (some e) pos) (tS X.K Ξ (aP f)):=jg (NN he) fun D σ H Z=>by
 obtain ⟨w,env,Y,S,W,h⟩:=Z;subst Y;exact ⟨w,env,rfl,S,W,(Out.ai h).mono fun T d R V U=>ay V U⟩
def hV (he:PE X e (tE X.K Ξ f)) (hs:swapsWith e none pos.line X.env=pure false:=by rfl):PS X (.Expr e pos) (tS X.K Ξ (c9 f)):=jg (Mq he hs) fun D σ H Y=>by
 obtain ⟨w,env,W,S,Z,h⟩:=Y;subst W;exact ⟨w,env,rfl,S,Z,(Out.ai h).mono fun R d V U T _ _=>ay U T σ (Z.le V)⟩
def cD (hc:PT X c (tT X.K Ξ ft)) (ha:cg X lR (tS X.K Ξ fs)) (hb:cg X yD (tS X.K Ξ gs)):PS X (.If c lR yD pos) (tS X.K Ξ (bA ft fs gs)):=jg (Pp hc ha hb) fun D σ H T=>by
 obtain ⟨w,env,R,S,Z,h⟩:=T;subst R;refine ⟨w,env,rfl,S,Z,(Out.ai h).mono fun Y b W V U=>?_⟩
 cases b with
 |true=>exact ⟨Y,env,rfl,V,Z.le W,U⟩
 |false=>exact ⟨Y,env,rfl,V,Z.le W,U⟩
def jQ:WR Fl:=fun _ _=>none
def kX:cg X lR (tS X.K Ξ jQ):=fun _ _ _ _ _ _ h=>by obtain ⟨w,env,_,_,_,h⟩:=h;exact h.elim
def gD (K:č) (g:D->Env->Option Env):TG:=fun v σ H Q=>∃w env d Z,w.H=H/\aL K w/\bB K w env σ/\DV K w d v/\g d env=some Z/\∀ Y,bB K w Z Y->Q Y H
def rj (K:č) (g:List D->Env->Option Env):iT:=fun W σ H Q=>∃w env Z Y,w.H=H/\aL K w/\bB K w env σ/\ak K w Z W/\g Z env=some Y/\∀ X,bB K w Y X->Q X H
def DR {t t':TG} (h:PG X e t) (i:∀v σ H Q,t' v σ H Q->t v σ H Q):PG X e t':=fun Z s σ H v u Q I r Y=>h Z s σ H v u Q I r (i v σ H Q Y)
def CP {t t':iT} (h:jK X es t) (i:∀v σ H Q,t' v σ H Q->t v σ H Q):jK X es t':=fun Z s σ H v u Q I r Y=>h Z s σ H v u Q I r (i v σ H Q Y)
def dH (i:Nat) {x:Str} (hN:X.N.Nodup) (hi:X.N[i]?=some x:=by rfl) (hx:Loc X.env.scope x:=by first|exact Wy rfl|exact Or.inr rfl) (hf:X.fn x=true\/X.env.scope.names.lookup x=some .local:=by first|exact .inl rfl|exact .inr rfl):PG X (.Name x pos) (gD X.K (gN i)) :=
 DR (i8 hN hi hx hf) fun v σ H Q Z=>by
  obtain ⟨w,env,d,Y,T,S,W,V,U,k⟩:=Z;have e:env.set i (some d)=Y:=WW U;subst e;exact k _ (W.set V i)
def sO:jK X [] (rj X.K (fv [])):=CP wc fun R σ H Q W=>by
 obtain ⟨w,env,Z,V,P,S,U,T,Y,k⟩:=W
 cases Z with
 |nil =>
  have e:env=V:=WW Y;subst e;exact ⟨T,k _ U⟩
 |cons d Z=>cases Y
def ja {g:D->Env->Option Env} {gl:List (D->Env->Option Env)} (h1:PG X e (gD X.K g)) (h2:jK X es (rj X.K (fv gl)))
  (hs:(Ŗ (e::es) X.env).map (·.2)=WO e X.env::(Ŗ es X.env).map (·.2):=by rfl):jK X (e::es) (rj X.K (fv (g::gl))):=CP (o9 h1 h2 hs) fun L σ H Q T=>by
 obtain ⟨w,env,Y,R,V,S,P,O,Z,k⟩:=T
 cases Y with
 |nil=>cases Z
 |cons d Y =>
  obtain ⟨v,r,rfl,N,dr⟩:=O;simp only [fv] at Z
  cases W:g d env with
  |none=>rw [W] at Z;cases Z
  |some U =>
   rw [W] at Z;refine ⟨v,r,rfl,w,env,d,U,V,S,P,N,W,fun J M=>⟨w,U,Y,R,V,S,M,dr,Z,k⟩⟩
theorem vH:∀{gl:List (D->Env->Option Env)} {ds:List D} {env az:Env},fv gl ds env=some az->ds.length=gl.length
 | [],[],_,_,_=>rfl
 |g::gl,d::ds,env,az,h=>by
  simp only [fv] at h
  cases Z:g d env with
  |none=>rw [Z] at h;cases h
  |some e1=>rw [Z] at h;simp [vH h]
 | [],_::_,_,_,h=>by cases h
 |_::_,[],_,_,h=>by cases h
def tB {gl:List (D->Env->Option Env)} {k:Nat} (hc:X.calm=true) (h:jK X es (rj X.K (fv gl))) (hn:(Ŗ es X.env).length=gl.length:=by rfl) (yV:(Ŗ es X.env).findIdx? (·.1)=none:=by rfl):PG X (.Tuple es k pos) (gD X.K (gT gl)) :=
 DR (wQ hc h hn yV) fun v σ H Q V=>by
  obtain ⟨w,env,d,U,T,S,R,Y,Z,k⟩:=V
  cases d with
  |tup P =>
   simp only [DV] at Y;obtain ⟨p,O,e1,N,W⟩:=Y;subst T;exact ⟨p,O,e1,N,by rw [<- W.length];exact vH Z,w,env,P,U,rfl,S,R,W,Z,k⟩
  |_=>cases Z
def CQ {K:č} {g:D->Env->Option Env} (D:Ends) (σ:St) (H:Hp):tS K Ξ (bb f g) D σ H->qo (tE K Ξ f) (gD K g) D σ H:=by
 rintro ⟨w,env,rfl,S,X,h⟩;refine ⟨w,env,rfl,S,X,(Out.ai h).mono fun V d U W Z v T=>?_⟩
 cases Y:g d env with
 |none=>rw [Y] at Z;exact Z.elim
 |some R =>
  rw [Y] at Z;exact ⟨V,env,d,R,rfl,W,X.le U,T,Y,ay W Z⟩
def tD {g:D->Env->Option Env} (he:PE X e (tE X.K Ξ f)) (hg:PG X tg (gD X.K g)) (hs:Ű [tg] e pos.line X.env=pure false:=by rfl) (hw:ű [tg] e X.env=pure none:=by rfl)
  (h1:(Ŗ [tg] X.env).map (·.2)=[WO tg X.env]:=by rfl):PS X (.Assign [tg] e pos) (tS X.K Ξ (bb f g)):=jg (DC he hg hs hw h1) CQ
def J5 {K:č} {te:TE} {i:Nat} (D:Ends) (σ:St) (H:Hp):qo (tE K Ξ f) (gD K (gN i)) D σ H->qo (tE K Ξ f) (ml i) D σ H:=by
 rintro ⟨w,env,rfl,S,Z,h⟩;refine ⟨w,env,rfl,S,Z,h.mono fun P d O N Y v X=>?_⟩;obtain ⟨M,W,V,U,L,J,T,R,Q,k⟩:=Y v X;have e:W.set i (some V)=U:=WW Q;subst e;exact k _ (T.set R i)
def b9 (i:Nat) {x:Str} {pos':Pos} (hN:X.N.Nodup) (he:PE X e (tE X.K Ξ f)) (hi:X.N[i]?=some x:=by rfl) (hx:Loc X.env.scope x:=by first|exact Wy rfl|exact Or.inr rfl) (hs:swapsWith e (some (.Name x pos')) pos.line X.env=pure false:=by rfl) (hf:X.fn x=true\/X.env.scope.names.lookup x=some .local:=by first|exact .inl rfl|exact .inr rfl) :
  PS X (.Assign [.Name x pos'] e pos) (tS X.K Ξ (bb f (gN i))):=jg (NP hN hi hx he hs hf) fun D σ H h=>J5 (te:=tE X.K Ξ f) D σ H (CQ D σ H h)
def m8 (K:č) (w:Wd) (J:It) (ds:List D):Prop:=∀Z,Le K w Z->aL K Z->∀i,
 (∀d,ds[i]?=some d->J.go i Z.H/\∀x X,J.qK i Z.H x X->∃Y,Y.H=X/\Le K Z Y/\aL K Y/\Y.aF=Z.aF/\DV K Y d x)/\(ds.length<=i->J.stop i Z.H)
def dZ (K:č) (Ξ:Wd->aW->Prop) (f:WR (List D)):TI:=fun σ H R=>∃w env,w.H=H/\aL K w/\bB K w env σ/\Out K Ξ w (f env w.aF) fun Z Y=>∀J,m8 K Z J Y->R J Z.H
def sP {t t':TI} (h:PI X tg e t) (i:∀ σ H R,t' σ H R->t σ H R):PI X tg e t':=fun Z s σ H R I Y=>h Z s σ H R I (i σ H R Y)
def MO {K:č} {it:WR (List D)} {g:D->Env->Option Env} (D0:Ends) (σ:St) (H:Hp):tS K Ξ (et it g fs) D0 σ H->FK (dZ K Ξ it) (gD K g) (tS K Ξ fs) D0 σ H:=by
 rintro ⟨w,env,rfl,S,B,h⟩;refine ⟨w,env,rfl,S,B,(Out.ai h).mono fun M Y p o n J A=>?_⟩;refine ⟨fun i m L z=>m=Y.length-i/\i<=Y.length/\∃X V,X.H=z/\Le K M X/\aL K X/\bB K X V L/\Out K Ξ X (jt g fs (Y.drop i) V X.aF) (t5 K D0),
  ⟨Y.length,rfl,Ć _,M,env,rfl,Le.refl _,o,B.le p,n⟩,?_⟩
 rintro i m L z ⟨rfl,hi,X,V,rfl,U,I,v,W⟩;by_cases G:i<Y.length
 ·right
  obtain ⟨l,k⟩:=(A X U I i).1 _ (Ë G);rw [ε G] at W;simp only [jt] at W
  cases F:g Y[i] V with
  |none=>rw [F] at W;exact W.elim
  |some u =>
   rw [F] at W;refine ⟨l,fun E T=>∃Z R,Z.H=T/\Le K M Z/\aL K Z/\bB K Z R E/\Out K Ξ Z (jt g fs (Y.drop (i+1)) R Z.aF) (t5 K D0),fun E T ⟨Z,R,q⟩=>⟨Y.length-(i+1),by omega,rfl,G,Z,R,q⟩,fun x T y=>?_⟩;obtain ⟨Z,rfl,Q,t,es,j⟩:=k x T y;refine ⟨Z,V,Y[i],u,rfl,t,v.le Q,j,F,fun E f=>⟨Z,u,rfl,t,f,?_⟩⟩;rw [<- es] at W;refine (Out.ai (W.from Q)).mono fun s c r P O=>?_
   cases c with
   |nx N=>exact fun b C=>⟨s,N,rfl,U.trans (Q.trans r),P,C,O⟩
   |ct N=>exact fun b C=>⟨s,N,rfl,U.trans (Q.trans r),P,C,O⟩
   |bk N=>have q:=ay P O;exact q
   |rt d=>have q:=ay P O;exact q
 ·left
  have e:i=Y.length:=by omega
  subst e;rw [List.drop_length] at W;exact ⟨(A X U I _).2 (WV _),ay I W L v⟩
def ki {iter:Ğ} {it:WR (List D)} {g:D->Env->Option Env} (hp:PassesOwn (à X.prog X.w) X.A X.env X.xe) (hc:X.calm=true) (hi:PI X tg iter (dZ X.K Ξ it)) (hg:PG X tg (gD X.K g)) (hb:cg X lR (tS X.K Ξ fs))
  (hs:∀x,û iter X.env x=pure x:=by intro _;rfl):PS X (.For tg iter lR [] pos) (tS X.K Ξ (et it g fs)):=jg (NS hp hc hi hg hb hs) MO
theorem Out.ne {α:Type} {K:č} {w:Wd} {r:Res α} {k:Wd->α->Prop} (h:Out K Ξ w (DI.ne r) k):Out K bQ w r k:=by
 match r,h with
 |some (.ok a,s),h=>exact h
def bB.block {K:č} {w:Wd} {env:Env} {σ:St} (h:bB K w env σ) (nt:Nat) (cap:List Nat) (o:St) (ho:o.length=nt):bB K w (Î nt none++iF cap env) (o++kg cap σ):=by
 refine ⟨by simp [iF,kg,ho],fun i d e=>?_⟩;by_cases hi:i<nt
 ·rw [Ú (by simpa using hi),ğ,ä hi] at e
  cases e
 ·rw [ô (by simpa using ŝ hi)] at e
  rw [ô (by omega),ho];simp only [ū] at e;unfold iF at e;unfold kg;rw [ç] at e |-
  cases Z:cap[i-nt]? with
  |none=>rw [Z] at e;cases e
  |some j =>
   rw [Z] at e;have ev:(env[j]?).getD none=some d:=WW e;have Y:env[j]?=some (some d):=by
    cases q:env[j]? with
    |none=>rw [q] at ev;cases ev
    |some z=>rw [q] at ev;exact ĺ some ev
   obtain ⟨v,e1,e2⟩:=h.val j d Y;exact ⟨v,by rw [VD,e1];rfl,e2⟩
def J6 {K:č} {nt:Nat} {cap:List Nat} {it:WR (List D)} {g:D->Env->Option Env} {fin:List D->aa->Res D} (σ:St) (H:Hp) (Q:VK)
  (yE:∀(w2:Wd) (xs:List D) (vs:List V),aL K w2->ak K w2 xs vs->Out K Ξ w2 (fin xs w2.aF) (fun w' d=>∀v,DV K w' d v->Q v w'.H)->∀p,w2.H p=none->Q (.ref p) (upd w2.H p (.lst vs))) :
  tE K Ξ (fun env s=>ai (it env s) fun ds s=>gk ds (ai (eh nt (iF cap env) g ft f ds s) fin)) σ H Q->pZ (dZ K Ξ it) nt cap (gD K g) (tT K bQ ft) (tE K bQ f) σ H Q:=by
 rintro ⟨w,env,rfl,S,B,h⟩;refine ⟨w,env,rfl,S,B,(Out.ai h).mono fun N ds j c M J A=>?_⟩;obtain ⟨hz,M⟩:=pb M;refine ⟨fun i m Y z=>m=ds.length-i/\i<=ds.length/\Y.length<=i/\∃w' Z,w'.H=z/\Le K N w'/\aL K w'/\ak K w' Z Y/\Out K Ξ w' (eh nt (iF cap env) g ft f (ds.drop i) w'.aF) fun w2 xs=>∀vs,ak K w2 (Z++xs) vs->∀p,w2.H p=none->Q (.ref p) (upd w2.H p (.lst vs)),
  ⟨ds.length,rfl,Ć _,Ć _,N,[],rfl,Le.refl _,c,rfl,(Out.ai M).mono fun w2 xs W P a vs O p U=>?_⟩,?_⟩
 ·exact yE w2 xs vs P O a p U
 rintro i m Y z ⟨rfl,hi,ha,w',Z,rfl,T,L,I,X⟩;by_cases G:i<ds.length
 ·right
  obtain ⟨fU,hy⟩:=(A w' T L i).1 _ (Ë G);rw [ε G] at X;simp only [eh] at X
  cases F:g ds[i] (Î nt none++iF cap env) with
  |none=>rw [F] at X;exact X.elim
  |some E =>
   rw [F] at X;refine ⟨fU,by omega,fun C u=>C.length<=i+1/\∃w' Z,w'.H=u/\Le K N w'/\aL K w'/\ak K w' Z C/\Out K Ξ w' (eh nt (iF cap env) g ft f (ds.drop (i+1)) w'.aF) fun w2 xs=>∀vs,ak K w2 (Z++xs) vs->∀p,w2.H p=none->Q (.ref p) (upd w2.H p (.lst vs)),
    fun C u ⟨SJ,q⟩=>⟨ds.length-(i+1),by omega,rfl,G,SJ,q⟩,fun o x H3 ho y=>?_⟩
   obtain ⟨w2,rfl,W,P,es,dv⟩:=hy x H3 y;refine ⟨w2,_,ds[i],E,rfl,P,(B.le (j.trans (T.trans W))).block nt cap o ho,dv,F,fun kG t=>?_⟩;rw [<- es] at X;refine ⟨w2,E,rfl,P,t,(Out.ai (X.from W)).ne.mono fun r b R n l=>?_⟩
   cases b with
   |true =>
    refine ⟨r,E,rfl,n,t.le R,(Out.ai l).ne.mono fun w4 d k S4 h4 v zy=>⟨by rw [Ý];simp;omega,w4,Z++[d],rfl,T.trans (W.trans (R.trans k)),S4,ak.append ((W.trans (R.trans k)).all I) (ak.one zy),(Out.ai h4).mono fun w5 xs l5 S5 h5 vs O p U=>?_⟩⟩;exact ay S5 h5 vs (by rw [Ł] at O;exact O) p U
   |false =>
    exact ⟨by omega,r,Z,rfl,T.trans (W.trans R),n,(W.trans R).all I,l⟩
 ·left
  have e:i=ds.length:=by omega
  subst e;rw [List.drop_length] at X;refine ⟨(A w' T L _).2 (WV _),by omega,fun p U=>ay L X Y (by rw [Ĩ];exact I) p U⟩
def Lo {K:č} {nt:Nat} {cap:List Nat} {it:WR (List D)} {g:D->Env->Option Env} (σ:St) (H:Hp) (Q:VK) :
  tE K Ξ (cK nt cap it g ft f) σ H Q->pZ (dZ K Ξ it) nt cap (gD K g) (tT K bQ ft) (tE K bQ f) σ H Q :=
 J6 σ H Q fun X S W V U T p Y=>T (X.grow p (.lst W)) (Fw.grow Y).le (V.grow Y) rfl (.ref p) ⟨p,W,rfl,⟨(show ¬ X.Z p from j9 V Y),cm⟩,(Fw.grow Y).le.all U⟩
end
def CS {o caps:St} {v:V} {i nt:Nat} (ho:o.length=nt) (hi:i<nt):(o++caps).set i (some v)=o.set i (some v)++caps:=by
 rw [List.set_append_left _ _ (by omega)]
def J8 {i nt:Nat} (hi:i<nt):lO (ml i) nt:=by
 intro x o Z H R Y h;exact ⟨⟨o.set i (some x),by rw [ą];exact Y,CS Y hi⟩,h⟩
def qu (g:iT) (nt:Nat):Prop:=∀(Y:List V) (o Z:St) (H:Hp) (R:St->Hp->Prop),o.length=nt->g Y (o++Z) H R->g Y (o++Z) H fun X U=>(∃W:St,W.length=nt/\X=W++Z)/\R X U
def Lp:qu yp nt:=fun X o Z H R Y h=>⟨h.1,⟨o,Y,rfl⟩,h.2⟩
def J9 {i nt:Nat} {g:iT} (hi:i<nt) (hg:qu g nt):qu (xF (ml i) g) nt:=by
 rintro X o Z H R Y ⟨v,r,e,h⟩;refine ⟨v,r,e,?_⟩;have h:g r ((o++Z).set i (some v)) H R:=h;show g r ((o++Z).set i (some v)) H _;rw [CS Y hi] at h |-;exact hg r _ Z H R (by rw [ą];exact Y) h
def Lq (hg:qu g nt):lO (yq K n g) nt:=by
 rintro x o Z H R X ⟨a,Y,e,W,V,h⟩;exact ⟨a,Y,e,W,V,hg Y o Z H R X h⟩
structure Tg (K:č) (g0:TG) (g:D->Env->Option Env) (nt:Nat):Prop where
 kM:lO g0 nt
 imp:∀v σ H Q,gD K g v σ H Q->g0 v σ H Q
structure uJ (K:č) (g0:iT) (g:List (D->Env->Option Env)) (nt:Nat):Prop where
 kM:qu g0 nt
 imp:∀v σ H Q,rj K (fv g) v σ H Q->g0 v σ H Q
def pC (i:Nat) (hi:i<nt:=by decide):Tg K (ml i) (gN i) nt:=⟨J8 hi,fun v σ H Q Z=>by
 obtain ⟨w,env,d,Y,U,S,X,W,V,k⟩:=Z;have e:env.set i (some d)=Y:=WW V;subst e;exact k _ (X.set W i)⟩
def CU:uJ K yp [] nt:=⟨Lp,fun T σ H Q X=>by
 obtain ⟨w,env,Z,W,R,S,V,U,Y,k⟩:=X
 cases Z with
 |nil =>
  have e:env=W:=WW Y;subst e;exact ⟨U,k _ V⟩
 |cons d Z=>cases Y⟩
def sj (i:Nat) (h:uJ K g0 gl nt) (hi:i<nt:=by decide):uJ K (xF (ml i) g0) (gN i::gl) nt:=⟨J9 hi h.kM,fun P σ H Q X=>by
 obtain ⟨w,env,Z,W,V,S,U,T,Y,k⟩:=X
 cases Z with
 |nil=>cases Y
 |cons d Z =>
  obtain ⟨v,r,rfl,R,dr⟩:=T;exact ⟨v,r,rfl,h.imp _ _ _ _ ⟨w,_,Z,W,V,S,U.set R i,dr,Y,k⟩⟩⟩
def DT (h:uJ K g0 gl nt) (hn:gl.length=n:=by rfl):Tg K (yq K n g0) (gT gl) nt:=⟨Lq h.kM,fun v σ H Q W=>by
 obtain ⟨w,env,d,V,U,S,T,Y,Z,k⟩:=W
 cases d with
 |tup R =>
  simp only [DV] at Y;obtain ⟨p,P,e1,O,X⟩:=Y;subst U;exact ⟨p,P,e1,O,by rw [<- X.length,vH Z];exact hn,h.imp _ _ _ _ ⟨w,env,R,V,rfl,S,T,X,Z,k⟩⟩
 |_=>cases Z⟩
section
variable {X:Cx} {Ξ:Wd->aW->Prop} {e a b c tg el src:Ğ} {es rest tests:List Ğ} {pos:Pos} {f g h:WR D} {fa:WR (List D)} {ft gt:WR Bool} {st:WE} {lR yD:List WE} {fs gs:WR Fl}
def Oi (h:PF X tests t) (i:∀ σ H Q,t' σ H Q->t σ H Q):PF X tests t':=fun Z s σ H Q I Y=>h Z s σ H Q I (i σ H Q Y)
def hZ:PF X [] (tT K Ξ dD):=Oi N8 fun σ H Q Z=>by
 obtain ⟨w,env,Y,S,W,h⟩:=Z;subst Y;exact ay S h
def nQ (h:PT X c (tT K Ξ ft)):PF X [c] (tT K Ξ ft):=N9 h
def Jq (i_:∀v σ H Q,g1 v σ H Q->g0 v σ H Q) (wm:∀R R':It->Hp->Prop,(∀J H',R J H'->R' J H')->wi σ H R->wi σ H R') (h:pZ wi nt cap g1 tf te σ H Q):pZ wi nt cap g0 tf te σ H Q:=by
 refine wm _ _ (fun J H' Y=>?_) h;obtain ⟨W,X,step⟩:=Y;refine ⟨W,X,fun i m Z V hw=>?_⟩
 rcases step i m Z V hw with q | ⟨U,T,N,S,P⟩
 ·exact .inl q
 ·exact .inr ⟨U,T,N,S,fun o x O M y=>i_ _ _ _ _ (P o x O M y)⟩
def Lr (R R':It->Hp->Prop) (i:∀J H',R J H'->R' J H') (h:dZ K Ξ it σ H R):dZ K Ξ it σ H R':=by
 obtain ⟨w,env,Z,S,Y,h⟩:=h;exact ⟨w,env,Z,S,Y,h.mono fun V U _ _ X J W=>i J _ (X J W)⟩
def dQ (f:WR D):WR (List D):=fun env s=>ai (f env s) fun d s=>match d with
 | .lst Z=>ok Z s
 | .tup Z=>ok Z s
 |_=>none
def Ls {K:č} {w:Wd} {a:Ø} {ds:List D} (h:DV K w (.lst ds) (.ref a)):m8 K w (yX K a) ds:=fun V U T i=>by
 have X:=U _ _ h;simp only [DV] at X;obtain ⟨p,Z,e,Y,W⟩:=X;cases e;refine ⟨fun d S=>?_,fun R=>⟨Z,Y.sq,by rw [<- W.length];exact R⟩⟩;obtain ⟨v,ev,Q⟩:=W.get' i d S;exact ⟨⟨Z,v,Y.sq,ev⟩,fun x P ⟨e1,e2⟩=>⟨V,e1.symm,Le.refl _,T,rfl,by
  have q:=e2 Z Y.sq;rw [ev] at q;cases q;exact Q⟩⟩
def MP {K:č} {w:Wd} {a:Ø} {ds:List D} (h:DV K w (.tup ds) (.ref a)):m8 K w (yY K a) ds:=fun V U T i=>by
 have X:=U _ _ h;simp only [DV] at X;obtain ⟨p,Z,e,Y,W⟩:=X;cases e;refine ⟨fun d S=>?_,fun R=>⟨Z,Y,by rw [<- W.length];exact R⟩⟩;obtain ⟨v,ev,Q⟩:=W.get' i d S;exact ⟨⟨Z,v,Y,ev⟩,fun x P ⟨e1,e2⟩=>⟨V,e1.symm,Le.refl _,T,rfl,by
  have q:=e2 Z Y;rw [ev] at q;cases q;exact Q⟩⟩
def ju (hl:PE X a (tE X.K Ξ f)):PI X tg a (dZ X.K Ξ (dQ f)):=by
 have both:PI X tg a (fun σ H R=>EL X.K (tE X.K Ξ f) σ H R\/FJ X.K (tE X.K Ξ f) σ H R):=fun N s σ H R I h=>h.elim (Mr hl N s σ H R I) (NR hl N s σ H R I);refine sP both fun σ H R ⟨w,env,M,S,W,h⟩=>?_;subst M;simp only [dQ] at h
 cases Y:f env w.aF with
 |none=>rw [Y] at h;exact h.elim
 |some r =>
  obtain ⟨r,s⟩:=r;rw [Y] at h
  cases r with
  |error x=>exact .inl ⟨w,env,rfl,S,W,by rw [Y];exact h⟩
  |ok d =>
   rw [iB] at h
   cases d with
   |lst L =>
    refine .inl ⟨w,env,rfl,S,W,?_⟩;rw [Y];intro V U T e1 v Z;have Q:=Z;simp only [DV] at Z;obtain ⟨p,P,rfl,O,J⟩:=Z;exact ⟨p,rfl,⟨P,O.sq⟩,h V U T e1 _ (Ls Q)⟩
   |tup L =>
    refine .inr ⟨w,env,rfl,S,W,?_⟩;rw [Y];intro V U T e1 v Z;have Q:=Z;simp only [DV] at Z;obtain ⟨p,P,rfl,O,J⟩:=Z;exact ⟨p,rfl,⟨P,O⟩,h V U T e1 _ (MP Q)⟩
   |_=>exact h.elim
noncomputable def di (lo:Int) (n:Nat):List D:=(Ă n).map fun (i:Nat)=>D.int (lo+(i:Int))
def ix:(di lo n)[i]?=if i<n then some (.int (lo+i)) else none:=by
 unfold di;rw [ç];by_cases h:i<n
 ·rw [Wq h,ä h];rfl
 ·rw [Ĥ (by simp;omega),í h];rfl
def jb:(di lo n).length=n:=by simp [di]
def CV:m8 K w (qL lo n) (di lo n):=fun X V W i=>by
 refine ⟨fun d Z=>?_,fun Y=>by rw [jb] at Y;exact Y⟩;rw [ix] at Z;split at Z
 ·cases Z
  exact ⟨by assumption,fun x U ⟨e1,e2⟩=>⟨X,e1.symm,Le.refl _,W,rfl,e2⟩⟩
 ·cases Z
noncomputable def lj (j:Int):Bool:=decide (-(2 ^ 62)<=j)&&decide (j<2 ^ 62)
def cw (fa:WR (List D)):WR (List D):=fun env s=>ai (fa env s) fun Z s=>match Z with
 | [.int j]=>if lj j=true then ok (di 0 j.toNat) s else none
 |_=>none
def GP (fa:WR (List D)):WR (List D):=fun env s=>ai (fa env s) fun Z s=>match Z with
 | [.int i,.int j]=>if (lj i&&lj j)=true then ok (di i (j-i).toNat) s else none
 |_=>none
def fE (hg:Gl X "range") (hm:X.mg "range"=none) (ha:PA X [a] (tA X.K Ξ fa)) (hs:Ê [a] X.env=[(false,ļ a X.env)]:=by rfl):PI X tg (.Call (.Name "range" p) [a] [] pos) (dZ X.K Ξ (cw fa)) :=
 sP (JS hg hm ha hs) fun σ H R W=>by
  obtain ⟨w,env,V,S,U,h⟩:=W;subst V;refine ⟨w,env,rfl,S,U,(Out.ai h).mono fun O N M T Z L Q=>?_⟩;split at Z
  ·rename_i j
   split at Z
   ·rename_i Y
    simp only [lj,È,Ü] at Y;obtain ⟨v,r,rfl,P,dr⟩:=Q;have e1:v=.int j:=P;have e2:r=[]:=dr;subst e1 e2;exact ⟨j,rfl,Y.1,Y.2,ay T Z _ CV⟩
   ·exact Z.elim
  ·exact Z.elim
def Oj {p:Pos} (hg:Gl X "range") (hm:X.mg "range"=none) (ha:PA X [a,b] (tA X.K Ξ fa)) (hs:Ê [a,b] X.env=[(false,ļ a X.env),(false,ļ b X.env)]:=by rfl) (fx:Ê [b] X.env=[(false,ļ b X.env)]:=by rfl):PI X tg (.Call (.Name "range" p) [a,b] [] pos) (dZ X.K Ξ (GP fa)) :=
 sP (JT hg hm ha hs fx) fun σ H R W=>by
  obtain ⟨w,env,V,S,U,h⟩:=W;subst V;refine ⟨w,env,rfl,S,U,(Out.ai h).mono fun L J I T Z G Q=>?_⟩;split at Z
  ·rename_i i j
   split at Z
   ·rename_i Y
    simp only [lj,È,Ü] at Y;obtain ⟨v,r,rfl,P,v2,O,rfl,N,dr⟩:=Q;have e1:v=.int i:=P;have e2:v2=.int j:=N;have M:O=[]:=dr;subst e1 e2 M;exact ⟨i,j,rfl,⟨Y.1.1,Y.1.2,Y.2.1,Y.2.2⟩,ay T Z _ CV⟩
   ·exact Z.elim
  ·exact Z.elim
noncomputable def iM (xs ys:List D):List D:=(xs.zip ys).map fun p=>.tup [p.1,p.2]
def Lu {i:Nat} (h:(iM xs ys)[i]?=some d):∃x y,xs[i]?=some x/\ys[i]?=some y/\d=.tup [x,y]:=by
 unfold iM at h;rw [ç] at h
 cases Z:(xs.zip ys)[i]? with
 |none=>rw [Z] at h;cases h
 |some p =>
  rw [Z] at h;obtain ⟨Y,X⟩:=List.getElem?_zip_eq_some.mp Z;exact ⟨p.1,p.2,Y,X,(WW h).symm⟩
def Cc:(iM xs ys).length=min xs.length ys.length:=by simp [iM]
def Ka (S':aL K w') (hp:w'.H p=none) (h1:DV K w' d x) (h2:DV K w' d2 y) :
  ∃w2,w2.H=upd w'.H p (.tup [x,y])/\Le K w' w2/\aL K w2/\w2.aF=w'.aF/\DV K w2 (.tup [d,d2]) (.ref p) :=
 ⟨w'.grow p (.tup [x,y]),rfl,(Fw.grow hp).le,S'.grow hp,rfl,p,[x,y],rfl,bg.of cm,(Fw.grow hp).le.all (ak.two h1 h2)⟩
@[reducible] noncomputable def zA:Bool->List D->D
 |true=>.tup
 |false=>.lst
def EY {K:č} {w:Wd} {a:Ø} {ds:List D}:∀{k},DV K w (zA k ds) (.ref a)->∃xs,gS k K w.H a xs/\ak K w ds xs
 |true,h=>by
  simp only [DV] at h;obtain ⟨p,xs,e,Z,Y⟩:=h;cases e;exact ⟨xs,Z,Y⟩
 |false,h=>by
  simp only [DV] at h;obtain ⟨p,xs,e,Z,Y⟩:=h;cases e;exact ⟨xs,Z.sq,Y⟩
def Lw {k l:Bool} {K:č} {w:Wd} {a b:Ø} {ds es:List D} (h:DV K w (zA k ds) (.ref a)) (g:DV K w (zA l es) (.ref b)):m8 K w (tY k l K a b) (iM ds es):=fun F V P i=>by
 obtain ⟨Z,Y,U⟩:=EY (V _ _ h);obtain ⟨X,W,T⟩:=EY (V _ _ g);refine ⟨fun d O=>?_,fun N=>⟨Z,X,Y,W,?_⟩⟩
 ·obtain ⟨x,y,e1,e2,rfl⟩:=Lu O
  obtain ⟨v,ev,M⟩:=U.get' i x e1;obtain ⟨u,S,L⟩:=T.get' i y e2;refine ⟨⟨Z,X,v,u,Y,W,ev,S⟩,fun z E ⟨r,C,y1,J,I,H,G⟩=>?_⟩;obtain ⟨R,Q⟩:=G Z X Y W;rw [ev] at R;rw [S] at Q;cases R;cases Q;subst I H;exact Ka P J M L
 ·rw [Cc] at N
  have:=U.length;have:=T.length;omega
def Lx {K:č} {w:Wd} {a b:Ø} {ds es:List D} (h:DV K w (.tup ds) (.ref a)) (g:DV K w (.tup es) (.ref b)):m8 K w (Ro K a b) (iM ds es):=Lw (k:=true) (l:=true) h g
def qv (fa:WR (List D)):WR (List D):=fun env s=>ai (fa env s) fun Z s=>match Z with
 | [.tup Y,.tup X]=>ok (iM Y X) s
 |_=>none
def P1 {p:Pos} {elts:List Ğ} {kk:Nat} {qp:Pos} (hg:Gl X "zip") (hm:X.mg "zip"=none) (ha:PA X [a,b] (tA X.K Ξ fa)) (hs:Ê [a,b] X.env=[(false,ļ a X.env),(false,ļ b X.env)]:=by rfl) (fx:Ê [b] X.env=[(false,ļ b X.env)]:=by rfl) :
  PI X (.Tuple elts kk qp) (.Call (.Name "zip" p) [a,b] [] pos) (dZ X.K Ξ (qv fa)):=by
 refine sP (MJ hg hm ha hs fx) fun σ H R U=>?_;obtain ⟨w,env,T,S,Q,h⟩:=U;subst T;refine ⟨w,env,rfl,S,Q,(Out.ai h).mono fun F E D P h C O=>?_⟩;split at h
 ·obtain ⟨v,r,rfl,Z,v2,N,rfl,Y,dr⟩:=O
  have M:N=[]:=dr;subst M;have W:=Z;have V:=Y;simp only [DV] at W V;obtain ⟨p,L,rfl,J,_⟩:=W;obtain ⟨q,I,rfl,G,_⟩:=V;exact ⟨p,q,L,I,rfl,J,G,ay P h _ (Lx Z Y)⟩
 ·exact h.elim
def aG (fn:List D->aa->Res D) (fa:WR (List D)):WR D:=fun env s=>ai (fa env s) fun Z s=>ne (fn Z s)
def Ol {k:Nat} {fA:Ø} {fd:ę} {rk:List Str} {fn:List D->aa->Res D} {x:Str} {p:Pos} (F:cG X.prog X.w X.K X.mg X.base cP k fA fd rk (i4 X.K fn)) (hr:bC k X.A) (hg:Gl X x) (hm:X.mg x=some (.ref fA)) (hk:ĵ X.K (.ref fA)=true) (hb:Binds X.K fd rk [])
  (ha:PA X (e::es) (tA X.K Ξ fa)) (cY:(x==("__debug__":Str))=false:=by decide) (he:Ê (e::es) X.env=(false,ļ e X.env)::Ê es X.env:=by rfl) (bu:(ı pos (Ê es X.env)).any (·.1)=false:=by rfl) :
  PE X (.Call (.Name x p) (e::es) [] pos) (tE X.K Ξ (aG fn fa)):=bZ (CB F hr hg hm hk hb .nil PN ha cY he bu) fun σ H Q Y=>by
 obtain ⟨w,env,W,S,V,h⟩:=Y;subst W;refine ⟨w,env,rfl,S,V,(Out.ai h).mono fun Z U N T R P O=>?_⟩;show i4 X.K fn (P++[]) Z.H Q E0;rw [Ĩ];exact ⟨Z,U,rfl,T,O,R.ne⟩
def ak.env (h:ak K w ds vs) (n:Nat):bB K w (ds.map some++Î (n-ds.length) none) (vs.map some++Î (n-vs.length) none):=by
 have Y:=h.length;refine ⟨by simp [Y],fun i d e=>?_⟩;by_cases hi:i<ds.length
 ·rw [Ú (by simpa using hi),ç] at e
  rw [Ú (by simp;omega),ç]
  cases Z:ds[i]? with
  |none=>rw [Z] at e;cases e
  |some W =>
   rw [Z] at e;cases e;obtain ⟨v,ev,X⟩:=h.get' i d Z;exact ⟨v,by rw [ev];rfl,X⟩
 ·rw [ô (by simpa using ŝ hi),ğ] at e
  split at e<;>cases e
end
def P2 (F:mW K x qual st f fd) (S:nD N ps (bX st))
 (hb:∀(aR:Ä) (A:æ) (outer:List PySem.Env) (s:Ã) (H:Hp) (E:XK),bC k (A.deeper (Ĵ qual (bX st) s.heap.objs.size f aR))->cg (fI cP P w K mg base N qual (bX st) f aR A outer s H E).kF (gb st) (tS K bQ b)) :
  cG P w K mg base cP (k+1) f fd ps (i4 K (aJ ps.length N.length b)):=by
 refine F.ok S (fun W H Q E h=>?_) (fun aR A outer s H W Q E V h=>?_)
 ·obtain ⟨w,U,rfl,S,Y,h⟩:=h
  rw [<- Y.length];unfold aJ at h;split at h
  ·assumption
  ·exact h.elim
 ·obtain ⟨w,U,rfl,S,Y,h⟩:=h
  refine ⟨_,hb aR A outer s w.H E V,?_⟩;unfold aJ at h;split at h
  ·rename_i T
   rw [<- T] at h;refine ⟨w,_,rfl,S,Y.env N.length,(Out.ai h).mono fun O R M X Z=>?_⟩
   cases R with
   |nx env=>intro L _;exact ay X Z _ rfl
   |rt d=>have q:=ay X Z;exact q
   |bk env=>exact Z.elim
   |ct env=>exact Z.elim
  ·exact h.elim
mutual
noncomputable def py:D->ž
 | .ao=>.none
 | .bl b=>.bool b
 | .int i=>.int i
 | .str x=>.str x
 | .tup Z=>.tuple (bI Z)
 | .lst Z=>.list (bI Z)
 | .bq Y=>.dict (Y.map fun p=>(qq p.1,PyData.int p.2))
 | .au _=>.none
 | .ty _=>.none
 | .bz _=>.none
 | .exc _=>.none
 | .bT _ _ _=>.none
noncomputable def bI:List D->List ž
 | []=>[]
 |d::Z=>py d::bI Z
end
mutual
noncomputable def plain:D->Bool
 | .ao=>true
 | .bl _=>true
 | .int _=>true
 | .str _=>true
 | .tup Z=>ji Z
 | .lst Z=>ji Z
 | .bq _=>true
 | .au _=>false
 | .ty _=>false
 | .bz _=>false
 | .exc _=>false
 | .bT _ _ _=>false
noncomputable def ji:List D->Bool
 | []=>true
 |d::Z=>plain d&&ji Z
end
mutual
noncomputable def lay:D->Bool
 | .ao=>true
 | .bl _=>true
 | .int _=>true
 | .str x=>ω x
 | .tup Z=>cu Z
 | .lst Z=>cu Z
 | .bq _=>false
 | .au _=>false
 | .ty _=>false
 | .bz _=>false
 | .exc _=>false
 | .bT _ _ _=>false
noncomputable def cu:List D->Bool
 | []=>true
 |d::Z=>lay d&&cu Z
end
mutual
noncomputable def dep:D->Nat
 | .tup Z=>cH Z+1
 | .lst Z=>cH Z+1
 | .bq Y=>1
 | .ao=>0
 | .bl _=>0
 | .int _=>0
 | .str _=>0
 | .au _=>0
 | .ty _=>0
 | .bz _=>0
 | .exc _=>0
 | .bT _ _ _=>0
noncomputable def cH:List D->Nat
 | []=>0
 |d::Z=>max (dep d) (cH Z)
end
mutual
noncomputable def beq:D->D->Bool
 | .ao,.ao=>true
 | .bl a,.bl b=>a==b
 | .bl a,.int j=>(if a then 1 else 0)==j
 | .int i,.bl b=>i==(if b then 1 else 0)
 | .int i,.int j=>i==j
 | .str x,.str y=>x==y
 | .tup Z,.tup Y=>fL Z Y
 | .lst Z,.lst Y=>fL Z Y
 |_,_=>false
noncomputable def fL:List D->List D->Bool
 | [],[]=>true
 |x::Z,y::Y=>beq x y&&fL Z Y
 |_,_=>false
end
mutual
theorem l7:∀(d:D),lay d=true->plain d=true
 | .ao,_=>rfl
 | .bl _,_=>rfl
 | .int _,_=>rfl
 | .str _,_=>rfl
 | .tup Z,h=>by simp only [lay,plain] at h |-;exact lZ Z h
 | .lst Z,h=>by simp only [lay,plain] at h |-;exact lZ Z h
 | .bq _,h=>by simp [lay] at h
 | .au _,h=>by simp [lay] at h
 | .ty _,h=>by simp [lay] at h
 | .bz _,h=>by simp [lay] at h
 | .exc _,h=>by simp [lay] at h
 | .bT _ _ _,h=>by simp [lay] at h
theorem lZ:∀(ds:List D),cu ds=true->ji ds=true
 | [],_=>rfl
 |d::ds,h=>by
  simp only [cu,ji,È] at h |-;exact ⟨l7 d h.1,lZ ds h.2⟩
end
mutual
theorem iC:∀(d:D),lay d=true->(py d).canLay0=true/\(py d).depth=dep d
 | .ao,_=>⟨rfl,by simp [py,dep,PyData.depth]⟩
 | .bl _,_=>⟨rfl,by simp [py,dep,PyData.depth]⟩
 | .int _,_=>⟨rfl,by simp [py,dep,PyData.depth]⟩
 | .str _,h=>⟨h,by simp [py,dep,PyData.depth]⟩
 | .tup Z,h=>by
  obtain ⟨Y,X⟩:=pd Z (by simpa [lay] using h);simp only [py,dep,PyData.depth,PyData.canLay0];exact ⟨Y,by rw [X]⟩
 | .lst Z,h=>by
  obtain ⟨Y,X⟩:=pd Z (by simpa [lay] using h);simp only [py,dep,PyData.depth,PyData.canLay0];exact ⟨Y,by rw [X]⟩
 | .bq _,h=>by simp [lay] at h
 | .au _,h=>by simp [lay] at h
 | .ty _,h=>by simp [lay] at h
 | .bz _,h=>by simp [lay] at h
 | .exc _,h=>by simp [lay] at h
 | .bT _ _ _,h=>by simp [lay] at h
theorem pd:∀(ds:List D),cu ds=true->PyData.canLayAll0 (bI ds)=true/\ě (bI ds)=cH ds
 | [],_=>⟨rfl,rfl⟩
 |d::ds,h=>by
  simp only [cu,È] at h;obtain ⟨a1,a2⟩:=iC d h.1;obtain ⟨Z,Y⟩:=pd ds h.2;simp only [bI,cH,PyData.canLayAll0,ě,a1,Z,a2,Y,Ę,V0]
end
mutual
theorem nK:∀(d e:D),lay d=true->lay e=true->ė (py d) (py e)=beq d e
 | .tup Z,.tup Y,h,g=>by
  simp only [py,beq,ė];exact vI Z Y (by simpa [lay] using h) (by simpa [lay] using g)
 | .lst Z,.lst Y,h,g=>by
  simp only [py,beq,ė];exact vI Z Y (by simpa [lay] using h) (by simpa [lay] using g)
 | .ao,e,_,g=>by cases e<;>simp_all [py,beq,ė,lay]
 | .bl _,e,_,g=>by cases e<;>simp_all [py,beq,ė,lay]
 | .int _,e,_,g=>by cases e<;>simp_all [py,beq,ė,lay]
 | .str _,e,_,g=>by cases e<;>simp_all [py,beq,ė,lay]
 | .tup _,.ao,_,_=>by simp [py,beq,ė]
 | .tup _,.bl _,_,_=>by simp [py,beq,ė]
 | .tup _,.int _,_,_=>by simp [py,beq,ė]
 | .tup _,.str _,_,_=>by simp [py,beq,ė]
 | .tup _,.lst _,_,_=>by simp [py,beq,ė]
 | .lst _,.ao,_,_=>by simp [py,beq,ė]
 | .lst _,.bl _,_,_=>by simp [py,beq,ė]
 | .lst _,.int _,_,_=>by simp [py,beq,ė]
 | .lst _,.str _,_,_=>by simp [py,beq,ė]
 | .lst _,.tup _,_,_=>by simp [py,beq,ė]
 | .bq _,_,h,_=>by simp [lay] at h
 | .au _,_,h,_=>by simp [lay] at h
 | .ty _,_,h,_=>by simp [lay] at h
 | .bz _,_,h,_=>by simp [lay] at h
 | .exc _,_,h,_=>by simp [lay] at h
 | .bT _ _ _,_,h,_=>by simp [lay] at h
 |_,.bq _,_,h=>by simp [lay] at h
 |_,.au _,_,h=>by simp [lay] at h
 |_,.ty _,_,h=>by simp [lay] at h
 |_,.bz _,_,h=>by simp [lay] at h
 |_,.exc _,_,h=>by simp [lay] at h
 |_,.bT _ _ _,_,h=>by simp [lay] at h
theorem vI:∀(ds es:List D),cu ds=true->cu es=true->PyData.eqvAll (bI ds) (bI es)=fL ds es
 | [],[],_,_=>rfl
 | [],_::_,_,_=>rfl
 |_::_,[],_,_=>rfl
 |d::ds,e::es,h,g=>by
  simp only [cu,È] at h g;simp only [bI,fL,PyData.eqvAll,nK d e h.1 g.1,vI ds es h.2 g.2]
end
mutual
theorem DV.py:∀{d:D} {v:V},DV K w d v->plain d=true->L2.DV K (fun _=>False) w.H (DI.py d) v
 | .ao,_,h,_=>h
 | .bl _,_,h,_=>h
 | .int _,_,h,_=>h
 | .str _,_,h,_=>h
 | .tup X,v,h,p=>by
  simp only [DV] at h;obtain ⟨a,Y,e,Z,r⟩:=h;simp only [DI.py,L2.DV];exact ⟨a,Y,e,Z,ak.py r (by simpa [plain] using p)⟩
 | .lst X,v,h,p=>by
  simp only [DV] at h;obtain ⟨a,Y,e,Z,r⟩:=h;simp only [DI.py,L2.DV];exact ⟨a,Y,e,not_false,Z.2,ak.py r (by simpa [plain] using p)⟩
 | .bq W,v,h,p=>by
  simp only [DV] at h;obtain ⟨a,e,U,Z⟩:=h;simp only [DI.py,L2.DV];exact ⟨a,_,e,not_false,Z,W,rfl,rfl⟩
 | .au _,_,_,p=>by simp [plain] at p
 | .ty _,_,_,p=>by simp [plain] at p
 | .bz _,_,_,p=>by simp [plain] at p
 | .exc _,_,_,p=>by simp [plain] at p
 | .bT _ _ _,_,_,p=>by simp [plain] at p
theorem ak.py:∀{ds:List D} {vs:List V},ak K w ds vs->ji ds=true->L2.ak K (fun _=>False) w.H (DI.bI ds) vs
 | [],_,h,_=>h
 |d::ds,vs,h,p=>by
  simp only [ak] at h;obtain ⟨v,r,e,Z,Y⟩:=h;simp only [ji,È] at p;exact ⟨v,r,e,DV.py Z p.1,ak.py Y p.2⟩
end
def res (d:D) (s:aa):D:=match d with
 | .au k=>match s[k]? with
  |some (.lst Z)=>.lst Z
  |_=>d
 |_=>d
theorem DV.res (S:aL K w) (h:DV K w d v) (p:plain (DI.res d w.aF)=true):L2.DV K (fun _=>False) w.H (DI.py (DI.res d w.aF)) v:=by
 cases d with
 |au k =>
  unfold DI.res at p |-;simp only at p |-
  split at p<;>rename_i Z
  ·rename_i V
   obtain ⟨a,e1,rfl⟩:=h;obtain ⟨Y,X,W⟩:=S.cell k a _ e1 Z;simp only [DI.py,L2.DV];exact ⟨a,Y,rfl,not_false,X,W.py (by simpa [plain] using p)⟩
  ·simp [plain] at p
 |_=>exact h.py p
noncomputable def kN:D->Bool
 | .str _=>true
 |_=>false
def Om (h:kN d=true):∃x,d=.str x:=by cases d<;>first|exact ⟨_,rfl⟩|cases h
def iG (x y:D):Option Bool:=if (kN x&&kN y)=true then some (beq x y) else if (lay x&&lay y&&decide (min (dep x) (dep y)<=100))=true then some (beq x y) else none
def bH (x y:D) (s:aa):Res D:=match iG (res x s) (res y s) with
 |some b=>ok (.bl b) s
 |none=>none
def fM (x y:D) (s:aa):Res D:=match iG (res x s) (res y s) with
 |some b=>ok (.bl (!b)) s
 |none=>none
def CY (S:aL K w) (hx:DV K w x v) (hy:DV K w y u) (h:iG (res x w.aF) (res y w.aF)=some b) :
  (yu v u=true/\decide (v=u)=b)\/∃(d e:ž),L2.DV K (fun _=>False) w.H d v/\L2.DV K (fun _=>False) w.H e u/\d.canLay0=true/\e.canLay0=true/\min d.depth e.depth<=100/\ė d e=b:=by
 have str:∀{d:D} {v:V},kN (res d w.aF)=true->DV K w d v->∃x,res d w.aF=.str x/\v=.str x:=fun {d v} hs W=>by
  obtain ⟨x,e⟩:=Om hs
  cases d with
  |str y=>cases e;exact ⟨x,rfl,W⟩
  |au k =>
   unfold res at e;simp only at e
   split at e<;>cases e
  |_=>cases e
 unfold iG at h;split at h
 ·rename_i hs
  rw [È] at hs;obtain ⟨a,U,rfl⟩:=str hs.1 hx;obtain ⟨c,T,rfl⟩:=str hs.2 hy;rw [U,T] at h;exact .inl ⟨rfl,by rw [<- WW h];exact we⟩
 split at h
 ·rename_i X
  right;simp only [È,Ü] at X;obtain ⟨⟨Z,Y⟩,R⟩:=X;obtain ⟨Q,P⟩:=iC _ Z;obtain ⟨O,N⟩:=iC _ Y;exact ⟨_,_,hx.res S (l7 _ Z),hy.res S (l7 _ Y),Q,O,by rw [P,N];exact R,by rw [nK _ _ Z Y];exact WW h⟩
 ·cases h
section
variable {X:Cx} {Ξ:Wd->aW->Prop}
def cM (hr:bC k X.A):bj X (Đ .Eq) (rO X.K Ξ bH):=by
 rintro W s σ H x y v u Q I V U ⟨w,J,G,rfl,S,T,R,h⟩;unfold bH at h;split at h
 ·rename_i b P
  rcases CY S T R P with ⟨Z,Y⟩ | ⟨d,e,Z,Y,O,N,M,L⟩
  ·exact Px W s σ w.H x y v u Q I V U ⟨Z,by rw [Y];exact ay S h _ rfl⟩
  exact Oa hr W s σ w.H x y v u Q I V U ⟨d,e,_,Z,Y,O,N,M,by simp only [É,ĉ];rw [L];exact ay S h _ rfl⟩
 ·exact h.elim
def og (hr:bC k X.A):bj X (Đ .NotEq) (rO X.K Ξ fM):=by
 rintro W s σ H x y v u Q I V U ⟨w,J,G,rfl,S,T,R,h⟩;unfold fM at h;split at h
 ·rename_i b P
  rcases CY S T R P with ⟨Z,Y⟩ | ⟨d,e,Z,Y,O,N,M,L⟩
  ·exact EM W s σ w.H x y v u Q I V U ⟨Z,by rw [Y];exact ay S h _ rfl⟩
  exact Ob hr W s σ w.H x y v u Q I V U ⟨d,e,_,Z,Y,O,N,M,by simp only [Ċ];rw [L];exact ay S h _ rfl⟩
 ·exact h.elim
end
end DI
namespace DI
open PySem L2
def bL (r:Option D) (s:aa):Res D:=match r with
 |some d=>ok d s
 |none=>none
def dE (h:Out K Ξ w (bL r w.aF) k):∃d,r=some d/\Out K Ξ w (ok d w.aF) k:=by
 unfold bL at h;split at h
 ·exact ⟨_,rfl,h⟩
 ·exact h.elim
noncomputable def gr (xs ys:List D):Bool:=decide (xs.length+ys.length<=Ñ)
def oh:D->D->Option D
 | .int i,.int j=>some (.int (i+j))
 | .tup Z,.tup Y=>if gr Z Y=true then some (.tup (Z++Y)) else none
 | .lst Z,.lst Y=>if gr Z Y=true then some (.lst (Z++Y)) else none
 | .str x,.str y=>if decide (x.length+y.length<=Ñ)=true then some (.str (x++y)) else none
 |_,_=>none
def bO (x y:D) (s:aa):Res D:=bL (oh (res x s) (res y s)) s
noncomputable def FW:D->D->Option D
 | .int i,.int j=>some (.int (i-j))
 |_,_=>none
def qa (x y:D) (s:aa):Res D:=bL (FW x y) s
noncomputable def qb (i j:Int):Bool:=(decide (-(2 ^ 64)<i)&&decide (i<2 ^ 64))||(decide (-(2 ^ 64)<j)&&decide (j<2 ^ 64))
def qw:D->D->Option D
 | .int i,.int j=>if qb i j=true then some (.int (i*j)) else none
 | .tup Z,.int k=>if (!Z.isEmpty&&decide (1<=k)&&decide (Z.length*k.toNat<=Ñ))=true then some (.tup (Î k.toNat Z).flatten) else none
 | .lst Z,.int k=>if (decide (-(2 ^ 63)<=k)&&decide (k<2 ^ 63)&&decide (Z.length*k.toNat<=Ñ))=true then some (.lst (Î k.toNat Z).flatten) else none
 |_,_=>none
def cL (x y:D) (s:aa):Res D:=bL (qw x y) s
noncomputable def yF:D->D->Option D
 | .int i,.int j=>if decide (0<j)=true then some (.int (i % j)) else none
 |_,_=>none
def fG (x y:D) (s:aa):Res D:=bL (yF x y) s
noncomputable def yG:D->D->Option D
 | .int i,.int j=>if (decide (0<j)&&decide (j<1073741824))=true then some (.int (i / j)) else none
 |_,_=>none
def mv (x y:D) (s:aa):Res D:=bL (yG x y) s
noncomputable def yH:D->D->Option D
 | .int i,.int j=>if (decide (0<=j)&&decide (j<=1000000)&&decide (i.natAbs<2 ^ 64))=true then some (.int (i ^ j.toNat)) else none
 |_,_=>none
def nR (x y:D) (s:aa):Res D:=bL (yH x y) s
noncomputable def FX:D->Option D
 | .int i=>some (.int (-i))
 |_=>none
def xN (x:D) (s:aa):Res D:=bL (FX x) s
theorem ak.flat (h:ak K w ds vs):∀n:Nat,ak K w (Î n ds).flatten (Î n vs).flatten
 |0=>rfl
 |n+1=>by
  rw [Ĳ,Ĳ,ŗ,ŗ];exact ak.append h (ak.flat h n)
def gg (S:aL K w) (h:DV K w d v) (e:res d w.aF=.lst ds):∃a xs,v=.ref a/\w.H a=some (.lst xs)/\ak K w ds xs:=by
 unfold res at e;split at e
 ·rename_i k
  split at e
  ·rename_i V Z
   cases e;obtain ⟨a,e1,rfl⟩:=h;obtain ⟨xs,Y,X⟩:=S.cell k a _ e1 Z;exact ⟨a,xs,rfl,Y,X⟩
  ·cases e
 ·subst e
  simp only [DV] at h;obtain ⟨a,xs,e,W,r⟩:=h;exact ⟨a,xs,e,W.2,r⟩
def c8 (h:res d s=e) (hl:∀ds,e≠.lst ds):d=e:=by
 unfold res at h;split at h
 ·split at h
  ·exact absurd h.symm (hl _)
  ·exact h
 ·exact h
section
variable {X:Cx} {Ξ:Wd->aW->Prop}
def qr (S:aL K w) (aj:ak K w ds vs) (h:Out K Ξ w (ok (D.tup ds) w.aF) fun w' d=>∀v,DV K w' d v->Q v w'.H):lF K w.H vs Q:=fun a Z e Y =>
 h (w.same Z) (Fw.same e).le (S.same e) rfl (.ref a) ⟨a,vs,rfl,Y,(Fw.same e).le.all aj⟩
def oi {K:č} {w:Wd} {ds:List D} {vs:List V} {Q:VK} (S:aL K w) (aj:ak K w ds vs) (h:Out K Ξ w (ok (D.lst ds) w.aF) fun w' d=>∀v,DV K w' d v->Q v w'.H):∀p,w.H p=none->Q (.ref p) (upd w.H p (.lst vs)):=fun p Y =>
 h (w.grow p (.lst vs)) (Fw.grow Y).le (S.grow Y) rfl (.ref p) ⟨p,vs,rfl,⟨(show ¬ w.Z p from j9 S Y),cm⟩,(Fw.grow Y).le.all aj⟩
def Oo {K:č} {w:Wd} {ds:List D} {vs:List V} {Q:VK} (S:aL K w) (aj:ak K w ds vs) (h:Out K Ξ w (ok (D.tup ds) w.aF) fun w' d=>∀v,DV K w' d v->Q v w'.H):∀p,w.H p=none->Q (.ref p) (upd w.H p (.tup vs)):=fun p Z =>
 h (w.grow p (.tup vs)) (Fw.grow Z).le (S.grow Z) rfl (.ref p) ⟨p,vs,rfl,bg.of cm,(Fw.grow Z).le.all aj⟩
def eT:bj X (İ .Add) (rO X.K Ξ bO):=by
 rintro T s σ H x y v u Q I R P ⟨w,J,G,rfl,S,Z,Y,h⟩;obtain ⟨d,e,h⟩:=dE h;unfold oh at e;split at e
 ·rename_i i j e1 e2
  rw [c8 e1 (by intro _ z;cases z)] at Z;rw [c8 e2 (by intro _ z;cases z)] at Y;cases e;cases Z;cases Y;exact NT T s σ w.H _ _ v u Q I R P ⟨i,j,rfl,rfl,ay S h _ rfl⟩
 ·rename_i M L e1 e2
  rw [c8 e1 (by intro _ z;cases z)] at Z;rw [c8 e2 (by intro _ z;cases z)] at Y;split at e
  ·rename_i W
   cases e;simp only [DV] at Z Y;obtain ⟨a,as,rfl,O,V⟩:=Z;obtain ⟨b,bs,rfl,N,U⟩:=Y;exact MD T s σ w.H _ _ v u Q I R P ⟨a,b,as,bs,rfl,rfl,O,N,by rw [<- V.length,<- U.length];exact ă W,qr S (V.append U) h⟩
  ·cases e
 ·rename_i M L e1 e2
  split at e
  ·rename_i W
   cases e;obtain ⟨a,as,rfl,O,V⟩:=gg S Z e1;obtain ⟨b,bs,rfl,N,U⟩:=gg S Y e2;exact DH T s σ w.H _ _ v u Q I R P ⟨a,b,as,bs,rfl,rfl,O,N,by rw [<- V.length,<- U.length];exact ă W,oi S (V.append U) h⟩
  ·cases e
 ·rename_i i j e1 e2
  rw [c8 e1 (by intro _ z;cases z)] at Z;rw [c8 e2 (by intro _ z;cases z)] at Y;split at e
  ·rename_i W
   cases e;cases Z;cases Y;exact I0 T s σ w.H _ _ v u Q I R P ⟨i,j,rfl,rfl,ă W,ay S h _ rfl⟩
  ·cases e
 ·cases e
def P4:bj X (İ .Sub) (rO X.K Ξ qa):=by
 rintro Z s σ H x y v u Q I Y W ⟨w,T,R,rfl,S,V,U,h⟩;obtain ⟨d,e,h⟩:=dE h;unfold FW at e;split at e
 ·rename_i i j
  cases e;cases V;cases U;exact NU Z s σ w.H _ _ v u Q I Y W ⟨i,j,rfl,rfl,ay S h _ rfl⟩
 ·cases e
def kj:bj X (İ .Mult) (rO X.K Ξ cL):=by
 rintro V s σ H x y v u Q I U T ⟨w,M,L,rfl,S,Y,R,h⟩;obtain ⟨d,e,h⟩:=dE h;unfold qw at e;split at e
 ·rename_i i j
  split at e
  ·rename_i Z
   cases e;cases Y;cases R;refine NV V s σ w.H _ _ v u Q I U T ⟨i,j,rfl,rfl,?_,ay S h _ rfl⟩;unfold tU;simpa [qb] using Z
  ·cases e
 ·rename_i O k
  split at e
  ·rename_i Z
   cases e;cases R;simp only [È,Ü] at Z;simp only [DV] at Y;obtain ⟨a,as,rfl,P,W⟩:=Y;have N:=W.length;refine MN V s σ w.H _ _ v u Q I U T ⟨a,as,k,rfl,rfl,P,?_,Z.1.2,by rw [<- N];exact Z.2,qr S (W.flat _) h⟩;intro z;subst z
   cases O with
   |nil=>simp at Z
   |cons _ _=>cases N
  ·cases e
 ·rename_i O k
  split at e
  ·rename_i Z
   cases e;cases R;simp only [È,Ü] at Z;simp only [DV] at Y;obtain ⟨a,as,rfl,P,W⟩:=Y;exact N7 V s σ w.H _ _ v u Q I U T ⟨a,k,as,rfl,rfl,P.2,Z.1.1,Z.1.2,by rw [<- W.length];exact Z.2,oi S (W.flat _) h⟩
  ·cases e
 ·cases e
def nS:bj X (İ .Mod) (rO X.K Ξ fG):=by
 rintro Z s σ H x y v u Q I Y W ⟨w,R,P,rfl,S,V,U,h⟩;obtain ⟨d,e,h⟩:=dE h;unfold yF at e;split at e
 ·rename_i i j
  split at e
  ·rename_i T
   cases e;cases V;cases U;exact NW Z s σ w.H _ _ v u Q I Y W ⟨i,j,rfl,rfl,ă T,ay S h _ rfl⟩
  ·cases e
 ·cases e
def EZ:bj X (İ .FloorDiv) (rO X.K Ξ mv):=by
 rintro Y s σ H x y v u Q I W V ⟨w,R,P,rfl,S,U,T,h⟩;obtain ⟨d,e,h⟩:=dE h;unfold yG at e;split at e
 ·rename_i i j
  split at e
  ·rename_i Z
   simp only [È,Ü] at Z;cases e;cases U;cases T;exact Ms Y s σ w.H _ _ v u Q I W V ⟨i,j,rfl,rfl,Z,ay S h _ rfl⟩
  ·cases e
 ·cases e
def E1:bj X (İ .Pow) (rO X.K Ξ nR):=by
 rintro Y s σ H x y v u Q I W V ⟨w,R,P,rfl,S,U,T,h⟩;obtain ⟨d,e,h⟩:=dE h;unfold yH at e;split at e
 ·rename_i i j
  split at e
  ·rename_i Z
   simp only [È,Ü] at Z;cases e;cases U;cases T;exact NX Y s σ w.H _ _ v u Q I W V ⟨i,j,rfl,rfl,⟨Z.1.1,Z.1.2,Z.2⟩,ay S h _ rfl⟩
  ·cases e
 ·cases e
def E2:qO X (unaryOp .USub) (rU X.K Ξ xN):=by
 rintro Z s σ H x v Q I Y ⟨w,V,rfl,S,W,h⟩;obtain ⟨d,e,h⟩:=dE h;unfold FX at e;split at e
 ·rename_i i
  cases e;cases W;exact NY Z s σ w.H _ v Q I Y ⟨i,rfl,ay S h _ rfl⟩
 ·cases e
noncomputable def oj (p:Int->Int->Bool):D->D->Option D
 | .int i,.int j=>some (.bl (p i j))
 |_,_=>none
def mI (x y:D) (s:aa):Res D:=bL (oj (fun i j=>decide (i<=j)) x y) s
def qx (x y:D) (s:aa):Res D:=bL (oj (fun i j=>decide (j<i)) x y) s
def qy (x y:D) (s:aa):Res D:=bL (oj (fun i j=>decide (j<=i)) x y) s
def ue:bj X (Đ .LtE) (rO X.K Ξ mI):=by
 rintro Z s σ H x y v u Q I Y W ⟨w,T,R,rfl,S,V,U,h⟩;obtain ⟨d,e,h⟩:=dE h;unfold oj at e;split at e
 ·rename_i i j
  cases e;cases V;cases U;exact Py Z s σ w.H _ _ v u Q I Y W ⟨i,j,rfl,rfl,ay S h _ rfl⟩
 ·cases e
def Rx:bj X (Đ .Gt) (rO X.K Ξ qx):=by
 rintro Z s σ H x y v u Q I Y W ⟨w,T,R,rfl,S,V,U,h⟩;obtain ⟨d,e,h⟩:=dE h;unfold oj at e;split at e
 ·rename_i i j
  cases e;cases V;cases U;exact Pz Z s σ w.H _ _ v u Q I Y W ⟨i,j,rfl,rfl,ay S h _ rfl⟩
 ·cases e
def FY:bj X (Đ .GtE) (rO X.K Ξ qy):=by
 rintro Z s σ H x y v u Q I Y W ⟨w,T,R,rfl,S,V,U,h⟩;obtain ⟨d,e,h⟩:=dE h;unfold oj at e;split at e
 ·rename_i i j
  cases e;cases V;cases U;exact PB Z s σ w.H _ _ v u Q I Y W ⟨i,j,rfl,rfl,ay S h _ rfl⟩
 ·cases e
def jT (d i:D) (s:aa):Option D:=match res d s,i with
 | .lst Z,.int i=>dj Z i
 | .tup Z,.int i=>dj Z i
 | .bz Y,.int i=>(dj Y i).map D.int
 | .str x,.int i=>if decide (x.length<=Ñ)=true then (dj x.cps.toList i).map fun c=>.str ⟨#[c]⟩ else none
 |_,_=>none
def aE (x y:D) (s:aa):Res D:=bL (jT x y s) s
theorem ak.at (h:ak K w ds vs) (e:dj ds i=some d):∃v,dj vs i=some v/\DV K w d v:=by
 unfold dj at e |-;rw [h.length] at e
 cases hi:ff vs.length i with
 |none=>rw [hi] at e;cases e
 |some j =>
  rw [hi] at e;exact h.get' j d e
def Ry:qS X (rO X.K Ξ aE):=by
 rintro value slice T s σ H x y v u Q I R P ⟨w,B,A,rfl,S,Z,O,h⟩ hs;obtain ⟨d,e,N⟩:=dE h;clear h;unfold jT at e;split at e
 ·rename_i D i e1
  cases O;obtain ⟨a,M,rfl,W,L⟩:=gg S Z e1;obtain ⟨z,J,G⟩:=L.at e;exact CG value slice T s σ w.H _ _ v u Q I R P ⟨a,M,i,z,rfl,rfl,bt.of W,J,ay S N _ G⟩ hs
 ·rename_i D i e1
  cases O;rw [c8 e1 (by intro _ z;cases z)] at Z;simp only [DV] at Z;obtain ⟨a,M,rfl,W,L⟩:=Z;obtain ⟨z,J,G⟩:=L.at e;exact N3 value slice T s σ w.H _ _ v u Q I R P ⟨a,M,i,z,rfl,rfl,W,J,ay S N _ G⟩ hs
 ·rename_i U i e1
  cases O;rw [c8 e1 (by intro _ z;cases z)] at Z;simp only [DV] at Z;obtain ⟨a,rfl,W⟩:=Z
  cases Y:dj U i with
  |none=>rw [Y] at e;cases e
  |some n =>
   rw [Y] at e;cases e;refine CG value slice T s σ w.H _ _ v u Q I R P ⟨a,U.map V.int,i,.int n,rfl,rfl,W.sq,?_,ay S N _ rfl⟩ hs;unfold dj at Y |-;rw [Ì]
   cases E:ff U.length i with
   |none=>rw [E] at Y;cases Y
   |some j =>
    rw [E] at Y;show (U.map V.int)[j]?=some (.int n);rw [ç,show U[j]?=some n from Y];rfl
 ·rename_i z i e1
  cases O;rw [c8 e1 (by intro _ z;cases z)] at Z;cases Z;split at e
  ·rename_i C
   cases F:dj z.cps.toList i with
   |none=>rw [F] at e;cases e
   |some c =>
    rw [F] at e;cases e;exact N4 value slice T s σ w.H _ _ v u Q I R P ⟨z,i,c,rfl,rfl,ă C,F,ay S N _ rfl⟩ hs
  ·cases e
 ·cases e
def bD (ha:PE X a (tE X.K Ξ f)) (hb:PE X b (tE X.K Ξ g)) (hs:CF b:=by intro _ _;rfl):PE X (.Subscript a b pos) (tE X.K Ξ (e2 aE f g)):=bZ (PK Ry ha hb hs) sD
def om (d:D) (s:aa):Option D:=match res d s with
 | .lst Z=>some (.int Z.length)
 | .tup Z=>some (.int Z.length)
 | .bz Y=>some (.int Y.length)
 | .str x=>if decide (x.length<=Ñ)=true then some (.int x.length) else none
 |_=>none
def cI (ds:List D) (s:aa):Res D:=match ds with
 | [d]=>bL (om d s) s
 |_=>none
def ka (h:ak K w [d] vs):∃v,vs=[v]/\DV K w d v:=by
 obtain ⟨v,r,rfl,Z,dr⟩:=h;have e:r=[]:=dr;subst e;exact ⟨v,rfl,Z⟩
def pP (h:ak K w [d,e] vs):∃v u,vs=[v,u]/\DV K w d v/\DV K w e u:=by
 obtain ⟨v,r,rfl,Z,h⟩:=h;obtain ⟨u,rfl,Y⟩:=ka h;exact ⟨v,u,rfl,Z,Y⟩
def jv:bS X (.builtin "len") (rC X.K Ξ cI):=by
 rintro U s σ H T R Q I r ⟨w,M,rfl,S,Y,h⟩;unfold cI at h;split at h
 ·obtain ⟨v,rfl,Z⟩:=ka Y
  obtain ⟨d,e,h⟩:=dE h;unfold om at e;split at e
  ·rename_i P e1
   cases e;obtain ⟨a,T,rfl,W,Y⟩:=gg S Z e1;exact u9 U s σ w.H _ R Q I r ⟨a,T,rfl,.inl (bt.of W),by rw [<- Y.length];exact ay S h _ rfl⟩
  ·rename_i P e1
   cases e;rw [c8 e1 (by intro _ z;cases z)] at Z;simp only [DV] at Z;obtain ⟨a,T,rfl,W,Y⟩:=Z;exact u9 U s σ w.H _ R Q I r ⟨a,T,rfl,.inr W,by rw [<- Y.length];exact ay S h _ rfl⟩
  ·rename_i O e1
   cases e;rw [c8 e1 (by intro _ z;cases z)] at Z;simp only [DV] at Z;obtain ⟨a,rfl,W⟩:=Z;exact u9 U s σ w.H _ R Q I r ⟨a,O.map V.int,rfl,.inl W.sq,by rw [Ì];exact ay S h _ rfl⟩
  ·rename_i z e1
   rw [c8 e1 (by intro _ z;cases z)] at Z;cases Z;split at e
   ·rename_i N
    cases e;exact HQ U s σ w.H _ R Q I r ⟨z,rfl,ă N,ay S h _ rfl⟩
   ·cases e
  ·cases e
 ·exact h.elim
noncomputable def gC:List D->Option (List Bool)
 | []=>some []
 | .bl b::Z=>(gC Z).map fun r=>b::r
 |_::_=>none
theorem pQ:∀{ds:List D} {bs:List Bool},gC ds=some bs->ds=bs.map D.bl
 | [],bs,h=>by cases h;rfl
 | .bl b::ds,bs,h=>by
  simp only [gC] at h
  cases Z:gC ds with
  |none=>rw [Z] at h;cases h
  |some r=>rw [Z] at h;cases h;rw [pQ Z];rfl
 | .ao::_,_,h=>by cases h
 | .int _::_,_,h=>by cases h
 | .str _::_,_,h=>by cases h
 | .tup _::_,_,h=>by cases h
 | .lst _::_,_,h=>by cases h
 | .bq _::_,_,h=>by cases h
 | .au _::_,_,h=>by cases h
 | .ty _::_,_,h=>by cases h
 | .bz _::_,_,h=>by cases h
 | .exc _::_,_,h=>by cases h
 | .bT _ _ _::_,_,h=>by cases h
def MQ:gC (bs.map D.bl)=some bs:=by
 induction bs with
 |nil=>rfl
 |cons b bs ih=>simp only [ï,gC,ih,VD]
def kn (ds:List D) (s:aa):Res D:=match ds with
 | [d]=>match res d s with
  | .lst Z=>bL ((gC Z).map fun bs=>.bl (bs.all id)) s
  |_=>none
 |_=>none
def ug (ds:List D) (s:aa):Res D:=match ds with
 | [d]=>match res d s with
  | .lst Z=>bL ((gC Z).map fun bs=>.bl (bs.any id)) s
  |_=>none
 |_=>none
def tF (hc:X.calm=true):bS X (.builtin "all") (rC X.K Ξ kn):=by
 rintro V s σ H U T Q I r ⟨w,O,rfl,S,Z,h⟩;unfold kn at h;split at h
 ·obtain ⟨v,rfl,R⟩:=ka Z
  split at h
  ·rename_i P e1
   obtain ⟨d,e,h⟩:=dE h
   cases Y:gC P with
   |none=>rw [Y] at e;cases e
   |some bs =>
    rw [Y] at e;cases e;obtain ⟨a,U,rfl,W,Z⟩:=gg S R e1;rw [pQ Y] at Z;rw [Z.pB] at W;exact K8 hc V s σ w.H _ T Q I r ⟨a,bs,rfl,bt.of W,ay S h _ rfl⟩
  ·exact h.elim
 ·exact h.elim
def E3 (hc:X.calm=true):bS X (.builtin "any") (rC X.K Ξ ug):=by
 rintro V s σ H U T Q I r ⟨w,O,rfl,S,Z,h⟩;unfold ug at h;split at h
 ·obtain ⟨v,rfl,R⟩:=ka Z
  split at h
  ·rename_i P e1
   obtain ⟨d,e,h⟩:=dE h
   cases Y:gC P with
   |none=>rw [Y] at e;cases e
   |some bs =>
    rw [Y] at e;cases e;obtain ⟨a,U,rfl,W,Z⟩:=gg S R e1;rw [pQ Y] at Z;rw [Z.pB] at W;exact K9 hc V s σ w.H _ T Q I r ⟨a,bs,rfl,bt.of W,ay S h _ rfl⟩
  ·exact h.elim
 ·exact h.elim
def nT (ds:List D) (s:aa):Res D:=match ds with
 | [.int i,.int j]=>ok (.int (if j > i then j else i)) s
 |_=>none
def qc (ds:List D) (s:aa):Res D:=match ds with
 | [.int i,.int j]=>ok (.int (if j<i then j else i)) s
 |_=>none
def Oq (hc:X.calm=true):bS X (.builtin "max") (rC X.K Ξ nT):=by
 rintro Z s σ H T Y Q I r ⟨w,R,rfl,S,W,h⟩;unfold nT at h;split at h
 ·rename_i i j
  obtain ⟨v,u,rfl,V,U⟩:=pP W;cases V;cases U;exact JU hc Z s σ w.H _ Y Q I r ⟨i,j,rfl,ay S h _ rfl⟩
 ·exact h.elim
def Ot (hc:X.calm=true):bS X (.builtin "min") (rC X.K Ξ qc):=by
 rintro Z s σ H T Y Q I r ⟨w,R,rfl,S,W,h⟩;unfold qc at h;split at h
 ·rename_i i j
  obtain ⟨v,u,rfl,V,U⟩:=pP W;cases V;cases U;exact JV hc Z s σ w.H _ Y Q I r ⟨i,j,rfl,ay S h _ rfl⟩
 ·exact h.elim
def dw (ds:List D) (s:aa):Res D:=match ds with
 | [d]=>match res d s with
  | .lst Z=>ok (.tup Z) s
  | .tup Z=>ok (.tup Z) s
  |_=>none
 |_=>none
def ma:bS X (.type "tuple") (rC X.K Ξ dw):=by
 rintro U s σ H Y T Q I r ⟨w,O,rfl,S,W,h⟩;unfold dw at h;split at h
 ·obtain ⟨v,rfl,Z⟩:=ka W
  split at h
  ·rename_i R e1
   obtain ⟨a,Y,rfl,V,W⟩:=gg S Z e1;exact A9 U s σ w.H _ T Q I r ⟨a,Y,rfl,.inl ⟨bt.of V,Oo S W h⟩⟩
  ·rename_i R e1
   rw [c8 e1 (by intro _ z;cases z)] at Z;have P:=Z;simp only [DV] at Z;obtain ⟨a,Y,rfl,V,W⟩:=Z;exact A9 U s σ w.H _ T Q I r ⟨a,Y,rfl,.inr ⟨V,ay S h _ P⟩⟩
  ·exact h.elim
 ·exact h.elim
def nU (ds:List D) (s:aa):Res D:=match ds with
 | [d]=>match res d s with
  | .lst Z=>ok (.lst Z) s
  | .tup Z=>ok (.lst Z) s
  |_=>none
 |_=>none
def DU:bS X (.type "list") (rC X.K Ξ nU):=by
 rintro U s σ H Y T Q I r ⟨w,P,rfl,S,Z,h⟩;unfold nU at h;split at h
 ·obtain ⟨v,rfl,W⟩:=ka Z
  split at h
  ·rename_i R e1
   obtain ⟨a,Y,rfl,V,Z⟩:=gg S W e1;exact Bb U s σ w.H _ T Q I r ⟨a,Y,rfl,.inl (bt.of V),oi S Z h⟩
  ·rename_i R e1
   rw [c8 e1 (by intro _ z;cases z)] at W;simp only [DV] at W;obtain ⟨a,Y,rfl,V,Z⟩:=W;exact Bb U s σ w.H _ T Q I r ⟨a,Y,rfl,.inr V,oi S Z h⟩
  ·exact h.elim
 ·exact h.elim
end
def mw (n:Nat) (x:D) (ds:List D):Bool:=lay x&&cu ds&&decide (dep x<=n)
def inD (x:D) (ds:List D):Option Bool:=if mw 100 x ds=true then some (ds.any fun y=>beq y x) else none
def lq (d:D) (s:aa):Option (List D):=match res d s with
 | .lst Z=>some Z
 | .tup Z=>some Z
 |_=>none
def eD (x y:D) (s:aa):Res D:=match lq y s with
 |some Z=>bL ((inD x Z).map D.bl) s
 |none=>none
def jc (x y:D) (s:aa):Res D:=match lq y s with
 |some Z=>bL ((inD x Z).map fun b=>D.bl (!b)) s
 |none=>none
def Cd (S:aL K w) (h:DV K w d v) (e:lq d w.aF=some ds):∃a xs,v=.ref a/\(w.H a=some (.lst xs)\/bg K w.H a xs)/\ak K w ds xs:=by
 unfold lq at e;split at e
 ·rename_i X e1
  cases e;obtain ⟨a,xs,rfl,Z,Y⟩:=gg S h e1;exact ⟨a,xs,rfl,.inl Z,Y⟩
 ·rename_i X e1
  cases e;rw [c8 e1 (by intro _ z;cases z)] at h;simp only [DV] at h;obtain ⟨a,xs,rfl,Z,Y⟩:=h;exact ⟨a,xs,rfl,.inr Z,Y⟩
 ·cases e
section
variable {X:Cx} {Ξ:Wd->aW->Prop} {π:List (Ø×Obj)} {σ:St} {s:Ã}
theorem wW (lx:lay x=true):∀{ds:List D},cu ds=true->((bI ds).any fun y=>ė y (py x))=ds.any fun y=>beq y x
 | [],_=>rfl
 |d::ds,h=>by
  simp only [cu,È] at h;simp only [bI,List.any_cons,nK d x h.1 lx,wW lx h.2]
def DW (h:inD x ds=some b):lay x=true/\cu ds=true/\dep x<=100/\(ds.any fun y=>beq y x)=b:=by
 unfold inD mw at h;split at h
 ·rename_i Z
  simp only [È,Ü] at Z;exact ⟨Z.1.1,Z.1.2,Z.2,WW h⟩
 ·cases h
def jA (hr:bC k X.A):bj X (Đ .In) (rO X.K Ξ eD):=by
 rintro π s σ H x y v u Q I J T ⟨w,W,B,rfl,S,G,F,h⟩;unfold eD at h;split at h
 ·rename_i Z E
  obtain ⟨d,e,h⟩:=dE h
  cases V:inD W Z with
  |none=>rw [V] at e;cases e
  |some b =>
   rw [V] at e;cases e;obtain ⟨U,Y,z,D⟩:=DW V;obtain ⟨R,C⟩:=iC _ U;obtain ⟨P,t⟩:=pd _ Y;obtain ⟨bs,O⟩:=(G.py (l7 _ U)).reads I J;have N:X.A.units+1+min (ě (bI Z)) (py W).depth<WD:=by
    have:=hr.un;rw [C];omega
   obtain ⟨a,M,rfl,ha,L⟩:=Cd S F E;have fin:EP X π σ Q (.bool ((bI Z).any fun y=>ė y (py W))) s:=⟨.bl b,w.H,I,by rw [wW U Y,D];rfl,ay S h _ rfl⟩
   rcases ha with ha|ha
   ·obtain ⟨cs,rc⟩:=(show L2.DV X.K (fun _=>False) w.H (.list (bI Z)) (.ref a) by simp only [L2.DV];exact ⟨a,M,rfl,not_false,ha,L.py (lZ _ Y)⟩).reads I T
    exact SeqAt.in_list_reads rc O P R N fin
   ·obtain ⟨cs,rc⟩:=(show L2.DV X.K (fun _=>False) w.H (.tuple (bI Z)) (.ref a) by simp only [L2.DV];exact ⟨a,M,rfl,ha,L.py (lZ _ Y)⟩).reads I T
    exact SeqAt.in_tuple_reads rc O P R N fin
 ·exact h.elim
def CZ (hr:bC k X.A):bj X (Đ .NotIn) (rO X.K Ξ jc):=by
 rintro π s σ H x y v u Q I J T ⟨w,W,B,rfl,S,G,F,h⟩;unfold jc at h;split at h
 ·rename_i Z E
  obtain ⟨d,e,h⟩:=dE h
  cases V:inD W Z with
  |none=>rw [V] at e;cases e
  |some b =>
   rw [V] at e;cases e;obtain ⟨U,Y,z,D⟩:=DW V;obtain ⟨R,C⟩:=iC _ U;obtain ⟨P,t⟩:=pd _ Y;obtain ⟨bs,O⟩:=(G.py (l7 _ U)).reads I J;have N:X.A.units+1+min (ě (bI Z)) (py W).depth<WD:=by
    have:=hr.un;rw [C];omega
   obtain ⟨a,M,rfl,ha,L⟩:=Cd S F E;have fin:EP X π σ Q (.bool (!(bI Z).any fun y=>ė y (py W))) s:=⟨.bl (!b),w.H,I,by rw [wW U Y,D];rfl,ay S h _ rfl⟩
   rcases ha with ha|ha
   ·obtain ⟨cs,rc⟩:=(show L2.DV X.K (fun _=>False) w.H (.list (bI Z)) (.ref a) by simp only [L2.DV];exact ⟨a,M,rfl,not_false,ha,L.py (lZ _ Y)⟩).reads I T
    exact SeqAt.notIn_list_reads rc O P R N fin
   ·obtain ⟨cs,rc⟩:=(show L2.DV X.K (fun _=>False) w.H (.tuple (bI Z)) (.ref a) by simp only [L2.DV];exact ⟨a,M,rfl,ha,L.py (lZ _ Y)⟩).reads I T
    exact SeqAt.notIn_tuple_reads rc O P R N fin
 ·exact h.elim
def tP (K:č) (Ξ:Wd->aW->Prop) (f:WR (Option Int)):TO:=fun σ H Q=>∃w env,w.H=H/\aL K w/\bB K w env σ/\Out K Ξ w (f env w.aF) fun Z i=>Q i Z.H
def rl:WR (Option Int):=fun _ s=>ok none s
def qz (f:WR D):WR (Option Int):=fun env s=>ai (f env s) fun d s=>match d with
 | .int i=>ok (some i) s
 |_=>none
variable {e a b:Ğ} {lo hi:Option Ğ} {pos p2 p3 p4:Pos} {f g:WR D}
def DY (h:PO X lo t) (i:∀ σ H Q,t' σ H Q->t σ H Q):PO X lo t':=fun π s σ H Q I Z=>h π s σ H Q I (i σ H Q Z)
def Rz:PO X none (tP X.K Ξ rl):=DY Mx fun σ H Q Z=>by
 obtain ⟨w,env,Y,S,W,h⟩:=Z;subst Y;exact ay S h
def P5 (he:PE X e (tE X.K Ξ f)):PO X (some e) (tP X.K Ξ (qz f)):=DY (My he) fun σ H Q Y=>by
 obtain ⟨w,env,W,S,V,h⟩:=Y;subst W;refine ⟨w,env,rfl,S,V,(Out.ai h).mono fun R d P U Z v T=>?_⟩
 cases d with
 |int i=>exact ⟨i,T,ay U Z⟩
 |_=>exact Z.elim
noncomputable def cutD (xs:List D) (lo hi:Option Int):List D:=(xs.drop (HT.aS xs.length 0 lo)).take (HT.aS xs.length xs.length hi-HT.aS xs.length 0 lo)
def pR (d:D) (lo hi:Option Int) (s:aa):Res D:=match res d s with
 | .tup Z=>ok (.tup (cutD Z lo hi)) s
 | .lst Z=>ok (.lst (cutD Z lo hi)) s
 |_=>none
def rm (f:WR D) (l h:WR (Option Int)):WR D:=fun env s=>ai (f env s) fun d s=>ai (l env s) fun lo s=>ai (h env s) fun hi s=>pR d lo hi s
def SM (K:č) (Ξ:Wd->aW->Prop):V->Option Int->Option Int->Hp->VK->Prop:=fun x lo hi H Q=>∃w Z,w.H=H/\aL K w/\DV K w Z x/\Out K Ξ w (pR Z lo hi w.aF) fun Y d=>∀v,DV K Y d v->Q v Y.H
def Ou:qR X (SM X.K Ξ):=by
 rintro π s σ H x v U T lo hi R Q I P hs O pu ⟨w,M,rfl,S,Y,h⟩;unfold pR at h;split at h
 ·rename_i N e1
  rw [c8 e1 (by intro _ z;cases z)] at Y;simp only [DV] at Y;obtain ⟨a,W,rfl,V,Z⟩:=Y;refine MC π s σ w.H _ v U T lo hi R Q I P hs O pu ⟨a,W,rfl,V,qr S ?_ h⟩;unfold cutD iJ;rw [Z.length];exact (Z.drop _).take _
 ·rename_i N e1
  obtain ⟨a,W,rfl,V,Z⟩:=gg S Y e1;refine MA π s σ w.H _ v U T lo hi R Q I P hs O pu ⟨a,W,rfl,bt.of V,oi S ?_ h⟩;unfold cutD iJ;rw [Z.length];exact (Z.drop _).take _
 ·exact h.elim
def RA (he:PE X e (tE X.K Ξ f)) (hl:PO X lo (tP X.K Ξ fl)) (hu:PO X hi (tP X.K Ξ fh)):PE X (.Subscript e (.Slice lo hi none p2) pos) (tE X.K Ξ (rm f fl fh)) :=
 bZ (K6 Ou he hl hu) fun σ H Q V=>by
  obtain ⟨w,env,U,S,Z,h⟩:=V;subst U;exact ⟨w,env,rfl,S,Z,(Out.ai h).mono fun T d Y R P v O=>⟨T,env,rfl,R,Z.le Y,(Out.ai P).mono fun N i W M L=>⟨N,env,rfl,M,Z.le (Y.trans W),(Out.ai L).mono fun J j I G F=>⟨J,d,rfl,G,(W.trans I) _ _ O,F⟩⟩⟩⟩
def ko (d x:D) (s:aa):Res D:=match d with
 | .au k=>match s[k]? with
  |some (.lst Z)=>if decide (Z.length<Ñ)=true then ok .ao (s.set k (.lst (Z++[x]))) else none
  |_=>none
 |_=>none
def kq (d:D) (s:aa):Bool:=match d with
 | .au k=>match s[k]? with
  |some (.lst _)=>true
  |_=>false
 |_=>false
def jB (f g:WR D):WR D:=fun env s=>ai (f env s) fun d s=>if kq d s=true then ai (g env s) fun x s=>ko d x s else none
def MR (S:aL K w) (dv:DV K w d v) (h:kq d w.aF=true):∃k a ds xs,d=.au k/\v=.ref a/\w.ρ[k]?=some a/\w.aF[k]?=some (.lst ds)/\w.H a=some (.lst xs)/\ak K w ds xs:=by
 unfold kq at h;split at h
 ·rename_i k
  split at h
  ·rename_i ds Z
   obtain ⟨a,e1,rfl⟩:=dv;obtain ⟨xs,Y,X⟩:=S.cell k a _ e1 Z;exact ⟨k,a,ds,xs,rfl,rfl,e1,Z,Y,X⟩
  ·cases h
 ·cases h
def Ov (S:aL K w) (dv:DV K w d v) (du:DV K w y u) (h:Out K Ξ w (ko d y w.aF) q):∃a xs,v=.ref a/\w.H a=some (.lst xs)/\xs.length<Ñ/\∃w',w'.H=upd w.H a (.lst (xs++[u]))/\q w' .ao:=by
 unfold ko at h;split at h
 ·rename_i k
  split at h
  ·rename_i Z Y
   split at h
   ·rename_i V
    obtain ⟨a,e1,rfl⟩:=dv;obtain ⟨xs,U,X⟩:=S.cell k a _ e1 Y;have W:(Cell.lst Z)≠.dead:=by intro z;cases z
    have le:=(Fw.put (K:=K) (o:=.lst (xs++[u])) (c:=.lst (Z++[y])) S e1 Y W).le;refine ⟨a,xs,rfl,U,by rw [<- X.length];exact ă V,w.put k a (.lst (xs++[u])) (.lst (Z++[y])),rfl,?_⟩;exact h _ le (S.yB e1 Y W ⟨_,cm,le.all (X.append (ak.one du))⟩) rfl
   ·exact h.elim
  ·exact h.elim
 ·exact h.elim
def tG {o:Ğ} {apos bh:Pos} (ho:PE X o (tE X.K Ξ f)) (ha:PE X a (tE X.K Ξ g))
  (mm:VA o "append" X.env (ļ o X.env)=ļ o X.env:=by rfl)
  (mH:((ı bh (Ê [a] X.env)).all (fun x=>!x.1)&&(backToKw bh (Wm [] X.env)).all (fun x=>x.1.isSome)
   && decide (([a]:List Ğ).length+([]:List V9).length+(if ([]:List V9).isEmpty then 0 else 1)<30))=true:=by rfl)
  (mq:(apos.endLine==bh.line)=true:=by rfl) (hs:Ê [a] X.env=(false,ļ a X.env)::Ê [] X.env:=by rfl) (iA:(ı bh (Ê [] X.env)).any (·.1)=false:=by rfl) :
  PE X (.Call (.Attribute o "append" apos) [a] [] bh) (tE X.K Ξ (jB f g)) :=
 bZ (xI VG PySem.F.slot_list_append PySem.F.type_list_append JW ho (i9 ha j8 hs) mm mH mq hs iA) fun σ H Q T=>by
  obtain ⟨w,env,Z,S,W,h⟩:=T;subst Z;refine ⟨w,env,rfl,S,W,(Out.ai h).mono fun R d P V Y v U=>?_⟩;split at Y
  ·rename_i O
   obtain ⟨k,p,t,N,rfl,rfl,e1,e2,M,s⟩:=MR V U O;refine ⟨.inl ⟨rfl,N,bt.of M⟩,R,env,rfl,V,W.le P,(Out.ai Y).mono fun r y L J I u G=>?_⟩;obtain ⟨E,D,C,B,A,q,Z,z⟩:=Ov J (L _ _ U) G I;refine ⟨E,D,u,C,rfl,B,A,?_⟩;rw [<- Z];exact z _ rfl
  ·exact Y.elim
def iN (d i x:D) (s:aa):Option aa:=match d,i with
 | .au k,.int n=>match s[k]? with
  |some (.lst Z)=>(ff Z.length n).map fun j=>s.set k (.lst (Z.set j x))
  |_=>none
 |_,_=>none
def ku (f o i:WR D):WR Fl:=fun env s=>ai (f env s) fun x s=>ai (o env s) fun d s=>ai (i env s) fun n s=>match iN d n x s with
 |some Z=>ok (.nx env) Z
 |none=>none
def Ow (S:aL K w) (dv:DV K w d v) (dn:DV K w i n) (du:DV K w x u) (h:iN d i x w.aF=some s'):∃a xs k j,v=.ref a/\n=.int k/\w.H a=some (.lst xs)/\ff xs.length k=some j/\∃w',w'.H=upd w.H a (.lst (xs.set j u))/\w'.aF=s'/\Le K w w'/\aL K w':=by
 unfold iN at h;split at h
 ·rename_i k m
  split at h
  ·rename_i Z Y
   cases X:ff Z.length m with
   |none=>rw [X] at h;cases h
   |some j =>
    rw [X] at h;cases h;obtain ⟨a,e1,rfl⟩:=dv;obtain ⟨xs,U,W⟩:=S.cell k a _ e1 Y;have V:(Cell.lst Z)≠.dead:=by intro z;cases z
    have le:=(Fw.put (K:=K) (o:=.lst (xs.set j u)) (c:=.lst (Z.set j x)) S e1 Y V).le;exact ⟨a,xs,m,j,rfl,dn,U,by rw [<- W.length];exact X,w.put k a (.lst (xs.set j u)) (.lst (Z.set j x)),rfl,rfl,le,S.yB e1 Y V ⟨_,cm,le.all (W.set du j)⟩⟩
  ·cases h
 ·cases h
def E4 (he:PE X e (tE X.K Ξ f)) (ho:PE X o (tE X.K Ξ fo)) (hi:PE X i (tE X.K Ξ fi))
 (ha:∀v,WO (.Subscript o i lG) X.env v=(do
   let ov <- Wk [v] (ļ o X.env)
   let iv <- Wk [v,ov] (ļ i X.env)
   WC lG
   Wk [v,ov,iv] (setItem ov iv v)
   release [v,ov,iv] []):=by intro _;rfl)
 (hs:Ű [.Subscript o i lG] e pos.line X.env=pure false:=by rfl) (hw:ű [.Subscript o i lG] e X.env=pure none:=by rfl)
 (h1:(Ŗ [.Subscript o i lG] X.env).map (·.2)=[WO (.Subscript o i lG) X.env]:=by rfl):PS X (.Assign [.Subscript o i lG] e pos) (tS X.K Ξ (ku f fo fi)) :=
 jg (DC he (NO ho hi set_list ha) hs hw h1) fun t σ H Q=>by
  obtain ⟨w,env,W,S,Z,h⟩:=Q;subst W;refine ⟨w,env,rfl,S,Z,(Out.ai h).mono fun P x V O h1 u N=>?_⟩;refine ⟨P,env,rfl,O,Z.le V,(Out.ai h1).mono fun M d U L J v I=>?_⟩;refine ⟨M,env,rfl,L,Z.le (V.trans U),(Out.ai J).mono fun G n T F Y m E=>?_⟩
  cases R:iN d n x G.aF with
  |none=>rw [R] at Y;exact Y.elim
  |some s =>
   rw [R] at Y;obtain ⟨a,D,k,j,e1,e2,C,B,A,W,z,le,y⟩:=Ow F (T _ _ I) E ((U.trans T) _ _ N) R;refine ⟨a,D,k,j,e1,e2,C,B,?_⟩;rw [<- W];exact Y A le y z σ (Z.le (V.trans (U.trans (T.trans le))))
end
def kd (d:D) (s:aa):Option Kn:=match res d s with
 | .ao=>some .ao
 | .bl _=>some .bl
 | .int _=>some .int
 | .str _=>some .str
 | .tup _=>some .tup
 | .lst _=>some .lst
 | .bq _=>some .bq
 |_=>none
def P6 (S:aL K w) (h:DV K w d v) (e:kd d w.aF=some k):oB K w.H v k:=by
 unfold kd at e
 split at e<;>rename_i e1<;>first | (cases e;done) | (try cases e)
 ·rw [c8 e1 (by intro _ z;cases z)] at h;cases h;trivial
 ·rw [c8 e1 (by intro _ z;cases z)] at h;cases h;trivial
 ·rw [c8 e1 (by intro _ z;cases z)] at h;cases h;trivial
 ·rw [c8 e1 (by intro _ z;cases z)] at h;cases h;trivial
 ·rw [c8 e1 (by intro _ z;cases z)] at h
  simp only [DV] at h;obtain ⟨a,Y,rfl,Z,_⟩:=h;exact ⟨Y,Z⟩
 ·obtain ⟨a,Y,rfl,Z,_⟩:=gg S h e1
  exact ⟨Y,bt.of Z⟩
 ·rw [c8 e1 (by intro _ z;cases z)] at h
  simp only [DV] at h;obtain ⟨a,rfl,_,Z⟩:=h;exact ⟨_,Z⟩
noncomputable def E5 (T:String):Bool:=T=="int"||T=="bool"||T=="str"||T=="tuple"||T=="list"
def gu (ds:List D) (s:aa):Res D:=match ds with
 | [d,.ty T]=>if E5 T=true then bL ((kd d s).map fun k=>.bl (n5 k T)) s else none
 |_=>none
section
variable {X:Cx} {Ξ:Wd->aW->Prop} {e a b:Ğ} {es:List Ğ} {pos:Pos} {f g:WR D} {fa:WR (List D)}
def mx:bS X (.builtin "isinstance") (rC X.K Ξ gu):=by
 rintro Z s σ H M Y Q I r ⟨w,L,rfl,S,R,h⟩;unfold gu at h;split at h
 ·rename_i d T
  obtain ⟨v,u,rfl,P,O⟩:=pP R;have N:u=.ty T:=O;subst N;split at h
  ·rename_i U
   obtain ⟨J,e,h⟩:=dE h
   cases V:kd d w.aF with
   |none=>rw [V] at e;cases e
   |some k =>
    rw [V] at e;cases e;have W:=P6 S P V;simp only [E5,Bool.or_eq_true,beq_iff_eq] at U
    rcases U with (((rfl|rfl)|rfl)|rfl)|rfl
    ·exact HR Z s σ w.H _ Y Q I r ⟨v,k,rfl,W,ay S h _ rfl⟩
    ·exact HG Z s σ w.H _ Y Q I r ⟨v,k,rfl,W,ay S h _ rfl⟩
    ·exact HS Z s σ w.H _ Y Q I r ⟨v,k,rfl,W,ay S h _ rfl⟩
    ·exact Hz Z s σ w.H _ Y Q I r ⟨v,k,rfl,W,ay S h _ rfl⟩
    ·exact HH Z s σ w.H _ Y Q I r ⟨v,k,rfl,W,ay S h _ rfl⟩
  ·exact h.elim
 ·exact h.elim
def mJ (hv:ì x=some (.type T)) (hg:Gl X x) (hm:X.mg x=none) (hn:x≠"__name__":=by decide) (hd:(x==("__debug__":Str))=false:=by decide):PE X (.Name x pos) (tE X.K Ξ (eC (.ty T))):=nN (v:=.ty T) (Cw hg hm hv rfl hn hd) fun _=>rfl
def jC (g:∃t,X.mg x=some (.int i t)) (hg:Gl X x) (hd:(x==("__debug__":Str))=false:=by decide):PE X (.Name x pos) (tE X.K Ξ (eC (.int i))):=by
 obtain ⟨t,e⟩:=g;exact nN (v:=.int i) (Cv hg e ⟨t,rfl⟩ hd) fun _=>rfl
noncomputable def lr:List D->Option (List Int)
 | []=>some []
 | .int i::Z=>(lr Z).map fun r=>i::r
 |_::_=>none
theorem vJ:∀{ds:List D} {ns:List Int},lr ds=some ns->ds=ns.map D.int
 | [],ns,h=>by cases h;rfl
 | .int b::ds,ns,h=>by
  simp only [lr] at h
  cases Z:lr ds with
  |none=>rw [Z] at h;cases h
  |some r=>rw [Z] at h;cases h;rw [vJ Z];rfl
 | .ao::_,_,h=>by cases h
 | .bl _::_,_,h=>by cases h
 | .str _::_,_,h=>by cases h
 | .tup _::_,_,h=>by cases h
 | .lst _::_,_,h=>by cases h
 | .bq _::_,_,h=>by cases h
 | .au _::_,_,h=>by cases h
 | .ty _::_,_,h=>by cases h
 | .bz _::_,_,h=>by cases h
 | .exc _::_,_,h=>by cases h
 | .bT _ _ _::_,_,h=>by cases h
def Kb:lr (ns.map D.int)=some ns:=by
 induction ns with
 |nil=>rfl
 |cons b bs ih=>simp only [ï,lr,ih,VD]
noncomputable def jD (i:Int):List Int->List Int
 | []=>[i]
 |j::r=>if i<j then i::j::r else if i=j then j::r else j::jD i r
def dA:List Int->List Int
 | []=>[]
 |i::r=>jD i (dA r)
theorem vK:∀{l:List Int},k∈jD i l↔k=i\/k∈l
 | []=>by simp [jD]
 |j::r=>by
  unfold jD;split
  ·simp
  ·split
   ·rename_i h;subst h;simp
   ·rw [Ð,vK,Ð]
    constructor
    ·rintro (h|h|h)
     ·exact .inr (.inl h)
     ·exact .inl h
     ·exact .inr (.inr h)
    ·rintro (h|h|h)
     ·exact .inr (.inl h)
     ·exact .inl h
     ·exact .inr (.inr h)
theorem Bl:∀{l:List Int},l.Pairwise (· < ·)->(jD i l).Pairwise (· < ·)
 | [],_=>by simp [jD]
 |j::r,h=>by
  obtain ⟨Z,Y⟩:=ü.mp h;unfold jD;split
  ·rename_i X
   refine ü.mpr ⟨fun k hk=>?_,h⟩
   rcases Ð.mp hk with rfl|hk
   ·exact X
   ·have:=Z k hk;omega
  ·split
   ·exact h
   ·refine ü.mpr ⟨fun k hk=>?_,Bl Y⟩
    rcases vK.mp hk with rfl|hk
    ·omega
    ·exact Z k hk
theorem oY:∀{l:List Int},k∈dA l↔k∈l
 | []=>by simp [dA]
 |i::r=>by simp [dA,vK,oY]
theorem rR:∀(l:List Int),(dA l).Pairwise (· < ·)
 | []=>List.Pairwise.nil
 |i::r=>Bl (rR r)
theorem u7:∀{l m:List Int},l.Pairwise (· < ·)->m.Pairwise (· < ·)->(∀k,k∈l↔k∈m)->l=m
 | [],[],_,_,_=>rfl
 | [],j::m,_,_,h=>by have:=(h j).mpr Ö;cases this
 |i::l,[],_,_,h=>by have:=(h i).mp Ö;cases this
 |i::l,j::m,W,V,h=>by
  obtain ⟨Y,U⟩:=ü.mp W;obtain ⟨X,T⟩:=ü.mp V;have e:i=j:=by
   rcases Ð.mp ((h i).mp Ö) with e|e
   ·exact e
   ·rcases Ð.mp ((h j).mpr Ö) with e'|e'
    ·exact e'.symm
    ·have:=X i e;have:=Y j e';omega
  subst e;congr 1;refine u7 U T fun k=>?_;constructor
  ·intro Z
   rcases Ð.mp ((h k).mp (Õ _ Z)) with e|e
   ·subst e;have:=Y k Z;omega
   ·exact e
  ·intro Z
   rcases Ð.mp ((h k).mpr (Õ _ Z)) with e|e
   ·subst e;have:=X k Z;omega
   ·exact e
def Kc (l:List Int):(dA l).length<=l.length:=by
 induction l with
 |nil=>exact WV _
 |cons x l ih =>
  have:(dA (x::l)).length<=(dA l).length+1:=by
   show (jD x (dA l)).length<=_;generalize dA l=m
   induction m with
   |nil=>exact WV _
   |cons y m Z =>
    unfold jD;split
    ·simp
    ·split
     ·simp
     ·simp only [ë];omega
  simp only [ë];omega
def Ce (ns:List Int):(ns.foldl PyProof.Rows.step_dedup []).length<=(dA ns).length:=sub_len (vh ns [] List.nodup_nil) fun k Z=>oY.mpr ((BR ns k).mp Z)
def vL (d:D) (s:aa):Res D:=match d with
 | .lst Y=>match lr Y with
  |some Z=>if decide ((dA Z).length<64)=true then ok (.lst ((dA Z).map D.int)) s else none
  |none=>none
 |_=>none
def Jr {p p2 kz:Pos} (ha:PE X a (tE X.K Ξ f)) (hc:X.calm=true) (hg:Gl X "sorted") (hm:X.mg "sorted"=none) (hv:ì "sorted"=some (.builtin "sorted")) (zB:Gl X "set") (zC:X.mg "set"=none) (zD:ì "set"=some (.type "set"))
  (he:Ê [a] X.env=(false,ļ a X.env)::Ê [] X.env:=by rfl) (bu:(ı kz (Ê [] X.env)).any (·.1)=false:=by rfl)
  (rp:Ê [.Call (.Name "set" p2) [a] [] kz] X.env=(false,ļ (.Call (.Name "set" p2) [a] [] kz) X.env)::Ê [] X.env:=by rfl) (yI:(ı pos (Ê [] X.env)).any (·.1)=false:=by rfl) :
  PE X (.Call (.Name "sorted" p) [.Call (.Name "set" p2) [a] [] kz] [] pos) (tE X.K Ξ (e1 vL f)) :=
 bZ (sg (Bf hc) hg hm hv (i9 (vv (Jm hc) zB zC zD (i9 ha j8 he) (by decide) (by decide) he bu) j8 rp) (by decide) (by decide) rp yI) fun σ H Q J=>by
  obtain ⟨w,env,I,S,G,h⟩:=J;subst I;refine ⟨w,env,rfl,S,G,(Out.ai h).mono fun U d A F W v P=>?_⟩;unfold vL at W;split at W
  ·rename_i z
   split at W
   ·rename_i Y E
    split at W
    ·rename_i T
     have T:=ă T;simp only [DV] at P;obtain ⟨p,y,rfl,O,N⟩:=P;rw [vJ E] at N;rw [N.vG] at O;have D:=VH (Ce Y) T;refine ⟨p,Y,rfl,O.sq,by omega,fun q M=>?_⟩;refine ⟨q,Y,rfl,cm,D,fun l x C hs B=>?_⟩;have e:=u7 hs (rR Y) fun k=>(B k).trans oY.symm;subst e;have R:(U.grow q (.ext (fJ X.prog X.w q Y))).H l=none:=C;have L:=F.grow (o:=.ext (fJ X.prog X.w q Y)) M;exact W ((U.grow q (.ext (fJ X.prog X.w q Y))).grow l (.lst ((dA Y).map V.int))) ((Fw.grow M).le.trans (Fw.grow R).le) (L.grow R) rfl (.ref l) ⟨l,_,rfl,⟨(show ¬ (U.grow q (.ext (fJ X.prog X.w q Y))).Z l from j9 L R),cm⟩,ak.ints _⟩
    ·exact W.elim
   ·exact W.elim
  ·exact W.elim
def pf (d:D) (s:aa):Res D:=match d with
 | .tup Y=>match lr Y with
  |some Z=>if decide (Z.length<64)=true then ok (.lst ((dA Z).map D.int)) s else none
  |none=>none
 |_=>none
def Js {p p2 kz:Pos} (ha:PE X a (tE X.K Ξ f)) (hc:X.calm=true) (hg:Gl X "sorted") (hm:X.mg "sorted"=none) (hv:ì "sorted"=some (.builtin "sorted")) (zB:Gl X "set") (zC:X.mg "set"=none) (zD:ì "set"=some (.type "set"))
  (he:Ê [a] X.env=(false,ļ a X.env)::Ê [] X.env:=by rfl) (bu:(ı kz (Ê [] X.env)).any (·.1)=false:=by rfl)
  (rp:Ê [.Call (.Name "set" p2) [a] [] kz] X.env=(false,ļ (.Call (.Name "set" p2) [a] [] kz) X.env)::Ê [] X.env:=by rfl) (yI:(ı pos (Ê [] X.env)).any (·.1)=false:=by rfl) :
  PE X (.Call (.Name "sorted" p) [.Call (.Name "set" p2) [a] [] kz] [] pos) (tE X.K Ξ (e1 pf f)) :=
 bZ (sg (Bf hc) hg hm hv (i9 (vv (Jn hc) zB zC zD (i9 ha j8 he) (by decide) (by decide) he bu) j8 rp) (by decide) (by decide) rp yI) fun σ H Q J=>by
  obtain ⟨w,env,I,S,G,h⟩:=J;subst I;refine ⟨w,env,rfl,S,G,(Out.ai h).mono fun U d B F W v P=>?_⟩;unfold pf at W;split at W
  ·rename_i A
   split at W
   ·rename_i Y E
    split at W
    ·rename_i T
     have T:=ă T;simp only [DV] at P;obtain ⟨p,z,rfl,O,N⟩:=P;rw [vJ E] at N;rw [N.vG] at O;refine ⟨p,Y,rfl,O,by omega,fun q M=>?_⟩;refine ⟨q,Y,rfl,cm,VH (á (Ce Y) (Kc Y)) T,fun l y D hs C=>?_⟩;have e:=u7 hs (rR Y) fun k=>(C k).trans oY.symm;subst e;have R:(U.grow q (.ext (fJ X.prog X.w q Y))).H l=none:=D;have L:=F.grow (o:=.ext (fJ X.prog X.w q Y)) M;exact W ((U.grow q (.ext (fJ X.prog X.w q Y))).grow l (.lst ((dA Y).map V.int))) ((Fw.grow M).le.trans (Fw.grow R).le) (L.grow R) rfl (.ref l) ⟨l,_,rfl,⟨(show ¬ (U.grow q (.ext (fJ X.prog X.w q Y))).Z l from j9 L R),cm⟩,ak.ints _⟩
    ·exact W.elim
   ·exact W.elim
  ·exact W.elim
def mK (i j:Nat) (fa:WR (List D)):WR Fl:=fun env s=>ai (fa env s) fun Z s=>match Z with
 | [x,y]=>ok (.nx ((env.set i (some x)).set j (some y))) s
 |_=>none
def sQ (i j:Nat) {x y:Str} {px py pt:Pos} {kt k2 fR} (hc:X.calm=true) (hN:X.N.Nodup) (ha:PA X [a,b] (tA X.K Ξ fa)) (hi:X.N[i]?=some x:=by rfl) (hj:X.N[j]?=some y:=by rfl) (df:i≠j:=by decide)
  (hx:X.env.scope.names.lookup x=some .local:=by rfl) (hy:X.env.scope.names.lookup y=some .local:=by rfl)
  (hw:ű [.Tuple [.Name x px,.Name y py] kt pt] (.Tuple [a,b] k2 fR) X.env=pure (some [x,y]):=by rfl)
  (hs:Ű [.Tuple [.Name x px,.Name y py] kt pt] (.Tuple [a,b] k2 fR) pos.line X.env=pure false:=by rfl) :
  PS X (.Assign [.Tuple [.Name x px,.Name y py] kt pt] (.Tuple [a,b] k2 fR) pos) (tS X.K Ξ (mK i j fa)):=jg (NQ hc hN hi hj df hx hy ha hw hs) fun O σ H W=>by
 obtain ⟨w,env,V,S,Y,h⟩:=W;subst V;refine ⟨w,env,rfl,S,Y,(Out.ai h).mono fun M L U T Z J R=>?_⟩;split at Z
 ·obtain ⟨v,u,rfl,Q,P⟩:=pP R
  exact ⟨v,u,rfl,ay T Z _ (((Y.le U).set Q i).set P j)⟩
 ·exact Z.elim
end
end DI
namespace L2
open PySem PySem.Spec PyProof.Rows
structure DS (Y:Cx) (D:Ø) (π:List (Ø×Obj)):Prop where
 loc:D≠Y.env.locals
 fs:D∉Y.fs
 new:Y.cf.heap.objs.size<=D
 cell:∀x c,Y.env.cells.lookup x=some c->c≠D
 pin:∀p∈Y.pn++π,p.1≠D
structure ng (Y:Cx) (D:Ø) (nt:Nat) (caps:St) (π:List (Ø×Obj)) (o:St) (H:Hp) (s:Ã) (acc:List V):Prop where
 inv:Inv Y π (o++caps) H s
 len:o.length=nt
 lst:∃ys,s.heap.PlainList D ys/\Vals acc ys.toList
 free:H D=none
 jP:acc.length<=Ñ
abbrev iO:=St->Hp->List V->(St->List V->Hp->Prop)->Prop
def qA (Y:Cx) (D:Ø) (nt:Nat) (caps:St) (c:Code) (m:Sem PySem.Fin) (ta:iO):Prop :=
 ∀(X:List (Ø×Obj)) (o:St) (H:Hp) (s:Ã) (Z:List V) (Q:St->List V->Hp->Prop),DS Y D X->ng Y D nt caps X o H s Z->ta (o++caps) H Z Q ->
  Ù (à Y.prog Y.w) Y.A m (fun fn S=>fn=.again c/\∃W U T,ng Y D nt caps X W U S T/\Q (W++caps) T U) (fun _ _=>False) s
def CA (J:It) (g:TG) (tf:TT) (ta:iO) (τ:St) (acc:List V) (H:Hp) (Q:St->List V->Hp->Prop):Prop:=∃W:Nat->Nat->St->List V->Hp->Prop,(∃m,W 0 m τ acc H) /\
 ∀i m τ acc Z,W i m τ acc Z->(J.stop i Z/\Q τ acc Z) \/
  (J.go i Z/\∃N:St->List V->Hp->Prop,(∀ X U T,N X U T->∃S,S < m/\W (i+1) S X U T) /\
   ∀x R,J.qK i Z x R->g x τ R fun Y O=>tf Y O fun b P=>if b=true then ta Y P acc N else N Y acc P)
def E6 (te:TE):iO:=fun Y H Z Q=>Z.length+1<=Ñ/\te Y H fun v X=>Q Y (Z++[v]) X
def E7 (wi:TI) (g:TG) (tf:TT) (ta:iO):iO:=fun Y H Z Q=>wi Y H fun J X=>CA J g tf ta Y Z X Q
section
variable {Y:Cx} {D:Ø} {nt:Nat} {caps:St}
def DS.obj (ds:DS Y D π) (B:ng Y D nt caps π o H s acc):∃oD ys nn,s.heap.get? D=some oD/\oD={ cls:=.type "list",data:=.seq ys nn }/\Vals acc ys.toList/\Inv Y (π++[(D,oD)]) (o++caps) H s:=by
 obtain ⟨ys,⟨nn,Z⟩,X⟩:=B.lst;refine ⟨_,ys,nn,Z,rfl,X,B.inv.l8 fun p W=>?_⟩
 rcases ð.mp W with z|z
 ·exact B.inv.pin p (Í _ z)
 ·have e:p=(D,{ cls:=.type "list",data:=.seq ys nn }):=by simpa using z
  subst e;exact ⟨Z,B.free,ds.loc,ds.fs,fun v z=>by cases z⟩
def Cf (hx:Y.xe=fun _ _=>False) (hE:PE Y el te):qA Y D nt caps c ((do let _ <- call (.builtin "list.append") [.ref D,<- ļ el Y.env]:Sem Unit) >>= fun _=>again c) (E6 te):=by
 intro S o H s W Q Z B h;obtain ⟨O,h⟩:=h;obtain ⟨N,V,nn,u,M,R,I⟩:=Z.obj B;have q:=hE _ s _ H _ I h;rw [hx] at q;refine À (À (aH q fun y X L=>?_));obtain ⟨v,U,P,K,J⟩:=L;have T:=P.pin (D,N) (Í _ (Í _ (by simp)));have G:X.heap.PlainList D V:=⟨nn,by rw [<- M];exact T.1⟩;have F:V.size<=Ñ:=by
  have e:=R.length;simp only [î] at e;omega
 refine À (wpAny_list_append_plain (hsz:=F) G fun E C A=>Â (Â ⟨rfl,?_⟩));have z:Inv Y S (o++caps) U X:=P.j6
 have x:Inv Y S (o++caps) U { X with heap:=E,toks:=X.toks }:=z.turned (it:=D) (fun b o w e=>(A.2 b w).trans e) T.2.1 Z.loc (.inr Z.new) Z.cell Z.pin
 refine ⟨o,U,W++[v],⟨x,B.len,⟨V.push y,C,?_⟩,T.2.1,by rw [Ý];simpa using O⟩,J⟩;rw [VS];exact Vals.append R (.cons K .nil)
def Bw (hx:Y.xe=fun _ _=>False) (hc:Y.calm=true)
 (T:Turn Y.prog Y.w Y.K tg J fp it tn) (SO:tn 0 s.heap) (hf:∀b∈fp,dM Y π H b) (kO:D∉fp) (hG:PG Y tg g) (fU:lO g nt) (hF:PF Y tests tf) (hA:qA Y D nt caps (.compLoop e d (.ref it) (.ref D) Y.env) act ta) (ds:DS Y D π) (B:ng Y D nt caps π o H s acc) (hq:(Code.compLoop e d (.ref it) (.ref D) Y.env).quiet=true)
 (RB:∀(M:Model) (A:æ) (Q':Fin->Ã->Prop) (E':Ä->Ã->Prop) (s':Ã),Ù (à Y.prog Y.w) A (compTurn e d (.ref it) (.ref D) Y.env) Q' (fun _ _=>False) s'->Ù (à Y.prog Y.w) (A.under (.compLoop e d (.ref it) (.ref D) Y.env)) ((à Y.prog Y.w).den (.compLoop e d (.ref it) (.ref D) Y.env)) Q' E' s')
 (ht:compTurn e d (.ref it) (.ref D) Y.env=(do
   WC p0
   match <- υ (.ref it) with
   |none=>pure (.done .next)
   |some v =>
    ł tg (.ref it) v
    WO tg Y.env v
    let mut ok:=true
    for c in tests do
     if ok then ok <- isTrue c Y.env (ļ c Y.env)
    if ok then act else again (.compLoop e d (.ref it) (.ref D) Y.env)))
 (h:CA J g tf ta (o++caps) acc H Q) :
  ũ (à Y.prog Y.w) Y.A (.compLoop e d (.ref it) (.ref D) Y.env) (fun r s'=>r=.ok .next/\∃o' H' gI,ng Y D nt caps π o' H' s' gI/\Q (o'++caps) gI H') s:=by
 obtain ⟨W,⟨m0,w0⟩,turn⟩:=h;have F:∀{H':Hp} {pl:List (Ø×Obj)},(∀b∈fp,H' b=none)->(∀p∈pl,p.1∉fp)->∀b∈fp,dM Y (π++pl) H' b:=fun {H' pl} hn X b Z=>by
  obtain ⟨_,f1,nh,f3,f4,f5⟩:=hf b Z;refine ⟨hn b Z,f1,nh,f3,f4,fun p rq=>?_⟩
  rcases ð.mp rq with z|z
  ·exact f5 p (ö _ z)
  ·rcases ð.mp z with z|z
   ·exact f5 p (Í _ z)
   ·exact fun e=>X p z (e ▸ Z)
 refine codeAny_loop hq (fun n s'=>∃i acc o H',ng Y D nt caps π o H' s' acc/\tn i s'.heap/\(∀b∈fp,H' b=none)/\W i n (o++caps) acc H') (fun n s3 hJ=>?_) m0 ⟨0,acc,o,H,B,SO,fun b Z=>(hf b Z).1,w0⟩;obtain ⟨i,acc,o3,O,U,jM,lL,w3⟩:=hJ;refine RB (à Y.prog Y.w) _ _ _ _ ?_;rw [ht];obtain ⟨N,L,nn,ho,eo,E,rz⟩:=ds.obj U;have C:∀p∈[(D,N)],p.1∉fp:=fun p X=>by
  have e:p=(D,N):=by simpa using X
  subst e;exact kO
 have oM:∀{pl:List (Ø×Obj)} {R:St} {H':Hp} {s':Ã},Inv Y (π++[(D,N)]++pl) R H' s'->s'.heap.PlainList D L/\H' D=none:=fun {pl R H' s'} I=>by
  have q:=I.pin (D,N) (Í _ (ö _ (Í _ (by simp))));exact ⟨⟨nn,by rw [<- eo];exact q.1⟩,q.2.1⟩
 refine À (ů (À ?_))
 rcases turn i n _ acc O w3 with ⟨stop,q⟩ | ⟨go,N',hN,step⟩
 ·have y:=T.done Y rfl rfl rfl hc i _ s3 _ O (fun _ _=>False) rz (F lL C) jM stop
  refine aH y fun r s4 P=>?_;obtain ⟨t,I4⟩:=P;subst t;obtain ⟨zI,n4⟩:=oM (pl:=[]) (by simpa using I4);exact Â ⟨rfl,o3,O,acc,⟨I4.j6,U.len,⟨L,zI,E⟩,n4,U.jP⟩,q⟩
 ·have y:=T.item Y rfl rfl rfl hc i _ s3 _ O (fun _ _=>False) rz (F lL C) jM go
  refine aH y fun r s4 P=>?_;obtain ⟨u,t,P⟩:=P;subst t;refine À (aH P fun _ s5 h5=>?_);obtain ⟨x,m,I5,r5,y5,l,qM⟩:=h5;have qN:=I5.pinned (F qM C) (T.obj _ _ l);have q5:=hG _ s5 _ m x u _ qN r5 (fU x o3 _ m _ U.len (step x m y5));rw [hx] at q5;refine À (aH q5 fun _ s6 h6=>?_);obtain ⟨oO,H6,I6,⟨k,rA,uh⟩,q6⟩:=h6;have V:=hF _ s6 oO H6 _ I6 q6;rw [hx] at V;refine À (aH V fun b s7 h7=>?_);obtain ⟨j,G,V⟩:=h7;subst uh;obtain ⟨uL,n7⟩:=oM G;have f:Inv Y (π++k9 fp s5.heap) (k++caps) j s7:=G.l8 fun p X=>by
   rcases ð.mp X with z|z
   ·exact G.pin p (Í _ (ö _ (ö _ z)))
   ·exact G.pin p (Í _ (Í _ z))
  have qB:∀{R:St} {H':Hp} {s':Ã},Inv Y (π++k9 fp s5.heap) R H' s'->tn (i+1) s'.heap/\∀b∈fp,H' b=none:=fun {R H' s'} I=>by
   refine ⟨T.keep _ _ _ l fun b Z o e=>(I.pin (b,o) (Í _ (Í _ (nu Z e)))).1,fun b Z=>?_⟩;obtain ⟨o,e,_⟩:=T.obj _ _ l b Z;exact (I.pin (b,o) (Í _ (Í _ (nu Z e)))).2.1
  cases b with
  |false =>
   rw [í Ò] at V;obtain ⟨a,hm,w7⟩:=hN _ _ _ V;obtain ⟨t7,f7⟩:=qB f;exact Â ⟨rfl,a,hm,i+1,acc,k,j,⟨f.j6,rA,⟨L,uL,E⟩,n7,U.jP⟩,t7,f7,w7⟩
  |true =>
   rw [ä rfl] at V;have zK:DS Y D (π++k9 fp s5.heap):=⟨ds.loc,ds.fs,ds.new,ds.cell,fun p X=>by
    rcases ð.mp X with z|z
    ·exact ds.pin p (ö _ z)
    ·rcases ð.mp z with z|z
     ·exact ds.pin p (Í _ z)
     ·exact fun e=>kO (e ▸ (BD z).1)⟩
   refine aH (hA _ k j s7 acc N' zK ⟨f,rA,⟨L,uL,E⟩,n7,U.jP⟩ V) fun fn s8 h8=>?_;obtain ⟨SQ,o8,H8,RC,S,q8⟩:=h8;subst SQ;obtain ⟨a,hm,w8⟩:=hN _ _ _ q8;obtain ⟨t8,f8⟩:=qB S.inv;exact ⟨rfl,a,hm,i+1,RC,o8,H8,⟨S.inv.j6,S.len,S.lst,S.free,S.jP⟩,t8,f8,w8⟩
end
def DZ (A:æ) (Q':Fin->Ã->Prop) (E':Ä->Ã->Prop) (s':Ã)
 (h:Ù (à P w) A (compTurn (.ListComp el gens sc ps) d fe av ce) Q' (fun _ _=>False) s'):Ù (à P w) (A.under (.compLoop (.ListComp el gens sc ps) d fe av ce)) ((à P w).den (.compLoop (.ListComp el gens sc ps) d fe av ce)) Q' E' s':=by
 show Ù _ A ((compTurn (.ListComp el gens sc ps) d fe av ce).onRaise (fun x=>do noteFrame x ce;theTreesLotGoes x)) _ _ s'
 exact wpAny_noted (ģ h (fun _ _ q=>q) fun _ _ z=>z.elim)
def Ly (hd:gens[d]?=some ⟨target,iter,ifs,0⟩)
 (h0:ũ (à P w) A (.compLoop (.ListComp el gens sc ps) d it acc env) R s)
 (h:Ù (à P w) A (pyIter it) (fun jU s'=>ũ (à P w) A (.compLoop (.ListComp el gens sc ps) d jU acc env) R s') (fun _ _=>False) s) :
  ũ (à P w) A (.compStart (.ListComp el gens sc ps) d it acc env) R s:=by
 refine Wr ?_
 show Ù _ _ ((compStart (.ListComp el gens sc ps) d it acc env).onRaise (fun x=>do noteFrame x env;WC theWindowsPlace)) _ _ s
 refine wpAny_notedAt ?_;have Z:(clausesOf (.ListComp el gens sc ps))[d]?=some ⟨target,iter,ifs,0⟩:=hd;unfold compStart;rw [Z];show Ù _ _ (ask >>= _) _ _ s;refine À (Ō (wpAny_ite ?_));split
 ·first
   |exact À (Â (Â (And.intro rfl h0)))
   |exact Â (And.intro rfl h0)
 ·refine À (ŋ ?_)
  show Ù _ _ (WC iter.pos >>= _) _ _ s;exact À (ů (À (ģ h (fun jU s' Y=>Â (And.intro rfl Y)) fun _ _ x=>x.elim)))
section
variable {Y:Cx} {D:Ø} {nt:Nat} {caps:St}
def vM {el tg src:Ğ} {gens:List Comprehension} {sc:ŷ} {ps:Pos} {tests:List Ğ} {d:Nat} {wi:TI} {g:TG} {tf:TT} {ta:iO} {act:Ø->Sem PySem.Fin} {c:Code} (hx:Y.xe=fun _ _=>False) (hc:Y.calm=true) (hd:gens[d]?=some ⟨tg,src,tests,0⟩)
  (hi:PI Y tg src wi) (hG:PG Y tg g) (fU:lO g nt) (hF:PF Y tests tf) (hA:∀it:Ø,qA Y D nt caps (.compLoop (.ListComp el gens sc ps) d (.ref it) (.ref D) Y.env) (act it) ta)
  (ht:∀it:Ø,compTurn (.ListComp el gens sc ps) d (.ref it) (.ref D) Y.env=(do
   WC src.pos
   match <- υ (.ref it) with
   |none=>pure (.done .next)
   |some v =>
    ł tg (.ref it) v
    WO tg Y.env v
    let mut ok:=true
    for c in tests do
     if ok then ok <- isTrue c Y.env (ļ c Y.env)
    if ok then act it else again (.compLoop (.ListComp el gens sc ps) d (.ref it) (.ref D) Y.env)))
  (hs:∀x,û src Y.env x=pure x) :
  qA Y D nt caps c (do
   let x <- ļ src Y.env
   WC src.pos
   let x <- û src Y.env x
   let _ <- runOwn (.compStart (.ListComp el gens sc ps) d (<- Wk [x] (pyIter x)) (.ref D) Y.env) Y.env
   again c) (E7 wi g tf ta):=by
 intro X o H s Z Q W B h;obtain ⟨V,M,nn,a,L,K,I⟩:=W.obj B;have q:=hi _ s _ H _ I h;rw [hx] at q;refine À (aH q fun v s1 G=>À (ů ?_));rw [hs];refine À (Â (À (Ĕ (aH G fun fe F E=>?_))));obtain ⟨it,U,tn,J,S,e,R,T,P,f2,ca⟩:=E;subst e;have O:=R.pin (D,V) (Í _ (Í _ (by simp)));have C:D∉U:=fun z=>(f2 D z).2.2.2.2.2 (D,V) (Í _ (Í _ (by simp))) rfl;have y:∀b∈U,dM Y X S b:=fun b w=>by
  obtain ⟨a1,a2,u,t,n,m⟩:=f2 b w;refine ⟨a1,a2,u,t,n,fun p l=>m p ?_⟩
  rcases ð.mp l with z|z
  ·exact ö _ z
  ·exact Í _ (ö _ z)
 have k:ng Y D nt caps X o S F Z:=⟨R.j6,B.len,⟨M,⟨nn,by rw [<- L];exact O.1⟩,K⟩,O.2.1,B.jP⟩;have loop:=Bw (e:=.ListComp el gens sc ps) (d:=d) hx hc T P y C hG fU hF (hA it) W k rfl (fun _ A j i N h=>DZ A j i N h) (ht it) ca;refine À (wpAny_runOwn ?_);refine ķ (Ly hd loop (T.self _ _ _ _ _ P loop)) fun r N f=>?_;obtain ⟨e,q⟩:=f;subst e;exact Â ⟨rfl,q⟩
end
def D1 (wi:TI) (nt:Nat) (cap:List Nat) (g:TG) (tf:TT) (ta:iO):TE:=fun σ H Q=>wi σ H fun J X=>CA J g tf ta (Î nt none++kg cap σ) [] X fun _ Z Y=>∀D,Y D=none->Q (.ref D) (upd Y D (.lst Z))
section
variable {X:Cx}
def Cg {el tg src:Ğ} {tests:List Ğ} {rest:List Comprehension} {sc:ŷ} {ps:Pos} {N:List Str} {nt:Nat} {cap:List Nat} {wi:TI} {g:TG} {tf:TT} {ta:iO} {act:Env->Ø->Ø->Sem PySem.Fin} (hc:X.calm=true) (S:pJ X sc N nt cap) (fU:lO g nt) (hi:PI X tg src wi)
  (hY:∀(cl:List (Str×Ø)) (C:Ø) (s:Ã) (H:Hp) (ex:List Ø) (pn:List (Ø×Obj)),PG (cR X N sc cl C s H ex pn) tg g/\PF (cR X N sc cl C s H ex pn) tests tf/\∀D caps it,qA (cR X N sc cl C s H ex pn) D nt caps (.compLoop (.ListComp el (⟨tg,src,tests,0⟩::rest) sc ps) 0 (.ref it) (.ref D) (compEnvC sc cl C X.env)) (act (compEnvC sc cl C X.env) D it) ta)
  (ht:∀(it D:Ø) (ce:Env),compTurn (.ListComp el (⟨tg,src,tests,0⟩::rest) sc ps) 0 (.ref it) (.ref D) ce=(do
   WC src.pos
   match <- υ (.ref it) with
   |none=>pure (.done .next)
   |some v =>
    ł tg (.ref it) v
    WO tg ce v
    let mut ok:=true
    for c in tests do
     if ok then ok <- isTrue c ce (ļ c ce)
    if ok then act ce D it else again (.compLoop (.ListComp el (⟨tg,src,tests,0⟩::rest) sc ps) 0 (.ref it) (.ref D) ce)))
  (hs:∀x,û src X.env x=pure x:=by intro _;rfl):PE X (.ListComp el (⟨tg,src,tests,0⟩::rest) sc ps) (D1 wi nt cap g tf ta):=by
 intro π s σ H Q I h;obtain ⟨cl,xO,j⟩:=DK (env:=X.env) (sc:=sc) fun n F=>I.ok.has n (S.frees _ F rfl).2;rw [eval_ListComp];refine wpAny_comprehension_free (use:=none) rfl hs xO S.kind S.names (aH (hi π s σ H _ I h) fun xv s1 h1=>aH h1 fun fe Z h2=>?_);obtain ⟨it,R,tn,J,E,e,U,T,i,f2,ca⟩:=h2;subst e;refine ò (wpAny_newFunctionEnv S.pK (by intro y hy;simp at hy) (fun h3 B L=>?_) S.kind);dsimp only at B L |-;generalize f:Z.heap.objs.size=D at B L |-;generalize a:Z.heap.push { cls:=.type "list",dict:=none,data:=.seq ([]:List Ä).toArray }=G at B L |-;generalize zL:G.objs.size=C at B L |-;have hC:C=D+1:=by rw [<- zL,<- a,ó,f]
 have nj:D≠C:=by omega
 have P:Z.heap.objs.size<=D:=Nat.le_of_eq f;have t:Z.heap.objs.size<=C:=by omega
 have old:∀b o,Z.heap.get? b=some o->h3.get? b=some o:=fun b o e=>L.extBut b o (Û (Å (Ç e) t)) (Á _ (a ▸ Á _ e));have n9:h3.PlainList D #[]:=⟨_,L.extBut _ _ nj (Á _ (a ▸ f ▸ Ï _ rfl))⟩;have dW:∀b∈R,b<Z.heap.objs.size:=fun b O=>by
  obtain ⟨o,e,_⟩:=T.obj _ _ i b O;exact Ç e
 have IB:=U.block (t':=Z.toks+([]:List (Str×Ä)).length) S j f2 dW old t ⟨_,B⟩;have zM:D∉bM X.stack:=fun z=>by
  rcases Ð.mp (U.iz D z) with e|e
  ·exact absurd (Å U.lt P) (by rw [e];exact è _)
  ·exact U.ql P e
 have kO:D∉R:=fun z=>absurd (Å (dW D z) P) (è _);have wX:∀x c,cl.lookup x=some c->c≠D:=fun x c e z=>by
  obtain ⟨v,o,ho,_⟩:=U.cell x c ((j x c).mp e).2;exact absurd (Å (Ç ho) (by rw [z];exact P)) (è _)
 have xP:∀p∈X.pn++π,p.1≠D:=fun p hp z=>absurd (Å (Ç (U.pin p hp).1) (by rw [z];exact P)) (è _);have fin:∀(s':Ã) (τ:St) (W:Hp) (acc:List V) (M:Array Ä),Inv (cR X N sc cl C Z E R (X.pn++π)) [] τ W s'->s'.heap.PlainList D M->Vals acc M.toList->W D=none->acc.length<=Ñ->(∀D,W D=none->Q (.ref D) (upd W D (.lst acc))) ->
   compPost (à X.prog X.w) X.A X.xe none (EP X π σ Q) (.ref D) C (.ok .next) s':=by
  intro s' τ W acc M K pl rv F hz q;obtain ⟨m,hm,_⟩:=id K.loc;refine ⟨m,hm,fun l sb=>?_⟩;have yJ:bR X.prog X.w W l:=K.aD.but K.free sb;obtain ⟨n,ho⟩:=pl;have dS:l.get? D=some { cls:=.type "list",data:=.seq M n }:=(sb.2 D nj).trans ho;have new:cJ X.prog X.w (upd W D (.lst acc)) l D (.lst acc):=⟨hz,M.toList,n,rv,by simpa using dS⟩;have u:=(K.base.but t sb).adopt (o:=.lst acc) P F
  refine ⟨.ref D,upd W D (.lst acc),U.pY (s':={ s' with heap:=l }) (ch:=R) K.os u (yJ.adopt F new) K.bare (fun b O=>?_),rfl,q D F⟩
  obtain ⟨_,f1,_,f3,f4,f5⟩:=f2 b O;exact ⟨f3,f1,f4,f5⟩
 have kP:∀b∈R,dM (cR X N sc cl C Z E R (X.pn++π)) [] E b:=fun b O=>by
  obtain ⟨f0,f1,nh,f3,f4,f5⟩:=f2 b O;refine ⟨f0,Û (Å (dW b O) t),fun z=>?_,.inl O,fun x c e=>f4 x c ((j x c).mp e).2,fun p rq=>?_⟩
  ·rcases Ð.mp (U.iz b z) with e|e
   ·exact f1 e
   ·exact nh e
  ·exact f5 p (by simpa using rq)
 obtain ⟨zN,zO,SR⟩:=hY cl C Z E R (X.pn++π);have loop:=Bw (Y:=cR X N sc cl C Z E R (X.pn++π)) (D:=D) (nt:=nt) (caps:=kg cap σ) (e:=.ListComp el (⟨tg,src,tests,0⟩::rest) sc ps) (d:=0) (π:=[]) (o:=Î nt none) (acc:=[]) rfl hc T
  (T.keep _ _ _ i fun b _ o e=>old b o e) kP kO zN fU zO (SR D _ it) ⟨nj,zM,P,wX,fun p hp=>xP p (by simpa using hp)⟩ ⟨IB,by simp,⟨#[],n9,.nil⟩,U.aD.fresh P,Ć _⟩ rfl (fun _ A Q' E' s' h=>DZ A Q' E' s' h) (ht it D _) ca
 have E8:=ķ loop (R':=compPost (à X.prog X.w) X.A X.xe none (EP X π σ Q) (.ref D) C) fun r s' hr=>by
  obtain ⟨e,o',W,gI,k,q'⟩:=hr;subst e;obtain ⟨M,pl,rv⟩:=k.lst;exact fin s' _ W gI M k.inv pl rv k.free k.jP q'
 exact codeAny_compStart_list E8 (T.self _ _ _ _ _ (T.keep _ _ _ i fun b _ o e=>old b o e) E8)
end
end L2
namespace DI
open PySem L2
def jZ:ì "isinstance"=some (.builtin "isinstance"):=by decide +kernel
def xQ:ì "int"=some (.type "int"):=by decide +kernel
def Ox:ì "bool"=some (.type "bool"):=by decide +kernel
def hU:ì "tuple"=some (.type "tuple"):=by decide +kernel
def D2:ì "list"=some (.type "list"):=by decide +kernel
def E9:ì "set"=some (.type "set"):=by decide +kernel
def tH:ì "all"=some (.builtin "all"):=by decide +kernel
def Fb:ì "any"=some (.builtin "any"):=by decide +kernel
def jw:ì "len"=some (.builtin "len"):=by decide +kernel
def D3:ì "repr"=some (.builtin "repr"):=by decide +kernel
def P7:ì "max"=some (.builtin "max"):=by decide +kernel
def P8:ì "min"=some (.builtin "min"):=by decide +kernel
def vN:ì "sorted"=some (.builtin "sorted"):=by decide +kernel
structure Gd (K:č) (mg:Str->Option Ä) (x:Str) (st:WE) (ps:List Str) (f:Ø) (fd:ę):Prop where
 mg:mg x=some (.ref f)
 fn:mW K x x st f fd
 b:Binds K fd ps []
def kA (g:D->Env->Option Env) (t:WR Bool) (act:WR (List D)) (mF:Env):List D->aa->Res (List D)
 | [],s=>ok [] s
 |d::Z,s=>match g d mF with
  |none=>none
  |some env=>ai (ne (t env s)) fun b s=>if b=true then ai (ne (act env s)) fun Y s=>ai (kA g t act mF Z s) fun X s=>ok (Y++X) s
   else kA g t act mF Z s
def emit (f:WR D):WR (List D):=fun env s=>ai (f env s) fun x s=>ok [x] s
def more (it:WR (List D)) (g:D->Env->Option Env) (t:WR Bool) (act:WR (List D)):WR (List D):=fun env s=>ai (it env s) fun Z s=>kA g t act env Z s
def wY (nt:Nat) (cap:List Nat) (it:WR (List D)) (g:D->Env->Option Env) (t:WR Bool) (act:WR (List D)):WR D:=fun env s =>
 ai (it env s) fun Y s=>ai (ne (kA g t act (Î nt none++iF cap env) Y s)) fun Z s=>gk Z (ok (.lst Z) s)
def Sl (g:D->Env->Option Env) (sl:List Nat):Prop:=∀d env Z,g d env=some Z->Z.length=env.length/\∀i,i∉sl->Z[i]?=env[i]?
def sE (i:Nat):Sl (gN i) [i]:=fun d env Z h=>by
 have e:env.set i (some d)=Z:=WW h;subst e;refine ⟨ą ..,fun j Y=>?_⟩;rw [â (fun z=>Y (by simp [z]))]
theorem Fc:∀(is:List Nat) (ds:List D) (env az:Env),fv (is.map gN) ds env=some az->az.length=env.length/\∀i,i∉is->az[i]?=env[i]?
 | [],[],env,az,h=>by
  have e:env=az:=WW h;rw [e];exact ⟨rfl,fun _ _=>rfl⟩
 | [],_::_,_,_,h=>by cases h
 |_::_,[],_,_,h=>by cases h
 |j::is,d::ds,env,az,h=>by
  have Z:fv (is.map gN) ds (env.set j (some d))=some az:=h;obtain ⟨Y,X⟩:=Fc is ds _ az Z;refine ⟨by rw [Y,ą],fun i hi=>?_⟩;rw [X i (fun z=>hi (Õ _ z)),â (fun z=>hi (by rw [z];exact Ö ..))]
def wR (is:List Nat):Sl (gT (is.map gN)) is:=fun d env Z h=>by
 cases d with
 |tup Y=>exact Fc is Y env Z h
 |_=>cases h
def len_same {g:D->Env->Option Env} {sl:List Nat} {d:D} {env az:Env} (hs:Sl g sl) (hg:g d env=some az):az.length=env.length:=(hs d env az hg).1
def fD (sl:List Nat) (env:Env):Prop:=∀i∈sl,∀d,env[i]?≠some (some d)
def bB.back {K:č} {w:Wd} {env az:Env} {σ:St} {g:D->Env->Option Env} {sl:List Nat} {d:D} (hs:Sl g sl) (hf:fD sl env) (hg:g d env=some az) (hl:env.length=σ.length) (h:bB K w az σ):bB K w env σ :=
 ⟨hl,fun i x e=>by
  by_cases hi:i∈sl
  ·exact absurd e (hf i hi x)
  ·exact h.val i x (by rw [(hs d env az hg).2 i hi];exact e)⟩
def qd (K:č) (Pre:Env->Prop) (ta:iO) (act:WR (List D)):Prop:=∀(w:Wd) (env:Env) (U:St) (Y:List V) (Z W:List D) (T:aa) (Q:St->List V->Hp->Prop),Pre env->aL K w->bB K w env U->ak K w Z Y ->
 act env w.aF=some (.ok W,T)->Y.length+W.length<=Ñ->(∀X S R,Le K w X->aL K X->X.aF=T->bB K X env S->ak K X (Z++W) R->Q S R X.H)->ta U w.H Y Q
def nA {α β:Type} {r:Res α} {k:α->aa->Res β} {b:β} {s':aa} (h:ai r k=some (.ok b,s')):∃a s,r=some (.ok a,s)/\k a s=some (.ok b,s'):=by
 match r,h with
 |some (.ok a,s),h=>exact ⟨a,s,rfl,h⟩
def wA {α:Type} {r:Res α} {a:α} {s:aa} (h:ne r=some (.ok a,s)):r=some (.ok a,s):=by
 match r,h with
 |some (.ok b,Z),h=>exact h
def Bm {K:č} {f:WR D}:qd K (fun _=>True) (E6 (tE K bQ f)) (emit f):=by
 intro w env W Z Y J I Q _ S X V h U T;obtain ⟨x,H,R,P⟩:=nA h;cases P;refine ⟨by simpa using U,w,env,rfl,S,X,?_⟩;rw [R];intro O le N M v L;exact T O W (Z++[v]) le N M (X.le le) (ak.append (le.all V) (ak.one L))
def BS {K:č} {Pre:Env->Prop} {g0:TG} {g:D->Env->Option Env} {nt:Nat} {sl:List Nat} {t:WR Bool} {act:WR (List D)} {ta:iO} {env:Env} {w1:Wd} {J:It} {ds xs accD:List D} {s':aa} {τ:St} {acc:List V} {Q:St->List V->Hp->Prop}
  (T:Tg K g0 g nt) (hs:Sl g sl) (hf:fD sl env) (hp:∀d az,g d env=some az->Pre az) (hA:qd K Pre ta act) (hJ:m8 K w1 J ds) (S1:aL K w1) (eo:bB K w1 env τ) (da:ak K w1 accD acc)
  (h:kA g t act env ds w1.aF=some (.ok xs,s')) (hl:acc.length+xs.length<=Ñ) (hQ:∀w' cx vs,Le K w1 w'->aL K w'->w'.aF=s'->bB K w' env cx->ak K w' (accD++xs) vs->Q cx vs w'.H) :
  CA J g0 (tT K bQ t) ta τ acc w1.H Q:=by
 refine ⟨fun i m τ acc r=>m=ds.length-i/\i<=ds.length/\∃w' accD xs,w'.H=r/\Le K w1 w'/\aL K w'/\bB K w' env τ/\ak K w' accD acc/\kA g t act env (ds.drop i) w'.aF=some (.ok xs,s')/\acc.length+xs.length<=Ñ /\
   (∀Z cx vs,Le K w' Z->aL K Z->Z.aF=s'->bB K Z env cx->ak K Z (accD++xs) vs->Q cx vs Z.H),
  ⟨ds.length,rfl,Ć _,w1,accD,xs,rfl,Le.refl _,S1,eo,da,h,hl,hQ⟩,?_⟩
 rintro i m τ acc r ⟨rfl,hi,w',accD,xs,rfl,P,L,p,O,Y,I,G⟩;by_cases F:i<ds.length
 ·right
  obtain ⟨fU,hy⟩:=(hJ w' P L i).1 _ (Ë F);rw [ε F] at Y;simp only [kA] at Y
  cases X:g ds[i] env with
  |none=>rw [X] at Y;cases Y
  |some S =>
   rw [X] at Y;obtain ⟨b,s2,E,N⟩:=nA Y;have E:=wA E;refine ⟨fU,fun τ acc o=>∃w' accD xs,w'.H=o/\Le K w1 w'/\aL K w'/\bB K w' env τ/\ak K w' accD acc/\kA g t act env (ds.drop (i+1)) w'.aF=some (.ok xs,s')/\acc.length+xs.length<=Ñ /\
    (∀Z cx vs,Le K w' Z->aL K Z->Z.aF=s'->bB K Z env cx->ak K Z (accD++xs) vs->Q cx vs Z.H),fun mY ua o q=>⟨ds.length-(i+1),by omega,rfl,F,q⟩,fun x H3 y=>?_⟩
   obtain ⟨Z,rfl,U,n,es,dv⟩:=hy x H3 y;refine T.imp _ _ _ _ ⟨Z,env,ds[i],S,rfl,n,p.le U,dv,X,fun l R=>⟨Z,S,rfl,n,R,?_⟩⟩;have k:∀{j:St},j.length=l.length->S.length=j.length:=fun e=>by rw [R.len,e]
   have el:env.length=S.length\/True:=.inr trivial;rw [es,E];intro f W c a
   cases b with
   |true =>
    rw [ä rfl] at N |-;obtain ⟨ys,s3,M,h3⟩:=nA N;have M:=wA M;obtain ⟨zs,s4,hz,h4⟩:=nA h3;cases h4;rw [<- a] at M;refine hA f S l acc accD ys s3 _ (hp _ _ X) c (R.le W) ((U.trans W).all O) M (by rw [Ý] at I;omega) fun w4 Vj vs l4 S4 e4 GR FZ=>?_;have lv:=FZ.length;refine ⟨w4,accD++ys,zs,rfl,P.trans (U.trans (W.trans l4)),S4,GR.back hs hf X ?_,FZ,by rw [e4];exact hz,?_,fun C B A z w v u s=>G C B A (U.trans (W.trans (l4.trans z))) w v u (by rw [<- Ł];exact s)⟩
    ·rw [<- GR.len]
     exact (len_same hs X).symm
    ·rw [Ý] at I lv
     have:=O.length;omega
   |false =>
    rw [í Ò] at N |-;exact ⟨f,accD,xs,rfl,P.trans (U.trans W),c,(R.le W).back hs hf X (by rw [<- R.len];exact (len_same hs X).symm),(U.trans W).all O,by rw [a];exact N,I,fun C B A z w v u s=>G C B A (U.trans (W.trans z)) w v u s⟩
 ·left
  have e:i=ds.length:=by omega
  subst e;rw [List.drop_length] at Y;cases Y;exact ⟨(hJ w' P L _).2 (WV _),G w' τ acc (Le.refl _) L rfl p (by rw [Ĩ];exact O)⟩
def vi {K:č} {Pre Pre':Env->Prop} {g0:TG} {g:D->Env->Option Env} {nt:Nat} {sl:List Nat} {it:WR (List D)} {t:WR Bool} {act:WR (List D)} {ta:iO} (T:Tg K g0 g nt) (hs:Sl g sl) (hA:qd K Pre ta act)
  (h1:∀env,Pre' env->fD sl env) (h2:∀d env az,Pre' env->g d env=some az->Pre az):qd K Pre' (E7 (dZ K bQ it) g0 (tT K bQ t) ta) (more it g t act):=by
 intro w env y V Y x v Q X S W U h R P;obtain ⟨u,s,O,N⟩:=nA h;refine ⟨w,env,rfl,S,W,?_⟩;rw [O];intro r Z M e1 J L;exact BS T hs (h1 env X) (fun d az I=>h2 d env az X I) hA L M (W.le Z) (Z.all U) (by rw [e1];exact N) R fun H G F E C B A z=>P H G F (Z.trans E) C B A z
def BU (T:Tg K g0 g nt) (hs:Sl g sl) (GS:∀i∈sl,i<nt) (hA:qd K Pre ta act)
 (hp:∀d caps az,g d (Î nt none++caps)=some az->Pre az) (σ:St) (H:Hp) (Q:VK) :
  tE K Ξ (wY nt cap it g t act) σ H Q->D1 (dZ K Ξ it) nt cap g0 (tT K bQ t) ta σ H Q:=by
 rintro ⟨w,env,rfl,S,U,h⟩;refine ⟨w,env,rfl,S,U,(Out.ai h).mono fun R M L I Y J G=>?_⟩
 cases V:kA g t act (Î nt none++iF cap env) M R.aF with
 |none=>rw [V] at Y;exact Y.elim
 |some r =>
  obtain ⟨r,F⟩:=r;rw [V] at Y
  cases r with
  |error x=>exact Y.elim
  |ok P =>
   have Y:Out K Ξ R (gk P (ok (D.lst P) F)) (fun X d=>∀v,DV K X d v->Q v X.H):=Y;obtain ⟨E,Y⟩:=pb Y;have C:=(U.le L).block nt cap (Î nt none) (by simp);refine BS T hs (fun i hi d e=>?_) (fun d az B=>hp d _ az B) hA G I C (accD:=[]) rfl V (by simpa using E) fun X u O A N z s y p W=>?_
   ·rw [Ú (by simpa using GS i hi),ğ,ä (GS i hi)] at e
    cases e
   ·exact Y (X.grow p (.lst O)) (A.trans (Fw.grow W).le) (N.grow W) z (.ref p) ⟨p,O,rfl,⟨(show ¬ X.Z p from j9 N W),cm⟩,(Fw.grow W).le.all y⟩
def fD.of {nt:Nat} {g:D->Env->Option Env} {sl cj:List Nat} (hs:Sl g sl) (hd:∀i∈cj,i<nt/\i∉sl) {d:D} {caps az:Env} (hg:g d (Î nt none++caps)=some az):fD cj az:=fun i hi x e=>by
 obtain ⟨Z,Y⟩:=hd i hi;rw [(hs _ _ _ hg).2 i Y,Ú (by simpa using Z),ğ,ä Z] at e;cases e
def fD.on (hs:Sl g sl) (hd:∀i∈cj,i∉sl) (hf:fD cj env) (hg:g d env=some az):fD cj az:=fun i hi x e=>by
 rw [(hs _ _ _ hg).2 i (hd i hi)] at e;exact hf i hi x e
section
variable {X:Cx} {Ξ:Wd->aW->Prop} {el tg src i5 gK oP mL:Ğ} {tests kc pS:List Ğ} {sc:ŷ} {ps pos:Pos} {N:List Str} {nt:Nat} {cap:List Nat} {it gU uP:WR (List D)} {gd oQ zS:D->Env->Option Env} {g0 uQ GU:TG} {sl cj kQ:List Nat} {ft i3 GV:WR Bool} {f:WR D}
abbrev D4 (nt:Nat) (cap:List Nat) (it:WR (List D)) (g:D->Env->Option Env) (t:WR Bool) (gU:WR (List D)) (g2:D->Env->Option Env) (t2:WR Bool) (f:WR D):WR D:=wY nt cap it g t (more gU g2 t2 (emit f))
abbrev D5 (nt:Nat) (cap:List Nat) (it:WR (List D)) (g:D->Env->Option Env) (t:WR Bool) (gU:WR (List D)) (g2:D->Env->Option Env) (t2:WR Bool) (uP:WR (List D)) (g3:D->Env->Option Env) (t3:WR Bool) (f:WR D):WR D:=wY nt cap it g t (more gU g2 t2 (more uP g3 t3 (emit f)))
noncomputable def apart (nt:Nat) (sl cj:List Nat):Bool:=cj.all (fun i=>decide (i<nt)&&!sl.contains i)
def nB (h:apart nt sl cj=true):∀i∈cj,i<nt/\i∉sl:=fun i hi=>by
 have:=ĝ.mp h i hi;simp only [È,Ü,ŵ,List.contains_eq_mem,decide_eq_false_iff_not] at this;exact this
noncomputable abbrev F0 (e el:Ğ) (d:Nat):PySem.Env->Ø->Ø->Sem PySem.Fin:=fun ce D it=>(do let _ <- call (.builtin "list.append") [.ref D,<- ļ el ce]:Sem Unit) >>= fun _=>again (.compLoop e d (.ref it) (.ref D) ce)
noncomputable abbrev yL (e src:Ğ) (d:Nat):PySem.Env->Ø->Ø->Sem PySem.Fin:=fun ce D it=>do
 let x <- ļ src ce
 WC src.pos
 let x <- û src ce x
 let _ <- runOwn (.compStart e (d+1) (<- Wk [x] (pyIter x)) (.ref D) ce) ce
 again (.compLoop e d (.ref it) (.ref D) ce)
def MS (hc:X.calm=true) (S:pJ X sc N nt cap) (T:Tg X.K g0 gd nt) (eI:Sl gd sl) (T2:Tg X.K uQ oQ nt) (fx:Sl oQ cj) (hi:PI X tg src (dZ X.K Ξ it))
  (hY:∀(cl:List (Str×Ø)) (C:Ø) (s:Ã) (H:Hp) (ex:List Ø) (pn:List (Ø×Obj)),PG (cR X N sc cl C s H ex pn) tg g0/\PF (cR X N sc cl C s H ex pn) tests (tT X.K bQ ft)/\PI (cR X N sc cl C s H ex pn) i5 gK (dZ X.K bQ gU)/\PG (cR X N sc cl C s H ex pn) i5 uQ/\PF (cR X N sc cl C s H ex pn) kc (tT X.K bQ i3)/\PE (cR X N sc cl C s H ex pn) el (tE X.K bQ f))
  (oE:apart nt sl cj=true:=by rfl) (lQ:apart nt [] sl=true:=by rfl)
  (hs:∀x,û src X.env x=pure x:=by intro _;rfl) (zT:∀ce x,û gK ce x=pure x:=by intro _ _;rfl):PE X (.ListComp el [⟨tg,src,tests,0⟩,⟨i5,gK,kc,0⟩] sc ps) (tE X.K Ξ (D4 nt cap it gd ft gU oQ i3 f)) :=
 bZ (Cg (act:=yL (.ListComp el [⟨tg,src,tests,0⟩,⟨i5,gK,kc,0⟩] sc ps) gK 0) hc S T.kM hi (fun cl C s H ex pn=>by
   obtain ⟨y1,y2,y3,y4,y5,W⟩:=hY cl C s H ex pn;exact ⟨y1,y2,fun D Z it=>vM (d:=1) (act:=fun Y=>F0 (.ListComp el [⟨tg,src,tests,0⟩,⟨i5,gK,kc,0⟩] sc ps) el 1 _ D Y) rfl hc rfl y3 y4 T2.kM y5 (fun Y=>Cf rfl W) (fun _=>rfl) (zT _)⟩) (fun _ _ _=>rfl) hs)
  (BU (Pre:=fD cj) T eI (fun i hi=>(nB lQ i hi).1) (vi T2 fx Bm (fun _ h=>h) (fun _ _ _ _ _=>trivial)) fun d Z U V=>fD.of eI (nB oE) V)
def MT (hc:X.calm=true) (S:pJ X sc N nt cap) (T:Tg X.K g0 gd nt) (eI:Sl gd sl) (T2:Tg X.K uQ oQ nt) (fx:Sl oQ cj) (T3:Tg X.K GU zS nt) (SS:Sl zS kQ) (hi:PI X tg src (dZ X.K Ξ it))
  (hY:∀(cl:List (Str×Ø)) (C:Ø) (s:Ã) (H:Hp) (ex:List Ø) (pn:List (Ø×Obj)),PG (cR X N sc cl C s H ex pn) tg g0/\PF (cR X N sc cl C s H ex pn) tests (tT X.K bQ ft)/\PI (cR X N sc cl C s H ex pn) i5 gK (dZ X.K bQ gU)/\PG (cR X N sc cl C s H ex pn) i5 uQ/\PF (cR X N sc cl C s H ex pn) kc (tT X.K bQ i3) /\
   PI (cR X N sc cl C s H ex pn) oP mL (dZ X.K bQ uP)/\PG (cR X N sc cl C s H ex pn) oP GU/\PF (cR X N sc cl C s H ex pn) pS (tT X.K bQ GV)/\PE (cR X N sc cl C s H ex pn) el (tE X.K bQ f))
  (oE:apart nt sl cj=true:=by rfl) (SU:apart nt sl kQ=true:=by rfl) (SV:apart nt cj kQ=true:=by rfl) (lQ:apart nt [] sl=true:=by rfl)
  (hs:∀x,û src X.env x=pure x:=by intro _;rfl) (zT:∀ce x,û gK ce x=pure x:=by intro _ _;rfl) (SW:∀ce x,û mL ce x=pure x:=by intro _ _;rfl):PE X (.ListComp el [⟨tg,src,tests,0⟩,⟨i5,gK,kc,0⟩,⟨oP,mL,pS,0⟩] sc ps) (tE X.K Ξ (D5 nt cap it gd ft gU oQ i3 uP zS GV f)) :=
 bZ (Cg (act:=yL (.ListComp el [⟨tg,src,tests,0⟩,⟨i5,gK,kc,0⟩,⟨oP,mL,pS,0⟩] sc ps) gK 0) hc S T.kM hi (fun cl C s H ex pn=>by
   obtain ⟨y1,y2,y3,y4,y5,V,U,R,Q⟩:=hY cl C s H ex pn;exact ⟨y1,y2,fun D Z it=>vM (d:=1) (act:=fun W=>yL (.ListComp el [⟨tg,src,tests,0⟩,⟨i5,gK,kc,0⟩,⟨oP,mL,pS,0⟩] sc ps) mL 1 _ D W) rfl hc rfl y3 y4 T2.kM y5 (fun W=>vM (d:=2) (act:=fun gU=>F0 (.ListComp el [⟨tg,src,tests,0⟩,⟨i5,gK,kc,0⟩,⟨oP,mL,pS,0⟩] sc ps) el 2 _ D gU) rfl hc rfl V U T3.kM R (fun gU=>Cf rfl Q) (fun _=>rfl) (SW _)) (fun _=>rfl) (zT _)⟩) (fun _ _ _=>rfl) hs)
  (BU (Pre:=fun env=>fD cj env/\fD kQ env) T eI (fun i hi=>(nB lQ i hi).1) (vi T2 fx (vi (Pre':=fD kQ) T3 SS Bm (fun _ h=>h) (fun _ _ _ _ _=>trivial)) (fun _ h=>h.1) (fun d env P h Y=>fD.on fx (fun i hi=>(nB SV i hi).2) h.2 Y)) fun d Z P Y=>⟨fD.of eI (nB oE) Y,fD.of eI (nB SU) Y⟩)
end
end DI
namespace L2
open PySem PySem.Spec PyProof.Rows
end L2
namespace HT
open PySem PyProof.Rows
def yM (A:æ) (s:Ã) (y x:Ä) (b:Bool):Prop:=∀(prog:ß) (w:ú) (E:Ä->Ã->Prop) (Q:Ä->Ã->Prop),Q (.bool b) s->Ù (à prog w) A (richCompare .Lt y x) Q E s
inductive gF (A:æ) (s:Ã):List Ä->List Ä->Bool->Prop where
 |nn:gF A s [] [] false
 |nc (y:Ä) (ys:List Ä):gF A s [] (y::ys) true
 |cn (x:Ä) (xs:List Ä):gF A s (x::xs) [] false
 |eq {x y:Ä} {xs ys:List Ä} {b:Bool}:SeqAt.EqAt A s x y true->gF A s xs ys b->gF A s (x::xs) (y::ys) b
 |lt {x y:Ä} {xs ys:List Ä} {b:Bool}:SeqAt.EqAt A s x y false->yM A s x y b->gF A s (x::xs) (y::ys) b
section
open PySem.SeqAt
open PySem.AutoSeq1 (wpAny_loadPart')
open PySem.MeetsSeq PySem.MeetsSeq2 PySem.MeetsSeq3
def Jt (l b:Ø) (items lg:Array Ä) (n n2:Nat) (dd lM:Option Ø) (sl cj:Array (Option Ä)) (kR:Bool) :
  Meets (œ.«tuple.__lt__» ⟨[.ref l,.ref b],[]⟩)
   (fun A R s=>s.heap.get? l=some { cls:=.type "tuple",dict:=dd,data:=.seq items n,slots:=sl }/\s.heap.get? b=some { cls:=.type "tuple",dict:=lM,data:=.seq lg n2,slots:=cj } /\
    gF A.in1 s items.toList lg.toList kR/\R (.ok (.ret (.bool kR))) s) :=
 .of_wp fun prog w A R s h=>by
  obtain ⟨N,g,d,M,os⟩:=s;obtain ⟨K,J,I,h⟩:=h;have f2:=AutoSeq1.sub_tuple_tuple
  wp_walk using wpAny_loadPart' K,wpAny_loadPart' J,wpAny_forIn_list _ (fun rest b W=>b.1=none/\W=⟨N,g,d,M,os⟩/\∃(X ws:List Ä),rest=X.zip ws /\
   gF A.in1 ⟨N,g,d,M,os⟩ X ws kR/\X.length+lg.size=ws.length+items.size) _
  case turn =>
   rintro ⟨y,x⟩ rest b W ⟨V,rfl,X,ws,Y,U,Z⟩
   cases U with
   |nn=>cases Y
   |nc _ _=>cases Y
   |cn _ _=>cases Y
   |eq T S =>
    rw [ī] at Y
    injection Y with Q L
    injection Q with P O
    subst P O;simp only [ë] at Z;refine À (T prog w _ _ ?_)
    wp_walk
    exact ⟨rfl,rfl,_,_,L,S,by omega⟩
   |lt T S =>
    rw [ī] at Y
    injection Y with Q L
    injection Q with P O
    subst P O;refine À (T prog w _ _ ?_);have H:=S prog w
    wp_walk using H
    exact ⟨_,rfl,by simpa using h⟩
  case fin =>
   rintro ⟨F,E⟩ W ⟨V,rfl,X,ws,Y,U,Z⟩;simp only at V;subst V;have G:kR=decide (items.size<lg.size):=by
    cases U with
    |nn=>simp only [õ] at Z;exact (ù (by omega)).symm
    |nc _ _=>simp only [õ,ë] at Z;exact (Þ (by omega)).symm
    |cn _ _=>simp only [õ,ë] at Z;exact (ù (by omega)).symm
    |eq _ _=>rw [ī] at Y;cases Y
    |lt _ _=>rw [ī] at Y;cases Y
   rw [G] at h
   wp_walk
   exact ⟨_,rfl,by simpa [Builtin.Tuple.tupleCompareSizes] using h⟩
  case h =>
   exact ⟨rfl,rfl,items.toList,lg.toList,rfl,I,by simp only [î];omega⟩
end
open PySem.SeqAt PySem.MeetsSeq
section
variable {prog:ß} {w:ú} {A:æ} {E:Ä->Ã->Prop} {s:Ã}
def C0 (hl:IsTup s.heap l items) (hb:IsTup s.heap b lg) (hA:∀A':æ,A'.units<=A.units+4->gF A' s items.toList lg.toList kR)
 (hu:A.units<WD) (h:Q (.bool kR) s):Ù (à prog w) A (richCompare .Lt (.ref l) (.ref b)) Q E s:=by
 obtain ⟨⟨cls,U,data,T⟩,Z,Y,n,X⟩:=id hl;obtain ⟨⟨O,S,data2,R⟩,W,V,P,hd2⟩:=id hb;simp only at Y X V hd2;subst Y X V hd2;refine richCompare_meets_room (op:=.Lt) ⟨_,Z,rfl⟩ ⟨_,W,rfl⟩ PySem.F.slot_tuple_lt PySem.F.entry_tuple_lt (PySem.F.args_tuple_lt_2 _ _) (Jt l b items lg n P U S T R kR)
  ⟨Z,W,hA _ ?_,show Ŋ kR≠Value.notImplemented/\Q (.bool kR) s from ⟨(fun x=>nomatch x),h⟩⟩ hu
 show A.units+1<=A.units+4;omega
end
end HT
namespace DI
open PySem L2 HT
mutual
noncomputable def gE:D->D->Option Bool
 | .int i,.int j=>some (decide (i<j))
 | .str x,.str y=>some (decide (x.cps.toList<y.cps.toList))
 | .tup Z,.tup Y=>gL Z Y
 |_,_=>none
noncomputable def gL:List D->List D->Option Bool
 | [],[]=>some false
 | [],_::_=>some true
 |_::_,[]=>some false
 |x::Z,y::Y=>if beq x y=true then gL Z Y else gE x y
end
section
variable {X:Cx} {Ξ:Wd->aW->Prop} {π:List (Ø×Obj)} {σ:St} {s:Ã} {w:Wd}
def P9 (I:Inv X π σ w.H s) (A:æ) (lx:lay x=true) (ly:lay y=true) (hu:A.units+dep x<WD) (hx:DV X.K w x v) (hy:DV X.K w y u) (rx:RelV v vx) (ry:RelV u vy):SeqAt.EqAt A s vx vy (beq x y):=by
 obtain ⟨as,Z⟩:=(hx.py (l7 _ lx)).reads I rx;obtain ⟨bs,Y⟩:=(hy.py (l7 _ ly)).reads I ry;obtain ⟨W,V⟩:=iC _ lx;obtain ⟨U,T⟩:=iC _ ly;have:=SeqAt.eqAt_reads _ _ A s vx vy as bs Z Y W U (by rw [V];omega);rw [nK _ _ lx ly] at this;exact this
mutual
theorem Fe (I:Inv X π σ w.H s):∀(A:æ) (x y:D) (b:Bool) (v u:V) (vx vy:Ä),gE x y=some b->lay x=true->lay y=true->A.units+5*dep x+5<WD->DV X.K w x v->DV X.K w y u->RelV v vx->RelV u vy->yM A s vx vy b
 |A,.int i,.int j,b,v,u,vx,vy,h,_,_,_,Z,Y,W,U=>by
  cases h;cases Z;cases Y;obtain ⟨t,rfl⟩:=W;obtain ⟨T,rfl⟩:=U;intro prog w E Q q;exact B4 A s i t j T prog w E Q q
 |A,.str i,.str j,b,v,u,vx,vy,h,_,_,S,Z,Y,W,U=>by
  cases h;cases Z;cases Y;obtain ⟨t,rfl⟩:=W;obtain ⟨T,rfl⟩:=U;intro prog w E Q q;exact (PyProof.Rows.lt_str q:Ù (à prog w) A (Đ .Lt (.str i t) (.str j T)) Q E s)
 |A,.tup R,.tup P,b,v,u,vx,vy,h,O,N,S,Z,Y,W,U=>by
  simp only [gE] at h;simp only [DV] at Z Y;obtain ⟨a,as,rfl,M,L⟩:=Z;obtain ⟨c,cs,rfl,J,G⟩:=Y;cases W;cases U;obtain ⟨its,F,C,_⟩:=I.tuple M;obtain ⟨B,z,r,_⟩:=I.tuple J;intro prog o E Q q;simp only [dep] at S;exact C0 C r (fun p n=>by
   have:=D6 I p R P b as cs its B h (by simpa [lay] using O) (by simpa [lay] using N) (by omega) L G F z;simpa using this) (by omega) q
 |_,.ao,_,_,_,_,_,_,h,_,_,_,_,_,_,_=>by cases h
 |_,.bl _,_,_,_,_,_,_,h,_,_,_,_,_,_,_=>by cases h
 |_,.lst _,_,_,_,_,_,_,h,_,_,_,_,_,_,_=>by cases h
 |_,.bq _,_,_,_,_,_,_,h,_,_,_,_,_,_,_=>by cases h
 |_,.au _,_,_,_,_,_,_,h,_,_,_,_,_,_,_=>by cases h
 |_,.ty _,_,_,_,_,_,_,h,_,_,_,_,_,_,_=>by cases h
 |_,.bz _,_,_,_,_,_,_,h,_,_,_,_,_,_,_=>by cases h
 |_,.exc _,_,_,_,_,_,_,h,_,_,_,_,_,_,_=>by cases h
 |_,.bT _ _ _,_,_,_,_,_,_,h,_,_,_,_,_,_,_=>by cases h
 |_,.int _,.ao,_,_,_,_,_,h,_,_,_,_,_,_,_=>by cases h
 |_,.int _,.bl _,_,_,_,_,_,h,_,_,_,_,_,_,_=>by cases h
 |_,.int _,.str _,_,_,_,_,_,h,_,_,_,_,_,_,_=>by cases h
 |_,.int _,.tup _,_,_,_,_,_,h,_,_,_,_,_,_,_=>by cases h
 |_,.int _,.lst _,_,_,_,_,_,h,_,_,_,_,_,_,_=>by cases h
 |_,.int _,.bq _,_,_,_,_,_,h,_,_,_,_,_,_,_=>by cases h
 |_,.int _,.au _,_,_,_,_,_,h,_,_,_,_,_,_,_=>by cases h
 |_,.int _,.ty _,_,_,_,_,_,h,_,_,_,_,_,_,_=>by cases h
 |_,.int _,.bz _,_,_,_,_,_,h,_,_,_,_,_,_,_=>by cases h
 |_,.int _,.exc _,_,_,_,_,_,h,_,_,_,_,_,_,_=>by cases h
 |_,.int _,.bT _ _ _,_,_,_,_,_,h,_,_,_,_,_,_,_=>by cases h
 |_,.str _,.ao,_,_,_,_,_,h,_,_,_,_,_,_,_=>by cases h
 |_,.str _,.bl _,_,_,_,_,_,h,_,_,_,_,_,_,_=>by cases h
 |_,.str _,.int _,_,_,_,_,_,h,_,_,_,_,_,_,_=>by cases h
 |_,.str _,.tup _,_,_,_,_,_,h,_,_,_,_,_,_,_=>by cases h
 |_,.str _,.lst _,_,_,_,_,_,h,_,_,_,_,_,_,_=>by cases h
 |_,.str _,.bq _,_,_,_,_,_,h,_,_,_,_,_,_,_=>by cases h
 |_,.str _,.au _,_,_,_,_,_,h,_,_,_,_,_,_,_=>by cases h
 |_,.str _,.ty _,_,_,_,_,_,h,_,_,_,_,_,_,_=>by cases h
 |_,.str _,.bz _,_,_,_,_,_,h,_,_,_,_,_,_,_=>by cases h
 |_,.str _,.exc _,_,_,_,_,_,h,_,_,_,_,_,_,_=>by cases h
 |_,.str _,.bT _ _ _,_,_,_,_,_,h,_,_,_,_,_,_,_=>by cases h
 |_,.tup _,.ao,_,_,_,_,_,h,_,_,_,_,_,_,_=>by cases h
 |_,.tup _,.bl _,_,_,_,_,_,h,_,_,_,_,_,_,_=>by cases h
 |_,.tup _,.int _,_,_,_,_,_,h,_,_,_,_,_,_,_=>by cases h
 |_,.tup _,.str _,_,_,_,_,_,h,_,_,_,_,_,_,_=>by cases h
 |_,.tup _,.lst _,_,_,_,_,_,h,_,_,_,_,_,_,_=>by cases h
 |_,.tup _,.bq _,_,_,_,_,_,h,_,_,_,_,_,_,_=>by cases h
 |_,.tup _,.au _,_,_,_,_,_,h,_,_,_,_,_,_,_=>by cases h
 |_,.tup _,.ty _,_,_,_,_,_,h,_,_,_,_,_,_,_=>by cases h
 |_,.tup _,.bz _,_,_,_,_,_,h,_,_,_,_,_,_,_=>by cases h
 |_,.tup _,.exc _,_,_,_,_,_,h,_,_,_,_,_,_,_=>by cases h
 |_,.tup _,.bT _ _ _,_,_,_,_,_,h,_,_,_,_,_,_,_=>by cases h
theorem D6 (I:Inv X π σ w.H s):∀(A:æ) (xs ys:List D) (b:Bool) (vs us:List V) (ps qs:List Ä),gL xs ys=some b->cu xs=true->cu ys=true->A.units+5*cH xs+5<WD->ak X.K w xs vs->ak X.K w ys us->Vals vs ps->Vals us qs->gF A s ps qs b
 |A,[],[],b,vs,us,ps,qs,h,_,_,_,W,U,Z,Y=>by
  cases h;cases W;cases U;cases Z;cases Y;exact .nn
 |A,[],y::ys,b,vs,us,ps,qs,h,_,_,_,W,U,Z,Y=>by
  cases h;cases W;cases Z;obtain ⟨u,r,rfl,_,_⟩:=U;cases Y;exact .nc _ _
 |A,x::xs,[],b,vs,us,ps,qs,h,_,_,_,W,U,Z,Y=>by
  cases h;cases U;cases Y;obtain ⟨u,r,rfl,_,_⟩:=W;cases Z;exact .cn _ _
 |A,x::xs,y::ys,b,vs,us,ps,qs,h,T,S,N,W,U,Z,Y=>by
  obtain ⟨v,r,rfl,P,dr⟩:=W;obtain ⟨u,G,rfl,O,M⟩:=U;simp only [cu,È] at T S;simp only [cH] at N;have F:=VI (dep x) (cH xs);have E:=š (dep x) (cH xs)
  cases Z with
  |cons Z L =>
   cases Y with
   |cons Y J =>
    have R:=P9 I A T.1 S.1 (by omega) P O Z Y;simp only [gL] at h;split at h
    ·rename_i Q
     rw [Q] at R;exact .eq R (D6 I A xs ys b _ _ _ _ h T.2 S.2 (by omega) dr M L J)
    ·rename_i Q
     rw [ι] at Q;rw [Q] at R;exact .lt R (Fe I A x y b _ _ _ _ h T.1 S.1 (by omega) P O Z Y)
end
def lH (x y:D) (s:aa):Res D:=if (lay x&&lay y&&decide (dep x<=30))=true then bL ((gE x y).map D.bl) s else none
def ui (hr:bC k X.A):bj X (Đ .Lt) (rO X.K Ξ lH):=by
 rintro O s σ H x y v u Q I U T ⟨w,W,V,rfl,S,R,P,h⟩;unfold lH at h;split at h
 ·rename_i Z
  simp only [È,Ü] at Z;obtain ⟨d,e,h⟩:=dE h
  cases Y:gE W V with
  |none=>rw [Y] at e;cases e
  |some b =>
   rw [Y] at e;cases e;exact Fe I X.A W V b x y v u Y Z.1.1 Z.1.2 (by have:=hr.un;have:=Z.2;have:WD=9900:=rfl;omega) R P U T _ _ _ _ ⟨.bl b,w.H,I,rfl,ay S h _ rfl⟩
 ·exact h.elim
end
end DI
namespace DI
open PySem L2
section
variable {X:Cx} {Ξ:Wd->aW->Prop} {e:Ğ} {p pos Vl Vm Q8 U4:Pos} {f:WR D}
end
def nv:List D->aa->Res D:=aJ 2 2 (ar (bA (aY (e2 lH (af 1) (eB cI (ae (af 0) ah)))) (aP (e2 aE (af 0) (af 1))) bK) (aP (eC (.int 0))))
def ph:List D->aa->Res D:=aJ 2 3 (ar (bb (aG nv (ae (af 0) (ae (af 1) ah))) (gN 2)) (aP (eNew (ae (eB nT (ae (eC (.int 0)) (ae (e2 qa (af 2) (e2 nR (eC (.int 10)) (eC (.int 18)))) ah))) (ae (e2 fG (af 2) (eC (.int 2147483647))) ah)))))
def bJ:List D->aa->Res D:=aJ 2 4 (ar (bA (aY (e2 qx (e2 aE (af 0) (eC (.int 0))) (eC (.int 0)))) (ar (bb (e2 fG (e2 aE (af 0) (eC (.int 0))) (af 1)) (gN 2)) (ar (ku (e2 mv (e2 aE (af 0) (eC (.int 0))) (af 1)) (af 0) (eC (.int 0))) (aP (af 2)))) bK) (ar (ku (e2 fG (e2 bO (e2 cL (e2 aE (af 0) (eC (.int 1))) (eC (.int 48271))) (eC (.int 29))) (eC (.int 2147483647))) (af 0) (eC (.int 1))) (ar (bb (e2 fG (e2 bO (e2 bO (e2 cL (e2 aE (af 0) (eC (.int 1))) (e2 aE (af 0) (eC (.int 1)))) (e2 cL (eC (.int 39373)) (e2 aE (af 0) (eC (.int 1))))) (eC (.int 7))) (eC (.int 2147483629))) (gN 3)) (ar (bb (e2 fG (e2 bO (e2 cL (af 3) (af 3)) (e2 cL (eC (.int 16807)) (af 3))) (eC (.int 2147483587))) (gN 3)) (aP (e2 fG (e2 mv (af 3) (eC (.int 8))) (af 1)))))))
def pk:List D->aa->Res D:=aJ 2 3 (ar (bb (e2 bO (eC (.int 1)) (aG bJ (ae (af 0) (ae (eC (.int 4)) ah)))) (gN 2)) (aP (eB dw (ae (cK 1 [0,2] (cw (ae (af 1) ah)) (gN 0) (aY (e2 bH (aG bJ (ae (af 1) (ae (e2 bO (af 2) (eC (.int 1))) ah))) (eC (.int 0)))) (af 0)) ah))))
def oW:List D->aa->Res D:=aJ 1 1 (aP (eB kn (ae (cK 2 [] (qv (ae (af 0) (ae (rm (af 0) (qz (eC (.int 1))) rl) ah))) (gT [gN 0,gN 1]) dD (e2 lH (af 0) (af 1))) ah)))
def vj:List D->aa->Res D:=aJ 1 1 (aP (dP (eB gu (ae (af 0) (ae (eC (.ty "int")) ah))) (dP (qt (eB gu (ae (af 0) (ae (eC (.ty "bool")) ah)))) (e2 qy (af 0) (eC (.int 0))))))
def ny:List D->aa->Res D:=aJ 2 2 (aP (dP (aG vj (ae (af 0) ah)) (e2 lH (af 0) (af 1))))
def oZ:List D->aa->Res D:=aJ 1 1 (aP (aG ny (ae (af 0) (ae (eC (.int (8))) ah))))
def j3:List D->aa->Res D:=aJ 1 1 (aP (dP (eB gu (ae (af 0) (ae (eC (.ty "tuple")) ah))) (dP (eB kn (ae (cK 1 [] (dQ (af 0)) (gN 0) dD (aG oZ (ae (af 0) ah))) ah)) (aG oW (ae (af 0) ah)))))
def iq:List D->aa->Res D:=aJ 2 2 (aP (dP (eB gu (ae (af 0) (ae (eC (.ty "tuple")) ah))) (dP (oJ mI mI (eC (.int 1)) (eB cI (ae (af 0) ah)) (af 1)) (eB kn (ae (cK 1 [] (dQ (af 0)) (gN 0) dD (aG j3 (ae (af 0) ah))) ah)))))
end DI
namespace ST
open PySem PySem.W PyProof.Rows
structure Ord (α:Type) where
 lt:α->α->Bool
 zV:∀a,lt a a=false
 tr:∀a b c,lt a b=true->lt b c=true->lt a c=true
 uR:∀a b,lt a b=false->lt b a=false->a=b
section
variable {α:Type} (O:Ord α)
def Ord.le (a b:α):Prop:=O.lt b a=false
variable {O}
def Ord.le_refl (a:α):O.le a a:=O.zV a
def Ord.le_of_lt (h:O.lt a b=true):O.le a b:=by
 unfold Ord.le
 cases Z:O.lt b a with
 |false=>rfl
 |true=>have:=O.tr _ _ _ h Z;rw [O.zV] at this;cases this
def Ord.nV (h:O.le a b) (g:O.le b c):O.le a c:=by
 unfold Ord.le at *
 cases Z:O.lt c a with
 |false=>rfl
 |true =>
  cases Y:O.lt a b with
  |true=>have:=O.tr _ _ _ Z Y;rw [g] at this;cases this
  |false =>
   have e:=O.uR a b Y h;subst e;rw [g] at Z;cases Z
def Ord.Ff (h:O.le a b) (g:O.le b a):a=b:=O.uR _ _ g h
end
def ok {β:Type} (c:Nat->Nat->Bool) (n:Nat):KasT β->(β->Prop)->Prop
 | .ret a,Q=>Q a
 | .ask i j k,Q=>i<n/\j<n/\ok c n (k (c i j)) Q
theorem iy {β:Type} {c:Nat->Nat->Bool} {n:Nat} {Q R:β->Prop}:∀{t:KasT β},ok c n t Q->(∀a,Q a->R a)->ok c n t R
 | .ret a,h,i=>i a h
 | .ask _ _ k,h,i=>⟨h.1,h.2.1,iy (t:=k _) h.2.2 i⟩
theorem nE {β γ:Type} {c:Nat->Nat->Bool} {n:Nat} {f:β->KasT γ} {Q:γ->Prop}:∀{t:KasT β},ok c n t (fun a=>ok c n (f a) Q)->ok c n (t.bind f) Q
 | .ret _,h=>h
 | .ask _ _ k,h=>⟨h.1,h.2.1,nE (t:=k _) h.2.2⟩
theorem Fg {β:Type} {c:Nat->Nat->Bool} {n:Nat} {cmp:Nat->Nat->(Bool->Ã->Prop)->Ã->Prop} (hc:∀i j C,i<n->j<n->C (c i j) s->cmp i j C s) {Q:β->Ã->Prop}:∀{t:KasT β},ok c n t (fun a=>Q a s)->t.kasWp cmp Q s
 | .ret _,h=>h
 | .ask _ _ k,h=>hc _ _ _ h.1 h.2.1 (Fg hc (t:=k _) h.2.2)
section
variable {α:Type} {O:Ord α} {x:Nat->α} {n:Nat}
noncomputable def ky (x:Nat->α) (p:Array Nat) (i:Nat):α:=x (p.getD i 0)
def Pm (n:Nat) (p:Array Nat):Prop:=p.size=n/\p.toList.Perm (Ă n)
def Up (O:Ord α) (f:Nat->α) (k:Nat):Prop:=∀i j,i<j->j<k->O.le (f i) (f j)
def Dn (O:Ord α) (f:Nat->α) (k:Nat):Prop:=∀i j,i<j->j<k->O.le (f j) (f i)
def Up.more (h:Up O f k) (hk:1<=k) (h1:O.le (f (k-1)) (f k)):Up O f (k+1):=fun i j Z X=>by
 by_cases e:j=k
 ·subst e
  by_cases Y:i=j-1
  ·subst Y;exact h1
  ·exact Ord.nV (h i (j-1) (by omega) (by omega)) h1
 ·exact h i j Z (by omega)
def Dn.more (h:Dn O f k) (hk:1<=k) (h1:O.le (f k) (f (k-1))):Dn O f (k+1):=fun i j Z X=>by
 by_cases e:j=k
 ·subst e
  by_cases Y:i=j-1
  ·subst Y;exact h1
  ·exact Ord.nV h1 (h i (j-1) (by omega) (by omega))
 ·exact h i j Z (by omega)
def Pm.lt (h:Pm n p) (hi:i<n):p.getD i 0<n:=by
 have hs:i<p.size:=by rw [h.1];exact hi
 have:p[i]∈p.toList:=by simp
 have e:p.getD i 0=p[i]:=by simp [WJ,hs]
 rw [e];exact Ĝ.mp (h.2.mem_iff.mp this)
def Pm.rev (h:Pm n p) (i j:Nat):Pm n (kas_rev p i j):=⟨by rw [kas_rev_size];exact h.1,(Array.perm_iff_toList_perm.mp (mirror_perm p i j _)).trans h.2⟩
def Pm.S9 (h:Pm n p) (i j:Nat):Pm n (bubble p i j):=⟨by rw [bubble_size];exact h.1,(Array.perm_iff_toList_perm.mp (bubble_perm p i j)).trans h.2⟩
def pE {p q:Array Nat} {i j:Nat} (h:p[i]?=q[j]?):p.getD i 0=q.getD j 0:=by
 rw [Array.getD_eq_getD_getElem?,Array.getD_eq_getD_getElem?,h]
def wZ {p:Array Nat} {i j:Nat} (hj:j<=p.size) (k:Nat):ky x (kas_rev p i j) k=if i<=k/\k<j then ky x p (i+j-1-k) else ky x p k:=by
 have e:=getElem?_mirror_all (i:=i) hj k;unfold ky kas_rev
 split<;>rename_i h
 ·rw [ä h] at e;rw [pE e]
 ·rw [í h] at e;rw [pE e]
def D7 {p:Array Nat} {k d:Nat} (hk:k<p.size) (hd:d<=k) (i:Nat):ky x (bubble p k d) i=if i=k-d then ky x p k else if k-d<i/\i<=k then ky x p (i-1) else ky x p i:=by
 have e:=getElem?_bubble hk d hd i;by_cases h:i=k-d
 ·rw [ä h] at e |-;exact ĺ x (pE e)
 ·rw [í h] at e |-
  by_cases Z:k-d<i/\i<=k
  ·rw [ä Z] at e |-;exact ĺ x (pE e)
  ·rw [í Z] at e |-;exact ĺ x (pE e)
def C3 (hj:j<=p.size) (he:∀k,i<=k->k<j->ky x p k=ky x p (j-1)):ky x (kas_rev p i j)=ky x p:=funext fun k=>by
 rw [wZ hj];split
 ·rw [he _ (by omega) (by omega),he k (by omega) (by omega)]
 ·rfl
noncomputable abbrev asks (O:Ord α) (x:Nat->α) (i j:Nat):Bool:=O.lt (x i) (x j)
theorem w9 {p:Array Nat} (hp:Pm n p):∀(f m:Nat),1<=m->m+f<=n->Up O (ky x p) m->ok (asks O x) n (kas_asc p f m) fun r=>m<=r/\r<=m+f/\Up O (ky x p) r/\(r<m+f->O.lt (ky x p r) (ky x p (r-1))=true)
 |0,m,Y,V,Z=>⟨WV _,WV _,Z,fun z=>absurd z (è _)⟩
 |f+1,m,Y,V,Z=>by
  refine ⟨hp.lt (by omega),hp.lt (by omega),?_⟩
  show ok _ _ (if O.lt (ky x p m) (ky x p (m-1))=true then _ else _) _
  cases X:O.lt (ky x p m) (ky x p (m-1)) with
  |true =>
   rw [ä rfl];exact ⟨WV _,by omega,Z,fun _=>X⟩
  |false =>
   rw [í Ò];refine iy (w9 hp f (m+1) (by omega) (by omega) (Z.more Y X)) fun r W=>⟨by omega,by omega,W.2.2.1,fun z=>W.2.2.2 (by omega)⟩
structure DS (O:Ord α) (x:Nat->α) (n:Nat) (p:Array Nat) (m q:Nat):Prop where
 pm:Pm n p
 q1:q+1<=m
 mn:m<=n
 dn:Dn O (ky x p) m
 bl:∀k,m-(q+1)<=k->k<m->ky x p k=ky x p (m-1)
def DS.turn (D:DS O x n p m q):Pm n (kas_rev p (m-(q+1)) m)/\ky x (kas_rev p (m-(q+1)) m)=ky x p :=
 ⟨D.pm.rev _ _,C3 (by rw [D.pm.1];exact D.mn) D.bl⟩
theorem sF:∀(f:Nat) (p:Array Nat) (m q:Nat),m+f<=n->DS O x n p m q->ok (asks O x) n (kas_desc f p m q) fun r=>m<=r.2.1/\DS O x n r.1 r.2.1 r.2.2
 |0,p,m,q,_,D=>⟨WV _,D⟩
 |f+1,p,m,q,P,D=>by
  have q1:=D.q1;refine ⟨D.pm.lt (by omega),D.pm.lt (by omega),?_⟩
  show ok _ _ (if O.lt (ky x p m) (ky x p (m-1))=true then _ else _) _
  cases X:O.lt (ky x p m) (ky x p (m-1)) with
  |true =>
   rw [ä rfl];have one:∀Y,Pm n Y->ky x Y=ky x p->DS O x n Y (m+1) 0:=fun Y V U=>⟨V,by omega,by omega,by rw [U];exact D.dn.more (by omega) (Ord.le_of_lt X),fun k T S=>by rw [show k=m+1-1 by omega]⟩;by_cases W:q > 0
   ·rw [ä W]
    exact iy (sF f _ (m+1) 0 (by omega) (one _ D.turn.1 D.turn.2)) fun r Z=>⟨by omega,Z.2⟩
   ·rw [í W]
    exact iy (sF f _ (m+1) 0 (by omega) (one _ D.pm rfl)) fun r Z=>⟨by omega,Z.2⟩
  |false =>
   rw [í Ò];refine ⟨D.pm.lt (by omega),D.pm.lt (by omega),?_⟩
   show ok _ _ (if O.lt (ky x p (m-1)) (ky x p m)=true then _ else _) _
   cases R:O.lt (ky x p (m-1)) (ky x p m) with
   |true =>
    rw [ä rfl];exact ⟨WV _,D⟩
   |false =>
    rw [í Ò];have e:ky x p m=ky x p (m-1):=O.uR _ _ X R;refine iy (sF f p (m+1) (q+1) (by omega) ⟨D.pm,by omega,by omega,D.dn.more (by omega) (by rw [e];exact Ord.le_refl _),fun k T S=>?_⟩) fun r Z=>⟨by omega,Z.2⟩;show _=ky x p m;by_cases Q:k=m
    ·rw [Q]
    ·rw [D.bl k (by omega) (by omega),e]
def C4 {p:Array Nat} {m:Nat} (hp:Pm n p) (h1:1<=m) (hm:m<=n) (hd:Dn O (ky x p) m):ok (asks O x) n (kas_tail3 m n p) fun r=>1<=r.1/\r.1<=n/\Pm n r.2/\Up O (ky x r.2) r.1:=by
 refine nE ?_;have Z:Up O (ky x (kas_rev p 0 m)) m:=fun i j W Y=>by
  rw [wZ (by rw [hp.1];exact hm),wZ (by rw [hp.1];exact hm),ä ⟨by omega,by omega⟩,ä ⟨by omega,Y⟩];exact hd _ _ (by omega) (by omega)
 exact iy (w9 (hp.rev 0 m) (n-m) m h1 (by omega) Z) fun r X=>⟨by show 1<=r;omega,by show r<=n;omega,hp.rev 0 m,X.2.2.1⟩
def Bn {p:Array Nat} {m:Nat} (hp:Pm n p) (h1:1<=m) (hm:m+1<=n) (hd:Dn O (ky x p) (m+1)):ok (asks O x) n (kas_descPart m n p) fun r=>1<=r.1/\r.1<=n/\Pm n r.2/\Up O (ky x r.2) r.1:=by
 refine nE (iy (sF (n-(m+1)) p (m+1) 0 (by omega) ⟨hp,by omega,hm,hd,fun k Y X=>by rw [show k=m+1-1 by omega]⟩) fun r Z=>?_);obtain ⟨W,D⟩:=Z;split
 ·exact C4 D.turn.1 (by have:=D.q1;omega) D.mn (by rw [D.turn.2];exact D.dn)
 ·exact C4 D.pm (by have:=D.q1;omega) D.mn D.dn
def Lz {p:Array Nat} (hp:Pm n p) (hn:1<=n):ok (asks O x) n (kas_count n p) fun r=>1<=r.1/\r.1<=n/\Pm n r.2/\Up O (ky x r.2) r.1:=by
 refine nE (iy (w9 hp (n-1) 1 (WV _) (by omega) fun i j U X=>by omega) fun m S=>?_);obtain ⟨Z,Q,Y,R⟩:=S;split
 ·rename_i e
  rw [beq_iff_eq] at e;exact ⟨Z,by omega,hp,Y⟩
 ·rename_i e
  have P:m≠n:=fun z=>e (by rw [z];exact Ş n);have hs:=R (by omega);split
  ·refine ⟨hp.lt (by omega),hp.lt (by omega),?_⟩
   show ok _ _ (if O.lt (ky x p 0) (ky x p (m-1))=true then _ else _) _
   cases T:O.lt (ky x p 0) (ky x p (m-1)) with
   |true =>
    rw [ä rfl];exact ⟨Z,by omega,hp,Y⟩
   |false =>
    rw [í Ò];have W:∀k,0<=k->k<m->ky x p k=ky x p (m-1):=fun k _ V=>by
     have a1:O.le (ky x p k) (ky x p (m-1)):=by
      by_cases e:k=m-1
      ·rw [e];exact Ord.le_refl _
      ·exact Y k (m-1) (by omega) (by omega)
     have a2:O.le (ky x p (m-1)) (ky x p k):=by
      by_cases e:k=0
      ·rw [e];exact T
      ·exact Ord.nV T (Y 0 k (by omega) V)
     exact Ord.Ff a1 a2
    have V:=C3 (x:=x) (p:=p) (i:=0) (j:=m) (by rw [hp.1];omega) W;refine Bn (hp.rev 0 m) Z (by omega) ?_;rw [V];refine Dn.more (fun i j U X=>?_) Z (Ord.le_of_lt hs);rw [W i (by omega) (by omega),W j (by omega) X];exact Ord.le_refl _
  ·refine Bn hp Z (by omega) (Dn.more (fun i j U X=>by omega) Z (Ord.le_of_lt hs))
theorem vO (hp:Pm n p) (hk:k<n) (hu:Up O (ky x p) k):∀(f l r:Nat),r-l<=f->l<=r->r<=k->(∀i,i<l->O.le (ky x p i) (ky x p k))->(∀i,r<=i->i<k->O.le (ky x p k) (ky x p i)) ->
  ok (asks O x) n (kas_place p k f l r) fun m=>m<=k/\(∀i,i<m->O.le (ky x p i) (ky x p k))/\(∀i,m<=i->i<k->O.le (ky x p k) (ky x p i))
 |0,l,r,X,W,Y,a,b=>⟨by omega,a,fun i hi=>b i (by omega)⟩
 |f+1,l,r,X,W,Y,a,b=>by
  unfold kas_place;by_cases h:l ≥ r
  ·rw [ä h]
   exact ⟨by omega,a,fun i hi=>b i (by omega)⟩
  ·rw [í h]
   refine ⟨hp.lt hk,hp.lt (by omega),?_⟩
   show ok _ _ (if O.lt (ky x p k) (ky x p ((l+r) / 2))=true then _ else _) _
   cases Z:O.lt (ky x p k) (ky x p ((l+r) / 2)) with
   |true =>
    rw [ä rfl];refine vO hp hk hu f l ((l+r) / 2) (by omega) (by omega) (by omega) a fun i hi V=>?_;by_cases e:i=(l+r) / 2
    ·rw [e];exact Ord.le_of_lt Z
    ·exact Ord.nV (Ord.le_of_lt Z) (hu _ _ (by omega) V)
   |false =>
    rw [í Ò];refine vO hp hk hu f ((l+r) / 2+1) r (by omega) (by omega) Y (fun i hi=>?_) b;by_cases e:i=(l+r) / 2
    ·rw [e];exact Z
    ·exact Ord.nV (hu _ _ (by omega) (by omega)) Z
theorem D8:∀(f:Nat) (p:Array Nat) (k:Nat),Pm n p->k+f=n->Up O (ky x p) k->ok (asks O x) n (kas_bin f p k) fun q=>Pm n q/\Up O (ky x q) n
 |0,p,k,Y,X,Z=>⟨Y,by rw [<- X];exact Z⟩
 |f+1,p,k,Y,X,Z=>by
  refine nE (iy (vO Y (by omega) Z k 0 k (by omega) (Ć _) (WV _) (fun i hi=>by omega) fun i Q W=>by omega) fun m P=>?_);obtain ⟨Q,W,N⟩:=P;refine D8 f _ (k+1) (Y.S9 _ _) (by omega) fun i j M K=>?_;have V:k<p.size:=by rw [Y.1];omega
  have L:k-(k-m)=m:=by omega
  rw [D7 V (by omega),D7 V (by omega),L];by_cases U:i=m
  ·rw [ä U,í (by omega),ä (by omega)]
   exact N _ (by omega) (by omega)
  ·rw [í U]
   by_cases T:m<i/\i<=k
   ·rw [ä T,í (by omega),ä (by omega)]
    exact Z _ _ (by omega) (by omega)
   ·rw [í T]
    by_cases S:j=m
    ·rw [ä S];exact W _ (by omega)
    ·rw [í S]
     by_cases R:m<j/\j<=k
     ·rw [ä R]
      by_cases e:i=j-1
      ·rw [e];exact Ord.le_refl _
      ·exact Z _ _ (by omega) (by omega)
     ·rw [í R];exact Z _ _ M (by omega)
def MU (hn:1<=n):ok (asks O x) n (kas_sort n) fun q=>Pm n q/\Up O (ky x q) n:=by
 refine nE (iy (Lz (p:=V5 (Ă n)) ⟨by simp,by simp⟩ hn) fun r X=>?_);obtain ⟨W,V,Y,Z⟩:=X;split
 ·rw [Nat.max_eq_left W]
  exact D8 _ _ _ Y (by omega) Z
 ·rw [show r.1=n by omega] at Z
  exact ⟨Y,Z⟩
end
section
variable {α:Type} {O:Ord α} {x:Nat->α} {prog:ß} {w:ú} {A:æ} {E:Ä->Ã->Prop} {s:Ã}
def uj (prog:ß) (w:ú) (A:æ) (O:Ord α) (x:Nat->α) (us:List Ä) (t:Ã):Prop :=
 Ù (à prog w) A (keyKind' us.toArray) (fun Z Y=>Y=t/\∀i j (C:Bool->Ã->Prop),i<us.length->j<us.length->C (O.lt (x i) (x j)) t->Ù (à prog w) A (keyLt' Z (us.getD i Value.none) (us.getD j Value.none)) C (fun _ _=>False) t) (fun _ _=>False) t
def jP (us:List Ä) (h:us.length<2):(us.toArray.zip us.toArray).map (·.2)=((V5 (Ă us.length)).toList.map fun i=>us.getD i Value.none).toArray:=by
 rcases us with _ | ⟨u,_ | ⟨v,r⟩⟩
 ·exact Array.toList_inj.mp (by simp)
 ·exact Array.toList_inj.mp (by simp)
 ·(simp at h;omega)
def HX (hb:s.heap.get? b=some (Wz "list" us.toArray m)) (hz:us.length<64)
 (hk:2<=us.length->∀h1,(∀c o,c≠b->s.heap.get? c=some o->h1.get? c=some o)->uj prog w A O x us { s with heap:=h1 })
 (hR:∀(q:Array Nat) h' e,Pm us.length q->Up O (ky x q) us.length->(∀c o,c≠b->s.heap.get? c=some o->h'.get? c=some o)->h'.get? b=some (Wz "list" (q.toList.map fun i=>us.getD i Value.none).toArray e)->R (.done (.ret .none)) { s with heap:=h' }) :
  Ù (à prog w) A (œ.«list.sort» ⟨[.ref b],[]⟩) R E s:=by
 have B:b<s.heap.objs.size:=Ç hb;have line:us.length<=Ñ:=by rw [Ũ];omega
 obtain ⟨e1,N⟩:∃e1,(s.heap.update b (ŀ fun _=>(#[]:Array Ä))).get? b=some (Wz "list" #[] e1):=⟨_,get?_update_seq hb fun _=>#[]⟩;generalize U:((s.heap.update b (ŀ fun _=>(#[]:Array Ä))).push (Wz "tuple" us.toArray 0)).push (Wz "list" #[] 0)=Z;have X:Z.get? b=some (Wz "list" #[] e1):=by rw [<- U];exact Á _ (Á _ N)
 have old:∀c o,c≠b->s.heap.get? c=some o->Z.get? c=some o:=fun c o W e=>by
  rw [<- U];exact Á _ (Á _ (by rw [Wv _ _ _ _ W];exact e))
 have last:∀(q:Array Nat),Pm us.length q->Up O (ky x q) us.length->R (.done (.ret .none)) { s with heap:=Z.update b (ŀ fun _=>(q.toList.map fun i=>us.getD i Value.none).toArray) }:=fun q h1 T =>
  hR q _ _ h1 T (fun c o W e=>by rw [Wv _ _ _ _ W];exact old c o W e) (get?_update_seq X fun _=>(q.toList.map fun i=>us.getD i Value.none).toArray)
 rw [list_sort_plain];refine À (listItems_at hb rfl (À (listUpdate_at hb rfl ?_ (by rw [Ô];exact line) (Ć _))));refine À (seqEpoch_at N rfl (À (wpAny_newTuple (À (wpAny_newList (Ĕ ?_) (Ć _))) (by show us.length<=_;exact line))))
 show Ù (à prog w) A _ R E { s with heap:=_ }
 rw [U];dsimp only;by_cases Y:us.toArray.size<2
 ·rw [ä Y,ä Y]
  refine À (Â ?_);rw [StateT.run_pure];refine À (Â ?_);dsimp only;have L:(us.toArray.zip us.toArray).map (·.2)=((V5 (Ă us.length)).toList.map fun i=>us.getD i Value.none).toArray:=by
   exact jP us (by rw [<- Ô];exact Y)
  refine À (seqEpoch_at X rfl (À (listUpdate_at X rfl ?_ (Ć _) ?_)))
  ·simp only [ć,É,ĉ]
   show Ù _ _ _ _ _ { s with heap:=Z.update b (ŀ fun _=>(us.toArray.zip us.toArray).map (·.2)) }
   rw [L];refine Â (last _ ⟨by simp,by simp⟩ fun i j y M=>?_);rw [Ô] at Y;omega
  ·show ((us.toArray.zip us.toArray).map (·.2)).size<=Ñ+1
   simp;omega
 ·rw [í Y,í Y]
  rw [Ô] at Y;refine À (ģ (hk (by omega) Z old) (fun K t S=>?_) fun _ _ z=>z.elim);obtain ⟨rfl,S⟩:=S
  have tree:(kas_sort us.length).kasWp (kas_ask prog w A K us) (fun q t=>t={ s with heap:=Z }/\Pm us.length q/\Up O (ky x q) us.length) { s with heap:=Z } :=
   Fg (c:=asks O x) (n:=us.length) (fun i j C hi M J=>S i j C hi M J) (iy (MU (by omega)) fun q P=>⟨rfl,P⟩)
  refine À (ģ (kat_run (Q:=fun V t=>∃q:Array Nat,q.size=us.length/\arrOf V=q.map (kas_item (us.toArray.zip us.toArray))/\failedOf V=none/\t={ s with heap:=Z }/\Pm us.length q/\Up O (ky x q) us.length)
   rfl (by omega) hz (fun q V t a1 a2 I H=>⟨q,a1,a2,I,H⟩) tree) ?_ fun _ _ z=>z)
  rintro ⟨⟨⟩,V⟩ t ⟨q,P,G,F,rfl,T,D⟩;dsimp only;rw [kat_snds rfl G];refine À (seqEpoch_at X rfl (À (listUpdate_at X rfl ?_ (Ć _) ?_)))
  ·rw [F]
   simp only [ć,É,ĉ];exact Â (last q T D)
  ·show ((q.toList.map fun i=>us.getD i Value.none).toArray).size<=Ñ+1
   rw [Ô,Ì,î,P];omega
def Kd (hl:s.heap.IsList l us.toArray) (hz:us.length<64)
 (hk:2<=us.length->∀h1,(∀c o,s.heap.get? c=some o->h1.get? c=some o)->uj prog w A.in1.in1 O x us { s with heap:=h1 })
 (hQ:∀(q:Array Nat) h' b e,Pm us.length q->Up O (ky x q) us.length->(∀c o,s.heap.get? c=some o->h'.get? c=some o)->s.heap.objs.size<=b->h'.get? b=some (Wz "list" (q.toList.map fun i=>us.getD i Value.none).toArray e)->Q (.ref b) { s with heap:=h' }) :
  Ù (à prog w) A (call (.builtin "sorted") [.ref l]) Q E s:=by
 have line:us.length<=Ñ:=by rw [Ũ];omega
 refine Calls.call_function_entry kind_sorted plain_sorted entry_sorted (args_sorted1 _) ?_;unfold œ.«sorted»;refine À (m:=checkCount "sorted" 1 1 _) (Â (À (collect_list hl (À (wpAny_newList ?_ line)) line)));generalize X:((s.heap.push (Wz "list" #[] 0)).update s.heap.objs.size (ŀ (·++us.toArray)))=h1;have W:h1.objs.size=s.heap.objs.size+1:=by rw [<- X,Heap.size_update,size_push']
 have U:∀c o,s.heap.get? c=some o->h1.get? c=some o:=fun c o e=>by
  have Z:c<s.heap.objs.size:=Ç e;rw [<- X,Wv _ _ _ _ (Û Z)];exact Á _ e
 show Ù _ _ _ _ _ { s with heap:=h1.push (Wz "list" us.toArray 0) }
 have V:(h1.push (Wz "list" us.toArray 0)).get? h1.objs.size=some (Wz "list" us.toArray 0):=Ï _ rfl;have old:∀c o,s.heap.get? c=some o->c≠h1.objs.size/\(h1.push (Wz "list" us.toArray 0)).get? c=some o:=fun c o e=>by
  have Z:c<s.heap.objs.size:=Ç e;exact ⟨Û (by rw [W];exact Ĉ Z),Á _ (U c o e)⟩
 refine À (Ĕ (þ slot_list_sort ⟨_,V,rfl⟩ entry_list_sort (HX V hz (fun z h' Y=>hk z h' fun c o e=>Y c o (old c o e).1 (old c o e).2) fun q h' e T S Y R=>⟨_,rfl,?_⟩) (args_list_sort _)));exact Â ⟨_,rfl,hQ q h' _ e T S (fun c o e=>Y c o (old c o e).1 (old c o e).2) (by show _<=h1.objs.size;rw [W];exact Ws _) R⟩
end
open HT
def wB:∀a:List Int,lexLt a a=false:=fun a=>by
 induction a with
 |nil=>rfl
 |cons i r ih=>rw [gY,ä rfl];exact ih
def Oy:∀a b c:List Int,lexLt a b=true->lexLt b c=true->lexLt a c=true:=fun a=>by
 induction a with
 |nil =>
  intro b c h g
  cases b with
  |nil=>cases h
  |cons j s=>cases c with
   |nil=>cases g
   |cons k t=>rfl
 |cons i r ih =>
  intro b c h g
  cases b with
  |nil=>cases h
  |cons j s =>
   cases c with
   |nil=>cases g
   |cons k t =>
    rw [gY] at h g |-;by_cases e1:i=j
    ·subst e1
     rw [ä rfl] at h;by_cases e2:i=k
     ·rw [ä e2] at g |-;exact ih s t h g
     ·rw [í e2] at g |-;exact g
    ·rw [í e1] at h
     have h:=ă h;by_cases e2:j=k
     ·subst e2
      rw [í e1];exact Þ h
     ·rw [í e2] at g
      have g:=ă g;rw [í (by omega)];exact Þ (by omega)
def MV:∀a b:List Int,lexLt a b=false->lexLt b a=false->a=b:=fun a=>by
 induction a with
 |nil =>
  intro b h g
  cases b with
  |nil=>rfl
  |cons j s=>cases h
 |cons i r ih =>
  intro b h g
  cases b with
  |nil=>cases g
  |cons j s =>
   rw [gY] at h g;by_cases e:i=j
   ·subst e
    rw [ä rfl] at h g;rw [ih s h g]
   ·rw [í e] at h
    rw [í (Ÿ e)] at g;have h:=of_decide_eq_false h;have g:=of_decide_eq_false g;omega
section
variable {prog:ß} {w:ú} {A:æ} {E:Ä->Ã->Prop} {s:Ã}
inductive lI (h:ħ):List Ä->List (List Int)->Prop where
 |nil:lI h [] []
 |cons {a:Ø} {its:Array Ä} {ns:List Int} {us:List Ä} {ij:List (List Int)}:IsTup h a its->Vz its.toList ns->lI h us ij->lI h (.ref a::us) (ns::ij)
def lI.keep (k:∀c o,h.get? c=some o->h'.get? c=some o) (t:lI h us ij):lI h' us ij:=by
 induction t with
 |nil=>exact .nil
 |cons a b _ ih =>
  obtain ⟨o,Z,r⟩:=a;exact .cons ⟨o,k _ _ Z,r⟩ b ih
theorem lI.at (t:lI h us ij):∀i,i<us.length->∃a its,us.getD i Value.none=.ref a/\IsTup h a its/\Vz its.toList (ij.getD i []):=by
 induction t with
 |nil=>intro i hi;simp at hi
 |cons a b _ ih =>
  intro i hi
  cases i with
  |zero=>exact ⟨_,_,rfl,a,b⟩
  |succ i =>
   obtain ⟨c,its,e,r⟩:=ih i (by simpa using hi);exact ⟨c,its,by simpa using e,r⟩
inductive rB:List (Option Ä)->List (List Int)->Prop where
 |nil:rB [] []
 |ao {fs:List (Option Ä)} {ij:List (List Int)}:rB fs ij->rB (none::fs) ([]::ij)
 |one {fs:List (Option Ä)} {ij:List (List Int)} {n:Int} {t:Tok} {r:List Int}:rB fs ij->rB (some (.int n t)::fs) ((n::r)::ij)
noncomputable def ins {α:Type} (O:Ord α) (a:α):List α->List α
 | []=>[a]
 |b::r=>if O.lt b a=true then b::ins O a r else a::b::r
def jx {α:Type} (O:Ord α):List α->List α
 | []=>[]
 |a::r=>ins O a (jx O r)
end
section
variable {α:Type} {O:Ord α}
def Ci (a:α) (l:List α):(ins O a l).Perm (a::l):=by
 induction l with
 |nil=>exact .refl _
 |cons b r ih =>
  unfold ins;split
  ·exact (List.Perm.cons b ih).trans (List.Perm.swap a b r)
  ·exact .refl _
def vt (l:List α):(jx O l).Perm l:=by
 induction l with
 |nil=>exact .refl _
 |cons a r ih=>exact (Ci a _).trans (ih.cons a)
def Oz (a:α) (l:List α) (h:l.Pairwise O.le):(ins O a l).Pairwise O.le:=by
 induction l with
 |nil=>exact List.pairwise_singleton _ _
 |cons b r ih =>
  obtain ⟨X,W⟩:=ü.mp h;unfold ins
  split<;>rename_i Z
  ·refine ü.mpr ⟨fun c Y=>?_,ih W⟩
   rcases Ð.mp ((Ci a r).mem_iff.mp Y) with e|e
   ·rw [e];exact Ord.le_of_lt Z
   ·exact X c e
  ·have Z:O.le a b:=by rw [ι] at Z;exact Z
   refine ü.mpr ⟨fun c Y=>?_,h⟩
   rcases Ð.mp Y with e|e
   ·rw [e];exact Z
   ·exact Ord.nV Z (X c e)
def LA (l:List α):(jx O l).Pairwise O.le:=by
 induction l with
 |nil=>exact .nil
 |cons a r ih=>exact Oz a _ ih
def Ke:∀{l m:List α},l.Perm m->l.Pairwise O.le->m.Pairwise O.le->l=m:=by
 intro l
 induction l with
 |nil=>intro m h _ _;exact h.nil_eq
 |cons a r ih =>
  intro m h Z Y
  cases m with
  |nil=>exact absurd h.length_eq (by simp)
  |cons b t =>
   obtain ⟨a1,a2⟩:=ü.mp Z;obtain ⟨X,W⟩:=ü.mp Y;have e:a=b:=by
    rcases Ð.mp (h.mem_iff.mp Ö) with e|e
    ·exact e
    ·rcases Ð.mp (h.mem_iff.mpr Ö) with e'|e'
     ·exact e'.symm
     ·exact Ord.Ff (a1 b e') (X a e)
   subst e;rw [ih h.cons_inv a2 W]
def Kf (hp:Pm xs.length q) (hu:Up O (ky (fun i=>xs.getD i d) q) xs.length):q.toList.map (fun i=>xs.getD i d)=jx O xs:=by
 refine Ke ?_ ?_ (LA xs)
 ·refine (hp.2.map _).trans ?_
  have:(Ă xs.length).map (fun i=>xs.getD i d)=xs:=by
   apply ų;intro i;by_cases hi:i<xs.length
   ·simp [hi]
   ·simp [hi,ŝ hi]
  rw [this];exact (vt xs).symm
 ·rw [List.pairwise_iff_getElem]
  intro i j hi W Z;have V:(q.toList.map fun i=>xs.getD i d).length=xs.length:=by rw [Ì,î,hp.1]
  have Y:j<q.size:=by rw [hp.1];omega
  have X:i<q.size:=by omega
  have:=hu i j Z (by omega);unfold ky at this;simpa [WJ,X,Y] using this
end
end ST
namespace DI
open PySem L2
section
variable {X:Cx} {Ξ:Wd->aW->Prop} {a e tg:Ğ} {p pos:Pos} {f:WR D} {fa:WR (List D)}
end
end DI
namespace L2
open PySem PySem.Spec PyProof.Rows
structure D9 (sc:ŷ) (cl fg:List (Str×Ø)) (C:Nat) (h:ħ):Prop where
 old:∀n c,fg.lookup n=some c->(C<c/\(n,NameKind.cell)∈sc.names/\∃v,h.IsCell c v)\/cl.lookup n=some c
 own:∀n,sc.names.lookup n=some .cell\/(cl.lookup n).isSome=true->∃c,fg.lookup n=some c
 inj:(∀x y c,cl.lookup x=some c->cl.lookup y=some c->x=y)->(∀x c,cl.lookup x=some c->c<C)->∀x y c,fg.lookup x=some c->fg.lookup y=some c->x=y
theorem vz:∀(names:List (Str×Ŕ)) (n:Nat) (acc:List (Str×Ø)),(Ż n names acc).lookup x=some c->((x,NameKind.cell)∈names/\n<=c)\/acc.lookup x=some c
 | [],n,acc,h=>.inr h
 |(y,k)::r,n,acc,h=>by
  unfold Ż at h;split at h
  ·rename_i Z
   have Z:k=.cell:=by simpa using Z
   subst Z
   rcases vz r (n+1) _ h with ⟨h1,Y⟩|h1
   ·exact .inl ⟨Õ _ h1,by omega⟩
   ·rw [Ė] at h1
    split at h1
    ·rename_i e
     have e:x=y:=by simpa using e
     subst e;cases h1;exact .inl ⟨Ö,WV _⟩
    ·exact .inr h1
  ·rcases vz r n acc h with ⟨h1,Y⟩|h1
   ·exact .inl ⟨Õ _ h1,Y⟩
   ·exact .inr h1
theorem vA:∀(names:List (Str×Ŕ)) (n:Nat) (acc:List (Str×Ø)),(∀x y c,acc.lookup x=some c->acc.lookup y=some c->x=y)->(∀x c,acc.lookup x=some c->c<n)->∀x y c,(Ż n names acc).lookup x=some c->(Ż n names acc).lookup y=some c->x=y
 | [],n,acc,hi,X=>hi
 |(z,k)::r,n,acc,hi,X=>by
  unfold Ż;split
  ·refine vA r (n+1) _ (fun x y c Z Y=>?_) fun x c Z=>?_
   ·rw [Ė] at Z Y
    split at Z
    ·rename_i e1
     split at Y
     ·rename_i e2
      exact (by simpa using e1:x=z).trans (by simpa using e2:y=z).symm
     ·cases Z
      exact absurd (X y _ Y) (è _)
    ·split at Y
     ·cases Y
      exact absurd (X x _ Z) (è _)
     ·exact hi x y c Z Y
   ·rw [Ė] at Z
    split at Z
    ·cases Z;exact ō _
    ·exact Ĉ (X x c Z)
  ·exact vA r n acc hi X
theorem vQ {lo:Nat}:∀(names:List (Str×Ŕ)) (h:ħ) (acc:List (Str×Ø)),lo<=h.objs.size->(∀x c,acc.lookup x=some c->lo<=c->h.IsCell c none)->(Ż h.objs.size names acc).lookup x=some c->lo<=c->(pushCells h names).IsCell c none
 | [],h,acc,_,Z,e,Y=>Z x c e Y
 |(z,k)::r,h,acc,V,Z,e,Y=>by
  unfold Ż at e;unfold pushCells;split at e
  ·rename_i W
   rw [ä W];have U:(h.push { cls:=.type "cell",data:=.cell none }).objs.size=h.objs.size+1:=ó ..;refine vQ (lo:=lo) r _ ((z,h.objs.size)::acc) (by omega) (fun y d X T=>?_) (by rw [U];exact e) Y;rw [Ė] at X;split at X
   ·cases X
    exact ⟨_,Ï _ rfl,rfl⟩
   ·exact (Z y d X T).keeps fun b o q=>Á _ q
  ·rename_i W
   rw [í W];exact vQ r h acc V Z e Y
def HK {E:Ä->Ã->Prop} {Q:Env->Ã->Prop}
 (hQ:∀fg h3,((∀x c,cl.lookup x=some c->c<s.heap.objs.size)->D9 scope cl fg s.heap.objs.size h3)->h3.Ns s.heap.objs.size (fun _=>none)->(∀b o,s.heap.get? b=some o->h3.get? b=some o)->Q (newEnv scope s.heap.objs.size globals fg qual none .none (some env) bi) { s with heap:=h3 }) :
  Ù M A (newFunctionEnv scope globals cl [] qual none .none (some env) bi) Q E s:=by
 simp only [newFunctionEnv,Option.isSome_some,Ċ];refine À (wpAny_alloc ?_)
 refine À (wpAny_layCells _ (fun name kind cells=>by cases Z:kind==NameKind.cell<;>simp [Z]) _ _ _ _ ?_)
 rw [show ({ s with heap:=s.heap.push { cls:=.type "dict",data:=.dict #[] } }:Ã).heap.objs.size=s.heap.objs.size+1 from ó ..]
 simp only [List.forIn_nil];refine À (Â (Â ?_));have Y:(s.heap.push { cls:=.type "dict",data:=.dict #[] }).objs.size=s.heap.objs.size+1:=ó ..;refine hQ (Ż (s.heap.objs.size+1) scope.names cl) _ (fun X=>⟨fun n c e=>?_,fun n W=>?_,fun hi V=>vA _ _ _ hi fun x c e=>Ĉ (V x c e)⟩) ((Heap.Ns.new s.heap (.type "dict")).keeps (pushCells_keeps _ _)) fun b o e=>pushCells_keeps _ _ b o (Á _ e)
 ·rcases vz _ _ _ e with ⟨h1,U⟩|h1
  ·exact .inl ⟨by omega,h1,none,vQ (lo:=s.heap.objs.size+1) scope.names _ cl (by omega) (fun x d q T=>absurd (X x d q) (Nat.not_lt.mpr (Nat.le_of_succ_le T))) (by rw [Y];exact e) U⟩
  ·exact .inr h1
 ·exact Option.isSome_iff_exists.mp (Ť scope.names _ cl W)
abbrev fV (X:Cx) (N:List Str) (sc:ŷ) (cl:List (Str×Ø)) (C:Ø) (s:Ã) (H:Hp) (ex:List Ø) (pn:List (Ø×Obj)):Cx:={ cR X N sc cl C s H ex pn with fn:=fun x=>sc.names.lookup x==some .cell }
structure pT (X:Cx) (sc:ŷ) (N:List Str) (nt:Nat) (cap:List Nat):Prop where
 kind:sc.kind=.function
 names:∀x∈sc.names,x.2=.local->sc.names.lookup x.1=some .local
 cells:∀x∈sc.names,x.2=.cell->sc.names.lookup x.1=some .cell
 frees:∀x∈sc.names,x.2=.free->sc.names.lookup x.1=some .free/\(X.env.scope.names.lookup x.1=some .cell\/X.env.scope.names.lookup x.1=some .free)
 len:N.length=nt+cap.length
 yw:∀(k:Nat) j,cap[k]?=some j->∃x,X.N[j]?=some x/\N[nt+k]?=some x/\(x,ã)∈sc.names
section
variable {X:Cx} {sc:ŷ} {N:List Str} {nt:Nat} {cap:List Nat} {cl fg:List (Str×Ø)} {s:Ã} {h1:ħ} {H:Hp} {σ:St} {π:List (Ø×Obj)} {fp:List Ø} {C:Ø} {t':Nat}
def Inv.OA (I:Inv X π σ H s) (S:pT X sc N nt cap) (ck:∀n c,cl.lookup n=some c↔((n,ã)∈sc.names/\X.env.cells.lookup n=some c)) (fB:D9 sc cl fg C h1) (hf:∀b∈fp,dM X π H b) (dW:∀b∈fp,b<s.heap.objs.size)
  (hk:∀b o,s.heap.get? b=some o->h1.get? b=some o) (hC:s.heap.objs.size<=C) (lP:∃m,h1.Ns C m):Inv (fV X N sc fg C s H fp (X.pn++π)) [] (jf nt cap σ) H { s with heap:=h1,toks:=t' }:=by
 have O:∀b∈bM X.stack,b∈X.env.locals::X.fs:=I.iz;have J:∀x c,cl.lookup x=some c->c<s.heap.objs.size:=fun x c e=>by
  obtain ⟨v,o,V,_⟩:=I.cell x c ((ck x c).mp e).2;exact Ç V
 have G:∀x,(relabel sc X.env).names.lookup x=some .cell\/(relabel sc X.env).names.lookup x=some .free->(x,ã)∈sc.names\/sc.names.lookup x=some .cell:=fun x Z=>by
  rw [rP] at Z
  cases e:sc.names.lookup x with
  |none=>rw [e] at Z;rcases Z with z|z<;>cases z
  |some k =>
   have hm:(x,k)∈sc.names:=by
    obtain ⟨l1,l2,e1,_⟩:=List.lookup_eq_some_iff.mp e;rw [e1];simp
   rw [e] at Z
   cases k with
   |free=>exact .inl hm
   |cell=>exact .inr rfl
   |_=>exfalso;revert Z;simp
 have F:∀x,(x,ã)∈sc.names->∃c,X.env.cells.lookup x=some c:=fun x Z=>I.ok.has x (S.frees _ Z rfl).2;have M:∀x c,(x,ã)∈sc.names->X.env.cells.lookup x=some c->fg.lookup x=some c:=fun x c Z R=>by
  have e:=(ck x c).mpr ⟨Z,R⟩;obtain ⟨d,hd⟩:=fB.own x (.inr (by rw [e];rfl))
  rcases fB.old x d hd with ⟨_,q,_⟩|q
  ·have T:=S.cells _ q rfl
   have W:=(S.frees _ Z rfl).1;dsimp only at T W;rw [T] at W;cases W
  ·rw [e] at q
   cases q;exact hd
 have ok:Cx.Ok (fV X N sc fg C s H fp (X.pn++π)):=by
  refine ⟨I.ok.mod,?_,I.ok.glob,I.ok.blt,hC,?_,?_,?_,I.ok.hd,I.ok.frames,.inl rfl,?_,I.bs,á I.ok.gv I.sz,?_,?_,I.stack,I.pw⟩
  ·exact S.kind
  ·exact fB.inj (fun x y c Z E=>I.ok.inj x y c ((ck x c).mp Z).2 ((ck y c).mp E).2) fun x c e=>Å (J x c e) hC
  ·intro x Z
   rcases G x Z with hm|hm
   ·obtain ⟨c,e⟩:=F x hm
    exact ⟨c,M x c hm e⟩
   ·exact fB.own x (.inl hm)
  ·intro x c Z e
   rcases fB.old x c e with ⟨q,_,_⟩|q
   ·exact á hC (Nat.le_of_lt q)
   ·have W:=(S.frees _ ((ck x c).mp q).1 rfl).1
    have T:sc.names.lookup x=some .cell:=by simpa using Z
    dsimp only at W;rw [T] at W;cases W
  ·intro b Y
   refine ⟨Û (Å (dW b Y) hC),fun x c e=>?_⟩
   rcases fB.old x c e with ⟨q,_,_⟩|q
   ·exact Ľ (Å (dW b Y) (á hC (Nat.le_of_lt q)))
   ·exact (hf b Y).2.2.2.2.1 x c ((ck x c).mp q).2
  ·intro b o e Y
   rcases (hf b Y).2.2.2.1 with z|z
   ·exact I.ok.lD b o e z
   ·exact absurd (Å (Ç e) (á I.ok.gv z)) (è _)
  ·intro b Y z
   rcases Ð.mp (O b z) with e|e
   ·exact (hf b Y).2.1 e
   ·exact (hf b Y).2.2.1 e
 obtain ⟨m,hm⟩:=lP;obtain ⟨mX,Sh,D⟩:=I.loc;refine ⟨ok,rfl,I.bare,Un.kept hk,⟨m,hm,fun i x v e1 e2 e3=>?_⟩,fun x c e=>?_,I.aD.fresh hC,fun x c e=>?_,fun p B=>?_,I.aD.kept hk,?_⟩
 ·
  have hi:nt<=i:=by
   apply ŝ;intro L;have:(jf nt cap σ)[i]?=some none:=by
    unfold jf;rw [Ú (by simpa using L),ğ,ä L]
   rw [this] at e2;cases e2
  have U:(cap.map fun j=>(σ[j]?).getD none)[i-nt]?=some (some v):=by
   have e:=e2;unfold jf at e;rw [ô (by simpa using hi)] at e;simpa using e
  rw [ç] at U
  cases Q:cap[i-nt]? with
  |none=>rw [Q] at U;cases U
  |some j =>
   rw [Q] at U;have ev:(σ[j]?).getD none=some v:=WW U;have A:σ[j]?=some (some v):=by
    cases q:σ[j]? with
    |none=>rw [q] at ev;cases ev
    |some z=>rw [q] at ev;exact ĺ some ev
   obtain ⟨y,f1,f2,K⟩:=S.yw _ _ Q;rw [Nat.add_sub_cancel' hi] at f2;have w:y=x:=WW (f2.symm.trans e1);subst w;obtain ⟨g1,g2⟩:=S.frees _ K rfl;have t:mR X.env.scope y:=.inr g2;obtain ⟨u,r,l⟩:=D j y v f1 A t;refine ⟨u,r,.inr ⟨?_,?_⟩⟩
   ·show (relabel sc X.env).names.lookup y=some .cell\/(relabel sc X.env).names.lookup y=some .free
    rw [rP,g1];simp only [VD];split
    ·exact .inl rfl
    ·exact .inr rfl
   ·rcases l with ⟨k,_⟩ | ⟨_,c,R,h⟩
    ·exfalso
     have g:X.env.scope.names.lookup y=some .local:=k;dsimp only at g2;rw [g] at g2
     rcases g2 with z|z<;>cases z
    ·obtain ⟨P,V,hd⟩:=h
     exact ⟨c,M y c K R,P,hk _ _ V,hd⟩
 ·rcases fB.old x c e with ⟨_,_,q⟩|q
  ·exact q
  ·obtain ⟨v,P,V,hd⟩:=I.cell x c ((ck x c).mp q).2
   exact ⟨v,P,hk _ _ V,hd⟩
 ·rcases fB.old x c e with ⟨q,_,_⟩|q
  ·exact I.aD.fresh (by omega)
  ·exact I.gG x c ((ck x c).mp q).2
 ·have f:p∈X.pn++π:=by simpa using B
  obtain ⟨e,n,ne,a,d⟩:=I.pin p f;refine ⟨hk _ _ e,n,Û (Å (Ç e) hC),fun z=>?_,d⟩
  rcases Ð.mp (O p.1 z) with q|q
  ·exact ne q
  ·exact a q
 ·unfold jf
  rw [Ý,ū,Ì];exact S.len.symm
end
structure Fh (P:ß) (w:ú) (E el tg src:Ğ) (tests:List Ğ) (new:Sem Ä) (ap:String) (mk:Ø->List V->HO) (iV:List V->Prop) where
 o0:Obj
 live:o0.isFreed=false
 Ac:Ø->List V->ħ->Prop
 clauses:clausesOf E=[⟨tg,src,tests,0⟩]
 turns:∀{A:æ} {R:Result->Ã->Prop} {s:Ã} {fe av:Ä} {ce:Env} (J:Nat->Ã->Prop)
  (turn:∀n s,J n s->Ù (à P w) A (υ fe) (fun r s1=>match r with
   |none=>R (.ok .next) s1
   |some v=>Ù (à P w) A (ł tg fe v) (fun _ s2=>Ù (à P w) A (WO tg ce v) (fun _ s3 =>
     Ù (à P w) A (forIn tests true fun c r=>if r=true then do let ok <- isTrue c ce (ļ c ce);pure (Ī ok) else pure (Ī r)) (fun ok s4 =>
      if ok=true then Ù (à P w) A (ļ el ce) (fun y s5=>Ù (à P w) A (call (.builtin ap) [av,y]) (fun _ s6=>∃m,m<n/\J m s6) (fun _ _=>False) s5) (fun _ _=>False) s4
      else ∃m,m<n/\J m s4) (fun _ _=>False) s3) (fun _ _=>False) s2) (fun _ _=>False) s1) (fun _ _=>False) s)
  (n:Nat) (_:J n s),ũ (à P w) A (.compLoop E 0 fe av ce) R s
 new:∀{A:æ} {X:Ä->Ã->Prop} {s:Ã} {Q:Ä->Ã->Prop},Q (.ref s.heap.objs.size) { s with heap:=s.heap.push o0 }->Ù (à P w) A new Q X s
 start:∀{A:æ} {R:Result->Ã->Prop} {s:Ã} {it acc:Ä} {env:Env},ũ (à P w) A (.compLoop E 0 it acc env) R s->Ù (à P w) A (pyIter it) (fun jU s'=>ũ (à P w) A (.compLoop E 0 jU acc env) R s') (notedBy (à P w) A env fun x s'=>R (.error x) s') s->ũ (à P w) A (.compStart E 0 it acc env) R s
 init:∀{D:Ø} {h:ħ},h.get? D=some o0->Ac D [] h
 obj:∀{D:Ø} {acc:List V} {h:ħ},Ac D acc h->∃o,h.get? D=some o/\∀v,o.data≠.cell v
 cV:∀{D:Ø} {acc:List V} {h h':ħ},Ac D acc h->(∀o,h.get? D=some o->h'.get? D=some o)->Ac D acc h'
 Ea:∀{D:Ø} {acc:List V} {h:ħ} {H:Hp},iV acc->Ac D acc h->cJ P w (upd H D (mk D acc)) h D (mk D acc)
 add:∀{A:æ} {s:Ã} {D:Ø} {acc:List V} {v:V} {y:Ä} {Q:Ä->Ã->Prop},Ac D acc s.heap->RelV v y->iV acc->iV (acc++[v])->(∀h' tk,Į D s.heap h'->Ac D (acc++[v]) h'->Q .none { s with heap:=h',toks:=tk })->Ù (à P w) A (call (.builtin ap) [.ref D,y]) Q (fun _ _=>False) s
section
variable {X:Cx}
def Ju {E el tg src:Ğ} {tests:List Ğ} {sc:ŷ} {N:List Str} {nt:Nat} {cap:List Nat} {wi:TI} {g:TG} {tf:TT} {te:TE} {p1:Pos} {use:Option (Ä->Sem Unit)} {R:Ä->Ã->Prop} {π:List (Ø×Obj)} {s:Ã} {σ:St} {H:Hp} {Q:VK} {new:Sem Ä} {ap:String} {mk:Ø->List V->HO} {iV:List V->Prop} (B:Fh X.prog X.w E el tg src tests new ap mk iV) (hc:X.calm=true) (S:pT X sc N nt cap) (fU:lO g nt) (hi:PI X tg src wi)
  (hY:∀(cl:List (Str×Ø)) (C:Ø) (s:Ã) (H:Hp) (ex:List Ø) (pn:List (Ø×Obj)),PG (fV X N sc cl C s H ex pn) tg g/\PF (fV X N sc cl C s H ex pn) tests tf/\PE (fV X N sc cl C s H ex pn) el te)
  (hs:∀x,û src X.env x=pure x) (I:Inv X π σ H s) (h:wi σ H fun J H1=>GA mk iV J nt (kg cap σ) g tf te H1 Q)
  (yE:∀(s':Ã) (H1:Hp) (D C:Ø) (m:Str->Option Ä),(∀h',Į C s'.heap h'->Inv X π σ H1 { s' with heap:=h' })->s'.heap.Ns C m->H1 C=none->C≠X.env.locals->C∉X.fs->X.cf.heap.objs.size<=C->(∀x c,X.env.cells.lookup x=some c->c≠C)->(∀p∈X.pn++π,p.1≠C)->Q (.ref D) H1->compPost (à X.prog X.w) X.A X.xe use R (.ref D) C (.ok .next) s') :
  Ù (à X.prog X.w) X.A (comprehension E sc X.env p1 new false (ļ src X.env) use) R X.xe s:=by
 obtain ⟨cl,xO,ck⟩:=DK (env:=X.env) (sc:=sc) fun n hn=>I.ok.has n (S.frees _ hn rfl).2;refine wpAny_comprehension_free (use:=use) B.clauses hs xO S.kind S.names (aH (hi π s σ H _ I h) fun xv s1 h1=>aH h1 fun fe k h2=>?_);obtain ⟨it,t,tn,J,H2,e,M,T,fy,f2,W,⟨m0,w0⟩,turn⟩:=h2;subst e;refine B.new (HK fun fg h3 j iP kJ=>?_);dsimp only at j iP kJ |-;generalize hD:k.heap.objs.size=D at j iP kJ |-;generalize hG:k.heap.push B.o0=G at j iP kJ |-;generalize zL:G.objs.size=C at j iP kJ |-;have hC:C=D+1:=by rw [<- zL,<- hG,ó,hD]
 have nj:D≠C:=by omega
 have d:k.heap.objs.size<=D:=Nat.le_of_eq hD;have l:k.heap.objs.size<=C:=by omega
 have old:∀b o,k.heap.get? b=some o->h3.get? b=some o:=fun b o e=>kJ b o (hG ▸ Á _ e);have n9:B.Ac D [] h3:=B.init (kJ _ _ (hG ▸ hD ▸ Ï _ B.live));have dW:∀b∈t,b<k.heap.objs.size:=fun b P=>by
  obtain ⟨o,e,_⟩:=T.obj _ _ fy b P;exact Ç e
 have j:=j fun x c e=>by
  obtain ⟨v,o,ho,_⟩:=M.cell x c ((ck x c).mp e).2;exact Å (Ç ho) l
 have IB:=M.OA (t':=k.toks) S ck j f2 dW old l ⟨_,iP⟩;have zM:D∉bM X.stack:=fun z=>by
  rcases Ð.mp (M.iz D z) with e|e
  ·exact absurd (Å M.lt d) (by rw [e];exact è _)
  ·exact M.ql d e
 have kO:D∉t:=fun z=>absurd (Å (dW D z) d) (è _);have wX:∀x c,fg.lookup x=some c->c≠D:=fun x c e z=>by
  rcases j.old x c e with ⟨q,_,_⟩|e
  ·rw [z] at q
   exact absurd q (by rw [hC];exact Nat.not_lt.mpr (Ws D))
  ·obtain ⟨v,o,ho,_⟩:=M.cell x c ((ck x c).mp e).2
   exact absurd (Å (Ç ho) (by rw [z];exact d)) (è _)
 have xP:∀p∈X.pn++π,p.1≠D:=fun p L z=>absurd (Å (Ç (M.pin p L).1) (by rw [z];exact d)) (è _);generalize O:fV X N sc fg C k H2 t (X.pn++π)=Y at IB;have kP:∀{U:Hp} {pl:List (Ø×Obj)},(∀b∈t,U b=none)->(∀p∈pl,p.1∉t)->∀b∈t,dM Y pl U b:=fun {U pl} hn L b P=>by
  subst O;obtain ⟨_,f1,nh,f3,f4,f5⟩:=f2 b P;refine ⟨hn b P,Û (Å (dW b P) l),fun z=>?_,.inl P,fun x c e=>(j.old x c e).elim (fun q z=>Ľ (Å (dW b P) (á l (Nat.le_of_lt q.1))) z) fun e=>f4 x c ((ck x c).mp e).2,fun p rq=>?_⟩
  ·rcases Ð.mp (M.iz b z) with e|e
   ·exact f1 e
   ·exact nh e
  ·rcases ð.mp rq with z|z
   ·exact f5 p z
   ·exact fun e=>L p z (e ▸ P)
 have zN:PG Y tg g:=by subst O;exact (hY _ _ _ _ _ _).1
 have zO:PF Y tests tf:=by subst O;exact (hY _ _ _ _ _ _).2.1
 have Tc:PE Y el te:=by subst O;exact (hY _ _ _ _ _ _).2.2
 have eP:Y.prog=X.prog:=by subst O;rfl
 have eW:Y.w=X.w:=by subst O;rfl
 have eA:Y.A=X.A:=by subst O;rfl
 have eK:Y.K=X.K:=by subst O;rfl
 have eE:Y.env=compEnvC sc fg C X.env:=by subst O;rfl
 have eX:Y.xe=fun _ _=>False:=by subst O;rfl
 have eC:Y.calm=true:=by subst O;exact hc
 have eS:Y.cf.heap.objs.size<=D:=by subst O;exact d
 have eF:D∉Y.fs:=by subst O;exact zM
 have eL:D≠Y.env.locals:=by subst O;exact nj
 have Td:∀x c,Y.env.cells.lookup x=some c->c≠D:=by subst O;exact wX
 have eN:∀p∈Y.pn,p.1≠D:=by subst O;exact xP
 have fin:∀(s':Ã) (a:St) (U:Hp) (Z:List V),Inv Y [] a U s'->B.Ac D Z s'.heap->U D=none->iV Z->(∀D,U D=none->Q (.ref D) (upd U D (mk D Z))) ->
   compPost (à X.prog X.w) X.A X.xe use R (.ref D) C (.ok .next) s':=by
  intro s' a U Z F pl hn hz q;subst O;obtain ⟨m,hm,_⟩:=id F.loc;refine yE s' (upd U D (mk D Z)) D C m (fun h' sb=>?_) hm ?_ (fun z=>absurd (Å M.lt l) (by rw [z];exact è _)) (M.ql l) (á M.sz l) (fun x c e z=>?_) (fun p L z=>absurd (Å (Ç (M.pin p L).1) (by rw [z];exact l)) (è _)) (q D hn)
  ·have yJ:bR X.prog X.w U h':=F.aD.but F.free sb
   have u:=(F.base.but l sb).adopt (o:=mk D Z) d hn
   refine M.pY (s':={ s' with heap:=h' }) (ch:=t) F.os u (yJ.adopt hn (B.Ea hz (B.cV pl fun o e=>(sb.2 D nj).trans e))) F.bare (fun b P=>?_)
   obtain ⟨_,f1,_,f3,f4,f5⟩:=f2 b P;exact ⟨f3,f1,f4,f5⟩
  ·rw [aT (Ÿ nj)]
   exact F.free
  ·obtain ⟨v,o,fz,_⟩:=M.cell x c e
   exact absurd (Å (Ç fz) (by rw [z];exact l)) (è _)
 have loop:ũ (à X.prog X.w) X.A (.compLoop E 0 (.ref it) (.ref D) (compEnvC sc fg C X.env)) (compPost (à X.prog X.w) X.A X.xe use R (.ref D) C)
   { k with heap:=h3 }:=by
  refine B.turns (fun n s'=>∃i Z o U,Inv Y [] (o++kg cap σ) U s'/\o.length=nt/\tn i s'.heap/\(∀b∈t,U b=none)/\B.Ac D Z s'.heap/\U D=none/\W i n Z U) ?_ m0
   ⟨0,[],Î nt none,H2,IB,by simp,T.keep _ _ _ fy fun b _ o e=>old b o e,fun b P=>(f2 b P).1,n9,M.aD.fresh d,w0⟩
  rintro n s3 ⟨i,Z,o3,H3,I3,GW,jM,lL,GX,Te,w3⟩;generalize Tf:o3++kg cap σ=a at I3;obtain ⟨f,ho,Qa⟩:=B.obj GX;have rz:Inv Y [(D,f)] a H3 s3:=I3.l8 fun p L=>by
   have e:p=(D,f):=by simpa using L
   subst e;exact ⟨ho,Te,eL,eF,Qa⟩
  have ni:∀p∈[(D,f)],p.1∉t:=fun p L=>by
   have e:p=(D,f):=by simpa using L
   subst e;exact kO
  have oM:∀{pl:List (Ø×Obj)} {cx:St} {U:Hp} {s':Ã},Inv Y ([(D,f)]++pl) cx U s'->B.Ac D Z s'.heap/\U D=none:=fun {pl cx U s'} F=>by
   have q:=F.pin (D,f) (Í _ (ö _ (by simp)));exact ⟨B.cV GX fun o e=>by rw [ho] at e;cases e;exact q.1,q.2.1⟩
  rcases turn i n Z H3 w3 with ⟨stop,hz,q⟩ | ⟨go,hz,N',hN,step⟩
  ·have hd:=T.done Y eP eW eK eC i [(D,f)] s3 a H3 (fun _ _=>False) rz (kP lL ni) jM stop
   rw [eA] at hd;refine aH hd fun r s4 h4=>?_;obtain ⟨hr,I4⟩:=h4;subst hr;obtain ⟨zI,n4⟩:=oM (pl:=[]) (by simpa using I4);exact fin s4 a H3 Z (Inv.j6 (π:=[]) I4) zI n4 hz q
  ·have hd:=T.item Y eP eW eK eC i [(D,f)] s3 a H3 (fun _ _=>False) rz (kP lL ni) jM go
   rw [eA] at hd;refine aH hd fun r s4 h4=>?_;obtain ⟨u,hr,h4⟩:=h4;subst hr;refine aH h4 fun _ s5 h5=>?_;obtain ⟨x,H5,I5,r5,y5,gy,qM⟩:=h5;have qN:=I5.pinned (kP qM ni) (T.obj _ _ gy);have q5:=zN _ s5 a H5 x u _ qN r5 (Tf ▸ fU x o3 _ H5 _ GW (step o3 x H5 GW y5));rw [eP,eW,eA,eE,eX] at q5;refine aH q5 fun _ s6 h6=>?_;obtain ⟨oO,H6,I6,⟨o6,rA,uh⟩,q6⟩:=h6;have q7:=zO _ s6 oO H6 _ I6 q6;rw [eP,eW,eA,eE,eX] at q7;refine aH q7 fun b s7 h7=>?_;obtain ⟨H7,I7,q7⟩:=h7;have qB:∀{cx:St} {U:Hp} {s':Ã},Inv Y ([(D,f)]++k9 t s5.heap) cx U s'->tn (i+1) s'.heap/\∀b∈t,U b=none:=fun {cx U s'} F=>by
    refine ⟨T.keep _ _ _ gy fun b P o e=>(F.pin (b,o) (Í _ (Í _ (nu P e)))).1,fun b P=>?_⟩;obtain ⟨o,e,_⟩:=T.obj _ _ gy b P;exact (F.pin (b,o) (Í _ (Í _ (nu P e)))).2.1
   cases b with
   |false =>
    rw [í Ò] at q7 |-;obtain ⟨m',hm,w7⟩:=hN _ _ q7;obtain ⟨uL,n7⟩:=oM I7;obtain ⟨t7,f7⟩:=qB I7;exact ⟨m',hm,i+1,Z,o6,H7,uh ▸ I7.l8 (fun p L=>by simp at L),rA,t7,f7,uL,n7,w7⟩
   |true =>
    rw [ä rfl] at q7 |-;have q8:=Tc _ s7 oO H7 _ I7 q7;rw [eP,eW,eA,eE,eX] at q8;refine aH q8 fun y s8 h8=>?_;obtain ⟨v,H8,I8,r8,q9⟩:=h8;obtain ⟨m',hm,w8⟩:=hN _ _ q9;obtain ⟨zE,n8⟩:=oM I8;obtain ⟨t8,f8⟩:=qB I8;have dX:iV (Z++[v]):=by
     rcases turn (i+1) m' (Z++[v]) H8 w8 with q|q
     ·exact q.2.1
     ·exact q.2.1
    refine B.add zE r8 hz dX fun h9 Ti uK zF=>?_;have zG:Inv Y [] oO H8 s8:=I8.l8 (fun p L=>by simp at L)
    have I9:Inv Y [] oO H8 { s8 with heap:=h9,toks:=Ti }:=zG.turned (it:=D) (fun b o P e=>(uK.2 b P).trans e) n8 eL (.inr eS) Td (fun p L=>eN p (by simpa using L))
    exact ⟨m',hm,i+1,Z++[v],o6,H8,uh ▸ I9,rA,T.keep _ _ _ t8 fun b P o e=>(uK.2 b (fun z=>kO (z ▸ P))).trans e,f8,zF,n8,w8⟩
 exact B.start loop (T.self _ _ _ _ _ (T.keep _ _ _ fy fun b _ o e=>old b o e) loop)
def RE {P:ß} {w:ú} {el tg src:Ğ} {tests:List Ğ} {sc:ŷ} {ps:Pos}:Fh P w (.ListComp el [⟨tg,src,tests,0⟩] sc ps) el tg src tests (newList []) "list.append" (fun _ acc=>.lst acc) (fun acc=>acc.length<=Ñ) where
 o0:={ cls:=.type "list",dict:=none,data:=.seq ([]:List Ä).toArray }
 live:=rfl
 Ac:=fun D acc h=>∃Z,h.PlainList D Z/\Vals acc Z.toList
 clauses:=rfl
 turns:=Jd
 new:=fun h=>ò h
 start:=codeAny_compStart_list
 init:=fun e=>⟨#[],⟨_,e⟩,.nil⟩
 obj:=fun ⟨_,⟨_,e⟩,_⟩=>⟨_,e,fun _ z=>by cases z⟩
 cV:=fun ⟨Z,⟨n,e⟩,r⟩ k=>⟨Z,⟨n,k _ e⟩,r⟩
 Ea:=fun Y ⟨Z,⟨n,e⟩,r⟩=>⟨Y,Z.toList,n,r,by simpa using e⟩
 add:=fun {A s D acc v y Q} ⟨Z,X,r⟩ W Y _ q=>wpAny_list_append_plain (hsz:=by have e:=r.length;simp only [î] at e;omega) X fun V U T=>q V s.toks T ⟨Z.push y,U,by rw [VS];exact Vals.append r (.cons W .nil)⟩
def LB (hc:X.calm=true) (S:pT X sc N nt cap) (fU:lO g nt) (hi:PI X tg src wi)
 (hY:∀(cl:List (Str×Ø)) (C:Ø) (s:Ã) (H:Hp) (ex:List Ø) (pn:List (Ø×Obj)),PG (fV X N sc cl C s H ex pn) tg g/\PF (fV X N sc cl C s H ex pn) tests tf/\PE (fV X N sc cl C s H ex pn) el te)
 (hs:∀x,û src X.env x=pure x:=by intro _;rfl):PE X (.ListComp el [⟨tg,src,tests,0⟩] sc ps) (pZ wi nt cap g tf te):=by
 intro T s σ H Q I h;rw [eval_ListComp];exact Ju RE (use:=none) hc S fU hi hY hs I h fun R Z D C m Y W _ _ _ _ _ _ q=>⟨m,W,fun V U=>⟨.ref D,Z,Y V U,rfl,q⟩⟩
end
noncomputable def xa (sc:ŷ) (on:List (Str×Ŕ)) (oN N:List Str) (nt:Nat) (cap:List Nat):Bool :=
 decide (sc.kind=.function)&&sc.names.all (fun x=>decide (x.2=.local->sc.names.lookup x.1=some .local))&&sc.names.all (fun x=>decide (x.2=.cell->sc.names.lookup x.1=some .cell)) &&
 sc.names.all (fun x=>decide (x.2=.free->sc.names.lookup x.1=some .free/\(on.lookup x.1=some .cell\/on.lookup x.1=some .free)))&&decide (N.length=nt+cap.length) &&
 (Ă cap.length).all (fun k=>match cap[k]? with
  |some j=>match oN[j]? with
   |some x=>decide (N[nt+k]?=some x)&&decide ((x,ã)∈sc.names)
   |none=>false
  |none=>true)
def Fi (h:xa sc X.env.scope.names X.N N nt cap=true):pT X sc N nt cap:=by
 unfold xa at h;simp only [È,ĝ,Ü] at h;obtain ⟨⟨⟨⟨⟨Z,Y⟩,W⟩,V⟩,U⟩,T⟩:=h;refine ⟨Z,Y,W,fun x S e=>V x S e,U,fun k j e=>?_⟩;have R:k<cap.length:=(Æ.mp e).1;have:=T k (Ĝ.mpr R);rw [e] at this;dsimp only at this
 cases ex:X.N[j]? with
 |none=>rw [ex] at this;cases this
 |some x =>
  rw [ex] at this;simp only [È,Ü] at this;exact ⟨x,rfl,this.1,this.2⟩
end L2
namespace DI
open PySem L2
section
variable {X:Cx} {Ξ:Wd->aW->Prop} {e a b c tg el src:Ğ} {es rest tests:List Ğ} {pos:Pos} {f g h:WR D} {fa:WR (List D)} {ft gt:WR Bool}
def C5 (hc:X.calm=true) (S:pT X sc N nt cap) (T:Tg X.K g0 gd nt) (hi:PI X tg src (dZ X.K Ξ it))
 (hY:∀(cl:List (Str×Ø)) (C:Ø) (s:Ã) (H:Hp) (ex:List Ø) (pn:List (Ø×Obj)),PG (fV X N sc cl C s H ex pn) tg g0/\PF (fV X N sc cl C s H ex pn) tests (tT X.K bQ ft)/\PE (fV X N sc cl C s H ex pn) el (tE X.K bQ f))
 (hs:∀x,û src X.env x=pure x:=by intro _;rfl):PE X (.ListComp el [⟨tg,src,tests,0⟩] sc ps) (tE X.K Ξ (cK nt cap it gd ft f)) :=
 bZ (LB hc S T.kM hi hY hs) fun σ H Q h=>Jq T.imp (fun R Z i h=>Lr R Z i h) (Lo σ H Q h)
end
end DI
namespace L2
open PySem PySem.Spec PyProof.Rows
section
variable {X:Cx} {tg:Ğ}
end
end L2
namespace DI
open PySem L2
section
variable {X:Cx} {Ξ:Wd->aW->Prop} {a b c tg:Ğ} {pos:Pos} {fa:WR (List D)}
end
end DI
namespace L2
open PySem PySem.Spec PyProof.Rows
section
variable {X:Cx}
end
end L2
namespace DI
open PySem L2
section
variable {X:Cx} {Ξ:Wd->aW->Prop} {a:Ğ} {p pos:Pos} {fa:WR (List D)}
end
section
variable {X:Cx} {Ξ:Wd->aW->Prop} {a:Ğ} {p pos:Pos} {f g:WR D} {fa:WR (List D)}
theorem ak.erase:∀{ds:List D} {xs:List V} (j:Nat),ak K w ds xs->ak K w (ds.eraseIdx j) (xs.eraseIdx j)
 | [],xs,j,h=>by
  have e:xs=[]:=h;subst e;exact h
 |d::ds,xs,0,h=>by
  obtain ⟨v,r,rfl,_,dr⟩:=h;exact dr
 |d::ds,xs,j+1,h=>by
  obtain ⟨v,r,rfl,Z,dr⟩:=h;exact ⟨v,r.eraseIdx j,rfl,Z,ak.erase j dr⟩
end
open HT PyProof.Rows
section
variable {X:Cx} {Ξ:Wd->aW->Prop}
def Kg (h:Vals xs us):∀{q:List Nat},(∀i∈q,i<us.length)->Vals (q.map fun i=>xs.getD i .ao) (q.map fun i=>us.getD i Value.none):=by
 intro q
 induction q with
 |nil=>intro _;exact .nil
 |cons i q ih =>
  intro Z;refine .cons ?_ (ih fun j Y=>Z j (Õ _ Y));have hi:=Z i Ö;clear ih Z
  induction h generalizing i with
  |nil=>simp at hi
  |cons a _ ih =>
   cases i with
   |zero=>exact a
   |succ i=>simpa using ih i (by simpa using hi)
def LC {K:č} {w:Wd} {ds:List D} {xs:List V} (h:ak K w ds xs):∀{q:List Nat},(∀i∈q,i<ds.length)->ak K w (q.map fun i=>ds.getD i .ao) (q.map fun i=>xs.getD i .ao):=by
 intro q
 induction q with
 |nil=>intro _;exact rfl
 |cons i q ih =>
  intro Z;have hi:=Z i Ö;obtain ⟨v,e,Y⟩:=h.get' i _ (Ë hi);refine ⟨_,_,rfl,?_,ih fun j X=>Z j (Õ _ X)⟩;have e1:ds.getD i .ao=ds[i]:=by simp [hi]
  have e2:xs.getD i .ao=v:=by simp [e]
  show DV K w (ds.getD i .ao) (xs.getD i .ao);rw [e1,e2];exact Y
def LD {α:Type} {O:ST.Ord α} {ks:List α} {f:α->D} {d:α} {q:Array Nat} (hp:ST.Pm ks.length q) (hu:ST.Up O (ST.ky (fun i=>ks.getD i d) q) ks.length):q.toList.map (fun i=>(ks.map f).getD i .ao)=(ST.jx O ks).map f:=by
 rw [<- ST.Kf hp hu,V6];refine List.map_congr_left fun i hi=>?_;have:i<ks.length:=Ĝ.mp (hp.2.mem_iff.mp hi);simp [this]
end
end DI
namespace TK
open PySem PySem.W PyProof.Rows DI
mutual
noncomputable def kd:D->Bool
 | .int _=>true
 | .str x=>ω x
 | .tup Z=>cS Z
 |_=>false
noncomputable def cS:List D->Bool
 | []=>true
 |k::Z=>kd k&&cS Z
end
mutual
def KA (h:ħ):D->Ä->Prop
 | .int i,v=>∃t,v=.int i t
 | .str x,v=>∃t,v=.str x t
 | .tup Z,v=>∃a o its n,v=.ref a/\h.get? a=some o/\o.cls=.type "tuple"/\o.data=.seq its n/\cy h Z its.toList
 |_,_=>False
def cy (h:ħ):List D->List Ä->Prop
 | [],Z=>Z=[]
 |k::Y,Z=>∃v r,Z=v::r/\KA h k v/\cy h Y r
end
mutual
theorem pU:∀k:D,kd k=true->lay k=true
 | .int _,_=>rfl
 | .str _,h=>h
 | .tup Z,h=>by simp only [kd] at h;simp only [lay];exact sk Z h
 | .ao,h=>by cases h
 | .bl _,h=>by cases h
 | .lst _,h=>by cases h
 | .bq _,h=>by cases h
 | .au _,h=>by cases h
 | .ty _,h=>by cases h
 | .bz _,h=>by cases h
 | .exc _,h=>by cases h
 | .bT _ _ _,h=>by cases h
theorem sk:∀ks:List D,cS ks=true->cu ks=true
 | [],_=>rfl
 |k::ks,h=>by
  simp only [cS,cu,È] at h |-;exact ⟨pU k h.1,sk ks h.2⟩
end
mutual
theorem xb:∀x y:D,kd x=true->kd y=true->(beq x y=true↔x=y)
 | .int i,.int j,_,_=>by simp [beq]
 | .str i,.str j,_,_=>by simp [beq]
 | .tup Z,.tup Y,h,g=>by
  simp only [kd] at h g;simp only [beq,vU Z Y h g];exact ⟨fun e=>by rw [e],fun e=>by injection e⟩
 | .int _,.str _,_,_=>by simp [beq]
 | .int _,.tup _,_,_=>by simp [beq]
 | .str _,.int _,_,_=>by simp [beq]
 | .str _,.tup _,_,_=>by simp [beq]
 | .tup _,.int _,_,_=>by simp [beq]
 | .tup _,.str _,_,_=>by simp [beq]
 | .ao,_,h,_=>by cases h
 | .bl _,_,h,_=>by cases h
 | .lst _,_,h,_=>by cases h
 | .bq _,_,h,_=>by cases h
 | .au _,_,h,_=>by cases h
 | .ty _,_,h,_=>by cases h
 | .bz _,_,h,_=>by cases h
 | .exc _,_,h,_=>by cases h
 | .bT _ _ _,_,h,_=>by cases h
 |_,.ao,_,h=>by cases h
 |_,.bl _,_,h=>by cases h
 |_,.lst _,_,h=>by cases h
 |_,.bq _,_,h=>by cases h
 |_,.au _,_,h=>by cases h
 |_,.ty _,_,h=>by cases h
 |_,.bz _,_,h=>by cases h
 |_,.exc _,_,h=>by cases h
 |_,.bT _ _ _,_,h=>by cases h
theorem vU:∀xs ys:List D,cS xs=true->cS ys=true->(fL xs ys=true↔xs=ys)
 | [],[],_,_=>by simp [fL]
 | [],_::_,_,_=>by simp [fL]
 |_::_,[],_,_=>by simp [fL]
 |x::xs,y::ys,h,g=>by
  simp only [cS,È] at h g;simp only [fL,È,xb x y h.1 g.1,vU xs ys h.2 g.2,VJ]
end
mutual
theorem KA.reads:∀(k:D) (v:Ä),KA h k v->∃as,Reads h v (py k) as
 | .int i,v,q=>by obtain ⟨t,rfl⟩:=q;exact ⟨_,.int i t⟩
 | .str x,v,q=>by obtain ⟨t,rfl⟩:=q;exact ⟨_,.str x t⟩
 | .tup Z,v,q=>by
  simp only [KA] at q;obtain ⟨a,o,its,n,rfl,Y,X,W,r⟩:=q;obtain ⟨as,r⟩:=cy.reads Z _ r;exact ⟨as,.tuple Y X W r⟩
 | .ao,_,q=>by cases q
 | .bl _,_,q=>by cases q
 | .lst _,_,q=>by cases q
 | .bq _,_,q=>by cases q
 | .au _,_,q=>by cases q
 | .ty _,_,q=>by cases q
 | .bz _,_,q=>by cases q
 | .exc _,_,q=>by cases q
 | .bT _ _ _,_,q=>by cases q
theorem cy.reads:∀(ks:List D) (vs:List Ä),cy h ks vs->∃as,ReadsAll h vs (bI ks) as
 | [],vs,q=>by cases q;exact ⟨_,.nil⟩
 |k::ks,vs,q=>by
  obtain ⟨v,r,rfl,Z,Y⟩:=q;obtain ⟨as,Z⟩:=KA.reads k v Z;obtain ⟨bs,Y⟩:=cy.reads ks r Y;exact ⟨_,.cons Z Y⟩
end
def OB (q:KA h y (.int i t)):y=.int i:=by
 cases y with
 |int j=>obtain ⟨_,e⟩:=q;cases e;rfl
 |str j=>obtain ⟨_,e⟩:=q;cases e
 |tup Z=>simp only [KA] at q;obtain ⟨_,_,_,_,e,_⟩:=q;cases e
 |_=>cases q
def OC (q:KA h y (.str i t)):y=.str i:=by
 cases y with
 |str j=>obtain ⟨_,e⟩:=q;cases e;rfl
 |int j=>obtain ⟨_,e⟩:=q;cases e
 |tup Z=>simp only [KA] at q;obtain ⟨_,_,_,_,e,_⟩:=q;cases e
 |_=>cases q
def OD (q:KA h y (.ref a)):∃ks o its n,y=.tup ks/\h.get? a=some o/\o.cls=.type "tuple"/\o.data=.seq its n/\cy h ks its.toList:=by
 cases y with
 |str j=>obtain ⟨_,e⟩:=q;cases e
 |int j=>obtain ⟨_,e⟩:=q;cases e
 |tup ks =>
  simp only [KA] at q;obtain ⟨_,o,its,n,e,r⟩:=q;cases e;exact ⟨ks,o,its,n,rfl,r⟩
 |_=>cases q
mutual
theorem KA.inj:∀(x y:D) (v:Ä),KA h x v->KA h y v->x=y
 | .int i,y,v,p,q=>by
  obtain ⟨t,rfl⟩:=p;exact (OB q).symm
 | .str i,y,v,p,q=>by
  obtain ⟨t,rfl⟩:=p;exact (OC q).symm
 | .tup Y,y,v,p,q=>by
  simp only [KA] at p;obtain ⟨a,o,its,n,rfl,X,S,W,r⟩:=p;obtain ⟨R,Q,Z,P,rfl,V,O,U,T⟩:=OD q;cases X.symm.trans V;cases W.symm.trans U;rw [cy.inj Y _ _ r T]
 | .ao,_,_,q,_=>by cases q
 | .bl _,_,_,q,_=>by cases q
 | .lst _,_,_,q,_=>by cases q
 | .bq _,_,_,q,_=>by cases q
 | .au _,_,_,q,_=>by cases q
 | .ty _,_,_,q,_=>by cases q
 | .bz _,_,_,q,_=>by cases q
 | .exc _,_,_,q,_=>by cases q
 | .bT _ _ _,_,_,q,_=>by cases q
theorem cy.inj:∀(xs ys:List D) (vs:List Ä),cy h xs vs->cy h ys vs->xs=ys
 | [],ys,vs,p,q=>by
  cases p
  cases ys with
  |nil=>rfl
  |cons y ys=>obtain ⟨_,_,e,_⟩:=q;cases e
 |x::xs,ys,vs,p,q=>by
  obtain ⟨v,r,rfl,Z,Y⟩:=p
  cases ys with
  |nil=>cases q
  |cons y ys =>
   obtain ⟨X,W,e,g1,g2⟩:=q;cases e;rw [KA.inj x y v Z g1,cy.inj xs ys r Y g2]
end
mutual
theorem KA.keep (hk:∀a o,h.get? a=some o->o.cls=.type "tuple"->(∃its n,o.data=.seq its n)->h'.get? a=some o):∀(x:D) (v:Ä),KA h x v->KA h' x v
 | .int i,v,p=>p
 | .str i,v,p=>p
 | .tup X,v,p=>by
  simp only [KA] at p |-;obtain ⟨a,o,its,n,e,W,Z,Y,r⟩:=p;exact ⟨a,o,its,n,e,hk a o W Z ⟨its,n,Y⟩,Z,Y,cy.keep hk X _ r⟩
 | .ao,_,q=>by cases q
 | .bl _,_,q=>by cases q
 | .lst _,_,q=>by cases q
 | .bq _,_,q=>by cases q
 | .au _,_,q=>by cases q
 | .ty _,_,q=>by cases q
 | .bz _,_,q=>by cases q
 | .exc _,_,q=>by cases q
 | .bT _ _ _,_,q=>by cases q
theorem cy.keep (hk:∀a o,h.get? a=some o->o.cls=.type "tuple"->(∃its n,o.data=.seq its n)->h'.get? a=some o):∀(xs:List D) (vs:List Ä),cy h xs vs->cy h' xs vs
 | [],vs,p=>p
 |x::xs,vs,p=>by
  obtain ⟨v,r,e,Z,Y⟩:=p;exact ⟨v,r,e,KA.keep hk x v Z,cy.keep hk xs r Y⟩
end
def C6 (h:k∈ks):dep k<=cH ks:=by
 induction ks with
 |nil=>cases h
 |cons x Z ih =>
  simp only [cH]
  rcases Ð.mp h with rfl|h
  ·exact VI _ _
  ·exact á (ih h) (š _ _)
mutual
noncomputable def hs (w:ú):D->Int
 | .int i=>hashInt i
 | .str x=>hashStr w x
 | .tup Z=>reduceHash (ζ (jV w Z))
 |_=>0
noncomputable def jV (w:ú):List D->List Int
 | []=>[]
 |k::Z=>hs w k::jV w Z
end
mutual
noncomputable def dr:D->Nat
 | .int _=>1
 | .str _=>1
 | .tup Z=>i6 Z+1
 |_=>0
noncomputable def i6:List D->Nat
 | []=>0
 |k::Z=>dr k+i6 Z
end
def C7 (w:ú) (xs ys:List D):jV w (xs++ys)=jV w xs++jV w ys:=by
 induction xs with
 |nil=>rfl
 |cons x xs ih=>simp only [ÿ,jV,ih]
def C8 (xs ys:List D):i6 (xs++ys)=i6 xs+i6 ys:=by
 induction xs with
 |nil=>simp [i6]
 |cons x xs ih=>simp only [ÿ,i6,ih,Wj]
section
variable {prog:ß} {w:ú}
def LF (hu:A.units<WD) (ho:s.heap.get? a=some o) (hc:o.cls=.type "tuple") (hd:o.data=.seq items m) (hi:cy s.heap ks items.toList)
 (ih:∀k∈ks,∀(A':æ) (s':Ã) (v:Ä) (E':Ä->Ã->Prop) (Q':Int->Ã->Prop),A'.units<=A.units+1->KA s'.heap k v->Q' (hs w k) { s' with toks:=s'.toks+dr k }->Ù (à prog w) A' (pyHash v) Q' E' s')
 (h:Q (hs w (.tup ks)) { s with toks:=s.toks+dr (.tup ks) }):Ù (à prog w) A (pyHash (.ref a)) Q E s:=by
 have Z:s.TypeIs (.ref a) "tuple":=⟨o,ho,hc⟩;unfold pyHash
 first|unfold pyHashByItsType|skip
 first|refine À (wpAny_cRoomFor_or (.inr hu) ?_)|skip
 refine À (Wu Z VU.lookup ?_)
 show Ù _ _ (if (some (Value.builtin "tuple.__hash__")==some Value.none)=true then _ else _) Q E s
 rw [í (by rw [beq_builtin_none];exact Ò)];refine À (Wu Z VU.lookup ?_);show Ù _ _ (callSpecialIfBoundUnlessNone? (.ref a) "__hash__" _ >>= _) Q E s;refine À (wpAny_callSpecialIfBoundUnlessNone?_slot Z VU (þ VU Z F.entry_tuple_hash ?_ (F.args_tuple_hash_1 _)));show Ù _ _ (Ň (.ref a) >>= _) _ _ s;refine À (wpAny_tupleItemsOf ho hd ?_);refine À ?_;rw [<- Array.forIn_toList];refine wpAny_forIn_list _
  (fun rest (b:Array Int) s'=>∃done left,ks=done++left/\cy s.heap left rest/\b.toList=jV w done/\s'={ s with toks:=s.toks+i6 done })
  _ ?_ ?_ _ _ ⟨[],ks,rfl,hi,rfl,rfl⟩
 ·rintro x rest b s' ⟨done,left,e,Y,X,rfl⟩
  cases left with
  |nil=>cases Y
  |cons k left =>
   obtain ⟨T,S,ex,U,V⟩:=Y;cases ex
   refine À (ih k (by rw [e];simp) _ { s with toks:=s.toks+i6 done } _ _ _ ?_ U ?_)
   ·exact WV _
   ·first
     |exact Â ⟨done++[k],left,by simp [e],V,by simp [X,C7,jV],by simp [Wj,C8,i6]⟩
     |exact À (Â (Â ⟨done++[k],left,by simp [e],V,by simp [X,C7,jV],by simp [Wj,C8,i6]⟩))
 ·rintro b s' ⟨done,left,e,Y,X,rfl⟩
  cases left with
  |cons k left=>obtain ⟨_,_,ex,_⟩:=Y;cases ex
  |nil =>
  rw [Ĩ] at e;subst e;simp only [hs,dr] at h;show Ù _ _ (retInt (ζ b.toList)) _ _ _;rw [X];generalize ζ (jV w ks)=z at h |-;refine wpAny_ret_mkInt ?_
  show Ù _ _ (if (decide (-(2:Int) ^ 63<=z)&&decide (z<2 ^ 63))=true then _ else _) Q E _
  unfold reduceHash at h;by_cases W:(decide (-(2:Int) ^ 63<=z)&&decide (z<2 ^ 63))=true
  ·rw [ä W]
   rw [ä W] at h;exact Â (by simpa [Wj] using h)
  ·rw [í W]
   rw [í W] at h;exact À (ŋ (Â (by simpa [Wj] using h)))
def MW:∀(n:Nat) (k:D),dep k<=n->∀(A:æ) (s:Ã) (v:Ä) (E:Ä->Ã->Prop) (Q:Int->Ã->Prop),KA s.heap k v->A.units+n<WD->Q (hs w k) { s with toks:=s.toks+dr k }->Ù (à prog w) A (pyHash v) Q E s:=by
 intro n
 induction n with
 |zero =>
  intro k Z A s v E Q q Y h
  cases k with
  |int i=>obtain ⟨t,rfl⟩:=q;exact wpAny_pyHash_int h
  |str i=>obtain ⟨t,rfl⟩:=q;exact wpAny_pyHash_str h
  |tup X=>simp [dep] at Z
  |_=>cases q
 |succ n ih =>
  intro k Z A s v E Q q Y h
  cases k with
  |int i=>obtain ⟨t,rfl⟩:=q;exact wpAny_pyHash_int h
  |str i=>obtain ⟨t,rfl⟩:=q;exact wpAny_pyHash_str h
  |tup X =>
   simp only [dep] at Z;simp only [KA] at q;obtain ⟨a,o,items,m,rfl,W,V,U,hi⟩:=q;exact LF (by omega) W V U hi (fun k T S R v P O L N M=>ih k (by have:=C6 T;omega) S R v P O N (by omega) M) h
  |_=>cases q
def LG:∀(n:Nat) (k:D),dep k<=n->∀{A:æ} {s:Ã} {v:Ä} {E:Ä->Ã->Prop} {Q:Bool->Ã->Prop},KA s.heap k v->Q true s->Ù (à prog w) A (eqIsQuiet n v) Q E s:=by
 intro n
 induction n with
 |zero =>
  intro k Z A s v E Q q h
  cases k with
  |int i=>obtain ⟨t,rfl⟩:=q;rw [VV _ rfl];exact Â h
  |str i=>obtain ⟨t,rfl⟩:=q;rw [VV _ rfl];exact Â h
  |tup W=>simp [dep] at Z
  |_=>cases q
 |succ n ih =>
  intro k Z A s v E Q q h
  cases k with
  |int i=>obtain ⟨t,rfl⟩:=q;rw [VV _ rfl];exact Â h
  |str i=>obtain ⟨t,rfl⟩:=q;rw [VV _ rfl];exact Â h
  |tup W =>
   simp only [dep] at Z;simp only [KA] at q;obtain ⟨a,o,items,m,rfl,V,R,P,hi⟩:=q;have U:s.TypeIs (.ref a) "tuple":=⟨o,V,R⟩;unfold eqIsQuiet;refine À (Wu U F.slot_tuple_eq.lookup ?_);show Ù _ _ (isInstance (.ref a) (.type "tuple") >>= _) _ _ s;refine À (We U isSubtype_tuple_tuple ?_);simp only [Ő,É,ĉ];refine À (Ġ V P ?_);refine À ?_;show Ù _ _ (forIn items _ _) _ _ s;rw [<- Array.forIn_toList];refine wpAny_forIn_list _ (fun rest r Y=>r.1=none/\Y=s/\∃left,cy s.heap left rest/\∀k∈left,dep k<=n) _ ?_ ?_ _ _ ⟨rfl,rfl,W,hi,fun k O=>by have:=C6 O;omega⟩
   ·rintro v rest r Y ⟨X,rfl,left,T,S⟩
    cases left with
    |nil=>cases T
    |cons k left =>
     obtain ⟨K,J,ex,N,M⟩:=T;cases ex;refine À (ih k (S k Ö) N ?_);simp only [Ő,É,ĉ];exact Â ⟨rfl,rfl,left,M,fun u L=>S u (Õ _ L)⟩
   ·rintro ⟨I,H⟩ Y ⟨X,rfl,_⟩
    simp only at X;subst X;exact Â h
  |_=>cases q
def zX (h:ħ) (ks:List D) (a:Ø):Prop:=cS ks=true/\cH ks<=6/\KA h (.tup ks) (.ref a)
noncomputable instance U5:DecidableEq (List D):=fun a b=>Classical.propDecidable (a=b)
def OE (hu:A.units+10<WD) (hx:zX s.heap x a) (hy:zX s.heap y b) (h:Q (decide (x=y)) s):Ù (à prog w) A (PySem.eqBool (.ref a) (.ref b)) Q E s:=by
 obtain ⟨W,N,Z⟩:=hx;obtain ⟨V,M,Y⟩:=hy;obtain ⟨as,Z⟩:=KA.reads _ _ Z;obtain ⟨bs,Y⟩:=KA.reads _ _ Y;have U:lay (.tup x)=true:=by simp only [lay];exact sk x W
 have T:lay (.tup y)=true:=by simp only [lay];exact sk y V
 obtain ⟨S,R⟩:=iC _ U;obtain ⟨P,O⟩:=iC _ T;have e:=SeqAt.eqAt_reads _ _ A s _ _ as bs Z Y S P (by rw [R,O];simp only [dep];omega);rw [nK _ _ U T] at e;refine e prog w E Q ?_;have:beq (.tup x) (.tup y)=decide (x=y):=by
  have:=vU x y W V;simp only [beq]
  cases X:fL x y with
  |true=>exact (Þ (this.mp X)).symm
  |false=>exact (ù fun z=>by rw [this.mpr z] at X;cases X).symm
 rw [this];exact h
def kind (prog:ß) (w:ú):HeapKind prog w (List D) where
 is:=zX
 hash:=fun X=>hs w (.tup X)
 draws:=fun X=>dr (.tup X)
 room:=fun A=>A.units+10<WD
 inj:=fun W V=>by have:=KA.inj _ _ _ W.2.2 V.2.2;injection this
 keeps:=fun {h Q k a d o P O} x S R hs=>⟨x.1,x.2.1,KA.keep (fun b u U N Y=>(hs.2 b (fun e=>by
  subst e;rw [S] at U;cases U;obtain ⟨_,_,Y⟩:=Y;rw [R] at Y;cases Y)).trans U) _ _ x.2.2⟩
 pyHash:=fun T Z h=>MW 7 _ (by simp only [dep];have:=Z.2.1;omega) _ _ _ _ _ Z.2.2 (by omega) h
 eqBool:=fun T W V h=>OE T W V h
 quiet:=fun Z h=>LG 8 _ (by simp only [dep];have:=Z.2.1;omega) Z.2.2 h
end
end TK
namespace TK
open PySem PySem.W PyProof.Rows DI L2
def DX.cV (h1 h2:ħ) (h:DX a es h1) (k:∀o,h1.get? a=some o->h2.get? a=some o):DX a es h2:=by
 obtain ⟨z,o,Z,Y,X,r⟩:=h;exact ⟨z,o,Z,Y,k o X,r⟩
def AllK (w:ú) (aB:List (D×Int)):Prop:=∀p∈aB,∃Z,p.1=.tup Z/\cS Z=true/\cH Z<=6/\p.2=hs w p.1
noncomputable def its:D->List D
 | .tup Z=>Z
 |_=>[]
section
variable {X:Cx} {π:List (Ø×Obj)} {σ:L2.St} {s:Ã} {w:Wd}
mutual
theorem Qb (I:Inv X π σ w.H s):∀(d:D) (v:V) (u:Ä),kd d=true->DI.DV X.K w d v->RelV v u->KA s.heap d u
 | .int i,v,u,_,h,r=>by cases h;exact r
 | .str x,v,u,_,h,r=>by cases h;exact r
 | .tup Z,v,u,k,h,r=>by
  simp only [DI.DV] at h;obtain ⟨a,Y,rfl,W,U⟩:=h;cases r;obtain ⟨its,T,⟨o,S,R,n,Q⟩,_⟩:=I.tuple W;simp only [kd] at k;simp only [KA];exact ⟨a,o,_,n,rfl,S,R,Q,xc I Z Y _ k U (by simpa using T)⟩
 | .ao,_,_,k,_,_=>by cases k
 | .bl _,_,_,k,_,_=>by cases k
 | .lst _,_,_,k,_,_=>by cases k
 | .bq _,_,_,k,_,_=>by cases k
 | .au _,_,_,k,_,_=>by cases k
 | .ty _,_,_,k,_,_=>by cases k
 | .bz _,_,_,k,_,_=>by cases k
 | .exc _,_,_,k,_,_=>by cases k
 | .bT _ _ _,_,_,k,_,_=>by cases k
theorem xc (I:Inv X π σ w.H s):∀(ds:List D) (vs:List V) (us:List Ä),cS ds=true->DI.ak X.K w ds vs->Vals vs us->cy s.heap ds us
 | [],vs,us,_,h,r=>by cases h;cases r;rfl
 |d::ds,vs,us,k,h,r=>by
  obtain ⟨v,Z,rfl,Y,W⟩:=h;simp only [cS,È] at k
  cases r with
  |cons r U=>exact ⟨_,_,rfl,Qb I d v _ k.1 Y r,xc I ds Z _ k.2 W U⟩
end
end
def yN (w:ú) (aB:List (D×Int)) (k:D):List (D×Int):=if (aB.any fun p=>beq p.1 k)=true then aB else aB++[(k,hs w k)]
def keyOk (w:ú) (p:D×Int):Bool:=match p.1 with
 | .tup Z=>cS Z&&decide (cH Z<=6)&&decide (p.2=hs w p.1)
 |_=>false
def pA (k:AllK w aB) (hk:cS ks=true):(aB.any fun p=>beq p.1 (.tup ks))=true↔D.tup ks∈aB.map (·.1):=by
 rw [Wc,į];constructor
 ·rintro ⟨p,Z,Y⟩
  obtain ⟨ls,e,X,_⟩:=k p Z;refine ⟨p,Z,?_⟩;exact (xb p.1 (.tup ks) (by rw [e];simpa only [kd] using X) (by simpa only [kd] using hk)).mp Y
 ·rintro ⟨p,Z,e⟩
  exact ⟨p,Z,by rw [e];exact (xb _ _ (by simpa only [kd] using hk) (by simpa only [kd] using hk)).mpr rfl⟩
def RF (w:ú) (d k x:D) (s:aa):Option aa:=match d,k,x with
 | .au j,.tup Z,.bl true=>match s[j]? with
  |some (.dT Y)=>if (cS Z&&decide (cH Z<=6)&&Y.all (keyOk w)&&decide (Y.length<Ñ))=true then some (s.set j (.dT (yN w Y (.tup Z)))) else none
  |_=>none
 |_,_,_=>none
def Fj (w:ú) (f o i:DI.WR D):DI.WR Fl:=fun env s=>ai (f env s) fun x s=>ai (o env s) fun d s=>ai (i env s) fun n s=>match RF w d n x s with
 |some Z=>ok (.nx env) Z
 |none=>none
def Qc:DI.WR D:=fun _ s=>ok (.au s.length) (s++[.dT []])
section
variable {X:Cx} {Ξ:Wd->aW->Prop} {e o i:Ğ} {pos lG:Pos} {f fo fi:DI.WR D}
end
end TK
namespace TK
open PySem PySem.W PyProof.Rows DI L2
def mM (h:ħ) (d:Ø) (es:Array DictEntry) (ep:Nat):Prop:=∃o,h.get? d=some o/\o.ExactDict/\o.data=.dict es ep
section
variable {prog:ß} {w:ú} {A:æ} {E:Ä->Ã->Prop} {s:Ã} {d it:Ø} {es:Array DictEntry} {ep i:Nat}
def mM.ty (r:mM s.heap d es ep):s.TypeIs (.ref d) "dict":=by obtain ⟨o,Z,x,_⟩:=r;exact ⟨o,Z,x.1⟩
def mM.lt (r:mM h d es ep):d<h.objs.size:=by obtain ⟨o,Z,_⟩:=r;exact Ç Z
def mM.at (r:mM h d es ep) (k:∀o,h.get? d=some o->h'.get? d=some o):mM h' d es ep:=by obtain ⟨o,Z,x⟩:=r;exact ⟨o,k o Z,x⟩
end
def OF (ds:List D) (s:aa):Res D:=match ds with
 | [.au j]=>match s[j]? with
  |some (.dT Z)=>if Z.length<=Ñ then ok (.lst (Z.map (·.1))) s else none
  |_=>none
 |_=>none
section
variable {X:Cx} {Ξ:Wd->aW->Prop}
end
open HT
section
variable {s:Ã}
def Qd (kx:kd x=true) (ky:kd y=true) (hu:A.units+dep x<WD) (hx:KA s.heap x vx) (hy:KA s.heap y vy):SeqAt.EqAt A s vx vy (beq x y):=by
 obtain ⟨as,Z⟩:=KA.reads _ _ hx;obtain ⟨bs,Y⟩:=KA.reads _ _ hy;obtain ⟨X,W⟩:=iC _ (pU _ kx);obtain ⟨V,U⟩:=iC _ (pU _ ky);have:=SeqAt.eqAt_reads _ _ A s vx vy as bs Z Y X V (by rw [W];omega);rw [nK _ _ (pU _ kx) (pU _ ky)] at this;exact this
mutual
theorem Qe:∀(A:æ) (x y:D) (b:Bool) (vx vy:Ä),gE x y=some b->kd x=true->kd y=true->A.units+5*dep x+5<WD->KA s.heap x vx->KA s.heap y vy->yM A s vx vy b
 |A,.int i,y,b,vx,vy,h,_,_,_,Z,Y=>by
  cases y with
  |int j =>
   cases h;obtain ⟨t,rfl⟩:=Z;obtain ⟨X,rfl⟩:=Y;exact fun prog w E Q q=>B4 A s i t j X prog w E Q q
  |_=>cases h
 |A,.str i,y,b,vx,vy,h,_,_,_,Z,Y=>by
  cases y with
  |str j =>
   cases h;obtain ⟨t,rfl⟩:=Z;obtain ⟨X,rfl⟩:=Y;exact fun prog w E Q q=>(PyProof.Rows.lt_str q:Ù (à prog w) A (Đ .Lt (.str i t) (.str j X)) Q E s)
  |_=>cases h
 |A,.tup U,y,b,vx,vy,h,W,ky,T,Z,Y=>by
  cases y with
  |tup S =>
   simp only [gE] at h;simp only [KA] at Z Y;obtain ⟨a,o,its,n,rfl,R,P,O,r⟩:=Z;obtain ⟨G,N,V,M,rfl,L,K,J,I⟩:=Y;simp only [dep] at T;simp only [kd] at W ky;exact fun prog w E Q q=>C0 ⟨o,R,P,n,O⟩ ⟨N,L,K,M,J⟩ (fun H F=>xg H U S b _ _ h W ky (by omega) r I) (by omega) q
  |_=>cases h
 |_,.ao,_,_,_,_,_,k,_,_,_,_=>by cases k
 |_,.bl _,_,_,_,_,_,k,_,_,_,_=>by cases k
 |_,.lst _,_,_,_,_,_,k,_,_,_,_=>by cases k
 |_,.bq _,_,_,_,_,_,k,_,_,_,_=>by cases k
 |_,.au _,_,_,_,_,_,k,_,_,_,_=>by cases k
 |_,.ty _,_,_,_,_,_,k,_,_,_,_=>by cases k
 |_,.bz _,_,_,_,_,_,k,_,_,_,_=>by cases k
 |_,.exc _,_,_,_,_,_,k,_,_,_,_=>by cases k
 |_,.bT _ _ _,_,_,_,_,_,k,_,_,_,_=>by cases k
theorem xg:∀(A:æ) (xs ys:List D) (b:Bool) (ps qs:List Ä),gL xs ys=some b->cS xs=true->cS ys=true->A.units+5*cH xs+5<WD->cy s.heap xs ps->cy s.heap ys qs->gF A s ps qs b
 |A,[],ys,b,ps,qs,h,_,_,_,V,Z=>by
  cases V
  cases ys with
  |nil=>cases h;cases Z;exact .nn
  |cons y ys=>cases h;obtain ⟨v,r,rfl,_⟩:=Z;exact .nc _ _
 |A,x::xs,ys,b,ps,qs,h,Y,ky,T,V,Z=>by
  obtain ⟨v,r,rfl,U,S⟩:=V
  cases ys with
  |nil=>cases h;cases Z;exact .cn _ _
  |cons y ys =>
   obtain ⟨u,R,rfl,g1,g2⟩:=Z;simp only [cS,È] at Y ky;simp only [cH] at T;have Q:=VI (dep x) (cH xs);have P:=š (dep x) (cH xs);have X:=Qd (A:=A) Y.1 ky.1 (by omega) U g1;simp only [gL] at h;split at h
   ·rename_i W
    rw [W] at X;exact .eq X (xg A xs ys b _ _ h Y.2 ky.2 (by omega) S g2)
   ·rename_i W
    rw [ι] at W;rw [W] at X;exact .lt X (Qe A x y b _ _ h Y.1 ky.1 (by omega) U g1)
end
end
section
variable {prog:ß} {w:ú} {A:æ} {E:Ä->Ã->Prop} {s:Ã}
def Kh (h:gF A s xs ys b):∀(i:Nat),fin=decide (xs.length<ys.length)->Q b s->KatLex prog w A t fin Q (xs.zip ys) (i+1) s:=by
 induction h with
 |nn=>intro i Z q;rw [Z];exact q
 |nc y ys=>intro i Z q;rw [Z];exact q
 |cn x xs=>intro i Z q;rw [Z];exact q
 |eq Y _ ih =>
  intro i Z q;rw [ī];exact kat_cons (Y prog w _ _ (kat_yes (ih (i+1) (by rw [Z];simp) q)))
 |lt Y X =>
  intro i Z q;rw [ī];refine kat_cons (Y prog w _ _ (kat_no ?_));rw [show (t&&(i+1==0))=false by simp];exact kat_one _ _ (X prog w _ _ q)
def Ki (hs:x=y->gF A s xs ys b) (hf:fin=decide (xs.length<ys.length)) (q:Q (if x=y then b else decide (x.cps.toList<y.cps.toList)) s) :
  KatLex prog w A true fin Q ((.str x t::xs).zip (.str y u::ys)) 0 s:=by
 rw [ī];refine kat_cons (wpAny_eqBool_str ?_);by_cases e:x=y
 ·rw [ä e] at q
  rw [Þ e];exact kat_yes (Kh (hs e) 0 hf q)
 ·rw [í e] at q
  rw [ù e];exact kat_no (oneLt_str q)
end
inductive Pg where
 |made (m d:Int) (h l:List Int)
 |iQ (m d k:Int)
noncomputable def ti (l:List Int):D:=.tup (l.map D.int)
def Pg.d:Pg->D
 | .made m d h l=>.tup [.str "made",.int m,.int d,.tup [ti h,ti l]]
 | .iQ m d k=>.tup [.str "mended",.int m,.int d,.int k]
def Eb (h:ti a=ti b):a=b:=by
 injection h with h
 exact List.map_inj_right (fun x y e=>by injection e) |>.mp h
def Pg.Qf {p q:Pg} (h:p.d=q.d):p=q:=by
 cases p<;>cases q<;>simp only [Pg.d,D.tup.injEq,VJ,D.int.injEq,and_true,reduceCtorEq,and_false,false_and] at h
 ·obtain ⟨_,Z,Y,X,W⟩:=h
  rw [Z,Y,Eb X,Eb W]
 ·obtain ⟨_,Z,Y,X⟩:=h
  rw [Z,Y,X]
noncomputable def encL:List Int->List Int
 | []=>[0]
 |x::Z=>1::x::encL Z
def Pg.enc:Pg->List Int
 | .made m d h l=>0::m::d::(encL h++encL l)
 | .iQ m d k=>[1,m,d,k]
theorem vV:∀{a b u v:List Int},encL a++u=encL b++v->a=b/\u=v
 | [],[],u,v,h=>by simpa [encL] using h
 | [],y::b,u,v,h=>by simp [encL] at h
 |x::a,[],u,v,h=>by simp [encL] at h
 |x::a,y::b,u,v,h=>by
  simp only [encL,ÿ,VJ,true_and] at h;obtain ⟨Z,Y⟩:=vV h.2;exact ⟨by rw [h.1,Z],Y⟩
def Pg.MX {p q:Pg} (h:p.enc=q.enc):p=q:=by
 cases p<;>cases q<;>simp only [Pg.enc,VJ,and_true,true_and,reduceCtorEq,false_and,Int.reduceEq] at h
 ·obtain ⟨Y,X,W⟩:=h
  have Z:=vV (u:=encL _++[]) (v:=encL _++[]) (by simpa using W);have V:=vV Z.2;rw [Y,X,Z.1,V.1]
 ·rw [h.1,h.2.1,h.2.2]
def jW:ST.Ord Pg where
 lt p q:=lexLt p.enc q.enc
 zV p:=ST.wB _
 tr _ _ _ h g:=ST.Oy _ _ _ h g
 uR _ _ h g:=Pg.MX (ST.MV _ _ h g)
theorem BV:∀a b:List Int,fL (a.map D.int) (b.map D.int)=decide (a=b)
 | [],[]=>rfl
 | [],_::_=>rfl
 |_::_,[]=>rfl
 |x::a,y::b=>by
  simp only [ï,fL,beq,BV a b]
  by_cases e:x=y<;>simp [e]
theorem BW:∀a b:List Int,gL (a.map D.int) (b.map D.int)=some (lexLt a b)
 | [],[]=>rfl
 | [],_::_=>rfl
 |_::_,[]=>rfl
 |x::a,y::b=>by
  simp only [ï,gL,beq,gE,gY,BW a b]
  by_cases e:x=y<;>simp [e]
theorem wC:∀a b u v:List Int,lexLt (encL a++u) (encL b++v)=if a=b then lexLt u v else lexLt a b
 | [],[],u,v=>by simp [encL,gY]
 | [],y::b,u,v=>by simp [encL,gY];rfl
 |x::a,[],u,v=>by simp [encL,gY];rfl
 |x::a,y::b,u,v=>by
  simp only [encL,ÿ,gY,Ċ,wC a b u v,VJ]
  by_cases e:x=y<;>simp [e]
def Qg (p q:Pg):gE p.d q.d=some (jW.lt p q):=by
 have T:¬ ((đ "made")=đ "mended"):=by decide +kernel
 have S:¬ ((đ "mended")=đ "made"):=by decide +kernel
 have R:decide ((đ "made").cps.toList<(đ "mended").cps.toList)=true:=by decide +kernel
 have Q:decide ((đ "mended").cps.toList<(đ "made").cps.toList)=false:=by decide +kernel
 show _=some (lexLt p.enc q.enc)
 cases p with
 |made m d h l =>
  cases q with
  |made Z Y V X =>
   simp only [Pg.d,Pg.enc,gE,gL,beq,fL,ti,gY,BV,BW,wC,Ş,Ċ,Bool.and_true];have:=wC l X [] [];simp only [Ĩ] at this;rw [this]
   by_cases e1:m=Z<;>by_cases e2:d=Y<;>by_cases W:h=V<;>by_cases P:l=X<;>simp [e1,e2,W,P,ST.wB]
  |iQ Z Y U=>simp only [Pg.d,Pg.enc,gE,gL,beq,gY,beq_iff_eq,T,R,ĉ];simp
 |iQ m d k =>
  cases q with
  |made Z Y V X=>simp only [Pg.d,Pg.enc,gE,gL,beq,gY,beq_iff_eq,S,Q,ĉ];simp
  |iQ Z Y U =>
   simp only [Pg.d,Pg.enc,gE,gL,beq,gY,Ş,Ċ]
   by_cases e1:m=Z<;>by_cases e2:d=Y<;>by_cases W:k=U<;>simp [e1,e2,W,ST.wB]
def MY (l:List Int):cS (l.map D.int)=true:=by
 induction l with
 |nil=>rfl
 |cons x l ih=>simpa only [ï,cS,kd,Bool.true_and] using ih
def LH (l:List Int):cH (l.map D.int)=0:=by
 induction l with
 |nil=>rfl
 |cons x l ih=>simp only [ï,cH,dep,ih];rfl
def Fm (p:Pg):kd p.d=true:=by
 have Z:ω "made"=true:=by decide +kernel
 have Y:ω "mended"=true:=by decide +kernel
 cases p<;>simp only [Pg.d,kd,cS,ti,MY,Z,Y,Ę]
def Ec (p:Pg):dep p.d<=3:=by
 cases p<;>simp only [Pg.d,dep,cH,ti,LH]<;>decide
def LI (p:Pg):∃(x:Str) (r:List D),p.d=.tup (.str x::r):=by
 cases p<;>exact ⟨_,_,rfl⟩
def xR {h:ħ} {p:Pg} {v:Ä} (q:KA h p.d v):∃(x:Str) (r:List D) (a:Ø) (o:Obj) (its:Array Ä) (n:Nat) (t:Tok) (us:List Ä),p.d=.tup (.str x::r)/\v=.ref a/\h.get? a=some o/\o.cls=.type "tuple"/\o.data=.seq its n/\its.toList=.str x t::us/\cy h r us/\cS r=true:=by
 obtain ⟨x,r,e⟩:=LI p;have k:=Fm p;rw [e] at q k;simp only [KA] at q;obtain ⟨a,o,its,n,e1,Z,Y,X,u,us,e2,⟨t,W⟩,V⟩:=q;simp only [kd,cS,È] at k;exact ⟨x,r,a,o,its,n,t,us,e,e1,Z,Y,X,by rw [e2,W],V,k.2⟩
section
variable {prog:ß} {w:ú} {A:æ} {E:Ä->Ã->Prop} {s:Ã}
def Kj:∀{ps:List Pg} {us:List Ä},cy s.heap (ps.map Pg.d) us->∃fs,KatTups s.heap us fs/\(∀v∈fs,∃x t,v=Value.str x t)/\fs.length=us.length:=by
 intro ps
 induction ps with
 |nil=>intro us h;cases h;exact ⟨[],KatTups.nil,fun v (hv:v∈[])=>(ê hv).elim,rfl⟩
 |cons p ps ih =>
  intro us h;obtain ⟨v,r,rfl,Z,Y⟩:=h;obtain ⟨fs,X,W,V⟩:=ih Y;obtain ⟨x,_,a,o,its,n,t,R,_,rfl,U,T,S,hi,_⟩:=xR Z;refine ⟨.str x t::fs,.cons U T S (by rw [<- ĥ,hi];rfl) X,fun v hv=>?_,by simp [V]⟩
  rcases Ð.mp hv with rfl|hv
  ·exact ⟨x,t,rfl⟩
  ·exact W v hv
def kas_get:∀{ds:List D} {us:List Ä},cy h ds us->∀i,i<us.length->KA h (ds.getD i .ao) (us.getD i Value.none):=by
 intro ds
 induction ds with
 |nil=>intro us h i hi;cases h;cases hi
 |cons d ds ih =>
  intro us h i hi;obtain ⟨v,r,rfl,Z,Y⟩:=h
  cases i with
  |zero=>exact Z
  |succ i=>exact ih Y i (by simpa using hi)
def MZ:∀{ds:List D} {us:List Ä},cy h ds us->ds.length=us.length:=by
 intro ds
 induction ds with
 |nil=>intro us h;cases h;rfl
 |cons d ds ih=>intro us h;obtain ⟨v,r,rfl,Y,Z⟩:=h;simp [ih Z]
def OG (hu:A.units+100<WD) (h1:KA s.heap p.d v) (h2:KA s.heap q.d u) (hC:C (jW.lt p q) s):Ù (à prog w) A (keyLt' (tuples' true) v u) C E s:=by
 obtain ⟨x,r,a,o,its,n,t,N,e,rfl,W,M,V,hi,U,k⟩:=xR h1;obtain ⟨Z,T,L,K,Y,J,I,H,S,rfl,R,G,Q,X,P,O⟩:=xR h2;have dl:=Ec p;rw [e] at dl;simp only [dep,cH] at dl;have lt:=Qg p q;rw [e,S] at lt;simp only [gE,gL] at lt;have be:beq (.str x) (.str Z)=true↔x=Z:=by simp [beq]
 refine kat_lt W V R Q ?_;rw [hi,X];refine Ki (b:=jW.lt p q) (fun ex=>?_) ?_ ?_
 ·rw [ä (be.mpr ex)] at lt
  exact xg A r T _ _ _ lt k O (by have:=š (0:Nat) (cH r);omega) U P
 ·simp [<- î,hi,X]
 ·by_cases ex:x=Z
  ·rw [ä ex];exact hC
  ·rw [í fun z=>ex (be.mp z)] at lt
   rw [í ex,WW lt];exact hC
def LJ {us:List Ä} {ps:List Pg} (t:cy s.heap (ps.map Pg.d) us) (h2:2<=us.length) (hu:A.units+100<WD) (d:Pg):ST.uj prog w A jW (fun i=>ps.getD i d) us s:=by
 obtain ⟨fs,Z,Y,S⟩:=Kj t;have X:=MZ t;rw [Ì] at X;have at_:∀i,i<us.length->KA s.heap (ps.getD i d).d (us.getD i Value.none):=fun i hi=>by
  have:=kas_get t i hi;rwa [show (ps.map Pg.d).getD i .ao=(ps.getD i d).d by simp [Ř,ç,Ë (show i<ps.length by omega)]] at this
 unfold ST.uj;refine kat_kind (T:=.type "str") Z (by omega) (fun v W=>?_) (by decide) ⟨rfl,fun i j C hi V U=>?_⟩
 ·obtain ⟨x,R,rfl⟩:=Y v W
  exact .of_pure rfl
 ·exact OG hu (at_ i hi) (at_ j V) U
end
end TK
namespace TK
open PySem PySem.W PyProof.Rows DI L2
open Classical in
def tI (xs:List D):Option D:=if h:∃Z:List Pg,xs=Z.map Pg.d then some (.lst ((ST.jx jW (Classical.choose h)).map Pg.d)) else none
def Jv:∀{a b:List Pg},a.map Pg.d=b.map Pg.d->a=b:=fun h=>List.map_inj_right (fun _ _ e=>Pg.Qf e) |>.mp h
def Cj (ps:List Pg):tI (ps.map Pg.d)=some (.lst ((ST.jx jW ps).map Pg.d)):=by
 unfold tI;have h:∃Z:List Pg,ps.map Pg.d=Z.map Pg.d:=⟨ps,rfl⟩;rw [dif_pos h];have:=Jv (Classical.choose_spec h);rw [<- this]
def nL (ds:List D) (s:aa):Res D:=match ds with
 | [d]=>match res d s with
  | .lst Z=>if Z.length<64 then bL (tI Z) s else none
  |_=>none
 |_=>none
section
variable {X:Cx} {Ξ:Wd->aW->Prop}
def M0 (ps:List Pg):cS (ps.map Pg.d)=true:=by
 induction ps with
 |nil=>rfl
 |cons p ps ih=>simp only [ï,cS,Fm,ih,Ę]
def M6 (hr:bC k X.A):bS X (.builtin "sorted") (rC X.K Ξ nL):=by
 rintro n s σ H N m Q I r ⟨w,l,rfl,S,Y,h⟩;unfold nL at h;split at h
 ·obtain ⟨v,rfl,G⟩:=ka Y
  split at h
  ·rename_i F e1
   obtain ⟨a,N,rfl,E,Y⟩:=gg S G e1;split at h
   ·rename_i j
    obtain ⟨g,e2,h⟩:=dE h;obtain ⟨u,rfl,D⟩:=vals1 r;cases D;obtain ⟨its,W,C,B⟩:=I.list (bt.of E);have R:its.length=F.length:=W.length.symm.trans Y.length.symm;have V:=e2;unfold tI at V;split at V
    ·rename_i Z
     obtain ⟨U,z⟩:=Z;clear V;subst z;rw [Cj] at e2;cases e2;have M:U.length=its.length:=by rw [R,Ì]
     refine ST.Kd (O:=jW) (x:=fun i=>U.getD i (.iQ 0 0 0)) C.isList (by omega) (fun y f P=>LJ (cy.keep (fun b o T _ _=>P b o T) _ _ (xc I _ _ _ (M0 U) Y W)) y (by have:=hr.un;show X.A.units+1+1+100<WD;have:WD=9900:=rfl;omega) _) fun q c b e Z L P T t=>?_;have J:∀i∈q.toList,i<(U.map Pg.d).length:=fun i hi=>by rw [<- R];exact Ĝ.mp (Z.2.mem_iff.mp hi)
     rw [<- M] at Z L;have p:=I.aD.fresh T;refine ⟨.ref b,_,I.laid (o:=.lst (q.toList.map fun i=>N.getD i .ao)) (t':=s.toks) P T ⟨?_,_,e,Kg W (by rw [R];exact J),t⟩,rfl,?_⟩
     ·rw [Ì,î,Z.1,M,W.length.symm];exact B
     ·refine oi S ?_ h b p
      rw [<- LD Z L];exact LC Y J
    ·cases V
   ·exact h.elim
  ·exact h.elim
 ·exact h.elim
end
section
variable {prog:ß} {w:ú} {A:æ} {E:Ä->Ã->Prop} {s:Ã}
end
section
variable {X:Cx} {Ξ:Wd->aW->Prop} {e:Ğ} {te:TE} {pos p2 p4:Pos} {f:DI.WR D}
end
def Fn (f:DI.WR D):DI.WR D:=fun env s=>ai (f env s) fun x s=>ai (truth x s) fun b s=>ok (.bl (!b)) s
def OH (ha:PE X a (tE X.K Ξ f)):PE X (.UnaryOp .Not a pos) (tE X.K Ξ (Fn f)):=by
 rintro Y s σ H Q I ⟨w,env,rfl,S,U,h⟩;refine UnaryOp_ (aH (ha Y s σ w.H (fun v W=>∃b,mE X.K v W b/\Q (.bl (!b)) W) I ⟨w,env,rfl,S,U,(Out.ai h).mono fun E x D V T v R=>?_⟩) fun v P ⟨x,O,N,M,b,L,J⟩=>?_)
 ·obtain ⟨b,t,G⟩:=mE.of V R (Out.ai T)
  exact ⟨b,t,ay V G _ rfl⟩
 ·refine not_of (ģ (DF Y P σ O x v (fun c Z=>Q (.bl (!c)) Z) N M ⟨b,L,J⟩) (fun c C ⟨Z,F,q⟩=>⟨.bl (!c),Z,F,rfl,q⟩) fun _ _ z=>z)
end TK
namespace ST
open PySem PySem.Spec PyProof.Rows
section
variable {prog:ß} {w:ú} {A:æ} {E:Ä->Ã->Prop} {s:Ã}
end
end ST
namespace DI
open PySem L2
section
variable {X:Cx} {Ξ:Wd->aW->Prop}
end
section
variable {X:Cx} {Ξ:Wd->aW->Prop} {e o i:Ğ} {pos lG:Pos} {f fo fi:WR D}
end
end DI
namespace L2
open PySem PySem.Spec PyProof.Rows
section
variable {X:Cx}
end
end L2
namespace DI
open PySem L2
section
variable {X:Cx} {Ξ:Wd->aW->Prop}
end
end DI
namespace L2
open PySem PySem.Spec PyProof.Rows
section
variable {X:Cx}
end
end L2
namespace DI
open PySem L2
section
variable {X:Cx} {Ξ:Wd->aW->Prop} {a:Ğ} {pos:Pos} {f:WR D}
end
end DI
namespace L2
open PySem PySem.Spec PyProof.Rows
section
variable {X:Cx}
end
end L2
namespace DI
open PySem L2
section
variable {X:Cx} {Ξ:Wd->aW->Prop} {pos:Pos}
def nM (x y:D) (s:aa):Res D:=match res x s,res y s with
 | .lst Z,.lst Y=>if gr Z Y=true then ok (.au s.length) (s++[.lst (Z++Y)]) else none
 |_,_=>none
def RG {K:č} {w:Wd} {ds:List D} {vs:List V} {Q:VK} (S:aL K w) (aj:ak K w ds vs) (h:Out K Ξ w (ok (D.au w.aF.length) (w.aF++[.lst ds])) fun w' d=>∀v,DV K w' d v->Q v w'.H):∀p,w.H p=none->Q (.ref p) (upd w.H p (.lst vs)):=fun p Z=>by
 have le:=(Fw.cell (K:=K) (o:=.lst vs) (c:=.lst ds) S Z).le;refine h (w.cell p (.lst vs) (.lst ds)) le (S.EV Z ⟨_,cm,le.all aj⟩) rfl (.ref p) ⟨p,?_,rfl⟩;show (w.ρ++[p])[w.aF.length]?=some p;rw [<- S.len];simp
def Ed:bj X (İ .Add) (rO X.K Ξ nM):=by
 rintro W s σ H x y v u Q I V U ⟨w,M,L,rfl,S,T,R,h⟩;unfold nM at h;split at h
 ·rename_i J G e1 e2
  split at h
  ·rename_i P
   obtain ⟨a,as,rfl,O,Z⟩:=gg S T e1;obtain ⟨b,bs,rfl,N,Y⟩:=gg S R e2;exact DH W s σ w.H _ _ v u Q I V U ⟨a,b,as,bs,rfl,rfl,O,N,by rw [<- Z.length,<- Y.length];exact ă P,RG S (Z.append Y) h⟩
  ·exact h.elim
 ·exact h.elim
def Ee:PE X (.Dict [] [] pos) (tE X.K Ξ (eC (.bq []))):=bZ Lg fun σ H Q W=>by
 obtain ⟨w,env,V,S,U,h⟩:=W;subst V;intro p Y;exact h (w.grow p (.dK [])) (Fw.grow Y).le (S.grow Y) rfl (.ref p) ⟨p,rfl,(show ¬ w.Z p from j9 S Y),cm⟩
end
end DI
namespace L2
open PySem PySem.Spec PyProof.Rows
end L2
namespace DI
open PySem L2
section
variable {X:Cx} {Ξ:Wd->aW->Prop}
end
end DI
namespace L2
open PySem PySem.Spec PyProof.Rows
open AutoSeq1 (wpAny_loadPart')
section
variable {prog:ß} {w:ú} {A:æ} {E:Ä->Ã->Prop} {s:Ã}
end
section
variable {X:Cx}
end
end L2
namespace DI
open PySem L2
section
variable {X:Cx} {Ξ:Wd->aW->Prop} {a:Ğ} {p pos:Pos} {fa:WR (List D)}
end
end DI
namespace L2
open PySem PySem.Spec PyProof.Rows
section
variable {X:Cx} {pos:Pos}
def Qh (i j k:Nat) (ta:TA):TS:=fun D σ H=>ta σ H fun Z Y=>∃v w u,Z=[v,w,u]/\D.nx (((σ.set i (some v)).set j (some w)).set k (some u)) Y
def vals3 (r:Vals [v,w,u] us):∃a b c,us=[a,b,c]/\RelV v a/\RelV w b/\RelV u c:=by
 cases r with
 |cons p q =>
  obtain ⟨b,c,rfl,Z,Y⟩:=vals2 q;exact ⟨_,b,c,rfl,p,Z,Y⟩
def M7 {kt k2 fR} (hc:X.calm=true) (hN:X.N.Nodup) (hi:X.N[i]?=some x) (hj:X.N[j]?=some y) (hk:X.N[k]?=some z) (df:i≠j) (m7:i≠k) (zY:j≠k)
 (hx:X.env.scope.names.lookup x=some .local) (hy:X.env.scope.names.lookup y=some .local) (hz:X.env.scope.names.lookup z=some .local) (ha:PA X [a,b,c] ta)
 (hw:ű [.Tuple [.Name x px,.Name y py,.Name z pz] kt pt] (.Tuple [a,b,c] k2 fR) X.env=pure (some [x,y,z]))
 (hs:Ű [.Tuple [.Name x px,.Name y py,.Name z pz] kt pt] (.Tuple [a,b,c] k2 fR) pos.line X.env=pure false) :
  PS X (.Assign [.Tuple [.Name x px,.Name y py,.Name z pz] kt pt] (.Tuple [a,b,c] k2 fR) pos) (Qh i j k ta):=by
 intro U s σ H D I h;rw [exec_Assign_arm];refine À (ů ?_);rw [hs];refine À (Â ?_);rw [í (by decide)];refine À (Tuple_ (aH (ha _ U s σ H _ I h) fun B Z R=>?_));obtain ⟨t,T,Q,P,v,w,u,e1,O⟩:=R;subst e1;obtain ⟨Y,W,V,rfl,M,L,K⟩:=vals3 P;refine ò ?_ (by show 3<=Ñ;decide)
 have J:Inv X U σ T { Z with heap:=Z.heap.push { cls:=.type "tuple",data:=.seq [Y,W,V].toArray } }:=Q.kept (t':=Z.toks) fun b o e=>Á _ e
 rw [hw];refine À (Â ?_)
 show Ù (à X.prog X.w) X.A (do rule "assign.swapped-stores";let items <- unpackItems (.ref Z.heap.objs.size) 3 none;Wh [fun v=>VW X.env z v,fun v=>VW X.env y v,fun v=>VW X.env x v] items.reverse;pure Flow.next) _ _ _
 refine À (ŋ (À (unpackItems_tuple (items:=#[Y,W,V]) (I.ok.hd hc) (IsTup.new Z.heap _) fun h' G=>?_)));have F:=J.kept (h':=h') (t':=Z.toks) fun b o e=>G b o (Û (Ç e)) e
 show Ù _ _ (Wh [fun v=>VW X.env z v,fun v=>VW X.env y v,fun v=>VW X.env x v] [V,W,Y] >>= fun _=>pure Flow.next) _ _ _
 refine À (Ŏ (VX (kW F hN hk (.inl hz) K (fun r E=>?_) (.inr hz))));refine Ŏ (VX (kW E hN hj (.inl hy) L (fun q C=>?_) (.inr hy)));refine Ŏ (VX (kW C hN hi (.inl hx) M (fun p S=>assignInOrder_nil (Â ?_)) (.inr hx)));rw [List.set_comm _ _ (Ÿ zY),List.set_comm _ _ (Ÿ m7),List.set_comm _ _ (Ÿ df)] at S;exact ⟨_,T,S,O⟩
end
end L2
namespace DI
open PySem L2
section
variable {X:Cx} {Ξ:Wd->aW->Prop} {a b c:Ğ} {pos:Pos} {fa:WR (List D)}
def uk (i j k:Nat) (fa:WR (List D)):WR Fl:=fun env s=>ai (fa env s) fun Z s=>match Z with
 | [x,y,z]=>ok (.nx (((env.set i (some x)).set j (some y)).set k (some z))) s
 |_=>none
def OI (i j k:Nat) {x y z:Str} {px py pz pt:Pos} {kt k2 fR} (hc:X.calm=true) (hN:X.N.Nodup) (ha:PA X [a,b,c] (tA X.K Ξ fa)) (hi:X.N[i]?=some x:=by rfl) (hj:X.N[j]?=some y:=by rfl) (hk:X.N[k]?=some z:=by rfl) (df:i≠j:=by decide) (m7:i≠k:=by decide) (zY:j≠k:=by decide)
  (hx:X.env.scope.names.lookup x=some .local:=by rfl) (hy:X.env.scope.names.lookup y=some .local:=by rfl) (hz:X.env.scope.names.lookup z=some .local:=by rfl)
  (hw:ű [.Tuple [.Name x px,.Name y py,.Name z pz] kt pt] (.Tuple [a,b,c] k2 fR) X.env=pure (some [x,y,z]):=by rfl)
  (hs:Ű [.Tuple [.Name x px,.Name y py,.Name z pz] kt pt] (.Tuple [a,b,c] k2 fR) pos.line X.env=pure false:=by rfl) :
  PS X (.Assign [.Tuple [.Name x px,.Name y py,.Name z pz] kt pt] (.Tuple [a,b,c] k2 fR) pos) (tS X.K Ξ (uk i j k fa)):=jg (M7 hc hN hi hj hk df m7 zY hx hy hz ha hw hs) fun M σ H W=>by
 obtain ⟨w,env,V,S,Y,h⟩:=W;subst V;refine ⟨w,env,rfl,S,Y,(Out.ai h).mono fun L J U T Z I R=>?_⟩;split at Z
 ·obtain ⟨v,r,rfl,Q,dr⟩:=R
  obtain ⟨u,t,rfl,P,O⟩:=pP dr;exact ⟨v,u,t,rfl,ay T Z _ ((((Y.le U).set Q i).set P j).set O k)⟩
 ·exact Z.elim
end
def LK:List D->aa->Res D:=aJ 2 6 (ar (uk 2 3 4 (ae (e2 bH (aG bJ (ae (af 0) (ae (eC (.int 3)) ah))) (eC (.int 0))) (ae (eNew ah) (ae (e2 bO (eC (.int 2)) (aG bJ (ae (af 0) (ae (eC (.int 9)) ah)))) ah)))) (ar (et (cw (ae (eC (.int 31)) ah)) (gN 5) (ar (bb (dP (rf (af 2) (e2 bH (aG bJ (ae (af 0) (ae (af 4) ah))) (eC (.int 0)))) (e2 jc (af 5) (af 1))) (gN 2)) (bA (cQ (af 2)) (c9 (jB (af 3) (af 5))) bK))) (aP (yC (af 3)))))
def pF (W:ú):List D->aa->Res D:=aJ 1 12 (ar (bb (aU (ae TK.Qc (ae (e2 bO (eC (.int 1)) (aG bJ (ae (af 0) (ae (eC (.int 3)) ah)))) (ae (e2 bO (eC (.int 1)) (aG bJ (ae (af 0) (ae (eC (.int 3)) ah)))) ah)))) (gT [(gN 1),(gN 2),(gN 3)])) (ar (et (cw (ae (af 2) ah)) (gN 4) (ar (bb (aU (ae (cK 1 [] (cw (ae (eC (.int 8)) ah)) (gN 0) dD (eNew ah)) (ae (eNew ah) ah))) (gT [(gN 5),(gN 6)])) (ar (et (cw (ae (aG bJ (ae (af 0) (ae (eC (.int 4)) ah))) ah)) (gN 7) (ar (bb (aU (ae (aG bJ (ae (af 0) (ae (eC (.int 8)) ah))) (ae (aG bJ (ae (af 0) (ae (eC (.int 31)) ah))) ah))) (gT [(gN 8),(gN 9)])) (ar (c9 (jB (e2 aE (af 5) (af 8)) (af 9))) (TK.Fj W (eC (.bl true)) (af 1) (aU (ae (eC (.str "mended")) (ae (af 4) (ae (af 9) (ae (af 8) ah))))))))) (ar (et (cw (ae (eC (.int 8)) ah)) (gN 8) (c9 (jB (af 6) (aG LK (ae (af 0) (ae (e2 aE (af 5) (af 8)) ah)))))) (et (cw (ae (aG bJ (ae (af 0) (ae (eC (.int 5)) ah))) ah)) (gN 7) (ar (bb (aG bJ (ae (af 0) (ae (eC (.int 31)) ah))) (gN 9)) (ar (bb (cK 1 [0,3] (cw (ae (eC (.int 8)) ah)) (gN 0) (aY (e2 bH (aG bJ (ae (af 1) (ae (af 2) ah))) (eC (.int 0)))) (af 0)) (gN 10)) (ar (bb (eB dw (ae (cK 1 [9,6] (dQ (af 10)) (gN 0) (aY (e2 eD (af 1) (e2 aE (af 2) (af 0)))) (af 0)) ah)) (gN 11)) (TK.Fj W (eC (.bl true)) (af 1) (aU (ae (eC (.str "made")) (ae (af 4) (ae (af 9) (ae (aU (ae (af 11) (ae (eB dw (ae (cK 1 [9,6] (dQ (af 10)) (gN 0) (aY (e2 jc (af 1) (e2 aE (af 2) (af 0)))) (af 0)) ah)) ah))) ah)))))))))))))) (aP (eB dw (ae (eB TK.nL (ae (eB TK.OF (ae (af 1) ah)) ah)) ah)))))
def Bo:List D->aa->Res D:=aJ 2 2 (aP (qt (eB ug (ae (cK 1 [1] (dQ (af 0)) (gN 0) dD (e2 eD (af 0) (af 1))) ah))))
def Bx:List D->aa->Res D:=aJ 1 3 (ar (bA (iS (eY (cQ (eB gu (ae (af 0) (ae (eC (.ty "tuple")) ah))))) (aY (e2 fM (eB cI (ae (af 0) ah)) (eC (.int 2))))) (aP (eC (.bl false))) bK) (ar (bb (af 0) (gT [(gN 1),(gN 2)])) (aP (dP (aG j3 (ae (af 1) ah)) (dP (aG j3 (ae (af 2) ah)) (aG Bo (ae (af 1) (ae (af 2) ah))))))))
def By:List D->aa->Res D:=aJ 1 1 (aP (aG ny (ae (af 0) (ae (eC (.int (4))) ah))))
def Ck:List D->aa->Res D:=aJ 1 1 (aP (aG ny (ae (af 0) (ae (eC (.int (31))) ah))))
def kT:List D->aa->Res D:=aJ 1 5 (ar (bA (iS (eY (cQ (eB gu (ae (af 0) (ae (eC (.ty "tuple")) ah))))) (aY (e2 fM (eB cI (ae (af 0) ah)) (eC (.int 4))))) (aP (eC (.bl false))) bK) (ar (bb (af 0) (gT [(gN 1),(gN 2),(gN 3),(gN 4)])) (ar (bA (iS (eY (cQ (aG By (ae (af 2) ah)))) (eY (cQ (aG Ck (ae (af 3) ah))))) (aP (eC (.bl false))) bK) (ar (bA (aY (e2 bH (af 1) (eC (.str "made")))) (aP (aG Bx (ae (af 4) ah))) bK) (aP (dP (e2 bH (af 1) (eC (.str "mended"))) (aG oZ (ae (af 4) ah))))))))
def oX:List D->aa->Res D:=aJ 1 1 (aP (dP (eB gu (ae (af 0) (ae (eC (.ty "tuple")) ah))) (dP (e2 mI (eB cI (ae (af 0) ah)) (eC (.int (24)))) (dP (eB kn (ae (cK 1 [] (dQ (af 0)) (gN 0) dD (aG kT (ae (af 0) ah))) ah)) (aG oW (ae (af 0) ah))))))
def vm:List D->aa->Res D:=aJ 4 4 (aP (cK 1 [1,2,3] (dQ (af 0)) (gN 0) (dJ (aY (e2 bH (e2 aE (af 0) (eC (.int 0))) (eC (.str "made")))) (dJ (aY (e2 bH (e2 aE (af 0) (eC (.int 1))) (af 1))) (aY (e2 eD (af 2) (e2 aE (e2 aE (af 0) (eC (.int 3))) (af 3)))))) (e2 aE (af 0) (eC (.int 2)))))
def Ba:List D->aa->Res D:=aJ 3 3 (aP (cK 1 [1,2] (dQ (af 0)) (gN 0) (dJ (aY (e2 bH (e2 aE (af 0) (eC (.int 0))) (eC (.str "mended")))) (dJ (aY (e2 bH (e2 aE (af 0) (eC (.int 1))) (af 1))) (aY (e2 bH (e2 aE (af 0) (eC (.int 3))) (af 2))))) (e2 aE (af 0) (eC (.int 2)))))
def A8:List D->aa->Res D:=aJ 3 3 (aP (eB ug (ae (cK 1 [1,2] (dQ (af 0)) (gN 0) dD (oJ lH mI (af 1) (af 0) (af 2))) ah)))
def BX:List D->aa->Res D:=aJ 3 5 (ar (bb (aG vm (ae (af 0) (ae (af 1) (ae (af 2) (ae (eC (.int (1))) ah))))) (gN 3)) (ar (bb (aG Ba (ae (af 0) (ae (af 1) (ae (af 2) ah)))) (gN 4)) (aP (D4 2 [3,4] (dQ (e1 vL (aG vm (ae (af 0) (ae (af 1) (ae (af 2) (ae (eC (.int (0))) ah))))))) (gN 0) dD (GP (ae (af 0) (ae (eC (.int (31))) ah))) (gN 1) (dJ (iS (aY (e2 eD (af 1) (af 2))) (dJ (aY (e2 bH (af 1) (af 0))) (aY (e2 eD (af 0) (af 3))))) (eY (cQ (aG A8 (ae (af 3) (ae (af 0) (ae (af 1) ah))))))) (aU (ae (af 0) (ae (af 1) ah)))))))
def Bp:List D->aa->Res D:=aJ 1 1 (aP (D5 4 [0] (cw (ae (eC (.int (4))) ah)) (gN 0) dD (cw (ae (eC (.int (8))) ah)) (gN 1) dD (dQ (aG BX (ae (af 4) (ae (af 0) (ae (af 1) ah))))) (gT [gN 2,gN 3]) dD (aU (ae (af 0) (ae (af 1) (ae (af 2) (ae (af 3) ah)))))))
def kU:List D->aa->Res D:=aJ 1 1 (aP (dP (aG oX (ae (af 0) ah)) (TK.Fn (aG Bp (ae (af 0) ah)))))
def l0:List D->aa->Res D:=aJ 1 1 (bA (eY (cQ (aG kU (ae (af 0) ah)))) jQ bK)
section
variable {X:Cx} {Ξ:Wd->aW->Prop} {a b:Ğ} {pos:Pos} {fa:WR (List D)}
end
noncomputable def notStar:Ğ->Bool
 | .Starred ..=>false
 |_=>true
def M8 (h:notStar e=true):Ê (e::es) env=(false,ļ e env)::Ê es env:=by
 cases e<;>first|rfl|cases h
section
variable {X:Cx} {Ξ:Wd->aW->Prop} {e:Ğ} {es:List Ğ} {f:WR D} {fa:WR (List D)} {pos:Pos}
def dq (ha:PE X e (tE X.K Ξ f)) (hr:PA X es (tA X.K Ξ fa)) (h:notStar e=true):PA X (e::es) (tA X.K Ξ (ae f fa)):=aQ ha hr (M8 h)
def OJ {e1 e2 e3 e4 e5 e6 e7 e8:Ğ} {f1 f2 f3 f4 f5 f6 f7 f8:WR D} (h1:PE X e1 (tE X.K Ξ f1)) (h2:PE X e2 (tE X.K Ξ f2)) (h3:PE X e3 (tE X.K Ξ f3)) (h4:PE X e4 (tE X.K Ξ f4)) (h5:PE X e5 (tE X.K Ξ f5)) (h6:PE X e6 (tE X.K Ξ f6)) (h7:PE X e7 (tE X.K Ξ f7)) (h8:PE X e8 (tE X.K Ξ f8)) (s1:notStar e1=true:=by rfl) (s2:notStar e2=true:=by rfl) (s3:notStar e3=true:=by rfl) (s4:notStar e4=true:=by rfl) (s5:notStar e5=true:=by rfl) (s6:notStar e6=true:=by rfl) (s7:notStar e7=true:=by rfl) (s8:notStar e8=true:=by rfl):PE X (.List [e1,e2,e3,e4,e5,e6,e7,e8] pos) (tE X.K Ξ (cC (ae f1 (ae f2 (ae f3 (ae f4 (ae f5 (ae f6 (ae f7 (ae f8 ah)))))))))):=dh (dq h1 (dq h2 (dq h3 (dq h4 (dq h5 (dq h6 (dq h7 (dq h8 cq s8) s7) s6) s5) s4) s3) s2) s1)
end
section
variable {X:Cx} {Ξ:Wd->aW->Prop} {pos:Pos}
def M9 {e1 e2 e3 e4 e5 e6 e7 e8 e9 zZ z3:Ğ} {f1 f2 f3 f4 f5 f6 f7 f8 f9 GY GZ:WR D} (h1:PE X e1 (tE X.K Ξ f1)) (h2:PE X e2 (tE X.K Ξ f2)) (h3:PE X e3 (tE X.K Ξ f3)) (h4:PE X e4 (tE X.K Ξ f4)) (h5:PE X e5 (tE X.K Ξ f5)) (h6:PE X e6 (tE X.K Ξ f6)) (h7:PE X e7 (tE X.K Ξ f7)) (h8:PE X e8 (tE X.K Ξ f8)) (h9:PE X e9 (tE X.K Ξ f9)) (Tq:PE X zZ (tE X.K Ξ GY)) (lQ:PE X z3 (tE X.K Ξ GZ)) (s1:notStar e1=true:=by rfl) (s2:notStar e2=true:=by rfl) (s3:notStar e3=true:=by rfl) (s4:notStar e4=true:=by rfl) (s5:notStar e5=true:=by rfl) (s6:notStar e6=true:=by rfl) (s7:notStar e7=true:=by rfl) (s8:notStar e8=true:=by rfl) (s9:notStar e9=true:=by rfl) (Tr:notStar zZ=true:=by rfl) (Ts:notStar z3=true:=by rfl):PE X (.List [e1,e2,e3,e4,e5,e6,e7,e8,e9,zZ,z3] pos) (tE X.K Ξ (cC (ae f1 (ae f2 (ae f3 (ae f4 (ae f5 (ae f6 (ae f7 (ae f8 (ae f9 (ae GY (ae GZ ah))))))))))))):=dh (dq h1 (dq h2 (dq h3 (dq h4 (dq h5 (dq h6 (dq h7 (dq h8 (dq h9 (dq Tq (dq lQ cq Ts) Tr) s9) s8) s7) s6) s5) s4) s3) s2) s1)
end
end DI
namespace L2
open PySem PySem.Spec PyProof.Rows
structure jX (P:ß) (w:ú) (outer:List Env) (H:Hp) (s:Ã) (H':Hp) (B:ħ) (a:Ø) (cls a0:Ä) (h:ħ):Prop where
 fl:Heap.FlyingW B outer a cls a0 h
 old:∀b o,s.heap.get? b=some o->H b=none->b∉bM outer->B.get? b=some o
 there:∀b o,s.heap.get? b=some o->b∉bM outer->∃o',B.get? b=some o'
 slot:∀b o,s.heap.get? b=some o->b∈bM outer->∃sl,h.get? b=some { o with slots:=sl }
 aD:bR P w H' B
 free:∀b o,s.heap.get? b=some o->H b=none->H' b=none
 dB:∀b xs,H b=some (.tup xs)->H' b=some (.tup xs)
 de:∀b o u,H b=some (.ba o u)->H' b=some (.ba o u)
 dC:∀b ps,H b=some (.cO ps)->∃more,H' b=some (.cO (ps++more))
def fW (P:ß) (w:ú):gO:=fun outer H s E e Z=>∃a cls X Y B,e=.ref a/\Z.os=s.os/\WL Z.gens/\jX P w outer H s Y B a cls X Z.heap/\E cls none Y
section
variable {P:ß} {w:ú} {outer:List Env} {H H':Hp} {s:Ã} {B h h':ħ} {a:Ø} {cls a0:Ä}
def jX.un (F:jX P w outer H s H' B a cls a0 h):Un (bM outer) [] H H' s.heap h where
 keep:=fun b o e n Z _=>F.fl.1 b o (F.old b o e n Z)
 slot:=fun b o e n Z _=>F.slot b o e Z
 free:=fun b o e n _=>F.free b o e n
 there:=fun b o e _=>by
  by_cases Z:b∈bM outer
  ·obtain ⟨X,q⟩:=F.slot b o e Z
   exact ⟨_,q⟩
  ·obtain ⟨Y,q⟩:=F.there b o e Z
   exact ⟨Y,F.fl.1 b Y q⟩
 dB:=F.dB
 de:=F.de
 dC:=F.dC
def jX.held (F:jX P w outer H s H' B a cls a0 h):bR P w H' h:=F.aD.kept fun b o e=>F.fl.1 b o e
def jX.on (F:jX P w outer H s H' B a cls a0 h) (hf:Heap.FlyingW B outer a cls a0 h') (hs:h.UpToSlots h'):jX P w outer H s H' B a cls a0 h' :=
 { F with
  fl:=hf
  slot:=fun b o e Z=>by
   obtain ⟨U,q⟩:=F.slot b o e Z;obtain ⟨_,T,Y,X⟩:=F.fl.2.2.1.mem Z;rw [q] at Y;cases Y;obtain ⟨W,V⟩:=hs b _ q X;exact ⟨W,V⟩ }
def cJ.Qi {o:HO} (x:cJ P w H h a o):∃ob,h.get? a=some ob:=by
 cases o with
 |lst Z=>obtain ⟨_,_,_,_,e⟩:=x;exact ⟨_,e⟩
 |tup Z=>obtain ⟨_,_,_,ob,e,_⟩:=x;exact ⟨ob,e⟩
 |dK Y=>obtain ⟨_,_,_,_,o,_,_,e,_⟩:=x;exact ⟨_,e⟩
 |dT Y=>obtain ⟨_,_,_,_,o,_,_,e,_⟩:=x;exact ⟨_,e⟩
 |set S n=>obtain ⟨o,_,_,_,e,_⟩:=x;exact ⟨_,e⟩
 |ins C X fs=>obtain ⟨_,_,_,e,_⟩:=x;exact ⟨_,e⟩
 |own y=>exact x
 |xd fs=>obtain ⟨_,⟨_,_,_,e,_⟩,_⟩:=x;exact ⟨_,e⟩
 |di lo hi=>obtain ⟨_,_,_,e⟩:=x;exact ⟨_,e⟩
 |ba ob u=>obtain ⟨e,_⟩:=x;exact ⟨_,e⟩
 |cO W=>exact ⟨_,x⟩
 |met f y=>exact ⟨_,x⟩
 |ext V=>obtain ⟨_,e,_⟩:=x;exact e
def jX.new (F:jX P w outer H s H' B a cls a0 h):H' a=none:=by
 cases e:H' a with
 |none=>rfl
 |some o =>
  obtain ⟨Y,Z⟩:=(F.aD a o e).Qi;rw [F.fl.2.1] at Z;cases Z
end
structure Lv (X:Cx) (E:XK):Prop where
 xe:X.xe=fun e s'=>Ù (à X.prog X.w) X.A (leaving X.env e) (fun _ gP=>fW X.prog X.w X.outer X.jz X.cf E e gP) (fun e' gP=>fW X.prog X.w X.outer X.jz X.cf E e' gP) s'
 jG:X.stack=X.env::X.outer
 fr:X.env.frame=some X.env.locals
 ex:X.ex=[]
section
variable {X:Cx} {E:XK} {π:List (Ø×Obj)} {σ:St} {H:Hp} {s:Ã}
def Inv.sR (I:Inv X π σ H s) (L:Lv X E) {b:Ø} {o:Obj} (e:X.cf.heap.get? b=some o) (hb:b∉bM X.outer):b∉bM X.stack:=fun z=>by
 rcases Ð.mp (I.iz b z) with q|q
 ·exact absurd (Ç e) (by rw [q];exact Nat.not_lt.mpr I.ok.above)
 ·exact hb q
def vW (L:Lv X E) {b:Ø} (hb:b∈bM X.outer):b∈bM X.stack:=by
 rw [L.jG];unfold bM;rw [ξ,L.fr];exact Õ _ hb
def eO (L:Lv X E):Passes (fW X.prog X.w) X E:=by
 intro π σ H s e G I h;obtain ⟨a,cls,T,S,B,rfl,os,bare,F,q⟩:=h;rw [L.xe];have fl:=F.fl;rw [L.jG] at fl;refine wpAny_leaves_onW (by rw [I.ok.frames,L.jG]) L.fr fl fun D R Q=>⟨a,cls,T,S,B,rfl,os.trans I.os,bare,⟨R,fun b o e n Z=>?_,fun b o e Z=>?_,fun b o e Z=>?_,F.aD,fun b o e n=>?_,fun b V e=>F.dB b V (I.base.dB b V e),fun b o u e=>F.de b o u (I.base.de b o u e),fun b P e=>?_⟩,q⟩
 ·exact F.old b o (I.base.keep b o e n Z (by rw [L.ex];simp)) (I.base.free b o e n (by rw [L.ex];simp)) (I.sR L e Z)
 ·obtain ⟨W,Y⟩:=I.base.there b o e (by rw [L.ex];simp)
  exact F.there b W Y (I.sR L e Z)
 ·obtain ⟨C,Y⟩:=I.base.slot b o e (I.ok.jH b Z) Z (by rw [L.ex];simp)
  obtain ⟨A,e2⟩:=F.slot b _ Y (vW L Z);obtain ⟨_,z,U,O⟩:=F.fl.2.2.1.mem (vW L Z);rw [e2] at U;cases U;obtain ⟨N,M⟩:=Q b _ e2 O;exact ⟨N,M⟩
 ·obtain ⟨W,Y⟩:=I.base.there b o e (by rw [L.ex];simp)
  exact F.free b W Y (I.base.free b o e n (by rw [L.ex];simp))
 ·obtain ⟨K,e1⟩:=I.base.dC b P e
  obtain ⟨J,e2⟩:=F.dC b _ e1;exact ⟨K++J,by rw [e2,Array.append_assoc]⟩
def Jw (L:Lv X E) (I:Inv X π σ H s) {h1:ħ} {e:Ø} {cls:Ä} {us:List Ä} (hm:Heap.MadeExcOf s.heap h1 e cls us) (q:E cls none H):X.xe (.ref e) { s with heap:=h1 }:=by
 rw [L.xe];have V:=I.stack;have U:∀b u,H b=some u->b∉bM X.stack:=fun b u e z=>by rw [I.pw b z] at e;cases e
 refine wpAny_leaves_madeW (base:=PySem.W.hideAll s.heap (bM X.stack)) (h:=s.heap) (env:=X.env) (outer:=X.outer) (by rw [I.ok.frames,L.jG]) L.fr (fun b o e=>PySem.W.of_hideAll _ e) ?_ hm fun J t S _ _ R=>⟨e,cls,_,H,PySem.W.hideAll s.heap (bM X.stack),rfl,I.os,I.bare,⟨S,fun b o e n Z=>?_,fun b o e Z=>?_,fun b o e Z=>?_,fun b u e=>?_,fun b o e n=>I.base.free b o e n (by rw [L.ex];simp),I.base.dB,I.base.de,I.base.dC⟩,q⟩
 ·rw [<- L.jG]
  refine PySem.W.funFrames_hide V fun env Q a P=>?_;unfold bM;exact Vu.mpr ⟨env,Q,P⟩
 ·exact ν _ (I.base.keep b o e n Z (by rw [L.ex];simp)) (I.sR L e Z)
 ·obtain ⟨O,Y⟩:=I.base.there b o e (by rw [L.ex];simp)
  exact ⟨O,ν _ Y (I.sR L e Z)⟩
 ·obtain ⟨G,Y⟩:=I.base.slot b o e (I.ok.jH b Z) Z (by rw [L.ex];simp)
  obtain ⟨_,F,T,N⟩:=V.mem (vW L Z);rw [Y] at T;cases T;obtain ⟨M,K⟩:=R b _ (hm.keeps b _ Y) N;exact ⟨M,K⟩
 ·refine (I.aD b u e).cV (fun c v hc z=>ν _ z ?_) (fun _ z=>z) fun _ _ z=>z
  rcases hc with rfl|hc
  ·exact U c _ e
  ·exact U c _ hc
def OK (X:Cx) (M:Mod X.K X.mg X.base) {x:Str} {C:Ø} {oR:List Ä} {newId:String} (eC:é X.K Ó x=some (some (.ref C))) (qC:WN X.K C oR newId=true):OwnCls x C oR newId X.mg X.base:=by
 have KB:=M.iR;refine ⟨Ķ KB M.glob eC,?_⟩;unfold WN at qC;split at qC
 case h_2=>cases qC
 rename_i P cd Y O;split at qC
 case h_2=>cases qC
 rename_i H bm V a1 a2 U nw T S hs;simp only [È,beq_iff_eq,ŵ] at qC;obtain ⟨⟨⟨⟨⟨N,L⟩,R⟩,J⟩,Z⟩,Q⟩:=qC;subst N L;cases cd;dsimp only at S R Z Q;subst S R;have I:Y=#[V,a1,a2,U,some (.builtin nw),T]:=by cases Y;simp only at hs;rw [hs]
 subst I;exact ⟨bm,_,_,_,_,_,_,_,_,_,P,V,a1,a2,U,T,_,KB _ _ O,.of_isNs (PySem.W.isNs_of_in KB Z),PySem.W.nsMap_none_of_in KB Z Q,PySem.W.tail_of_in KB J⟩
def LL {x:Str} {C:Ø} {oR:List Ä} {B newId OL:String} {np bh pos:Pos} {kC:Ğ} {rest:List Ğ} {t:TA} (L:Lv X E) (eC:é X.K Ó x=some (some (.ref C))) (qC:WN X.K C oR newId=true) (FB:ExcBaseFacts B newId OL oR) (hc:X.calm=true) (hg:Gl X x) (ha:PA X (kC::rest) t) (hd:(x==("__debug__":Str))=false:=by decide)
  (he:Ê (kC::rest) X.env=(false,ļ kC X.env)::Ê rest X.env:=by rfl) (iA:(ı bh (Ê rest X.env)).any (·.1)=false:=by rfl) :
  PS X (.Raise (some (.Call (.Name x np) (kC::rest) [] bh)) none pos) (fun _ σ H=>t σ H fun vs H1=>vs.length<=Ñ/\E (.ref C) none H1):=by
 intro π s σ H D I h;have O:OwnCls x C oR newId X.mg X.base:=OK X I.ok.mod eC qC;obtain ⟨W,N,nm,q,bs,hdct,sn,sub,ab,col,dd,k0,k1,k2,k3,k5,mN,V,U,S,T⟩:=O.obj;refine wpAny_Raise_call_subT (C:=C) (nm:=nm) (q:=q) (N:=N) (bs:=bs) (bm:=W) (hdct:=hdct) (sn:=sn) (sub:=sub) (ab:=ab) (col:=col) (dd:=dd) (k0:=k0) (k1:=k1) (k2:=k2) (k3:=k3) (k5:=k5)
  FB (mN:=mN) (T.hasType FB.hasBase) (I.ok.hd hc) (by rw [he];show (false||(ı bh (Ê rest X.env)).any (·.1))=false;rw [iA];rfl) S (nC I hg O.bound ⟨rfl,?_⟩ hd)
 have Y:=ha bh π s σ H _ I h;rw [he] at Y |-;refine Calls.evalArgs_plain (aH Y fun P M ⟨vs,H1,Z,r,z,R⟩=>⟨rfl,by rw [<- r.length];exact z,Z.bk _ _ V,U.keeps Z.bk,T.keeps Z.bk,fun J e Q=>?_⟩);exact Jw L Z Q R
end
end L2
namespace DI
open PySem L2
abbrev GG (K:č) (mg:Str->Option Ä) (x:Str) (st:WE) (ps:List Str):Prop:=∃f fd,Gd K mg x st ps f fd
abbrev bW (P:ß) (w:ú) (K:č) (mg:Str->Option Ä) (base:ħ) (x:Str) (st:WE) (ps:List Str) (k:Nat) (fn:List D->aa->Res D):Prop:=∀{f:Ø} {fd:ę},Gd K mg x st ps f fd->cG P w K mg base cP k f fd ps (i4 K fn)
noncomputable def mO (N ps:List Str) (sc:ŷ):Bool:=decide (sc.kind=.function)&&!sc.isCoroutine&&!sc.isGenerator&&decide N.Nodup&&decide (N.take ps.length=ps)&&ps.all (fun x=>decide (sc.names.lookup x=some .local\/sc.names.lookup x=some .cell))&&sc.names.all (fun y=>decide (y.2≠.free))
def jj (h:mO N ps sc=true):nD N ps sc:=by
 unfold mO at h;simp only [È,ŵ,Ü,ĝ] at h;obtain ⟨⟨⟨⟨⟨⟨Z,Y⟩,X⟩,W⟩,V⟩,U⟩,T⟩:=h;exact ⟨Z,Y,X,W,V,U,T⟩
def cb (G:Gd K mg x st ps f fd) (N:List Str) (S:mO N ps (bX st)=true)
 (hb:N.Nodup->∀(aR:Ä) (A:æ) (outer:List PySem.Env) (s:Ã) (H:Hp) (E:XK),bC k (A.deeper (Ĵ x (bX st) s.heap.objs.size f aR))->cg (fI cP P w K mg base N x (bX st) f aR A outer s H E).kF (gb st) (tS K bQ b)) :
  cG P w K mg base cP (k+1) f fd ps (i4 K (aJ ps.length N.length b)):=P2 G.fn (jj S) (hb (jj S).nd)
section
variable {X:Cx} {Ξ:Wd->aW->Prop} {e a b c tg el src:Ğ} {es rest tests:List Ğ} {pos:Pos} {f g h:WR D} {fa:WR (List D)} {ft gt:WR Bool}
def aZ {k n:Nat} {x:Str} {st:WE} {ps:List Str} {fn:List D->aa->Res D} {p:Pos} (G:GG X.K X.mg x st ps) (F:bW X.prog X.w X.K X.mg X.base x st ps k fn) (hr:bC n X.A) (ha:PA X (e::es) (tA X.K Ξ fa)) (hk:k<=n:=by decide) (hg:Gl X x:=by rfl) (cY:(x==("__debug__":Str))=false:=by decide)
  (he:Ê (e::es) X.env=(false,ļ e X.env)::Ê es X.env:=by rfl) (bu:(ı pos (Ê es X.env)).any (·.1)=false:=by rfl):PE X (.Call (.Name x p) (e::es) [] pos) (tE X.K Ξ (aG fn fa)):=by
 obtain ⟨f,fd,G⟩:=G;exact Ol (F G) (hr.mono hk) hg G.mg G.fn.kp G.b ha cY he bu
def ax (ha:PE X a (tE X.K Ξ f)) (hs:Ê [a] X.env=(false,ļ a X.env)::Ê [] X.env:=by rfl):PA X [a] (tA X.K Ξ (ae f ah)):=aQ ha cq hs
def aN (ha:PE X a (tE X.K Ξ f)) (hb:PE X b (tE X.K Ξ g)) (h1:Ê [a,b] X.env=(false,ļ a X.env)::Ê [b] X.env:=by rfl) (h2:Ê [b] X.env=(false,ļ b X.env)::Ê [] X.env:=by rfl):PA X [a,b] (tA X.K Ξ (ae f (ae g ah))):=aQ ha (aQ hb cq h2) h1
def jl (ha:PE X a (tE X.K Ξ f)) (hb:PE X b (tE X.K Ξ g)) (hc:PE X c (tE X.K Ξ h)) (h1:Ê [a,b,c] X.env=(false,ļ a X.env)::Ê [b,c] X.env:=by rfl) (h2:Ê [b,c] X.env=(false,ļ b X.env)::Ê [c] X.env:=by rfl) (h3:Ê [c] X.env=(false,ļ c X.env)::Ê [] X.env:=by rfl):PA X [a,b,c] (tA X.K Ξ (ae f (ae g (ae h ah)))):=aQ ha (aQ hb (aQ hc cq h3) h2) h1
def ic {x:Str} {px:Pos} {sc:ŷ} {ps:Pos} (N:List Str) {cap:List Nat} {it:WR (List D)} (hi:PI X (.Name x px) src (dZ X.K Ξ it))
  (hY:∀(cl:List (Str×Ø)) (C:Ø) (s:Ã) (H:Hp) (ex:List Ø) (pn:List (Ø×Obj)),PF (fV X N sc cl C s H ex pn) tests (tT X.K bQ ft)/\PE (fV X N sc cl C s H ex pn) el (tE X.K bQ f))
  (hc:X.calm=true:=by rfl) (S:xa sc X.env.scope.names X.N N 1 cap=true:=by kernel_rfl) (nd:N.Nodup:=by decide +kernel) (h0:N[0]?=some x:=by rfl) (hx:∀cl C s H ex pn,(fV X N sc cl C s H ex pn).env.scope.names.lookup x=some .local:=by intros;rfl) (hs:∀x,û src X.env x=pure x:=by intro _;rfl) :
  PE X (.ListComp el [⟨.Name x px,src,tests,0⟩] sc ps) (tE X.K Ξ (cK 1 cap it (gN 0) ft f)) :=
 C5 hc (Fi S) (pC 0) hi (fun cl C s H ex pn=>⟨i8 nd h0 (.inl (hx cl C s H ex pn)) (.inr (hx cl C s H ex pn)),hY cl C s H ex pn⟩) hs
end
def gW (mg:Str->Option Ä) (E:XK):Wd->aW->Prop:=fun w x=>x.many=none/\∃C,mg x.c=some (.ref C)/\E (.ref C) none w.H
def uU (mg:Str->Option Ä) (K:č) (f:List D->aa->Res D):Sp:=fun X H Q E=>∃w Z,w.H=H/\aL K w/\ak K w Z X/\Out K (gW mg E) w (f Z w.aF) fun Y d=>∀v,DV K Y d v->Q v Y.H
def xh (c:Str) (fa:WR (List D)):WR Fl:=fun env s=>ai (fa env s) fun Z s=>if decide (Z.length<=10)=true then some (.error ⟨c,none⟩,s) else none
def uq (K:č) (mg:Str->Option Ä) (x:Str):Prop:=∃C,é K Ó x=some (some (.ref C))/\mg x=some (.ref C)/\WN K C [.type "ValueError",.type "Exception",.type "BaseException",.type "object"] "ValueError.__new__"=true
def cF (fn:List D->aa->Res D) (fa:WR (List D)):WR D:=fun env s=>ai (fa env s) fn
section
variable {X:Cx} {E:XK} {Ξ:Wd->aW->Prop} {e a b c:Ğ} {es rest:List Ğ} {pos:Pos} {f g h:WR D} {fa:WR (List D)}
def C9 {x:Str} {np bh:Pos} {kC:Ğ} (L:Lv X E) (hO:uq X.K X.mg x) (ha:PA X (kC::rest) (tA X.K (gW X.mg E) fa)) (hc:X.calm=true:=by rfl) (hg:Gl X x:=by rfl) (hd:(x==("__debug__":Str))=false:=by decide)
  (he:Ê (kC::rest) X.env=(false,ļ kC X.env)::Ê rest X.env:=by rfl) (iA:(ı bh (Ê rest X.env)).any (·.1)=false:=by rfl) :
  PS X (.Raise (some (.Call (.Name x np) (kC::rest) [] bh)) none pos) (tS X.K (gW X.mg E) (xh x fa)) :=
 let ⟨C,eC,V,U⟩:=hO
 jg (LL L eC U PySem.F.excBase_ValueError hc hg ha hd he iA) fun N σ H T=>by
  obtain ⟨w,env,R,S,Q,h⟩:=T;subst R;refine ⟨w,env,rfl,S,Q,(Out.ai h).mono fun W M J P Z I O=>?_⟩;split at Z
  ·rename_i Y
   have Y:=ă Y;obtain ⟨_,G,e1,q⟩:=Z W (Le.refl W) P rfl;rw [V] at e1;cases e1;exact ⟨á (by rw [<- O.length];exact Y) (by decide),q⟩
  ·exact Z.elim
def Na {k:Nat} {fA:Ø} {fd:ę} {rk:List Str} {fn:List D->aa->Res D} {x:Str} {p:Pos} (L:Passes (fW X.prog X.w) X E) (F:cG X.prog X.w X.K X.mg X.base (fW X.prog X.w) k fA fd rk (uU X.mg X.K fn)) (hr:bC k X.A) (hg:Gl X x) (hm:X.mg x=some (.ref fA)) (hk:ĵ X.K (.ref fA)=true) (hb:Binds X.K fd rk [])
  (ha:PA X (e::es) (tA X.K (gW X.mg E) fa)) (cY:(x==("__debug__":Str))=false:=by decide) (he:Ê (e::es) X.env=(false,ļ e X.env)::Ê es X.env:=by rfl) (bu:(ı pos (Ê es X.env)).any (·.1)=false:=by rfl) :
  PE X (.Call (.Name x p) (e::es) [] pos) (tE X.K (gW X.mg E) (cF fn fa)):=bZ (CB F hr hg hm hk hb .nil L ha cY he bu) fun σ H Q Y=>by
 obtain ⟨w,env,W,S,V,h⟩:=Y;subst W;refine ⟨w,env,rfl,S,V,(Out.ai h).mono fun Z U N T R P O=>?_⟩;show uU X.mg X.K fn (P++[]) Z.H Q E;rw [Ĩ];exact ⟨Z,U,rfl,T,O,R⟩
end
def iD {P:ß} {w:ú} {K:č} {mg:Str->Option Ä} {base:ħ} {x:Str} {st:WE} {f:Ø} {fd:ę} {ps:List Str} {k:Nat} {b:WR Fl} (G:Gd K mg x st ps f fd) (N:List Str) (S:mO N ps (bX st)=true)
  (hb:N.Nodup->∀(aR:Ä) (A:æ) (outer:List PySem.Env) (s:Ã) (H:Hp) (E:XK),bC k (A.deeper (Ĵ x (bX st) s.heap.objs.size f aR))->Lv (fI (fW P w) P w K mg base N x (bX st) f aR A outer s H E) E->cg (fI (fW P w) P w K mg base N x (bX st) f aR A outer s H E) (gb st) (tS K (gW mg E) b)) :
  cG P w K mg base (fW P w) (k+1) f fd ps (uU mg K (aJ ps.length N.length b)):=by
 obtain ⟨J,I,kV,doc,pm,an,aR,ct,F,rfl,lk,V⟩:=G.fn.ex;refine xH lk V (jj S) (fun U H Q E h=>?_) fun A outer s H U Q E T h=>?_
 ·obtain ⟨w,R,rfl,S,Y,h⟩:=h
  rw [<- Y.length];unfold aJ at h;split at h
  ·assumption
  ·exact h.elim
 ·obtain ⟨X,R,rfl,O,Y,h⟩:=h
  refine ⟨_,hb (jj S).nd aR A outer s X.H E T ⟨rfl,rfl,rfl,rfl⟩,?_⟩;unfold aJ at h;split at h
  ·rename_i M
   rw [<- M] at h;refine ⟨X,_,rfl,O,Y.env N.length,(Out.ai h).mono fun D L C W Z=>?_⟩
   cases L with
   |nx env=>intro B _;exact ay W Z _ rfl
   |rt d=>have q:=ay W Z;exact q
   |bk env=>exact Z.elim
   |ct env=>exact Z.elim
  ·exact h.elim
end DI
namespace L2
open PySem PySem.Spec PyProof.Rows PySem.W
structure Qj (env:Env) (names:List (Str×Ŕ)) (cl:List (Str×Ø)):Prop where
 qe:∀x c,cl.lookup x=some c->env.cells.lookup x=some c
 all:∀x,(x,ã)∈names->∃c,cl.lookup x=some c
theorem vX {env:Env}:∀(names:List (Str×Ŕ)) (acc:List (Str×Ø)),(∀x,(x,ã)∈names->∃c,env.cells.lookup x=some c)->(∀x c,acc.lookup x=some c->env.cells.lookup x=some c) ->
  ∃cl,(forIn names acc fun (p:Str×Ŕ) (r:List (Str×Ø))=>(match p with | (name,kind)=>if kind==.free then (do let c <- cellOf env name;pure (Ī ((name,c)::r))) else pure (Ī r):Sem (ForInStep (List (Str×Ø)))))=pure cl /\
   (∀x c,cl.lookup x=some c->env.cells.lookup x=some c)/\(∀x,(x,ã)∈names->∃c,cl.lookup x=some c)/\∀x c,acc.lookup x=some c->∃c,cl.lookup x=some c
 | [],acc,_,Y=>⟨acc,by simp,Y,fun _ h=>(ê h).elim,fun x c h=>⟨c,h⟩⟩
 |(y,k)::r,acc,W,Y=>by
  by_cases V:k=.free
  ·subst V
   obtain ⟨c,e⟩:=W y Ö;have Q:∀x Z,((y,c)::acc).lookup x=some Z->env.cells.lookup x=some Z:=fun x Z h=>by
    rw [Ė] at h;split at h
    ·rename_i q
     have q:x=y:=by simpa using q
     cases h;rw [q];exact e
    ·exact Y x Z h
   obtain ⟨cl,U,T,S,X⟩:=vX r ((y,c)::acc) (fun x h=>W x (Õ _ h)) Q;have R:∃c,cl.lookup y=some c:=X y c (by rw [Ė];simp);refine ⟨cl,?_,T,fun x h=>?_,fun x Z h=>?_⟩
   ·rw [VB]
    simp only [Ş,Ċ,cellOf,e,pure_bind];exact U
   ·rcases Ð.mp h with q|q
    ·cases q;exact R
    ·exact S x q
   ·by_cases q:x=y
    ·rw [q];exact R
    ·exact X x Z (by rw [Ė,show (x==y)=false by simpa using q];exact h)
  ·obtain ⟨cl,U,T,S,X⟩:=vX r acc (fun x h=>W x (Õ _ h)) Y
   refine ⟨cl,?_,T,fun x h=>?_,X⟩
   ·rw [VB]
    have P:(k==ã)=false:=by simpa using V
    simp only [P,É,ĉ,pure_bind];exact U
   ·rcases Ð.mp h with q|q
    ·cases q;exact absurd rfl V
    ·exact S x q
def LM {env:Env} {scope:ŷ} (hc:∀x,(x,ã)∈scope.names->∃c,env.cells.lookup x=some c):∃cl,closureFor scope env=pure cl/\Qj env scope.names cl:=by
 obtain ⟨cl,Z,Y,X,_⟩:=vX scope.names [] hc (fun x c h=>by cases h);refine ⟨cl,?_,Y,X⟩;unfold closureFor;simp only [pure_bind,bind_pure];exact Z
noncomputable abbrev sS (q:Str) (params:WI) (body:Ğ) (scope:ŷ) (cl:List (Str×Ø)) (pm:Ä) (c':Ø) (fX:Ä):Obj:=kla_obj "<lambda>" q params body scope cl pm c' fX
section
variable {X:Cx} {π:List (Ø×Obj)} {σ:St} {H:Hp} {s:Ã}
def Inv.table {P c':Ø} {ps uV:Array Ä} {oc:Obj} {h':ħ} {t':Nat} (I:Inv X π σ H s) (hP:H P=some (.cO ps)) (hx:VP P s.heap h') (hc:s.heap.objs.size<=c') (kE:h'.get? c'=some oc) (ht:h'.get? P=some (tabObj (ps++uV))) :
  Inv X π σ (upd (upd H c' (.ba oc (.own c'))) P (.cO (ps++uV))) { s with heap:=h',toks:=t' }:=by
 have Y:H c'=none:=I.aD.fresh hc;have U:c'≠P:=fun z=>by rw [z,hP] at Y;cases Y
 have ne:∀b u,H b=u->u≠some (.cO ps)->b≠P:=fun b u e d z=>by rw [z,hP] at e;exact d e.symm
 have at_:∀b u,H b=some u->b≠P->upd (upd H c' (.ba oc (.own c'))) P (.cO (ps++uV)) b=some u:=fun b u e n=>by rw [aT n,aT (cz e Y)];exact e
 refine I.un ⟨fun b o e n _ _=>hx b o (ne b _ n (by intro z;cases z)) e,fun b o e n _ _=>⟨o.slots,hx b o (ne b _ n (by intro z;cases z)) e⟩,fun b o e n _=>?_,fun b o e _=>?_,fun b V e=>at_ b _ e (ne b _ e (by intro z;cases z)),fun b o u e=>at_ b _ e (ne b _ e (by intro z;cases z)),fun b T e=>?_⟩ fun b u e=>?_
 ·rw [aT (ne b _ n (by intro z;cases z)),aT (Û (Å (Ç e) hc))];exact n
 ·by_cases Z:b=P
  ·exact ⟨_,Z ▸ ht⟩
  ·exact ⟨o,hx b o Z e⟩
 ·by_cases Z:b=P
  ·subst Z
   rw [hP] at e;cases e;exact ⟨uV,cm⟩
  ·exact ⟨#[],by rw [at_ b _ e Z];simp⟩
 ·by_cases Z:b=P
  ·subst Z
   rw [cm] at e;cases e;exact ht
  ·rw [aT Z] at e
   by_cases W:b=c'
   ·subst W
    rw [cm] at e;cases e;exact ⟨kE,oc,kE⟩
   ·rw [aT W] at e
    refine (I.aD b u e).cV (fun c v hc q=>hx c v ?_ q) (fun c q=>at_ c _ q (ne c _ q (by intro z;cases z))) fun c V q=>at_ c _ q (ne c _ q (by intro z;cases z))
    rcases hc with z|z
    ·rw [z];exact Z
    ·exact ne c _ z (by intro z;cases z)
def LN {params:WI} {body:Ğ} {scope:ŷ} {fc:Pos} {cl:List (Str×Ø)} {c P:Ø} {ps:Array Ä} {E:Ä->Ã->Prop} {A:æ} {Q:Ä->Ã->Prop} (I:Inv X π σ H s) (ck:closureFor scope X.env=pure cl) (tJ:X.env.code=.ref c) (C:CodeHd X.base c P) (hb:X.base.BuiltinsAt X.mg P)
  (hP:H P=some (.cO ps)) (ht:TriplesOk ps.toList) (yO:defaultsOf params X.env=([],[]))
  (RH:∀cv,codeAmong fc ps.toList=some cv->∃c' oc vs t,cv=.ref c'/\H c'=some (.ba oc (.own c'))/\oc.data=.fields vs/\vs[1]?=some (.str (X.env.qual++"<lambda>") t))
  (h:∀(f c':Ø) (fX:Ä) (oc:Obj) (vs:Array Ä) (t:Tok) (H1:Hp) (s1:Ã),Inv X π σ H1 s1->s.heap.objs.size<=f->H1 f=none->s1.heap.get? f=some (sS (X.env.qual++"<lambda>") params body scope cl ((X.mg "__name__").getD .none) c' fX)->H1 c'=some (.ba oc (.own c'))->oc.data=.fields vs->vs[1]?=some (.str (X.env.qual++"<lambda>") t) ->
   (H1=H\/(H c'=none/\c'≠P/\H1=upd (upd H c' (.ba oc (.own c'))) P (.cO (ps++#[ź fc.line,ź fc.col,.ref c']))/\TriplesOk (ps++#[ź fc.line,ź fc.col,.ref c']).toList))->Q (.ref f) s1) :
  Ù (à X.prog X.w) A (ļ (.Lambda params body scope fc) X.env) Q E s:=by
 have Y:s.heap.get? P=some (tabObj ps):=I.aD P _ hP;have M:CodeHd s.heap c P:=C.keeps I.bk
 have L:s.heap.BuiltinsAt X.mg P:=let ⟨bm,o,a1,a2,G,F,D,r⟩:=hb;⟨bm,o,a1,a2,G,F,I.bk _ _ D,r⟩
 have W:s.heap.Ns Ó X.mg:=I.ok.mod.glob.keeps I.bk;have B:Ó≠P:=fun q=>by
  obtain ⟨o,g,d,e,V,_⟩:=W;rw [q,Y] at e;cases e;cases V
 refine kla_eval yO ?_
 cases U:codeAmong fc ps.toList with
 |some cv =>
  obtain ⟨c',oc,vs,t,rfl,y,x,v⟩:=RH cv U;refine kla_makeFunctionHit ck I.ok.glob W tJ M Y ht U L fun fX h' T u Z=>?_
  have S:Inv X π σ H { s with heap:=h'.push (sS (X.env.qual++"<lambda>") params body scope cl ((X.mg "__name__").getD .none) c' fX),toks:=T }:=I.kept fun b o e=>Á _ (u b o e)
  exact h _ c' fX oc vs t H _ S Z (I.aD.fresh Z) (Ï _ rfl) y x v (.inl rfl)
 |none =>
  refine kla_makeFunction ck I.ok.glob W tJ M Y ht U B L fun c' fX h' T p R K m l=>?_;obtain ⟨c₂,oc,vs,t,e2,k,V,j⟩:=m;cases e2;have O:H c'=none:=I.aD.fresh R;have J:c'≠P:=fun z=>by rw [z,hP] at O;cases O
  have S:=I.table (t':=T) hP (h':=h'.push (sS (X.env.qual++"<lambda>") params body scope cl ((X.mg "__name__").getD .none) c' fX)) (fun b o n e=>Á _ (p b o n e)) R (Á _ k) (Á _ l);have N:s.heap.objs.size<=h'.objs.size:=á R (Nat.le_of_lt K);have i:h'.objs.size≠P:=fun z=>by have:=Ç Y;rw [<- z] at this;exact absurd (Å this N) (è _)
  refine h _ c' fX oc vs t _ _ S N ?_ (Ï _ rfl) ?_ V j (.inr ⟨O,J,rfl,?_⟩)
  ·rw [aT i,aT (Ľ K)];exact I.aD.fresh N
  ·rw [aT J,cm]
  ·rw [Array.toList_append]
   exact TriplesOk_snoc _ _ _ _ ht
end
def Kk {pos:Pos} {c cv:Ä} {a b:Int} (l:List Ä) (h:TriplesOk l) (e:codeAmong pos (l++[ź a,ź b,c])=some cv):codeAmong pos l=some cv\/cv=c:=by
 fun_induction TriplesOk l with
 |case1 =>
  simp only [Č,codeAmong,ź] at e;split at e
  ·cases e;exact .inr rfl
  ·cases e
 |case2 a t b u x rest ih =>
  simp only [ÿ,codeAmong] at e |-;split
  ·rename_i q;rw [ä q] at e;exact .inl e
  ·rename_i q;rw [í q] at e;exact ih h e
 |case3 l Z Y=>exact h.elim
def oS (P:ß) (w:ú) (K:č) (mg:Str->Option Ä) (base:ħ) (N:List Str) (qual:Str) (scope:ŷ) (f:Ø) (cd:Ä) (cl:List (Str×Ø)) (A:æ) (outer:List Env) (s:Ã) (H:Hp) (E:XK):Cx where
 prog:=P
 w:=w
 K:=K
 mg:=mg
 base:=base
 A:=A.deeper (envX qual scope s.heap.objs.size f cd cl)
 N:=N
 cf:=s
 jz:=H
 env:=envX qual scope s.heap.objs.size f cd cl
 outer:=outer
 stack:=envX qual scope s.heap.objs.size f cd cl::outer
 ex:=[]
 calm:=true
 fn:=fun _=>false
 pn:=[]
 xe:=fun e Y=>Ù (à P w) (A.deeper (envX qual scope s.heap.objs.size f cd cl)) (leaving (envX qual scope s.heap.objs.size f cd cl) e) (fun _ Z=>fW P w outer H s E e Z) (fun X Z=>fW P w outer H s E X Z) Y
structure LO (N:List Str) (scope:ŷ):Prop where
 co:scope.isCoroutine=false
 gen:scope.isGenerator=false
 kind:scope.kind=.function
 pK:∀x∈scope.names,x.2≠.cell
def OM {P:ß} {w:ú} {K:č} {mg:Str->Option Ä} {base:ħ} {k:Nat} {f c':Ø} {N:List Str} {q:Str} {params:WI} {body:Ğ} {scope:ŷ} {cl:List (Str×Ø)} {pm fX:Ä} {vs:List V} {t:XK->TE} {oc:Obj} {fs:Array Ä} {tq:Tok}
  (S:LO N scope) (ho:base.get? f=some (sS q params body scope cl pm c' fX)) (hl:N.length=vs.length)
  (inj:∀x y c,cl.lookup x=some c->cl.lookup y=some c->x=y) (has:∀x,scope.names.lookup x=some .free->∃c,cl.lookup x=some c) (kf:∀x c,cl.lookup x=some c->∃v,base.IsCell c v)
  (hv:∀(i:Nat) x v,N[i]?=some x->vs[i]?=some v->scope.names.lookup x=some .free/\∃c u,cl.lookup x=some c/\base.IsCell c (some u)/\RelV v u)
  (oT:oc.data=.fields fs) (dW:fs[1]?=some (.str q tq))
  (iE:∀(A:æ) (outer:List Env) (s:Ã) (H:Hp) (E:XK),bC k (A.deeper (envX q scope s.heap.objs.size f (.ref c') cl))->Lv (oS P w K mg base N q scope f (.ref c') cl A outer s H E) E->PE (oS P w K mg base N q scope f (.ref c') cl A outer s H E) body (t E)) :
  cG P w K mg base (fW P w) (k+1) f (kla_fn "<lambda>" q params body scope cl pm (.ref c') fX) [] (fun us H Q E=>us=[]/\H c'=some (.ba oc (.own c'))/\t E (vs.map some) H Q):=by
 refine ⟨fun us H Q E h=>by rw [h.1];rfl,fun A outer s H args us To Q E W Z R r O=>?_⟩;obtain ⟨_,M,L⟩:=O;have lim:s.heap.NoLimit:=Z.mod.nolimit.keeps fun b o e=>(Z.bs b o e).1;have bk:∀b o,base.get? b=some o->s.heap.get? b=some o:=fun b o e=>(Z.bs b o e).1;have G:s.heap.CodeRec (.ref c') q:=⟨c',oc,fs,tq,rfl,(Z.aD c' _ M).1,oT,dW⟩;refine kla_callFunE W.depth (bk _ _ ho) rfl S.co S.gen rfl G (R _ _ _ _ ?_);refine wpAny_newFunctionEnv S.pK (fun x F=>absurd F (by simp)) (fun T D C=>?_) S.kind;have Y:∀b o,s.heap.get? b=some o->T.get? b=some o:=fun b o e=>C.extBut b o (Û (Ç e)) (Á _ e);refine ⟨lim.keeps Y,?_⟩;show ũ _ _ (.expr body (envX q scope s.heap.objs.size f (.ref c') cl)) _ _;have B:bC k (A.deeper (envX q scope s.heap.objs.size f (.ref c') cl)):=W.deeper _;have n:∀c v,base.IsCell c v->H c=none:=fun c v ⟨o,e,_⟩=>(Z.bs c o e).2;have U:∀b:Ø,b∉(oS P w K mg base N q scope f (.ref c') cl A outer s H E).ex:=fun b z=>absurd (show b∈([]:List Ø) from z) (by simp)
 have I:Inv (oS P w K mg base N q scope f (.ref c') cl A outer s H E) [] (vs.map some) H { s with heap:=T,toks:=s.toks+([]:List (Str×Ä)).length }:=by
  refine ⟨⟨Z.mod,S.kind,rfl,rfl,WV _,inj,fun y hy=>?_,fun y c h=>absurd h Ò,fun _=>W.hd,Around.frames_deeper Z.frames,.inr ⟨rfl,rfl⟩,fun b z=>absurd z (U b),Z.bs,Z.gv,fun b _ _=>U b,fun b z=>absurd z (U b),Z.gp,Z.jH⟩,
   rfl,Z.bare,Un.kept Y,⟨_,D,fun i y v m X h3=>?_⟩,fun y c h=>?_,Z.aD.fresh (WV _),fun y c h=>?_,fun p l=>absurd (show p∈([]:List (Ø×Obj)) from l) (by simp),Z.aD.kept Y,?_⟩
  ·have hy:scope.names.lookup y=some .cell\/scope.names.lookup y=some .free:=hy
   rcases hy with hy|hy
   ·exact absurd rfl (S.pK _ (ġ hy))
   ·exact has y hy
  ·have j:vs[i]?=some v:=by
    rw [ç] at X
    cases e:vs[i]? with
    |none=>rw [e] at X;cases X
    |some a=>rw [e] at X;cases X;rfl
   obtain ⟨g,c,u,e1,e2,d⟩:=hv i y v m j;exact ⟨u,d,.inr ⟨.inr g,c,e1,(e2.keeps bk).keeps Y⟩⟩
  ·obtain ⟨v,e⟩:=kf y c h
   exact ⟨v,(e.keeps bk).keeps Y⟩
  ·obtain ⟨v,e⟩:=kf y c h
   exact n c v e
  ·rw [Ì];exact hl.symm
 refine kla_codeExpr (ģ (iE A outer s H E B ⟨rfl,rfl,rfl,rfl⟩ [] _ (vs.map some) H Q I L) (fun u s' h=>?_) fun e s' h=>h);obtain ⟨v,H',J,rv,z⟩:=h;exact ⟨v,H',J.os,J.bare,J.base,J.aD,rv,z⟩
end L2
namespace DI
open PySem L2 PySem.W
def Ql (pre:Hp->Prop):Prop:=∀H Z:Hp,(∀b o u,H b=some (.ba o u)->Z b=some (.ba o u))->pre H->pre Z
def uY (P:ß) (w:ú) (K:č) (mg:Str->Option Ä) (base:ħ) (k:Nat) (pre:Hp->Prop) (f:Ø) (vs:List V) (ds:List D) (th:aa->Res D):Prop :=
 Ql pre/\∃fd,(∃o,base.get? f=some o/\o.data=.func fd)/\Binds K fd [] [] /\
  cG P w K mg base (fW P w) k f fd [] (fun X H Q E=>X=[]/\pre H/\∃Z:Wd,Z.H=H/\aL K Z/\ak K Z ds vs/\Out K (gW mg E) Z (th Z.aF) fun Y d=>∀v,DV K Y d v->Q v Y.H)
def oU (cl:D) (th:aa->Res D) (i:Nat):WR D:=fun env s=>open Classical in if env[i]?=some (some cl) then th s else none
section
variable {X:Cx} {E:XK} {Ξ:Wd->aW->Prop} {pos:Pos}
end
def spT (K:č) (pre:Hp->Prop) (cl:D) (fn:List D->aa->Res D):Sp:=fun Y H Q _=>pre H/\∃w:Wd,w.H=H/\aL K w/\ak K w [cl] Y/\Out K bQ w (fn [cl] w.aF) fun Z d=>∀v,DV K Z d v->Q v Z.H
def Qm {P:ß} {w:ú} {K:č} {mg:Str->Option Ä} {base:ħ} {x:Str} {st:WE} {f:Ø} {fd:ę} {ps:List Str} {k:Nat} {b:WR Fl} {pre:Hp->Prop} {cl:D} (G:Gd K mg x st ps f fd) (N:List Str) (S:mO N ps (bX st)=true)
  (hb:N.Nodup->∀(aR:Ä) (A:æ) (outer:List PySem.Env) (s:Ã) (H:Hp) (E:XK),pre H->bC k (A.deeper (Ĵ x (bX st) s.heap.objs.size f aR))->cg (fI cP P w K mg base N x (bX st) f aR A outer s H E).kF (gb st) (tS K bQ b)) :
  cG P w K mg base cP (k+1) f fd ps (spT K pre cl (aJ ps.length N.length b)):=by
 refine G.fn.ok (jj S) (fun W H Q E h=>?_) (fun aR A outer s H W Q E V h=>?_)
 ·obtain ⟨_,w,rfl,S,Y,h⟩:=h
  rw [<- Y.length];unfold aJ at h;split at h
  ·assumption
  ·exact h.elim
 ·obtain ⟨U,w,rfl,T,Y,h⟩:=h
  refine ⟨_,hb (jj S).nd aR A outer s w.H E U V,?_⟩;unfold aJ at h;split at h
  ·rename_i R
   rw [<- R] at h;refine ⟨w,_,rfl,T,Y.env N.length,(Out.ai h).mono fun M O L X Z=>?_⟩
   cases O with
   |nx env=>intro J _;exact ay X Z _ rfl
   |rt d=>have q:=ay X Z;exact q
   |bk env=>exact Z.elim
   |ct env=>exact Z.elim
  ·exact h.elim
def lu (env:Env):List Nat->Option (List D)
 | []=>some []
 |i::r=>match env[i]?,lu env r with
  |some (some d),some Z=>some (d::Z)
  |_,_=>none
theorem Cm {K:č} {w:Wd} {env:Env} {σ:St} (eo:bB K w env σ):∀{caps:List Nat} {ds:List D},lu env caps=some ds->∃vs,ak K w ds vs/\∀(i:Nat) j v,caps[i]?=some j->vs[i]?=some v->σ[j]?=some (some v)
 | [],ds,h=>by cases h;exact ⟨[],rfl,fun i j v h=>by simp at h⟩
 |j::r,ds,h=>by
  unfold lu at h;split at h
  ·rename_i d R e1 e2
   cases h;obtain ⟨v,X,W⟩:=eo.val j d e1;obtain ⟨vs,V,U⟩:=Cm eo e2;refine ⟨v::vs,⟨v,vs,rfl,W,V⟩,fun i T S Z Y=>?_⟩
   cases i with
   |zero=>cases Z;cases Y;exact X
   |succ i=>exact U i T S (by simpa using Z) (by simpa using Y)
  ·cases h
def lJ (x:Str) (caps:List Nat) (fb:WR D) (g:D->(aa->Res D)->List D->aa->Res D):WR D:=fun env s=>match (lu env caps:Option (List D)) with
 |some Z=>match (s[0]?:Option Cell) with
  |some (.tb y)=>if decide (y=x)=true then ne (g .ao (fb (Z.map some)) [.ao] s) else none
  |_=>none
 |none=>none
noncomputable def Ef (dN N:List Str) (caps:List Nat) (G3 sc:ŷ):Bool:=decide (sc.kind=.function)&&!sc.isCoroutine&&!sc.isGenerator&&sc.names.all (fun y=>decide (y.2≠.cell))&&decide (N.length=caps.length) &&
 (N.zip caps).all (fun p=>decide (dN[p.2]?=some p.1)&&decide (G3.names.lookup p.1=some .cell)&&decide (sc.names.lookup p.1=some .free))&&sc.names.all (fun y=>decide (y.2≠.free)||decide (G3.names.lookup y.1=some .cell))
abbrev G4 (P:ß) (w:ú) (K:č) (mg:Str->Option Ä) (x:Str) (st:WE) (ps:List Str) (k kt:Nat) (g:D->(aa->Res D)->List D->aa->Res D):Prop :=
 ∀{base:ħ} {pre:Hp->Prop} {f:Ø} {vs:List V} {ds:List D} {th:aa->Res D},uY P w K mg base kt pre f vs ds th->∀{gA:Ø} {fd:ę},Gd K mg x st ps gA fd->cG P w K mg base cP k gA fd ps (spT K pre (.bT f vs ds) (g (.bT f vs ds) th))
section
variable {X:Cx} {Ξ:Wd->aW->Prop} {pos:Pos}
def lA (X:Cx) (H:Hp) (s:Ã):ħ:=hideAll s.heap (bM X.stack++ox s.heap H)
def rY {H:Hp} {s:Ã} {b:Ø} {o:Obj} (e:s.heap.get? b=some o) (n:H b=none) (hf:b∉bM X.stack):(lA X H s).get? b=some o:=hideAll_get _ e fun z=>by
 rcases ð.mp z with z|z
 ·exact hf z
 ·unfold ox at z
  have:=(Vt.mp z).2;rw [n] at this;cases this
def Cn {H:Hp} {s:Ã} {b:Ø} {o:Obj} (e:(lA X H s).get? b=some o):s.heap.get? b=some o/\H b=none/\b∉bM X.stack:=by
 have e1:=of_hideAll _ e;refine ⟨e1,?_,fun z=>?_⟩
 ·cases q:H b with
  |none=>rfl
  |some u =>
   have:(lA X H s).get? b=none:=hideAll_none _ (Í _ (Vt.mpr ⟨Ĝ.mpr (Ç e1),by rw [q];rfl⟩));rw [e] at this;cases this
 ·have:(lA X H s).get? b=none:=hideAll_none _ (ö _ z)
  rw [e] at this;cases this
def _root_.L2.Inv.ON {π:List (Ø×Obj)} {σ:St} {H:Hp} {s:Ã} (I:Inv X π σ H s):∀b o,X.base.get? b=some o->(lA X H s).get? b=some o:=fun b o e=>rY (I.bs b o e).1 (I.bs b o e).2 fun z=>by
 have:=(I.stack.mem z).1;rw [e] at this;cases this
def _root_.L2.Inv.Qn {π:List (Ø×Obj)} {σ:St} {H:Hp} {s:Ã} (I:Inv X π σ H s):nZ X.prog X.w X.K X.mg (lA X H s) X.A X.stack s H:=by
 have k:=I.ON;refine ⟨I.ok.frames,⟨I.ok.mod.iR.keeps k,I.ok.mod.glob.keeps k,?_,I.ok.mod.nolimit.keeps k⟩,fun b o e=>⟨(Cn e).1,(Cn e).2.1⟩,Nat.le_of_eq (hideAll_size _ _),?_,I.pw,I.aD,I.bare⟩
 ·obtain ⟨Z,Y,W⟩:=I.ok.mod.blt
  exact ⟨Z,Y.keeps k,W⟩
 ·refine funFrames_hide I.stack fun env V a U=>ö _ ?_
  unfold bM;exact Vu.mpr ⟨env,V,U⟩
def Fo {x g:Str} {p fc:Pos} {params:WI} {body:Ğ} {sc:ŷ} {c P:Ø} {G5:WE} {G6:List Str} {k n kb:Nat} {gf:D->(aa->Res D)->List D->aa->Res D} {fb:WR D} (N:List Str) {caps:List Nat}
  (tJ:X.env.code=.ref c) (Fp:X.env.qual=x++".<locals>.") (ht:tabIn X.K x=some (c,P)) (hC:codeHdIn X.K c P=true) (hb:X.base.BuiltinsAt X.mg P)
  (G:GG X.K X.mg g G5 G6) (F:G4 X.prog X.w X.K X.mg g G5 G6 k (kb+1) gf) (RL:∀cl th s,gf cl th [cl] s=gf .ao th [.ao] s) (hr:bC n X.A)
  (iE:∀(base:ħ) (q:Str) (f:Ø) (cd:Ä) (cl:List (Str×Ø)) (A:æ) (outer:List PySem.Env) (s:Ã) (H:Hp) (E:XK),bC kb (A.deeper (envX q sc s.heap.objs.size f cd cl))->Lv (oS X.prog X.w X.K X.mg base N q sc f cd cl A outer s H E) E->PE (oS X.prog X.w X.K X.mg base N q sc f cd cl A outer s H E) body (tE X.K (gW X.mg E) fb))
  (hk:k<=n:=by decide) (yP:Ef X.N N caps X.env.scope sc=true:=by kernel_rfl) (qJ:∀x,X.fn x=true:=by intro _;rfl) (xS:∀(cl:List (Str×Ø)) (pm:Ä) (c':Ø) (fX:Ä),bindArgs (kla_fn "<lambda>" (x++".<locals>."++"<lambda>") params body sc cl pm (.ref c') fX) ⟨[],[]⟩=pure []:=by intros;rfl)
  (yO:defaultsOf params X.env=([],[]):=by rfl) (hg:Gl X g:=by rfl) (cY:(g==("__debug__":Str))=false:=by decide)
  (he:Ê [.Lambda params body sc fc] X.env=(false,ļ (.Lambda params body sc fc) X.env)::Ê [] X.env:=by rfl) (bu:(ı pos (Ê [] X.env)).any (·.1)=false:=by rfl) :
  PE X (.Call (.Name g p) [.Lambda params body sc fc] [] pos) (tE X.K Ξ (lJ x caps fb gf)):=by
 intro π s σ H Q I aw;have C:=codeHd_of_K I.ok.mod.iR hC;obtain ⟨w,env,eH,S,eo,h⟩:=aw;subst eH;unfold lJ at h
 cases jN:lu env caps with
 |none=>rw [jN] at h;exact h.elim
 |some W =>
 rw [jN] at h
 cases U:w.aF[0]? with
 |none=>simp only [U] at h;exact h.elim
 |some c0 =>
 simp only [U] at h
 cases c0 with
 |dead=>exact h.elim
 |lst _=>exact h.elim
 |dK _=>exact h.elim
 |dT _=>exact h.elim
 |tb y =>
 dsimp only at h;by_cases hy:y=x
 case neg=>rw [í (by simpa using hy)] at h;exact h.elim
 rw [ä (by simpa using hy)] at h;subst hy;obtain ⟨vs,aj,TB⟩:=Cm eo jN;obtain ⟨a,ha⟩:∃a,w.ρ[0]?=some a:=by
  have:=S.len
  cases TC:w.ρ with
  |nil=>rw [TC] at this;have h0:=(Æ.mp U).1;rw [<- this] at h0;simp at h0
  |cons a r=>exact ⟨a,rfl⟩
 have RM:=S.cell 0 a _ ha U;obtain ⟨c2,ps,t1,t2,t3,t4⟩:=RM;rw [ht] at t1;cases t1;unfold Ef at yP;simp only [È,Bool.or_eq_true,ŵ,Ü,ĝ] at yP;obtain ⟨⟨⟨⟨⟨⟨k1,k2⟩,k3⟩,k4⟩,k5⟩,k6⟩,k7⟩:=yP;obtain ⟨cl,ck,R⟩:=LM (env:=X.env) (scope:=sc) fun z hz=>by
  rcases k7 _ hz with q|q
  ·exact absurd rfl q
  ·exact I.ok.has z (.inl q)
 obtain ⟨gA,Vn,G⟩:=G;refine Ŧ (nC I hg G.mg ?_ cY);refine Wx (h₀:=X.base) I.ok.mod.iR G.fn.kp ?_ he bu;rw [he];show Ù _ _ (spliced ((false,ļ (.Lambda params body sc fc) X.env)::ı pos (Ê [] X.env))) _ _ s;refine Vx (LN I ck tJ C hb t2 t3 yO (fun cv q=>?_) fun f c' fX oc fs tq H1 J Y hf F5 Ab fQ oT dW hH=>?_)
 ·rw [Fp]
  obtain ⟨c',oc,fs,t,r1,r2,r3,r4⟩:=t4 fc cv q;exact ⟨c',oc,fs,t,r1,r2.2,r3,r4⟩
 rw [Fp] at Ab dW;refine Calls.spliced_nil ⟨Y.gw,?_⟩;have W1:∃V:Wd,V.H=H1/\aL X.K V/\Le X.K w V/\V.aF=w.aF:=by
  rcases hH with rfl | ⟨hn,uW,rfl,zv⟩
  ·exact ⟨w,rfl,S,Le.refl w,rfl⟩
  ·have S2:=S.grow (o:=.ba oc (.own c')) hn
   have O:=(Fw.grow (K:=X.K) (o:=.ba oc (.own c')) hn).le;have l2:=(Fw.put (o:=.cO (ps++#[ź fc.line,ź fc.col,.ref c'])) (c:=.tb y) S2 ha U (by intro z;cases z)).le;refine ⟨(w.grow c' (.ba oc (.own c'))).put 0 P (.cO (ps++#[ź fc.line,ź fc.col,.ref c'])) (.tb y),rfl,S2.yB ha U (by intro z;cases z) ⟨c,_,ht,cm,zv,fun pos cv e=>?_⟩,O.trans l2,?_⟩
   ·rw [Array.toList_append] at e
    rcases Kk _ t3 e with e|e
    ·obtain ⟨c3,o3,v3,TF,r1,r2,r3⟩:=t4 pos cv e
     exact ⟨c3,o3,v3,TF,r1,(O.trans l2).ba c3 o3 _ r2.1 r2.2,r3⟩
    ·refine ⟨c',oc,fs,tq,e,?_,oT,dW⟩
     exact l2.ba c' oc _ (fun z=>j9 S hn z) cm
   ·exact ų fun i=>by
     show (w.aF.set 0 (.tb y))[i]?=w.aF[i]?
     cases i with
     |zero=>rw [å (Æ.mp U).1,U]
     |succ i=>rw [â (by omega)]
 obtain ⟨V,rfl,S1,O,es⟩:=W1;have cells:∀z Z,cl.lookup z=some Z->∀v,J.heap.IsCell Z v->(lA X V.H J).IsCell Z v:=fun z Z e v ⟨o,ho,hd⟩=>by
  have e2:=R.qe z Z e;refine ⟨o,rY ho (Y.gG z Z e2) fun q=>?_,hd⟩
  rcases Ð.mp (Y.iz _ q) with q|q
  ·exact Y.ie z Z e2 q
  ·obtain ⟨_,o2,fz,_⟩:=Y.ok.gp.mem q
   exact absurd (Ç fz) (Nat.not_lt.mpr (Y.ok.oy z Z (qJ z) e2))
 have F6:f∉bM X.stack:=fun q=>by
  obtain ⟨_,o2,fz,_⟩:=I.stack.mem q;exact absurd (Ç fz) (Nat.not_lt.mpr hf)
 have nl:N.length=vs.length:=by
  have e1:=aj.length;have e2:∀(cs:List Nat) (W:List D),lu env cs=some W->W.length=cs.length:=fun cs=>by
   induction cs with
   |nil=>intro W h;cases h;rfl
   |cons i r ih =>
    intro W h;unfold lu at h;split at h
    ·cases h;rename_i e;simp [ih _ e]
    ·cases h
  rw [k5,<- e2 caps W jN,e1]
 have T:uY X.prog X.w X.K X.mg (lA X V.H J) (kb+1) (fun H=>H c'=some (.ba oc (.own c'))) f vs W (fb (W.map some)):=by
  refine ⟨fun H H' st q=>st _ _ _ q,_,⟨_,rY Ab F5 F6,rfl⟩,Binds.all fun us hl=>?_,(OM (t:=fun E=>tE X.K (gW X.mg E) fb) (vs:=vs) (oc:=oc) ⟨k2,k3,k1,k4⟩ (rY Ab F5 F6) nl (fun z1 z2 Z M B=>Y.ok.inj z1 z2 Z (R.qe _ _ M) (R.qe _ _ B)) (fun z hz=>R.all z (ġ hz)) (fun z Z e=>?_) (fun i z v M B=>?_) oT dW
   (fun A outer s H E hr L=>iE _ _ f (.ref c') cl A outer s H E hr L)).imp fun us H Q E h=>?_⟩
  ·have:us=[]:=List.eq_nil_of_length_eq_zero (by simpa using hl)
   subst this;exact xS _ _ _ _
  ·obtain ⟨v,q⟩:=Y.cell z Z (R.qe z Z e)
   exact ⟨v,cells z Z e v q⟩
  ·have hi:i<caps.length:=by
    have:=(Æ.mp M).1;rw [k5] at this;exact this
   obtain ⟨j,hj⟩:∃j,caps[i]?=some j:=⟨caps[i],Ë hi⟩;have hm:(z,j)∈N.zip caps:=by
    refine ĭ (i:=i) ?_;rw [List.getElem?_zip_eq_some];exact ⟨M,hj⟩
   obtain ⟨⟨q1,q2⟩,q3⟩:=k6 _ hm;obtain ⟨m,hn,hl⟩:=Y.loc;obtain ⟨u,r,lk⟩:=hl j z v q1 (TB i j v hj B) (.inr (.inl q2));refine ⟨q3,?_⟩
   rcases lk with ⟨lk,_⟩ | ⟨_,Z,e1,e2⟩
   ·rw [show X.env.kindOf z=X.env.scope.names.lookup z from rfl,q2] at lk;cases lk
   ·obtain ⟨c3,e3⟩:=R.all z (ġ q3)
    have e4:=R.qe z c3 e3;rw [e1] at e4;cases e4;exact ⟨Z,u,e3,cells z Z e3 _ e2,r⟩
  ·obtain ⟨M,B,w',rfl,S',jR,hh⟩:=h
   refine ⟨M,B,w',W.map some,rfl,S',⟨?_,fun i d e=>?_⟩,hh⟩
   ·rw [Ì,Ì];exact jR.length
   ·rw [ç] at e
    cases q:W[i]? with
    |none=>rw [q] at e;cases e
    |some d' =>
     rw [q] at e;cases e;obtain ⟨v,e1,e2⟩:=jR.get' i d q;exact ⟨v,by rw [ç,e1];rfl,e2⟩
 have hq:=(h.from O).ne;rw [<- es,<- RL (.bT f vs W)] at hq;refine VN (ķ ((F T G).run X.A X.stack J V.H ⟨[.ref f],[]⟩ [.ref f] [.ref f] Q (fun _ _ _=>False) (hr.mono hk) Y.Qn (G.b J [.ref f] Y.gw ?_) (.cons rfl .nil) ⟨fQ,V,rfl,S1,⟨.ref f,[],rfl,⟨rfl,O.all aj⟩,rfl⟩,hq⟩) fun r s' l=>?_)
 ·have:=(F T G).len [.ref f] V.H Q (fun _ _ _=>False) ⟨fQ,V,rfl,S1,⟨.ref f,[],rfl,⟨rfl,O.all aj⟩,rfl⟩,hq⟩
  simpa using this
 ·cases r with
  |error e=>exact l.elim
  |ok fl =>
   cases fl with
   |ret u=>exact Y.after l
   |next=>exact ē l
   |brk=>exact ē l
   |cont=>exact ē l
end
end DI
namespace L2
open PySem PySem.Spec PyProof.Rows PySem.W
section
variable {X:Cx} {π:List (Ø×Obj)} {σ:St} {H:Hp} {s:Ã}
def sG {M:Model} {A:æ} {E:Ä->Ã->Prop} {i:Nat} {x:Str} {pos:Pos} {Q:Unit->Ã->Prop} (I:Inv X π σ H s) (hN:X.N.Nodup) (hi:X.N[i]?=some x) (hk:X.env.scope.names.lookup x=some .local) (h:∀s',Inv X π (σ.set i none) H s'->Q () s') :
  Ù M A (do VW X.env x .none;unbindBehindTheSuite X.env x pos) Q E s:=by
 obtain ⟨m,V,S⟩:=id I.loc;have R:(X.env.scope.kind==.class||(X.env.scope.kind==.module&&X.env.locals != X.env.globals))=false:=by rw [I.ok.kind];rfl
 have ie:=I.ie;refine wpAny_nameGoes_keeps hk V R fun u v P hs=>?_;obtain ⟨t,_,_,r,_⟩:=id V;refine h _ ⟨I.ok,I.os,I.bare,⟨fun b o e n Y Z=>?_,fun b o e n Y Z=>?_,I.base.free,fun b o e Z=>?_,I.base.dB,I.base.de,I.base.dC⟩,⟨_,P,fun j y O e1 e2 L=>?_⟩,fun y c e=>?_,I.free,I.gG,fun p K=>?_,fun b J e=>?_,by rw [ą];exact I.len⟩
 ·exact (hs.2 b (Û (Å (Ç e) I.ok.above))).trans (I.base.keep b o e n Y Z)
 ·obtain ⟨G,e1⟩:=I.base.slot b o e n Y Z
  exact ⟨G,(hs.2 b (Û (Å (Ç e) I.ok.above))).trans e1⟩
 ·obtain ⟨F,e1⟩:=I.base.there b o e Z
  exact ⟨F,(hs.2 b (Û (Å (Ç e) I.ok.above))).trans e1⟩
 ·by_cases W:j=i
  ·subst W
   have U:=(Æ.mp e2).1;rw [ą] at U;rw [å U] at e2;cases e2
  ·rw [â (Ÿ W)] at e2
   obtain ⟨D,C,q⟩:=S j y O e1 e2 L;refine ⟨D,C,?_⟩
   rcases q with ⟨k,e⟩ | ⟨k,c,e,z⟩
   ·refine .inl ⟨k,?_⟩
    have:y≠x:=fun e=>W (vE hN e1 (e ▸ hi));simp [this,e]
   ·exact .inr ⟨k,c,e,z.sameBut hs (ie y c e)⟩
 ·obtain ⟨T,z⟩:=I.cell y c e
  exact ⟨T,z.sameBut hs (ie y c e)⟩
 ·obtain ⟨e,n,ne,B,d⟩:=I.pin p K
  exact ⟨(hs.2 p.1 ne).trans e,n,ne,B,d⟩
 ·refine (I.aD b J e).cV (fun c T w q=>(hs.2 c ?_).trans q) (fun _ q=>q) fun _ _ q=>q
  rintro rfl
  rcases w with z|z
  ·have:=I.free;rw [z,e] at this;cases this
  ·have:=I.free;rw [z] at this;cases this
noncomputable abbrev Cx.held (X:Cx) (a:Ø):Cx:={ X with A:=X.A.mark (some (.ref a)),calm:=false,xe:=fun _ _=>False }
theorem Inv.held (I:Inv X π σ H s) (a:Ø):Inv (X.held a) π σ H s:=by
 obtain ⟨⟨a1,a2,Z,Y,W,V,U,T,w,S,R,Q,P,O,N,M,L,K⟩,J,G,F,E,D,C,B,A,y,x⟩:=I;exact ⟨⟨a1,a2,Z,Y,W,V,U,T,fun z=>absurd z Ò,S,R,Q,P,O,N,M,L,K⟩,J,G,F,E,D,C,B,A,y,x⟩
def Inv.sT {a:Ø} (ok:X.Ok) (I:Inv (X.held a) π σ H s):Inv X π σ H s:=by
 obtain ⟨_,Z,Y,W,V,U,T,S,R,Q,P⟩:=I;exact ⟨ok,Z,Y,W,V,U,T,S,R,Q,P⟩
def sU (X:Cx) (π:List (Ø×Obj)) (σ:St) (E:XK) (e:Ä) (s':Ã):Prop:=∃Z Y,Inv X π σ Z Y/\fW X.prog X.w X.stack Z Y E e s'
def hW {E:XK} {E':Ä->Ã->Prop} {e:Ä} {s':Ã} {cn n:Str} {np uu:Pos} {qD:WE} {qg:List WE} {j:Nat} {CM:Ø} {D:Ends} (Th:sU X π σ E e s') (L:X.stack=X.env::X.outer) (hf:X.env.frame=some X.env.locals)
  (hN:X.N.Nodup) (hj:X.N[j]?=some n) (lV:X.env.scope.names.lookup n=some .local) (hg:Gl X cn) (hm:X.mg cn=some (.ref CM)) (hd:(cn==("__debug__":Str))=false)
  (h:∀cls H' ,E cls none H'->exmOne X.K cls (.ref CM)=some true/\∀(a:Ø) (o:Obj),H' a=none->o.cls=cls->∀s5,Inv (X.held a) π (σ.set j (some (.ref a))) (upd H' a (.ba o (.own a))) s5 ->
   Ù (à X.prog X.w) (X.held a).A (execs (qD::qg) X.env) (SP (X.held a) π { nx:=fun aI H'=>D.nx (aI.set j none) H',rt:=D.rt,bk:=fun aI H'=>D.bk (aI.set j none) H',ct:=fun aI H'=>D.ct (aI.set j none) H' }) (fun _ _=>False) s5) :
  Ù (à X.prog X.w) X.A (noteFrame e X.env) (fun _ km=>Ù (à X.prog X.w) X.A (setFlight e none) (fun _ RN=>Ù (à X.prog X.w) X.A (handleBy e X.env [.ExceptHandler (some (.Name cn np)) (some n) (qD::qg) uu]) (SP X π D) E' RN) E' km) E' s':=by
 obtain ⟨H1,P,Z,a,cls,p,H',B,rfl,os,bare,F,m⟩:=Th;obtain ⟨O,l⟩:=h cls H' m;refine wpAny_looks_onW (by rw [Z.ok.frames,L]) hf (by have:=F.fl;rw [L] at this;exact this) fun h2 k i=>?_;refine wpAny_landsW k fun V g d=>?_;have S:Heap.FlyingW B X.stack a cls p V:=by rw [L];exact g
 have R:=F.on S (i.trans d);have RP:P.heap.get? a=none:=by
  cases q:P.heap.get? a with
  |none=>rfl
  |some o =>
   by_cases U:a∈bM X.stack
   ·obtain ⟨sl,e1⟩:=R.slot a o q U
    obtain ⟨_,o2,e2,hd2⟩:=S.2.2.1.mem U
    obtain ⟨Q,ws,e3,_,e4,_⟩:=S.first
    rw [e3] at e2;cases e2;exact absurd e4 (hd2 _)
   ·obtain ⟨o',e1⟩:=F.there a o q U
    rw [F.fl.2.1] at e1;cases e1
 have G:Inv X π σ H' { s' with heap:=V }:=Z.pY (s':={ s' with heap:=V }) (ch:=[]) os R.un R.held bare (fun b z=>absurd z (by simp))
 refine wpAny_handleBy_cons (codeAny_handlers_test ?_) (by intro q;cases q);refine (show Ù (à X.prog X.w) (X.held a).A (ļ (.Name cn np) (X.held a).env) _ _ _ from nC (G.held a) hg hm ?_ hd);obtain ⟨ob,TL,qm⟩:=S.there;have LT:Looks (à X.prog X.w) V (typeOf (.ref a)) cls:=by subst qm;exact (Looks.ld TL).andThen .now
 refine (exm_one (M:=à X.prog X.w) (K:=X.K) (h:=V) G.gw LT O).here ?_;refine codeAny_handlers_suite_as ?_
 refine lands_againW (s:={ s' with heap:=V }) S fun C y TM=>?_
 have I:=R.on y TM;obtain ⟨Q,x,RQ⟩:=y.there;have T:H' a=none:=I.new
 have I4:Inv X π σ (upd H' a (.ba Q (.own a))) { s' with heap:=C }:=by
  have u:=I.un;have dU:∀b o,P.heap.get? b=some o->b≠a:=fun b o e z=>by rw [z,RP] at e;cases e
  refine Z.pY (s':={ s' with heap:=C }) (ch:=[]) os ⟨u.keep,u.slot,fun b o e n O=>?_,u.there,fun b t e=>?_,fun b o v e=>?_,fun b ps e=>?_⟩ (fun b v e=>?_) bare (fun b z=>absurd z (by simp))
  ·rw [aT (dU b o e)];exact u.free b o e n O
  ·have:=u.dB b t e;rw [aT (cz this T)];exact this
  ·have:=u.de b o v e;rw [aT (cz this T)];exact this
  ·obtain ⟨more,this⟩:=u.dC b ps e;exact ⟨more,by rw [aT (cz this T)];exact this⟩
  ·by_cases U:b=a
   ·subst U
    rw [cm] at e;cases e;exact ⟨x,Q,x⟩
   ·rw [aT U] at e
    refine (I.held b v e).cV (fun _ _ _ q=>q) (fun c q=>?_) fun c t q=>?_
    ·rw [aT (cz q T)];exact q
    ·rw [aT (cz q T)];exact q
 refine kW I4 hN hj (.inl lV) (v:=.ref a) (u:=.ref a) rfl (fun s5 I5=>?_) (.inr lV);refine ģ (l a Q T RQ s5 (I5.held a)) (fun f s6 q=>?_) fun _ _ z=>z.elim
 cases f with
 |next =>
  obtain ⟨aI,Y,J,q⟩:=q;exact sG (J.sT Z.ok) hN hj lV fun H W=>⟨_,Y,W,q⟩
 |brk =>
  obtain ⟨aI,Y,J,q⟩:=q;exact sG (J.sT Z.ok) hN hj lV fun H W=>⟨_,Y,W,q⟩
 |cont =>
  obtain ⟨aI,Y,J,q⟩:=q;exact sG (J.sT Z.ok) hN hj lV fun H W=>⟨_,Y,W,q⟩
 |ret u =>
  obtain ⟨v,aI,Y,J,r,q⟩:=q;exact sG (J.sT Z.ok) hN hj lV fun H W=>⟨v,_,Y,W,r,q⟩
end
end L2
namespace DI
open PySem L2 PySem.W
def bB.unset {K:č} {w:Wd} {env:Env} {σ:St} (h:bB K w env σ) (i:Nat):bB K w (env.set i none) (σ.set i none):=by
 refine ⟨by rw [ą,ą];exact h.len,fun j X e=>?_⟩;by_cases Z:i=j
 ·subst Z
  have Y:=(Æ.mp e).1;rw [ą] at Y;rw [å Y] at e;cases e
 ·rw [â Z] at e
  rw [â Z];exact h.val j X e
section
variable {X:Cx} {E:XK} {pos:Pos}
def OO {π:List (Ø×Obj)} {σ:St} {s:Ã} {w:Wd} {env:Env} {Q:VK} {k i:Nat} {x:Str} {p:Pos} {pre:Hp->Prop} {f:Ø} {vs:List V} {ds:List D} {th:aa->Res D} (T:uY X.prog X.w X.K X.mg X.base k pre f vs ds th) (h0:pre X.jz) (hr:bC k X.A)
  (hN:X.N[i]?=some x) (hv:mR X.env.scope x) (hd:(x==("__debug__":Str))=false) (cX:(x==("__classdict__":Str))=false)
  (I:Inv X π σ w.H s) (S:aL X.K w) (eo:bB X.K w env σ) (he:env[i]?=some (some (.bT f vs ds))) (h:Out X.K (gW X.mg E) w (th w.aF) fun w' d=>∀v,DV X.K w' d v->Q v w'.H) :
  Ù (à X.prog X.w) X.A (ļ (.Call (.Name x p) [] [] pos) X.env) (EP X π σ Q) (sU X π σ E) s:=by
 obtain ⟨M,fd,⟨o,L,J⟩,G,F⟩:=T;obtain ⟨v,e1,e2⟩:=eo.val i _ he;obtain ⟨rfl,C⟩:=e2;refine PySem.wpAny_Call_Name_kw ?_;have U:=(DB (X:=X.ia fun e O=>sU X π σ E e O) (pos:=p) hN hv hd cX π s σ w.H (fun v B=>v=.ref f/\B=w.H) (I.ia _) ⟨_,e1,rfl,rfl⟩);refine aH U fun u R U=>?_;obtain ⟨v,t,Z,r,rfl,rfl⟩:=U;have Z:=Z.j7;have r:u=.ref f:=r;subst r;have z:∀h:ħ,h.get? f=some o->∃k,(k=Keeper.frame\/k=Keeper.machine\/k=Keeper.boundFrame)/\Looks (à X.prog X.w) h (keeperOf (.ref f)) k:=fun h e=>by
  obtain ⟨q,n,m,os⟩:=o;cases J;exact ⟨.frame,.inl rfl,(Looks.ld (part:=none) e).andThen .now⟩
 refine PySem.W.callWith_of (P:=fun h=>h.get? f=some o) rfl z (PyProof.Rows.evalArgs_nil3 ⟨Z.bk _ _ L,?_⟩);refine VN (ķ (F.run X.A X.stack R w.H ⟨[],[]⟩ [] [] Q E hr Z.mF (G R [] Z.gw rfl) .nil ⟨rfl,M _ _ (fun b o u e=>Z.base.de b o u e) h0,w,rfl,S,C,h⟩) fun r O Y=>?_)
 cases r with
 |error e=>exact ⟨w.H,R,Z,Y⟩
 |ok y =>
  cases y with
  |ret u=>exact Z.after Y
  |next=>exact ē Y
  |brk=>exact ē Y
  |cont=>exact ē Y
end
end DI
namespace L2
open PySem PySem.Spec PySem.Calls PyProof.Rows PySem.W PySem.Builtin PySem.Builtin.ObjectAttr PySem.Builtin.Getset_descriptor
section
variable {prog:ß} {w:ú} {A:æ} {E:Ä->Ã->Prop} {s:Ã} {K:č} {x C:Ø}
noncomputable def lB (K:č) (C:Ø):Bool:=(findIn K (.ref C) "__getattribute__"==some (some (.builtin "BaseException.__getattribute__")))&&(findIn K (.ref C) "__getattr__"==some none)&&(clsIn K C).isSome&&(findIn K (.ref C) "__class__"==some (some (.builtin "object.__class__")))&&(specialIn K (.builtin "object.__class__") "__get__"==some (some (.builtin "getset_descriptor.__get__")))&&(takesIn K (.builtin "object.__class__")==some true)&&(mroIn K C (.type "object")==some true)&&(mroIn K C (.type "BaseException")==some true)
def OP {M:Model} {Fq:Ä} {Q:Unit->Ã->Prop} (LT:Looks M s.heap (typeOf (.ref x)) (.ref C)) (M5:Looks M s.heap (isSubtype (.ref C) (.type "BaseException")) true) (hq:Q () s):Ù M A (checkBuiltinCall "BaseException.__getattribute__" ⟨[.ref x,Fq],[]⟩) Q E s:=by
 have Z:builtinKind "BaseException.__getattribute__"=some .slot:=by decide +kernel
 have Y:splitId "BaseException.__getattribute__"=some ("BaseException","__getattribute__"):=by decide +kernel
 have X:=F.args_bexc_ga (.ref x) Fq;simp only [checkBuiltinCall,Z,Y];refine À ?_;unfold isInstance
 repeat (first|with_reducible refine LT.at ?_|with_reducible refine M5.at ?_|wp_step)
 exact hq
def cls_read {Q:Option Ä->Ã->Prop} (X:K.In s.heap) (LT:Looks (à prog w) s.heap (typeOf (.ref x)) (.ref C)) (hc:lB K C=true) (h:Q (some (.ref C)) { s with toks:=s.toks+1 }) :
  Ù (à prog w) A (getAttr? (.ref x) "__class__") Q E s:=by
 unfold lB at hc;simp only [È,beq_iff_eq] at hc;obtain ⟨⟨⟨⟨⟨⟨⟨Y,W⟩,_⟩,V⟩,U⟩,T⟩,S⟩,R⟩:=hc;obtain ⟨Z,g,d,t,os⟩:=s;have M1:=looks_findIn (M:=à prog w) X Y;have M2:=looks_findIn (M:=à prog w) X W;have P:Looks (à prog w) Z (find (.ref x) (.ref C) "__class__") (.bind (.builtin "getset_descriptor.__get__") (.builtin "object.__class__")) :=
  (looks_findIn X V).andThen ((looks_specialIn X U).andThen ((show Looks (à prog w) Z (dataDescriptor? (some (.builtin "object.__class__")) (some (.builtin "getset_descriptor.__get__"))) (some (.builtin "getset_descriptor.__get__",.builtin "object.__class__")) from (looks_takesIn X T).andThen .now).andThen (Looks.tag .now)))
 have L:=looks_mroIn (M:=à prog w) X S;have O:=looks_mroIn (M:=à prog w) X R;have N:=F.attr_ValueError.ga.bind (.ref x);unfold getAttr? getAttrBy? getAttrBy;refine À (wpAny_mkText (À (ś (Ĕ (À (LT.at (À (M1.at ?_))))))));show Ù _ _ (getAttrByItsOwn (.ref x) _ (.ref C) (.builtin "BaseException.__getattribute__") false false) _ _ _;unfold getAttrByItsOwn;refine À (M2.at (À (ś (Ĕ ?_))));show Ù _ _ (boundAndCalled (.builtin "BaseException.__getattribute__") (.ref x) _) _ _ _;unfold boundAndCalled;rw [N];refine À (Â (VN (Ź F.attr_ValueError.ga.plain F.entry_bexc_ga ?_)));refine OP LT O ?_;unfold œ.«object.__getattribute__»;rw [show slotArgs "__getattribute__" 1 ⟨[.ref x]++[.str "__class__" t],[]⟩=pure (.ref x,[.str "__class__" t]) from rfl];refine À (Â ?_);dsimp only;rw [show attrName (.str "__class__" t)=pure ("__class__":Str) from rfl];refine À (Â (À (LT.at (À (P.at ?_)))));show Ù _ _ (Wk [Value.builtin "object.__class__"] (call (.builtin "getset_descriptor.__get__") [.builtin "object.__class__",.ref x,.ref C]) >>= ret) _ _ _;refine À (Ĕ (VN ?_));refine Ź KF.slot_gs.plain KF.entry_gs (KF.slot_gs.check _ _ _ _ _ _ _ _ KF.type_class (KF.args_gs _ _ _) ?_);unfold œ.«getset_descriptor.__get__» descrGet;rw [dga_obj];refine À (Â ?_);unfold descrGetter descrCheckInstance descrNameAndClass isInstance;simp only [KF.owner_class]
 repeat lk
 refine ⟨Code.quiet_builtin _ (by decide +kernel),Ņ KF.entry_class ?_⟩;unfold œ.«object.__class__» shownTypeOf
 repeat lk
 exact h
def LP {o:Obj} (ho:o.cls=.ref C) (hc:lB K C=true):KitX K (.ref x) (.ref C) (fun h=>h.get? x=some o) where
 ty:=fun M h _ e=>ho ▸ (Looks.ld e).andThen .now
 it:=fun M h X _=>by
  unfold lB at hc;simp only [È] at hc;have z:=hc.1.1.1.1.1.2;unfold clsIn at z;split at z
  ·rename_i q
   intro W V U T k r;unfold isType loadHead;exact À (wpAny_loadPart (k _ _ (X _ _ q)) (Â r))
  ·cases z
 ne:=fun h Z S its n R X Y=>by
  unfold lB at hc;simp only [È] at hc;have z:=hc.1.1.1.1.1.2;refine Bool.eq_false_iff.mpr fun q=>?_;have e:C=Z:=Value.ref.inj (beq_iff_eq.mp q);subst e;unfold clsIn at z;split at z
  ·rename_i r
   have z:=(X _ _ r).symm.trans Y;cases z
  ·cases z
 ca:=fun X e k=>cls_read X (ho ▸ (Looks.ld e).andThen .now) hc k
end
end L2
namespace DI
open PySem L2 PySem.W
def cN (cs:List Str) (yes:Str->Bool) (d:D) (s:aa):Res D:=match d with
 | .ao=>ok (.bl false) s
 | .exc c=>if decide (c∈cs)=true then ok (.bl (yes c)) s else none
 |_=>none
def nF (K:č) (cs:List Str) (T:Ä) (yes:Str->Bool):Prop:=kitOne K (.type "NoneType") T=some false/\∀c∈cs,∃C,nsIn K Ó c=some (some (.ref C))/\lB K C=true/\kitOne K (.ref C) T=some (yes c)
section
variable {X:Cx} {Ξ:Wd->aW->Prop} {a:Ğ} {pos:Pos} {f:WR D}
def OR {cs:List Str} {T:Ä} {yes:Str->Bool} (hc:nF X.K cs T yes) {vT:V} (hT:∀u,RelV vT u->u=T):bS X (.builtin "isinstance") (fun xs H Q=>∃(w:Wd) (d:D) (x:V),w.H=H/\aL X.K w/\DV X.K w d x/\xs=[x,vT]/\Out X.K Ξ w (cN cs yes d w.aF) fun w' d=>∀v,DV X.K w' d v->Q v w'.H):=by
 rintro A s σ H y N Q I r ⟨w,d,x,rfl,S,U,rfl,h⟩;obtain ⟨Y,W,R,Z⟩:∃Y,RelV x Y/\∃R,N=[Y,R]/\RelV vT R:=by
  cases r with
  |cons W Z=>cases Z with|cons Z M=>cases M;exact ⟨_,W,_,rfl,Z⟩
 obtain ⟨rfl,Z⟩:=Z;cases hT _ Z
 cases d with
 |ao =>
  have e:x=.ao:=U;subst e;have e:Y=Value.none:=W;subst e;exact kia_one kitx_none I.gw trivial hc.1 (by intro z;cases z) fun P=>⟨.bl false,w.H,I.tok P,rfl,ay S h _ rfl⟩
 |exc c =>
  simp only [DV] at U;obtain ⟨b,o,C,rfl,L,J,G⟩:=U;have e:Y=V2 b:=W;subst e;unfold cN at h;dsimp only at h;split at h
  ·rename_i F
   obtain ⟨t,O,E,B⟩:=hc.2 c (ă F);rw [G] at O;cases O;exact kia_one (LP J E) I.gw (I.aD b _ L.2).1 B (by intro z;cases z) fun P=>⟨.bl (yes c),w.H,I.tok P,rfl,ay S h _ rfl⟩
  ·exact h.elim
 |_=>exact h.elim
def Eg {cs:List Str} {T:Ä} {yes:Str->Bool} {vT:V} {cn:Str} {p np:Pos} (hc:nF X.K cs T yes) (hT:∀u,RelV vT u->u=T) (h1:PE X (.Name cn np) (tC vT)) (ha:PE X a (tE X.K Ξ f)) (hm:X.mg "isinstance"=none) (hv:ì "isinstance"=some (.builtin "isinstance")) (hg:Gl X "isinstance":=by rfl)
  (hs:Ê [a,.Name cn np] X.env=(false,ļ a X.env)::Ê [.Name cn np] X.env:=by rfl) (eI:Ê [.Name cn np] X.env=(false,ļ (.Name cn np) X.env)::Ê [] X.env:=by rfl) (bu:(ı pos (Ê [.Name cn np] X.env)).any (·.1)=false:=by rfl) :
  PE X (.Call (.Name "isinstance" p) [a,.Name cn np] [] pos) (tE X.K Ξ (e1 (cN cs yes) f)) :=
 bZ (sg (OR (Ξ:=Ξ) hc hT) hg hm hv (i9 ha (i9 h1 j8 eI) hs) (by decide) (by decide) hs bu) fun σ H Q Z=>by
  obtain ⟨w,env,Y,S,W,h⟩:=Z;subst Y;exact ⟨w,env,rfl,S,W,(Out.ai h).mono fun U x O R h1 v1 P=>⟨U,x,v1,rfl,R,P,rfl,h1⟩⟩
end
open PyProof.Rows PySem.SeqAt
def yQ (d:D) (s:aa):Res D:=match d with
 | .lst Z=>match gC Z with
  |some bs=>ok (.int (bs.count true:Nat)) s
  |none=>none
 |_=>none
def Am (d:D) (s:aa):Res D:=match d with
 | .lst Z=>match gC Z with
  |some bs=>if (decide (bs.idxOf true<bs.length)&&decide (bs.length<=100))=true then ok (.int (bs.idxOf true:Nat)) s else none
  |none=>none
 |_=>none
theorem Fs:∀(bs:List Bool) (m:Nat) (h:m<bs.length),m<bs.idxOf true->bs[m]=false
 | [],m,h,_=>absurd h (Nat.not_lt_zero _)
 |true::r,m,h,g=>by simp at g
 |false::r,0,h,g=>rfl
 |false::r,m+1,h,g=>by
  have e:(false::r).idxOf true=r.idxOf true+1:=by rw [List.idxOf_cons];rfl
  rw [e] at g;exact Fs r m (by simpa using h) (by omega)
noncomputable def oq:Ä->Bool
 | .bool b=>b
 |_=>false
theorem vB:∀{bs:List Bool} {its:List Ä},Vals (bs.map V.bl) its->its=bs.map Ŋ
 | [],_,.nil=>rfl
 |b::r,_,.cons e t=>by
  have e:_=Ŋ b:=e;rw [e,vB t];rfl
theorem Dc:∀bs:List Bool,(bs.map Ŋ).countP oq=bs.count true
 | []=>rfl
 |b::r=>by
  rw [ï,List.countP_cons,List.count_cons,Dc r]
  cases b<;>rfl
def Eh {A:æ} {s:Ã} {bs:List Bool} (y:Ä) (hy:y∈(bs.map Ŋ).toArray):EqAt A s y (.bool true) (oq y):=by
 have hy:y∈bs.map Ŋ:=by simpa using hy
 obtain ⟨b,_,rfl⟩:=į.mp hy;have h:=EqAt.bool_bool (A:=A) (s:=s) b true
 cases b<;>exact h
section
variable {X:Cx} {Ξ:Wd->aW->Prop} {o:Ğ} {f:WR D} {p apos bh:Pos} {j:Nat}
def LQ:zb X "list.count" (fun x xs H Q=>∃(a:Ø) (bs:List Bool),x=.ref a/\xs=[.bl true]/\bt X.K H a (bs.map V.bl)/\Q (.int (bs.count true:Nat)) H):=by
 rintro E s σ H x xs v U Q I T S ⟨a,bs,rfl,rfl,R,h⟩;have e:v=V2 a:=T;subst e;obtain ⟨u,rfl,rfl⟩:∃u,U=[u]/\u=Ŋ true:=by
  cases S with|cons P O=>cases O;exact ⟨_,rfl,P⟩
 obtain ⟨its,N,M,_⟩:=I.list R;cases vB N;obtain ⟨⟨cls,L,data,J⟩,n,Z,Y,_,W⟩:=M;simp only at Y W;subst Y W;refine call_meets PySem.F.slot_list_count ⟨_,Z,rfl⟩ PySem.F.entry_list_count (PySem.F.args_list_count_2 _ _) (list_countAt a _ n L J (.bool true) oq) ⟨Z,fun y G=>Eh y G,?_⟩;rw [show (bs.map Ŋ).toArray.toList=bs.map Ŋ from rfl,Dc];exact ⟨.int _,H,I.tok _,⟨_,rfl⟩,h⟩
def LR:zb X "list.index" (fun x xs H Q=>∃(a:Ø) (bs:List Bool),x=.ref a/\xs=[.bl true]/\bt X.K H a (bs.map V.bl)/\bs.idxOf true<bs.length/\bs.length<=100/\Q (.int (bs.idxOf true:Nat)) H):=by
 rintro A s σ H x xs v T Q I S R ⟨a,bs,rfl,rfl,P,O,z,h⟩;have e:v=V2 a:=S;subst e;obtain ⟨u,rfl,rfl⟩:∃u,T=[u]/\u=Ŋ true:=by
  cases R with|cons N M=>cases M;exact ⟨_,rfl,N⟩
 obtain ⟨its,L,J,_⟩:=I.list P;cases vB L;obtain ⟨⟨cls,G,data,E⟩,n,Z,Y,_,W⟩:=J;simp only at Y W;subst Y W;have sz:(bs.map Ŋ).toArray.size=bs.length:=by simp
 refine call_meets PySem.F.slot_list_index ⟨_,Z,rfl⟩ PySem.F.entry_list_index (PySem.F.args_list_index_2 _ _) (list_indexAt a _ n G E (.bool true) oq (bs.idxOf true) (by rw [sz];exact O) (by omega) ?_ ?_) ⟨Z,fun y D=>Eh y D,?_⟩
 ·simp [oq,List.getElem_idxOf]
 ·intro m U C
  have B:=Fs bs m (by rw [sz] at U;exact U) C;simp [oq,B]
 ·exact ⟨.int _,H,I.tok _,⟨_,rfl⟩,h⟩
def OS (ho:PE X o (tE X.K Ξ f))
  (mm:VA o "count" X.env (ļ o X.env)=ļ o X.env:=by rfl)
  (mH:((ı bh (Ê [.Constant (.bool true) j p] X.env)).all (fun x=>!x.1)&&(backToKw bh (Wm [] X.env)).all (fun x=>x.1.isSome)
   && decide (([.Constant (.bool true) j p]:List Ğ).length+([]:List V9).length+(if ([]:List V9).isEmpty then 0 else 1)<30))=true:=by rfl)
  (mq:(apos.endLine==bh.line)=true:=by rfl) (hs:Ê [.Constant (.bool true) j p] X.env=(false,ļ (.Constant (.bool true) j p) X.env)::Ê [] X.env:=by rfl) (iA:(ı bh (Ê [] X.env)).any (·.1)=false:=by rfl) :
  PE X (.Call (.Attribute o "count" apos) [.Constant (.bool true) j p] [] bh) (tE X.K Ξ (e1 yQ f)) :=
 bZ (xI VG PySem.F.slot_list_count PySem.F.type_list_count LQ ho (i9 xE j8 hs) mm mH mq hs iA) fun σ H Q V=>by
  obtain ⟨w,env,U,S,T,h⟩:=V;subst U;refine ⟨w,env,rfl,S,T,(Out.ai h).mono fun O d N R Z v Y=>?_⟩
  cases d with
  |lst M =>
   unfold yQ at Z;dsimp only at Z;split at Z
   ·rename_i bs P
    simp only [DV] at Y;obtain ⟨a,L,rfl,W,r⟩:=Y;cases pQ P;cases r.pB;exact ⟨.inl ⟨rfl,_,W.sq⟩,a,bs,rfl,rfl,W.sq,ay R Z _ rfl⟩
   ·exact Z.elim
  |_=>exact Z.elim
def Qp (ho:PE X o (tE X.K Ξ f))
  (mm:VA o "index" X.env (ļ o X.env)=ļ o X.env:=by rfl)
  (mH:((ı bh (Ê [.Constant (.bool true) j p] X.env)).all (fun x=>!x.1)&&(backToKw bh (Wm [] X.env)).all (fun x=>x.1.isSome)
   && decide (([.Constant (.bool true) j p]:List Ğ).length+([]:List V9).length+(if ([]:List V9).isEmpty then 0 else 1)<30))=true:=by rfl)
  (mq:(apos.endLine==bh.line)=true:=by rfl) (hs:Ê [.Constant (.bool true) j p] X.env=(false,ļ (.Constant (.bool true) j p) X.env)::Ê [] X.env:=by rfl) (iA:(ı bh (Ê [] X.env)).any (·.1)=false:=by rfl) :
  PE X (.Call (.Attribute o "index" apos) [.Constant (.bool true) j p] [] bh) (tE X.K Ξ (e1 Am f)) :=
 bZ (xI VG PySem.F.slot_list_index PySem.F.type_list_index LR ho (i9 xE j8 hs) mm mH mq hs iA) fun σ H Q U=>by
  obtain ⟨w,env,T,S,R,h⟩:=U;subst T;refine ⟨w,env,rfl,S,R,(Out.ai h).mono fun N d M P Z v W=>?_⟩
  cases d with
  |lst L =>
   unfold Am at Z;dsimp only at Z;split at Z
   ·rename_i bs O
    split at Z
    ·rename_i Y
     rw [È,Ü,Ü] at Y;simp only [DV] at W;obtain ⟨a,J,rfl,V,r⟩:=W;cases pQ O;cases r.pB;exact ⟨.inl ⟨rfl,_,V.sq⟩,a,bs,rfl,rfl,V.sq,Y.1,Y.2,ay P Z _ rfl⟩
    ·exact Z.elim
   ·exact Z.elim
  |_=>exact Z.elim
end
end DI
namespace L2
open PySem PySem.Spec PyProof.Rows PySem.W
def Kl {Pr:ß} {w:ú} {K:č} {mg mb:Str->Option Ä} {CX:gO} {k:Nat} {fa a c P:Ø} {fd:ę} {x:Str} {sp:Sp} {bc:Ã} {vs:List Ä} {ns:List Int}
  (KX:K.In bc.heap) (lP:bc.heap.Ns Ó mg) (hb:bc.heap.Ns builtinsNs mb) (TN:∀x:Str,x≠"__name__"->mb x=ì x) (RR:bc.heap.NoLimit) (hg:bc.gens=#[])
  (ha:bc.heap.get? a=some { cls:=.type "list",data:=.seq vs.toArray }) (hi:Vz vs ns) (hl:ns.length<=Ñ) (hr:bC k callerA)
  (CT:CodeHd bc.heap c P) (hP:bc.heap.get? P=some (tabObj #[])) (An:K.lookup P=none) (Ao:bc.heap.BuiltinsAt mg P)
  (F:∀base:ħ,K.In base->base.Ns Ó mg->base.BuiltinsAt mg P->cG Pr w K mg base CX k fa fd [x] sp) (xS:∀(s:Ã) (u:Ä),BindsTo s fd ⟨[u],[]⟩ [(x,u)])
  (gR:∀H:Hp,H P=some (.cO #[])->bt K H a (ns.map V.int)->sp [.ref a] H (fun v _=>v=.bl true) fun _ _ _=>False)
  (Ap:∀H e s',CX [] H bc (fun _ _ _=>False) e s'->False) :
  ũ (à Pr w) callerA (.call (.ref fa) ⟨[.ref a],[]⟩) (fun r s'=>r=.ok (.ret (.bool true))/\OldK bc.heap s'.heap/\s'.os=bc.os/\WL s'.gens) bc:=by
 have Q:=BJ hi;have D:=hi.length;have O:a≠P:=fun z=>by rw [z,hP] at ha;cases ha
 have core:∀H:Hp,H P=some (.cO #[])->(∀b,H b=none\/b=P\/(b=a/\∃o U,H b=some (.ba o (.lst U))))->bt K H a (ns.map V.int)->bR Pr w H bc.heap->(H a≠none->K.lookup a=none) ->
   ũ (à Pr w) callerA (.call (.ref fa) ⟨[.ref a],[]⟩) (fun r s'=>r=.ok (.ret (.bool true))/\OldK bc.heap s'.heap/\s'.os=bc.os/\WL s'.gens) bc:=by
  intro H N T C M B;have free:∀{b:Ø} {o:Obj},bc.heap.get? b=some o->o≠tabObj #[]->o≠{ cls:=.type "list",data:=.seq vs.toArray }->H b=none:=fun {b o} e A y=>by
   rcases T b with z|z | ⟨z,_⟩
   ·exact z
   ·rw [z,hP] at e;exact absurd (WW e).symm A
   ·rw [z,ha] at e;exact absurd (WW e).symm y
  have X:∀{b:Ø} {m:Str->Option Ä},bc.heap.Ns b m->(kl bc.heap H).Ns b m:=fun {b m} ⟨o,t,p,e,d,r⟩=>⟨o,t,p,vD e (free e (fun z=>by rw [z] at d;cases d) fun z=>by rw [z] at d;cases d),d,r⟩;have L:K.In (kl bc.heap H):=fun b o e=>vD (KX b o e) (by
   rcases T b with z|z | ⟨z,J,U,W⟩
   ·exact z
   ·rw [z,An] at e;cases e
   ·subst z;rw [B (by rw [W];intro z;cases z)] at e;cases e)
  have l:Mod K mg (kl bc.heap H):=⟨L,X lP,⟨mb,X hb,TN⟩,let ⟨j,i,g⟩:=RR;⟨j,X i,g⟩⟩
  have f:(kl bc.heap H).BuiltinsAt mg P:=let ⟨bm,o,b1,b2,b3,b4,I,S,r⟩:=Ao;⟨bm,o,b1,b2,b3,b4,vD I (free I (fun z=>by rw [z] at S;cases S) fun z=>by rw [z] at r;cases r.2),S,r⟩
  have e0:nZ Pr w K mg (kl bc.heap H) callerA [] bc H:=⟨rfl,l,fun b o e=>Ml e,Nat.le_of_eq (JP _ _),trivial,fun b hb=>absurd (show b∈([]:List Ø) from hb) (by simp),M,.of_eq hg⟩;refine ķ ((F _ L (X lP) f).run callerA [] bc H ⟨[.ref a],[]⟩ [.ref a] [.ref a] _ _ hr e0 (xS bc (.ref a)) (.cons rfl .nil) (gR H N C)) fun r s' h=>?_
  cases r with
  |error e=>exact (Ap H e s' h).elim
  |ok fl =>
   cases fl with
   |next=>exact ē h
   |brk=>exact ē h
   |cont=>exact ē h
   |ret u =>
    obtain ⟨v,H',os,bare,un,G,r',q⟩:=h;have q':v=.bl true:=q;subst q';obtain rfl:u=Ŋ true:=r';have keep:∀b o,bc.heap.get? b=some o->b≠P->s'.heap.get? b=some o:=fun b o e n=>by
     rcases T b with z|z | ⟨z,J,U,W⟩
     ·exact un.keep b o e z (by intro z;exact absurd (show b∈([]:List Ø) from z) (by simp)) (by simp)
     ·exact absurd z n
     ·obtain ⟨e1,_⟩:=M b _ W
      obtain ⟨e2,_⟩:=G b _ (un.de b J _ W);rw [e] at e1;cases e1;exact e2
    obtain ⟨more,hm⟩:=un.dC P _ N;have E:s'.heap.get? P=some (tabObj (#[]++more)):=G P _ hm;refine ⟨rfl,⟨fun b o e=>?_,fun b o e=>?_⟩,os,bare⟩
    ·by_cases hb:b=P
     ·subst hb
      rw [hP] at e;cases e;exact .inr (.inl ⟨(CT.tab hP).isCodeTable,rfl,#[],more,rfl,E⟩)
     ·exact .inl (keep b o e hb)
    ·by_cases hb:b=P
     ·subst hb;exact ⟨_,E⟩
     ·exact ⟨o,keep b o e hb⟩
 cases R:K.lookup a with
 |some o =>
  have e:=KX a o R;rw [ha] at e;cases e
  refine core (fun b=>if b=P then some (.cO #[]) else none) (ä rfl) (fun b=>?_) (.inr ⟨_,vs.toArray,_,R,rfl,rfl,rfl,by rw [Ô,D];exact hl,by simpa using Q⟩) (fun b u z=>?_) (fun z=>absurd (í O) z)
  ·by_cases hb:b=P
   ·exact .inr (.inl hb)
   ·exact .inl (í hb)
  ·by_cases hb:b=P
   ·have Z:=(ä hb).symm.trans z
    cases Z;subst hb;exact hP
   ·have Z:=(í hb).symm.trans z
    cases Z
 |none =>
  refine core (fun b=>if b=P then some (.cO #[]) else if b=a then some (.ba { cls:=.type "list",data:=.seq vs.toArray } (.lst (ns.map V.int))) else none) (ä rfl) (fun b=>?_) (.inl (.inr ⟨{ cls:=.type "list",data:=.seq vs.toArray },(í O).trans (ä rfl)⟩)) (fun b u z=>?_) (fun _=>R)
  ·by_cases hb:b=P
   ·exact .inr (.inl hb)
   ·by_cases Y:b=a
    ·exact .inr (.inr ⟨Y,_,_,(í hb).trans (ä Y)⟩)
    ·exact .inl ((í hb).trans (í Y))
  ·by_cases hb:b=P
   ·have Z:=(ä hb).symm.trans z
    cases Z;subst hb;exact hP
   ·by_cases Y:b=a
    ·have Z:=((í hb).trans (ä Y)).symm.trans z
     cases Z;subst Y;exact ⟨ha,by rw [Ì];exact hl,vs,_,Q,ha⟩
    ·have Z:=((í hb).trans (í Y)).symm.trans z
     cases Z
def OT {l:OpenLaw} {n k:Nat} {q:ß} {loose:List Str} {XP:(Str->Option Ä)->ħ->Prop} {YP:ú->ħ->Prop} {d:DefRec} {K:Params->č} {CX:ú->gO} {sp:ú->Ø->Sp} {x:Str}
  (hn:l.most=some n) (TQ:n<=Ñ) (qT:d.params.defaults=[]) (hr:bC k callerA)
  (hY:∀(w:ú) (h:ħ),YP w h->(K w.params).In h) (hd:(recsOf q).find? (fun e=>e.name==d.name)=some d)
  (F:∀(w:ú) (mg:Str->Option Ä) (fa:Ø) (h:ħ),(K w.params).In h->h.Ns Ó mg->mg d.name=some (.ref fa) ->
   ∃(c P:Ø) (fd:ę),tabIn (K w.params) d.name=some (c,P)/\(K w.params).lookup P=none/\(∀(s:Ã) (u:Ä),BindsTo s fd ⟨[u],[]⟩ [(x,u)]) /\
    ∀base:ħ,(K w.params).In base->base.Ns Ó mg->base.BuiltinsAt mg P->cG l.prog w (K w.params) mg base (CX w) k fa fd [x] (sp w P))
  (gR:∀(w:ú) (P:Ø) (H:Hp) (a:Ø) (ns:List Int),ns.length<=n->H P=some (.cO #[])->bt (K w.params) H a (ns.map V.int)->sp w P [.ref a] H (fun v _=>v=.bl true) fun _ _ _=>False)
  (Ap:∀(w:ú) (H:Hp) (s:Ã) (e:Ä) (s':Ã),CX w [] H s (fun _ _ _=>False) e s'->False) :
  WalkO q loose XP YP l.row.toRowW d [] (fun f vs=>PySem.call f vs):=by
 refine Gy.Im hn qT fun w m S mg j fa o pm cd doc a vs ns G Y i GO cX O N hints Z M=>?_;have W:=hY w _ Y;obtain ⟨c,P,fd,L,J,I,E⟩:=F w mg fa _ W G.T.g O;obtain ⟨D,R⟩:=tab_of G.T W hd L;have C:S.heap.BuiltinsAt mg P:=by
  obtain ⟨bm,B,A,y,X,Q,t,U⟩:=G.T.bmain;refine ⟨bm,B,A,y,fun z=>?_,fun z=>?_,X,Q,t,U⟩
  ·obtain ⟨o,es,ep,e,hd,_⟩:=G.T.g
   rw [z,e] at X;cases X;rw [hd] at U;cases U
  ·rw [z,R] at X;cases X;cases Q
 exact Kl W G.T.g G.T.b G.T.builtins G.T.nolimit M N hints (á Z TQ) hr D R J C E I (fun H r p=>gR w P H a ns Z r p) fun H e s'=>Ap w H S e s'
end L2
namespace DI
open PySem L2 PySem.W
def Qq {P:ß} {w:ú} {K:č} {mg:Str->Option Ä} {base:ħ} {x:Str} {st:WE} {f c T:Ø} {fd:ę} {ps:List Str} {k:Nat} {b:WR Fl} (G:Gd K mg x st ps f fd) (hx:nsIn K Ó x=some (some (.ref f))) (ht:tabIn K x=some (c,T)) (N:List Str) (S:mO N ps (bX st)=true)
  (hb:N.Nodup->∀(A:æ) (outer:List PySem.Env) (s:Ã) (H:Hp) (E:XK),bC k (A.deeper (Ĵ x (bX st) s.heap.objs.size f (.ref c)))->cg (fI cP P w K mg base N x (bX st) f (.ref c) A outer s H E).kF (gb st) (tS K bQ b)) :
  cG P w K mg base cP (k+1) f fd ps (i4 K (aJ ps.length N.length b)):=by
 obtain ⟨D,C,kV,doc,pm,an,X,ct,B,rfl,lk,U⟩:=G.fn.ex;have R:X=.ref c:=by
  unfold tabIn at ht;rw [hx] at ht;dsimp only at ht;rw [lk] at ht;dsimp only at ht
  cases X with
  |ref z =>
   dsimp only at ht;split at ht
   ·split at ht
    ·cases ht;rfl
    ·cases ht
   ·cases ht
  |_=>cases ht
 subst R;refine xH lk U (jj S) (fun O H Q E h=>?_) fun A outer s H O Q E M h=>?_
 ·obtain ⟨w,L,rfl,S,Y,h⟩:=h
  rw [<- Y.length];unfold aJ at h;split at h
  ·assumption
  ·exact h.elim
 ·obtain ⟨W,L,rfl,J,Y,h⟩:=h
  refine ⟨_,(hb (jj S).nd A outer s W.H E M).kF,?_⟩;unfold aJ at h;split at h
  ·rename_i I
   rw [<- I] at h;refine ⟨W,_,rfl,J,Y.env N.length,(Out.ai h).mono fun y F v V Z=>?_⟩
   cases F with
   |nx env=>intro u _;exact ay V Z _ rfl
   |rt d=>have q:=ay V Z;exact q
   |bk env=>exact Z.elim
   |ct env=>exact Z.elim
  ·exact h.elim
def sV (K:č) (T:Ø):Sp:=fun Y H Q _=>∃(a:Ø) (Z:List Int),Y=[.ref a]/\bt K H a (Z.map V.int)/\Z.length<=63/\H T=some (.cO #[])/\∀X,Q (.bl true) X
def Nb {P:ß} {w:ú} {K:č} {mg:Str->Option Ä} {base:ħ} {k:Nat} {f c T:Ø} {fd:ę} {x y:Str} {g:List D->aa->Res D} (F:cG P w K mg base cP k f fd [x] (i4 K g)) (ht:tabIn K y=some (c,T))
  (h:∀ns:List Int,ns.length<=63->∃s,g [.bz ns] [.tb y]=some (.ok (.bl true),s)):cG P w K mg base cP k f fd [x] (sV K T):=F.imp fun U H Q E ⟨a,ns,e,hS,X,Y,q⟩=>by
 subst e;obtain ⟨s,hs⟩:=h ns X;have W:∀b,(⟨[T],[.tb y],H⟩:Wd).Z b->b=T:=fun b ⟨k,c,e1,_,_⟩=>by
  cases k with
  |zero=>exact (WW e1).symm
  |succ k=>cases e1
 have S:aL K ⟨[T],[.tb y],H⟩:=by
  refine ⟨rfl,by simp,fun k a e=>?_,fun k a R e1 e2=>?_⟩
  ·cases k with
   |zero=>cases e;show H T≠none;rw [Y];intro z;cases z
   |succ k=>cases e
  ·cases k with
   |zero=>cases e1;cases e2;exact ⟨c,#[],ht,Y,trivial,fun pos O z=>by cases z⟩
   |succ k=>cases e1
 refine ⟨⟨[T],[.tb y],H⟩,[.bz ns],rfl,S,ak.one ⟨a,rfl,?_⟩,?_⟩
 ·rcases hS with hS|hS
  ·refine .inl ⟨fun z=>?_,hS⟩
   rw [W a z] at hS
   rcases hS with hS | ⟨_,hS⟩<;>(rw [Y] at hS;cases hS)
  ·exact .inr hS
 ·show Out K bQ _ (g [.bz ns] [.tb y]) _
  rw [hs];intro N _ _ _ v V;have e:v=.bl true:=V;subst e;exact q _
def HY:ì "ValueError"=some (.type "ValueError"):=by decide +kernel
noncomputable def isNm (n c:Str):Bool:=decide (c=n)
noncomputable def anyS (_:Str):Bool:=true
abbrev ik (P:ß) (w:ú) (K:č) (mg:Str->Option Ä) (base:ħ) (x:Str) (st:WE) (ps:List Str) (k:Nat) (fn:List D->aa->Res D):Prop:=∀{f:Ø} {fd:ę},Gd K mg x st ps f fd->cG P w K mg base (fW P w) k f fd ps (uU mg K fn)
def dk (K:č) (mg:Str->Option Ä) (cs:List Str) (n:Str):Prop:=∃C,mg n=some (.ref C)/\nF K cs (.ref C) (isNm n)
def Hc (K:č) (mg:Str->Option Ä) (cs:List Str) (n:Str):Prop:=∃Z,mg n=some (.ref Z)/\∀c∈cs,∃C,nsIn K Ó c=some (some (.ref C))/\mg c=some (.ref C)/\exmOne K (.ref C) (.ref Z)=some true
section
variable {X:Cx} {E:XK} {Ξ:Wd->aW->Prop} {e a b c:Ğ} {es rest:List Ğ} {pos:Pos} {f g h:WR D} {fa:WR (List D)}
def eU {k n:Nat} {x:Str} {st:WE} {ps:List Str} {fn:List D->aa->Res D} {p:Pos} (G:GG X.K X.mg x st ps) (F:ik X.prog X.w X.K X.mg X.base x st ps k fn) (L:Passes (fW X.prog X.w) X E) (hr:bC n X.A) (ha:PA X (e::es) (tA X.K (gW X.mg E) fa)) (hk:k<=n:=by decide) (hg:Gl X x:=by rfl) (cY:(x==("__debug__":Str))=false:=by decide)
  (he:Ê (e::es) X.env=(false,ļ e X.env)::Ê es X.env:=by rfl) (bu:(ı pos (Ê es X.env)).any (·.1)=false:=by rfl):PE X (.Call (.Name x p) (e::es) [] pos) (tE X.K (gW X.mg E) (cF fn fa)):=by
 obtain ⟨f,fd,G⟩:=G;exact Na L (F G) (hr.mono hk) hg G.mg G.fn.kp G.b ha cY he bu
def dI {cs:List Str} {cn:Str} {p np:Pos} (hc:dk X.K X.mg cs cn) (ha:PE X a (tE X.K Ξ f)) (hm:X.mg "isinstance"=none) (hg:Gl X "isinstance":=by rfl) (Aq:Gl X cn:=by rfl) (hd:(cn==("__debug__":Str))=false:=by decide)
  (hs:Ê [a,.Name cn np] X.env=(false,ļ a X.env)::Ê [.Name cn np] X.env:=by rfl) (eI:Ê [.Name cn np] X.env=(false,ļ (.Name cn np) X.env)::Ê [] X.env:=by rfl) (bu:(ı pos (Ê [.Name cn np] X.env)).any (·.1)=false:=by rfl) :
  PE X (.Call (.Name "isinstance" p) [a,.Name cn np] [] pos) (tE X.K Ξ (e1 (cN cs (isNm cn)) f)):=by
 obtain ⟨C,Z,h⟩:=hc;exact Eg (vT:=.ref C) h (fun u r=>r) (Cv Aq Z rfl hd) ha hm jZ hg hs eI bu
def OU {cs:List Str} {p np:Pos} (hc:nF X.K cs (.type "ValueError") anyS) (ha:PE X a (tE X.K Ξ f)) (hm:X.mg "isinstance"=none) (TR:X.mg "ValueError"=none) (hg:Gl X "isinstance":=by rfl) (Aq:Gl X "ValueError":=by rfl)
  (hs:Ê [a,.Name "ValueError" np] X.env=(false,ļ a X.env)::Ê [.Name "ValueError" np] X.env:=by rfl) (eI:Ê [.Name "ValueError" np] X.env=(false,ļ (.Name "ValueError" np) X.env)::Ê [] X.env:=by rfl) (bu:(ı pos (Ê [.Name "ValueError" np] X.env)).any (·.1)=false:=by rfl) :
  PE X (.Call (.Name "isinstance" p) [a,.Name "ValueError" np] [] pos) (tE X.K Ξ (e1 (cN cs anyS) f)) :=
 Eg (vT:=.ty "ValueError") hc (fun u r=>r) (Cw Aq TR HY rfl) ha hm jZ hg hs eI bu
end
def jm (K:č) (cs asked:List Str) (hW:Str):Bool :=
 cs.all (fun c=>match nsIn K Ó c with
  |some (some (.ref C))=>excIn K C [.type "ValueError",.type "Exception",.type "BaseException",.type "object"] "ValueError.__new__"&&lB K C&&(kitOne K (.ref C) (.type "ValueError")==some true) &&
   (match nsIn K Ó hW with|some (some (.ref Z))=>exmOne K (.ref C) (.ref Z)==some true | _=>false) &&
   asked.all (fun n=>match nsIn K Ó n with|some (some (.ref A))=>kitOne K (.ref C) (.ref A)==some (isNm n c) | _=>false)
  |_=>false) &&
 asked.all (fun n=>match nsIn K Ó n with|some (some (.ref A))=>kitOne K (.type "NoneType") (.ref A)==some false | _=>false)&&(kitOne K (.type "NoneType") (.type "ValueError")==some false) &&
 (match nsIn K Ó hW with|some (some (.ref _))=>true | _=>false)
noncomputable def xi (K:č) (x:Str):Bool:=match tabIn K x with
 |some (c,P)=>codeHdIn K c P&&(K.lookup P).isNone
 |none=>false
def Nc {K:č} {x:Str} (h:xi K x=true):∃c P,tabIn K x=some (c,P)/\codeHdIn K c P=true/\K.lookup P=none:=by
 unfold xi at h;split at h
 ·rename_i c P e
  rw [È] at h;exact ⟨c,P,e,h.1,η.mp h.2⟩
 ·cases h
def pV {K:č} {x:Str} {p:Ø->Bool} (h:(match nsIn K Ó x with|some (some (.ref C))=>p C | _=>false)=true):∃C,nsIn K Ó x=some (some (.ref C))/\p C=true:=by
 split at h
 ·rename_i C e
  exact ⟨C,e,h⟩
 ·cases h
section
variable {K:č} {cs asked:List Str} {hW:Str} {h:ħ} {mg:Str->Option Ä}
def x_at (f:jm K cs asked hW=true) {c:Str} (hc:c∈cs):∃C,nsIn K Ó c=some (some (.ref C))/\excIn K C [.type "ValueError",.type "Exception",.type "BaseException",.type "object"] "ValueError.__new__"=true/\lB K C=true/\kitOne K (.ref C) (.type "ValueError")=some true /\
  (∃CM,nsIn K Ó hW=some (some (.ref CM))/\exmOne K (.ref C) (.ref CM)=some true)/\∀n∈asked,∃A,nsIn K Ó n=some (some (.ref A))/\kitOne K (.ref C) (.ref A)=some (isNm n c):=by
 unfold jm at f;simp only [È] at f;obtain ⟨C,e,q⟩:=pV (ĝ.mp f.1.1.1 c hc);simp only [È,beq_iff_eq] at q;obtain ⟨⟨⟨⟨X,W⟩,V⟩,Z⟩,Y⟩:=q;obtain ⟨CM,U,Z⟩:=pV Z;refine ⟨C,e,X,W,V,⟨CM,U,beq_iff_eq.mp Z⟩,fun n T=>?_⟩;obtain ⟨A,S,Y⟩:=pV (ĝ.mp Y n T);exact ⟨A,S,beq_iff_eq.mp Y⟩
def F9 (X:K.In h) (G:h.Ns Ó mg) (f:jm K cs asked hW=true) {c:Str} (hc:c∈cs):uq K mg c:=by
 obtain ⟨C,e,q,_⟩:=x_at f hc;exact ⟨C,e,mg_of X G e,q⟩
def RT (X:K.In h) (G:h.Ns Ó mg) (f:jm K cs asked hW=true):Hc K mg cs hW:=by
 have Z:=f;unfold jm at Z;simp only [È] at Z;obtain ⟨Y,e,_⟩:=pV Z.2;refine ⟨Y,mg_of X G e,fun c W=>?_⟩;obtain ⟨C,e1,_,_,_,⟨V,e2,q⟩,_⟩:=x_at f W;rw [e] at e2;cases e2;exact ⟨C,e1,mg_of X G e1,q⟩
def dR (X:K.In h) (G:h.Ns Ó mg) (f:jm K cs asked hW=true) {n:Str} (hn:n∈asked):dk K mg cs n:=by
 have Z:=f;unfold jm at Z;simp only [È] at Z;obtain ⟨A,e,q⟩:=pV (ĝ.mp Z.1.1.2 n hn);refine ⟨A,mg_of X G e,beq_iff_eq.mp q,fun c Y=>?_⟩;obtain ⟨C,e1,_,W,_,_,V⟩:=x_at f Y;obtain ⟨T,e2,U⟩:=V n hn;rw [e] at e2;cases e2;exact ⟨C,e1,W,U⟩
def Qr (f:jm K cs asked hW=true):nF K cs (.type "ValueError") anyS:=by
 have Z:=f;unfold jm at Z;simp only [È,beq_iff_eq] at Z;refine ⟨Z.1.2,fun c Y=>?_⟩;obtain ⟨C,e1,_,X,W,_⟩:=x_at f Y;exact ⟨C,e1,X,W⟩
end
end DI
namespace L2
open PySem PySem.Spec PyProof.Rows PySem.W
structure eV (k:Nat) (A:æ):Prop where
 dp:A.depth+3*k+5<recursionLimit
 un:A.units+16*k+200<WD
def bC.h {k:Nat} {A:æ} (r:bC k A):eV k A:=⟨r.dp,r.un⟩
def eV.mono {j k:Nat} {A:æ} (r:eV k A) (h:j<=k):eV j A:=⟨by have:=r.dp;omega,by have:=r.un;omega⟩
theorem eV.deeper {k:Nat} {A:æ} (r:eV (k+1) A) (env:Env):eV k (A.deeper env) :=
 ⟨by have:=r.dp;show A.depth+1+3*k+5 < _;omega,by have:=r.un;show A.units+3+16*k+200 < _;omega⟩
theorem eV.depth {k:Nat} {A:æ} (r:eV k A):A.depth<recursionLimit:=by have:=r.dp;omega
def eV.held {k:Nat} {A:æ} (r:eV k A) (v:Option Ä):eV k (A.mark v):=⟨r.dp,r.un⟩
structure tK (P:ß) (w:ú) (K:č) (mg:Str->Option Ä) (base:ħ) (k:Nat) (f:Ø) (fd:ę) (ps:List Str) (sp:Sp):Prop where
 len:∀vs H Q E,sp vs H Q E->vs.length=ps.length
 run:∀(A:æ) (outer:List Env) (s:Ã) (H:Hp) (args:Args) (us:List Ä) (vs:List V) (Q:VK) (E:XK),eV k A->nZ P w K mg base A outer s H->BindsTo s fd args (ps.zip us)->Vals vs us->sp vs H Q E ->
  ũ (à P w) A (.call (.ref f) args) (CR cP outer P w H s Q E) s
noncomputable abbrev _root_.PySem.Around.tL (A:æ):æ:={ A with handled:=none }
noncomputable abbrev Cx.loud (X:Cx) (A:æ):Cx:={ X with A:=A,calm:=false,xe:=fun _ _=>False }
theorem Inv.loud {X:Cx} {π:List (Ø×Obj)} {σ:St} {H:Hp} {s:Ã} (I:Inv X π σ H s) (A:æ) (h:A.frames=X.A.frames):Inv (X.loud A) π σ H s:=by
 obtain ⟨⟨a1,a2,Z,Y,W,V,U,T,v,S,R,Q,P,O,N,M,L,K⟩,J,G,F,E,D,C,B,y,x,w⟩:=I;exact ⟨⟨a1,a2,Z,Y,W,V,U,T,fun z=>absurd z Ò,h.trans S,R,Q,P,O,N,M,L,K⟩,J,G,F,E,D,C,B,y,x,w⟩
def OV {P:ß} {w:ú} {K:č} {mg:Str->Option Ä} {base:ħ} {k:Nat} {f:Ø} {name qual:Str} {params:WI} {body:List WE} {scope:ŷ} {dV kV doc pm aR ct oc:Ä} {an od:Option Ø}
  {gQ:Array (Option Ä)} {N ps:List Str} {sp:Sp} (lk:K.lookup f=some ⟨oc,od,.func (ľ name qual params body scope dV kV doc pm an aR ct),gQ⟩) (cX:ż K aR qual=true) (S:nD N ps scope)
  (len:∀vs H Q E,sp vs H Q E->vs.length=ps.length)
  (iE:∀(A:æ) (outer:List Env) (s:Ã) (H:Hp) (vs:List V) (Q:VK) (E:XK),eV k (A.deeper (WQ qual scope s.heap.objs.size f aR))->sp vs H Q E ->
   ∃t,cg ((fI cP P w K mg base N qual scope f aR A.tL outer s H E).loud (A.deeper (WQ qual scope s.heap.objs.size f aR))) body t/\t { nx:=fun _ H'=>Q .ao H',rt:=Q } (start N vs) H) :
  tK P w K mg base (k+1) f (ľ name qual params body scope dV kV doc pm an aR ct) ps sp:=by
 refine ⟨len,fun A outer s H args p vs Q E T Z M r R=>?_⟩;have L:=len _ _ _ _ R;have O:K.In s.heap:=Z.mod.iR.keeps fun b o e=>(Z.bs b o e).1;have lim:s.heap.NoLimit:=Z.mod.nolimit.keeps fun b o e=>(Z.bs b o e).1;refine codeAny_call_function T.depth (O _ _ lk) rfl S.co S.gen rfl (PySem.W.codeRec_of O cX) (M _ _ _ _ ?_);refine wpAny_newFunctionEnv_cells S.kind (fun y G=>?_) fun env F D x=>?_
 ·rcases S.par y.1 (Wl G).1 with q|q
  ·exact .inl q
  ·exact .inr ⟨q,Ť _ _ _ (.inl q)⟩
 subst F;refine ⟨lim.keeps x.toInCall.keep,codeAny_func ?_⟩;obtain ⟨t,C,B⟩:=iE A outer s H vs Q E (T.deeper _) R;have I:=(BI (CX:=cP) (P:=P) (w:=w) (A:=A.tL) (E:=E) S rfl ⟨Z.frames,Z.mod,Z.bs,Z.gv,Z.gp,Z.jH,Z.aD,Z.bare⟩ L r x).loud (A.deeper (WQ qual scope s.heap.objs.size f aR)) rfl;refine ģ (C [] D (start N vs) H _ I B) (fun z X hs=>?_) fun e X hs=>hs.elim;have fin:∀{Y:St} {H':Hp} {v:V} {u:Ä},Inv ((fI cP P w K mg base N qual scope f aR A.tL outer s H E).loud (A.deeper (WQ qual scope s.heap.objs.size f aR))) [] Y H' X->RelV v u->Q v H'->CE outer P w H s Q u X :=
  fun {Y H' v u} J U q=>⟨v,H',J.os,J.bare,J.base,J.aD,U,q⟩
 cases z with
 |ret u=>obtain ⟨v,Y,H',J,U,q⟩:=hs;exact fin J U q
 |next=>obtain ⟨Y,H',J,q⟩:=hs;exact fin (v:=V.ao) (u:=Value.none) J rfl q
 |brk=>obtain ⟨_,_,_,q⟩:=hs;exact q.elim
 |cont=>obtain ⟨_,_,_,q⟩:=hs;exact q.elim
section
variable {X:Cx} {k:Nat} {f:Ø} {fd:ę} {ps:List Str} {sp:Sp} {E:XK} {x:Str} {p pos:Pos} {e:Ğ} {es:List Ğ} {t:TA}
def LS (F:tK X.prog X.w X.K X.mg X.base k f fd ps sp) (hr:eV k X.A) (hg:Gl X x) (hm:X.mg x=some (.ref f)) (hk:ĵ X.K (.ref f)=true) (hb:Binds X.K fd ps [])
  (ha:PA X (e::es) t) (cY:(x==("__debug__":Str))=false:=by decide) (he:Ê (e::es) X.env=(false,ļ e X.env)::Ê es X.env:=by rfl) (bu:(ı pos (Ê es X.env)).any (·.1)=false:=by rfl) :
  PE X (.Call (.Name x p) (e::es) [] pos) (EN sp [] E0 t):=by
 intro S s σ H Q I h;refine Ŧ (nC I hg hm ?_ cY);refine Wx (h₀:=X.base) I.ok.mod.iR hk (aH (ha pos S s σ H _ I h) fun Z V ⟨U,R,W,r,q⟩=>⟨W.gw,?_⟩) he bu;have T:Vals (U++[]) (Z++[]):=r.append .nil;have P:(Z++[]).length=ps.length:=by rw [<- T.length];exact F.len _ _ _ _ q
 refine VN (ķ (F.run X.A X.stack V R ⟨Z,[]⟩ (Z++[]) (U++[]) Q E0 hr W.mF (hb V Z W.gw P) T q) fun r N Y=>?_)
 cases r with
 |error e=>exact ē Y
 |ok O =>
  cases O with
  |ret u=>exact W.after Y
  |next=>exact ē Y
  |brk=>exact ē Y
  |cont=>exact ē Y
end
end L2
namespace DI
open PySem L2 PySem.W
abbrev Hd (P:ß) (w:ú) (K:č) (mg:Str->Option Ä) (base:ħ) (x:Str) (st:WE) (ps:List Str) (k:Nat) (fn:List D->aa->Res D):Prop:=∀{f:Ø} {fd:ę},Gd K mg x st ps f fd->tK P w K mg base k f fd ps (i4 K fn)
def Qs {P:ß} {w:ú} {K:č} {mg:Str->Option Ä} {base:ħ} {x:Str} {st:WE} {f:Ø} {fd:ę} {ps:List Str} {k:Nat} {b:WR Fl} (G:Gd K mg x st ps f fd) (N:List Str) (S:mO N ps (bX st)=true)
  (hb:N.Nodup->∀(aR:Ä) (A:æ) (outer:List PySem.Env) (s:Ã) (H:Hp) (E:XK),eV k (A.deeper (Ĵ x (bX st) s.heap.objs.size f aR))->cg ((fI cP P w K mg base N x (bX st) f aR A.tL outer s H E).loud (A.deeper (Ĵ x (bX st) s.heap.objs.size f aR))) (gb st) (tS K bQ b)) :
  tK P w K mg base (k+1) f fd ps (i4 K (aJ ps.length N.length b)):=by
 obtain ⟨L,J,kV,doc,pm,an,aR,ct,I,rfl,lk,W⟩:=G.fn.ex;refine OV lk W (jj S) (fun V H Q E h=>?_) fun A outer s H V Q E U h=>?_
 ·obtain ⟨w,T,rfl,S,Y,h⟩:=h
  rw [<- Y.length];unfold aJ at h;split at h
  ·assumption
  ·exact h.elim
 ·obtain ⟨w,T,rfl,R,Y,h⟩:=h
  refine ⟨_,hb (jj S).nd aR A outer s w.H E U,?_⟩;unfold aJ at h;split at h
  ·rename_i O
   rw [<- O] at h;refine ⟨w,_,rfl,R,Y.env N.length,(Out.ai h).mono fun F M D X Z=>?_⟩
   cases M with
   |nx env=>intro C _;exact ay X Z _ rfl
   |rt d=>have q:=ay X Z;exact q
   |bk env=>exact Z.elim
   |ct env=>exact Z.elim
  ·exact h.elim
def lC (cs:List Str) (told:Str) (f:WR D) (j:Nat) (b:WR Fl):WR Fl:=fun env s=>match f env s with
 |none=>none
 |some (.ok d,s)=>ok (.rt (.tup [.str told,d])) s
 |some (.error x,s)=>if (decide (x.c∈cs)&&x.many.isNone)=true then ai (b (env.set j (some (.exc x.c))) s) fun Z s=>match Z with
   | .nx env=>ok (.nx (env.set j none)) s
   | .rt d=>ok (.rt d) s
   |_=>none else none
section
variable {X:Cx} {E:XK} {Ξ:Wd->aW->Prop} {e a b c:Ğ} {es rest:List Ğ} {pos:Pos} {f g h:WR D} {fa:WR (List D)}
def Qt {k n:Nat} {x:Str} {st:WE} {ps:List Str} {fn:List D->aa->Res D} {p:Pos} (G:GG X.K X.mg x st ps) (F:Hd X.prog X.w X.K X.mg X.base x st ps k fn) (hr:eV n X.A) (ha:PA X (e::es) (tA X.K Ξ fa)) (hk:k<=n:=by decide) (hg:Gl X x:=by rfl) (cY:(x==("__debug__":Str))=false:=by decide)
  (he:Ê (e::es) X.env=(false,ļ e X.env)::Ê es X.env:=by rfl) (bu:(ı pos (Ê es X.env)).any (·.1)=false:=by rfl):PE X (.Call (.Name x p) (e::es) [] pos) (tE X.K Ξ (aG fn fa)):=by
 obtain ⟨f,fd,G⟩:=G;refine bZ (LS (F G) (hr.mono hk) hg G.mg G.fn.kp G.b ha cY he bu) fun σ H Q Y=>?_;obtain ⟨w,env,W,S,V,h⟩:=Y;subst W;refine ⟨w,env,rfl,S,V,(Out.ai h).mono fun Z U N T R P O=>?_⟩;show i4 X.K fn (P++[]) Z.H Q E0;rw [Ĩ];exact ⟨Z,U,rfl,T,O,R.ne⟩
def Ar:WR D:=fun _ _=>none
def Ga:PE X e (tE X.K Ξ Ar):=fun _ _ _ _ _ _ ⟨_,_,_,_,_,h⟩=>h.elim
def xT (x y:D) (s:aa):Res D:=match x,y with
 | .int i,.int j=>ok (.bl (!(i==j))) s
 |_,_=>none
def Qu:bj X (Đ .NotEq) (rO X.K Ξ xT):=by
 rintro Z s σ H x y v u Q I Y W ⟨w,R,P,rfl,S,U,T,h⟩;unfold xT at h;split at h
 ·rename_i i j
  cases U;cases T;refine EM Z s σ w.H _ _ v u Q I Y W ⟨rfl,?_⟩;have:(!decide (V.int i=V.int j))=!(i==j):=by
   congr 1;rw [ń];simp
  rw [this];exact ay S h _ rfl
 ·exact h.elim
def OW {k i j:Nat} {x cn n told:Str} {p bh qp RU np uu c0:Pos} {k0 k1} {pre:Hp->Prop} {f:Ø} {vs:List V} {ds:List D} {th:aa->Res D} {qD:WE} {qg:List WE} {b:WR Fl} {cs:List Str} (T:uY X.prog X.w X.K X.mg X.base k pre f vs ds th) (h0:pre X.jz) (hr:bC k X.A)
  (hc:∃CM,X.mg cn=some (.ref CM)/\∀c∈cs,∃C,nsIn X.K Ó c=some (some (.ref C))/\X.mg c=some (.ref C)/\exmOne X.K (.ref C) (.ref CM)=some true)
  (hs:∀a,cg (X.held a) (qD::qg) (tS X.K bQ b)) (zu:X.N.Nodup)
  (L:X.stack=X.env::X.outer:=by rfl) (hf:X.env.frame=some X.env.locals:=by rfl) (hj:X.N[j]?=some n:=by rfl) (lV:X.env.scope.names.lookup n=some .local:=by rfl) (hg:Gl X cn:=by rfl) (TU:(cn==("__debug__":Str))=false:=by decide)
  (hN:X.N[i]?=some x:=by rfl) (hv:mR X.env.scope x:=by first|exact Wy rfl|exact Or.inr (Wy rfl)|exact Or.inr (Or.inr rfl)) (hd:(x==("__debug__":Str))=false:=by decide) (cX:(x==("__classdict__":Str))=false:=by decide)
  (h1:Ê [.Constant (.str told) k0 c0,.Call (.Name x p) [] [] bh] X.env=(false,ļ (.Constant (.str told) k0 c0) X.env)::Ê [.Call (.Name x p) [] [] bh] X.env:=by rfl) (h2:Ê [.Call (.Name x p) [] [] bh] X.env=(false,ļ (.Call (.Name x p) [] [] bh) X.env)::Ê [] X.env:=by rfl) :
  PS X (.Try [.Return (some (.Tuple [.Constant (.str told) k0 c0,.Call (.Name x p) [] [] bh] k1 qp)) RU] [.ExceptHandler (some (.Name cn np)) (some n) (qD::qg) uu] [] [] pos) (tS X.K bQ (lC cs told (oU (.bT f vs ds) th i) j b)):=by
 intro O s σ H D I aw;obtain ⟨w,env,eH,S,t,h⟩:=aw;subst eH;obtain ⟨CM,jO,m⟩:=hc;unfold lC oU at h;by_cases G:env[i]?=some (some (.bT f vs ds))
 case neg=>rw [í G] at h;exact h.elim
 rw [ä G] at h;refine wpAny_Try_except ?_
 let E:XK:=fun cls _ Y=>∃(Z:Wd) (c:Str) (C:Ø),Z.H=Y/\aL X.K Z/\bB X.K Z env σ/\cls=.ref C/\c∈cs/\X.mg c=some (.ref C)/\Out X.K bQ Z (ai (b (env.set j (some (.exc c))) Z.aF) fun P s=>match P with
   | .nx env=>ok (.nx (env.set j none)) s
   | .rt d=>ok (.rt d) s
   |_=>none) (t5 X.K D)
 have TV:Out X.K (gW X.mg E) w (th w.aF) fun Z d=>∀v,DV X.K Z d v->∀q,Z.H q=none->D.rt (.ref q) (upd Z.H q (.tup [.str told,v])):=by
  cases hr:th w.aF with
  |none=>rw [hr] at h;exact h.elim
  |some q =>
   obtain ⟨q,s2⟩:=q;rw [hr] at h
   cases q with
   |ok d =>
    intro Z l R e v F q M;have g:=(Fw.grow (K:=X.K) (o:=.tup [.str told,v]) M).le;exact h (Z.grow q (.tup [.str told,v])) (l.trans g) (R.grow M) e (.ref q) ⟨q,_,rfl,bg.of cm,⟨.str told,[v],rfl,rfl,g.all ⟨v,[],rfl,F,rfl⟩⟩⟩
   |error y =>
    intro Z l R e;dsimp only at h;split at h
    ·rename_i J
     rw [È,Ü] at J;obtain ⟨C,_,h2,_⟩:=m _ J.1;refine ⟨η.mp J.2,C,h2,Z,y.c,C,rfl,R,t.le l,rfl,J.1,h2,?_⟩;rw [e];exact h.from l
    ·exact h.elim
 have iE:=fun {W:Ã} (I:Inv X O σ w.H W)=>OO (pos:=bh) (p:=p) (Q:=fun v Y=>∀q,Y q=none->D.rt (.ref q) (upd Y q (.tup [.str told,v]))) T h0 hr hN hv hd cX I S t G TV;refine wpAny_execs_cons (ģ (wpAny_Return_some (Q:=SP X O { nx:=fun _ _=>False,rt:=D.rt }) (E:=sU X O σ E) (wpAny_Tuple_spliced ?_)) (fun P W q=>?_) fun e W q=>?_)
 ·rw [h1]
  refine Vx (Calls.Constant_str (k:=k0) (pos:=c0) ?_);rw [h2];refine Vx (aH (iE (I.tok _)) fun u W M=>Calls.spliced_nil ?_);obtain ⟨v,H1,I1,r,q⟩:=M;refine ⟨show 2<=Ñ by decide,?_⟩;have hf:H1 W.heap.objs.size=none:=I1.aD.fresh (WV _);refine ⟨.ref W.heap.objs.size,σ,upd H1 W.heap.objs.size (.tup [.str told,v]),I1.laid (t':=W.toks) (fun b u e=>Á _ e) (WV _) ?_,rfl,q _ hf⟩;exact ⟨show 2<=Ñ by decide,_,.cons ⟨_,rfl⟩ (.cons r .nil),⟨_,Ï _ rfl,rfl,_,rfl⟩⟩
 ·cases P with
  |next=>obtain ⟨_,_,_,z⟩:=q;exact ē z
  |ret v=>exact q
  |brk=>obtain ⟨_,_,_,z⟩:=q;exact ē z
  |cont=>obtain ⟨_,_,_,z⟩:=q;exact ē z
 ·refine hW (D:=D) q L hf zu hj lV hg jO TU fun cls Y hE=>?_
  obtain ⟨Z,c,C,rfl,R,gB,rfl,uA,TX,ho⟩:=hE;obtain ⟨C2,k1,k2,k3⟩:=m c uA;rw [TX] at k2;cases k2;refine ⟨k3,fun a o B kE s5 I5=>?_⟩;have le:=(Fw.grow (K:=X.K) (o:=.ba o (.own a)) B).le;have S5:=R.grow (o:=.ba o (.own a)) B;have F:DV X.K (Z.grow a (.ba o (.own a))) (.exc c) (.ref a):=⟨a,o,C,rfl,⟨fun z=>j9 R B z,cm⟩,kE,k1⟩;have hd:=hs a O s5 (σ.set j (some (.ref a))) _ { nx:=fun U Y=>D.nx (U.set j none) Y,rt:=D.rt,bk:=fun U Y=>D.bk (U.set j none) Y,ct:=fun U Y=>D.ct (U.set j none) Y } I5
   ⟨Z.grow a (.ba o (.own a)),env.set j (some (.exc c)),rfl,S5,(gB.le le).set F j,(Out.ai (ho.from le)).mono fun w6 P l6 S6 q=>?_⟩
  ·exact hd
  ·cases P with
   |nx az=>exact fun U e'=>ay S6 q (U.set j none) (e'.unset j)
   |rt d=>have z:=ay S6 q;exact z
   |bk az=>exact q.elim
   |ct az=>exact q.elim
end
end DI
namespace L2
open PySem PySem.Spec PyProof.Rows
end L2
namespace DI
open PySem L2
end DI
namespace L2
open PySem PySem.Spec PyProof.Rows
section
variable {X:Cx} {π:List (Ø×Obj)} {σ:St} {H:Hp} {s:Ã} {Z:Ø->Prop}
mutual
theorem DV.nW (I:Inv X π σ H s):∀{d:ž} {v:V} {u:Ä},DV X.K Z H d v->RelV v u->d.showable=true->d.shown.length<=Ñ->∃bs,ReadAtMost s.heap d.depth bs/\ReprK X.prog X.w bs s.heap d.depth u d.shown
 | .none,v,u,h,r,hs,W=>by
  obtain ⟨as,Y⟩:=h.reads I r;exact V1 Y hs (fun z=>by simp [θ] at z) W
 | .bool b,v,u,h,r,hs,W=>by
  obtain ⟨as,Y⟩:=h.reads I r;exact V1 Y hs (fun z=>by simp [θ] at z) W
 | .int i,v,u,h,r,hs,W=>by
  obtain ⟨as,Y⟩:=h.reads I r;exact V1 Y hs (fun z=>by simp [θ] at z) W
 | .str x,v,u,h,r,hs,W=>by
  obtain ⟨as,Y⟩:=h.reads I r;exact V1 Y hs (fun z=>by simp [θ] at z) W
 | .dict F,v,u,h,r,hs,W=>by
  obtain ⟨as,Y,G⟩:=h.pO I r rfl;exact V1 Y hs (fun _=>G) W
 | .tuple U,v,u,h,r,hs,W=>by
  have O:(tupleText (Ĭ U)).length<=Ñ:=by simpa only [V7] using W
  obtain ⟨as,Y⟩:=h.reads I r;simp only [DV] at h;obtain ⟨a,J,e,N,S⟩:=h;subst e;cases r;obtain ⟨its,R,⟨o,e,c,n,Q⟩,_⟩:=I.tuple N;obtain ⟨bs,T,P⟩:=ak.nW I S R (by simpa [ŭ] using hs) (fun t M=>á (tupleText_mem_le M) O);have L:a∉bs:=not_mem_of_deeper Y (by simp only [PyData.depth];omega) T;refine ⟨a::bs,ReadAtMost.cons Y (by simp only [PyData.depth];omega) T,?_⟩;simp only [PyData.depth,V7];exact ReprK.tuple e c Q L P
 | .list U,v,u,h,r,hs,W=>by
  have O:(listText (Ĭ U)).length<=Ñ:=by simpa only [V7] using W
  obtain ⟨as,Y⟩:=h.reads I r;simp only [DV] at h;obtain ⟨a,J,e,_,N,S⟩:=h;subst e;cases r;obtain ⟨its,R,⟨o,n,e,c,_,Q⟩,_⟩:=I.list (bt.of N);obtain ⟨bs,T,P⟩:=ak.nW I S R (by simpa [ŭ] using hs) (fun t M=>á (listText_mem_le M) O);have L:a∉bs:=not_mem_of_deeper Y (by simp only [PyData.depth];omega) T;refine ⟨a::bs,ReadAtMost.cons Y (by simp only [PyData.depth];omega) T,?_⟩;simp only [PyData.depth,V7]
  cases its with
  |nil =>
   have:J=[]:=by cases R;rfl
   subst this
   have:U=[]:=by cases U with
    |nil=>rfl
    |cons d U=>obtain ⟨_,_,z,_⟩:=S;cases z
   subst this;simp only [Ĭ,listText_nil];exact ReprK.listEmpty e c Q
  |cons x l=>exact ReprK.list e c Q L (by simpa using P.length_eq) (fun i y e=>P.item i y (by simpa using e))
theorem ak.nW (I:Inv X π σ H s):∀{ds:List ž} {vs:List V} {us:List Ä},ak X.K Z H ds vs->Vals vs us->ő ds=true->(∀t∈Ĭ ds,t.length<=Ñ) ->
  ∃bs,ReadAtMost s.heap (ě ds) bs/\ReprAllK X.prog X.w bs s.heap (ě ds) us (Ĭ ds)
 | [],vs,us,h,r,_,_=>by
  have e:vs=[]:=h;subst e;cases r
  exact ⟨[],(fun _ h=>nomatch h),by simp only [Ĭ];exact .nil⟩
 |d::ds,vs,us,h,r,hs,W=>by
  obtain ⟨v,F,e,T,S⟩:=h;subst e;have U:d.showable=true/\ő ds=true:=by simpa [ő] using hs
  cases r with
  |cons R Q =>
   obtain ⟨P,O,N⟩:=DV.nW I T R U.1 (W _ (by simp only [Ĭ];exact Ö ..));obtain ⟨M,L,J⟩:=ak.nW I S Q U.2 (fun t G=>W t (by simp only [Ĭ];exact Õ _ G));refine ⟨P++M,(O.mono (by simp only [ě];exact VI _ _)).append (L.mono (by simp only [ě];exact š _ _)),?_⟩;simp only [ě,Ĭ];exact .cons ((N.more fun b Y=>ö _ Y).level_le (VI _ _)) (J.more_le (fun b Y=>Í _ Y) (š _ _))
end
end
def Jx {X:Cx} {k:Nat} (hr:bC k X.A):bS X (.builtin "repr") (fun xs H Q=>∃(x:V) (ds:List ž) (Z:Ø->Prop),xs=[x]/\DV X.K Z H (.tuple ds) x/\(PyData.tuple ds).showable=true/\(PyData.tuple ds).depth<=100/\(PyData.tuple ds).shown.length<=Ñ/\Q (.str (PyData.tuple ds).shown) H):=by
 intro C s σ H xs B Q I r h;obtain ⟨x,ds,Z,rfl,Y,hs,y,S,q⟩:=h;obtain ⟨u,rfl,U⟩:=vals1 r;have T:(tupleText (Ĭ ds)).length<=Ñ:=by simpa only [V7] using S
 have R:X.A.units+((PyData.tuple ds).depth+1)<WD:=by have:=hr.un;omega
 obtain ⟨as,P⟩:=Y.reads I U;simp only [DV] at Y;obtain ⟨a,xs,e,O,N⟩:=Y;subst e;cases U;obtain ⟨its,M,⟨o,e,c,n,L⟩,_⟩:=I.tuple O;obtain ⟨bs,J,W⟩:=ak.nW I N M (by simpa [ŭ] using hs) (fun t G=>á (tupleText_mem_le G) T);have E:a∉bs:=not_mem_of_deeper P (by simp only [PyData.depth];omega) J;simp only [PyData.depth] at R;refine call_repr_slot (by omega) ⟨o,e,c⟩ F.slot_tuple_repr (call_tuple_reprK e c L E W hr.gd (fun b _=>Clear.nil b) (by show X.A.units+1 + _ < WD;omega) (fun _ _ z=>z) (fun w t D W=>⟨_,_,rfl,?_⟩) T);refine ⟨.str _,H,I.kept (t':=D) W,⟨t,rfl⟩,?_⟩;simpa only [V7] using q
end L2
namespace DI
open PySem L2
def uw (d:D):Bool:=plain d&&(py d).showable&&decide ((py d).depth<=100)&&decide ((py d).shown.length<=Ñ)
def pW (ds:List D) (s:aa):Res D:=match ds with
 | [.tup Z]=>if uw (.tup Z)=true then ok (.str (py (.tup Z)).shown) s else none
 |_=>none
def Dd {X:Cx} {Ξ:Wd->aW->Prop} {k:Nat} (hr:bC k X.A):bS X (.builtin "repr") (rC X.K Ξ pW):=by
 rintro Y s σ H N W Q I r ⟨w,M,rfl,S,V,h⟩;unfold pW at h;split at h
 ·rename_i d
  obtain ⟨v,rfl,U⟩:=ka V;split at h
  ·rename_i Z
   simp only [uw,È,Ü] at Z;obtain ⟨⟨⟨T,R⟩,P⟩,O⟩:=Z;exact Jx hr Y s σ w.H _ W Q I r ⟨v,_,_,rfl,U.py T,R,P,O,ay S h _ rfl⟩
  ·exact h.elim
 ·exact h.elim
def ot (ds:List D) (s:aa):Res D:=match ds with
 | [.bl b]=>ok (.int (if b then 1 else 0)) s
 |_=>none
def Fu {X:Cx} {Ξ:Wd->aW->Prop}:bS X (.type "int") (rC X.K Ξ ot):=by
 rintro V s σ H U T Q I r ⟨w,R,rfl,S,Z,h⟩;unfold ot at h;split at h
 ·rename_i b
  obtain ⟨v,rfl,Y⟩:=ka Z;have e:v=.bl b:=Y;subst e;obtain ⟨u,rfl,W⟩:=vals1 r;have e:u=.bool b:=W;subst e;exact call_int_bool ⟨.int _,w.H,I.tok _,⟨_,rfl⟩,ay S h _ rfl⟩
 ·exact h.elim
def qE (f:Ğ->Option D):List Ğ->Option (List D)
 | []=>some []
 |e::Z=>match f e,qE f Z with
  |some d,some Y=>if notStar e=true then some (d::Y) else none
  |_,_=>none
def cst:Nat->Ğ->Option D
 |0,_=>none
 |n+1,e=>match e with
  | .Constant (.str x) _ _=>some (.str x)
  | .Constant (.int i) _ _=>some (.int i)
  | .Constant (.bool b) _ _=>some (.bl b)
  | .Constant .none _ _=>some .ao
  | .UnaryOp .USub (.Constant (.int i) _ _) _=>some (.int (-i))
  | .Tuple Y _ _=>match qE (cst n) Y with
   |some Z=>if Z.length<=100 then some (.tup Z) else none
   |none=>none
  | .List Y _=>match qE (cst n) Y with
   |some Z=>if Z.length<=100 then some (.lst Z) else none
   |none=>none
  |_=>none
def aC (ds:List D):WR (List D):=fun _ s=>ok ds s
def Qv {ds:List D} (h:ds.length<=100):aU (aC ds)=eC (.tup ds):=by
 funext env s;show gk ds (ok (D.tup ds) s)=_;exact ä (á h (by decide))
def Qw {ds:List D} (h:ds.length<=100):cC (aC ds)=eC (.lst ds):=by
 funext env s;show gk ds (ok (D.lst ds) s)=_;exact ä (á h (by decide))
section
variable {X:Cx} {Ξ:Wd->aW->Prop}
theorem xU {f:Ğ->Option D} (hf:∀e d,f e=some d->PE X e (tE X.K Ξ (eC d))):∀{es:List Ğ} {ds:List D},qE f es=some ds->PA X es (tA X.K Ξ (aC ds))
 | [],ds,h=>by cases h;exact cq
 |e::es,ds,h=>by
  unfold qE at h;split at h
  ·rename_i d Z e1 e2
   split at h
   ·rename_i hs
    cases h;exact dq (hf e d e1) (xU hf e2) hs
   ·cases h
  ·cases h
theorem qi:∀(n:Nat) {e:Ğ} {d:D},cst n e=some d->PE X e (tE X.K Ξ (eC d))
 |0,e,d,h=>by cases h
 |n+1,e,d,h=>by
  unfold cst at h;split at h
  ·cases h;exact cT
  ·cases h;exact aq
  ·cases h;exact er
  ·cases h;exact mr
  ·cases h;exact FU E2 aq
  ·split at h
   ·rename_i W Z
    split at h
    ·rename_i Y
     cases h;rw [<- Qv Y];exact bp (xU (fun e d=>qi n) Z)
    ·cases h
   ·cases h
  ·split at h
   ·rename_i W Z
    split at h
    ·rename_i Y
     cases h;rw [<- Qw Y];exact dh (xU (fun e d=>qi n) Z)
    ·cases h
   ·cases h
  ·cases h
end
end DI
namespace DI.aO
open PySem L2 DI
noncomputable section
noncomputable def bo:List Str:=["NoBook","NoHeap"]
def ph:List D->aa->Res D:=aJ 2 3 (ar (bb (aG nv (ae (af 0) (ae (af 1) ah))) (gN 2)) (ar (bA (aY (e2 qy (af 2) (e2 nR (eC (.int 10)) (eC (.int 18))))) (aP (eNew (ae (e2 qa (af 2) (e2 nR (eC (.int 10)) (eC (.int 18)))) (ae (eC (.bl true)) ah)))) bK) (aP (eNew (ae (e2 fG (af 2) (eC (.int 2147483647))) (ae (eC (.bl false)) ah))))))
def bJ:List D->aa->Res D:=aJ 2 4 (ar (bA (cQ (e2 aE (af 0) (eC (.int 1)))) (ar (bb (e2 fG (e2 aE (af 0) (eC (.int 0))) (af 1)) (gN 2)) (ar (ku (e2 mv (e2 aE (af 0) (eC (.int 0))) (af 1)) (af 0) (eC (.int 0))) (aP (af 2)))) bK) (ar (ku (e2 fG (e2 bO (e2 cL (e2 aE (af 0) (eC (.int 0))) (eC (.int 48271))) (eC (.int 29))) (eC (.int 2147483647))) (af 0) (eC (.int 0))) (ar (bb (e2 fG (e2 bO (e2 bO (e2 cL (e2 aE (af 0) (eC (.int 0))) (e2 aE (af 0) (eC (.int 0)))) (e2 cL (eC (.int 39373)) (e2 aE (af 0) (eC (.int 0))))) (eC (.int 7))) (eC (.int 2147483629))) (gN 3)) (ar (bb (e2 fG (e2 bO (e2 cL (af 3) (af 3)) (e2 cL (eC (.int 16807)) (af 3))) (eC (.int 2147483587))) (gN 3)) (aP (e2 fG (e2 mv (af 3) (eC (.int 8))) (af 1)))))))
def pk:List D->aa->Res D:=aJ 2 2 (aP (eB dw (ae (cK 1 [0] (cw (ae (af 1) ah)) (gN 0) (aY (e2 bH (aG bJ (ae (af 1) (ae (eC (.int 2)) ah))) (eC (.int 1)))) (af 0)) ah)))
def sH:List D->aa->Res D:=aJ 2 8 (ar (mK 2 3 (ae (e2 bO (eC (.int 1)) (aG bJ (ae (af 0) (ae (af 1) ah)))) (ae (aG bJ (ae (af 0) (ae (eC (.int 4)) ah))) ah))) (ar (bb (eNew ah) (gN 4)) (ar (et (cw (ae (af 2) ah)) (gN 5) (ar (bb (aG pk (ae (af 0) (ae (e2 aE (cC (ae (eC (.int 2)) (ae (eC (.int 3)) (ae (eC (.int 4)) (ae (eC (.int 8)) ah))))) (af 3)) ah))) (gN 6)) (ar (bA (dJ (aY (e2 fM (af 4) (cC ah))) (aY (e2 bH (aG bJ (ae (af 0) (ae (eC (.int 4)) ah))) (eC (.int 0))))) (ar (bb (e2 aE (af 4) (aG bJ (ae (af 0) (ae (eB cI (ae (af 4) ah)) ah)))) (gN 7)) (bb (rg (aY (e2 bH (aG bJ (ae (af 0) (ae (eC (.int 2)) ah))) (eC (.int 0)))) (eB dw (ae (e1 pf (e2 bO (af 7) (af 6))) ah)) (af 7)) (gN 6))) bK) (c9 (jB (af 4) (af 6)))))) (aP (eB dw (ae (af 4) ah))))))
def sm:List D->aa->Res D:=aJ 1 4 (ar (bb (e2 aE (cC (ae (eC (.int 2)) (ae (eC (.int 4)) (ae (eC (.int 8)) ah)))) (aG bJ (ae (af 0) (ae (eC (.int 3)) ah)))) (gN 1)) (ar (bb (cK 1 [0] (cw (ae (af 1) ah)) (gN 0) dD (aG bJ (ae (af 1) (ae (eC (.int 3)) ah)))) (gN 2)) (ar (bb (eB dw (ae (cK 1 [2] (cw (ae (af 1) ah)) (gN 0) (aY (e2 bH (e2 aE (af 1) (af 0)) (eC (.int 1)))) (af 0)) ah)) (gN 3)) (aP (aU (ae (af 3) (ae (eB dw (ae (cK 1 [2] (cw (ae (af 1) ah)) (gN 0) (aY (e2 bH (e2 aE (af 1) (af 0)) (eC (.int 2)))) (af 0)) ah)) ah)))))))
def sI:List D->aa->Res D:=aJ 2 4 (ar (mK 2 3 (ae (e2 aE (cC (ae (eC (.int 0)) (ae (aG bJ (ae (af 0) (ae (eC (.int 4)) ah))) ah))) (aG bJ (ae (af 0) (ae (eC (.int 2)) ah)))) (ae (aG bJ (ae (af 0) (ae (af 1) ah))) ah))) (ar (bA (aY (e2 bH (aG bJ (ae (af 0) (ae (eC (.int 3)) ah))) (eC (.int 0)))) (aP (aU (ae (eC (.str "mended")) (ae (af 2) (ae (af 3) (ae (aG bJ (ae (af 0) (ae (e2 aE (cC (ae (eC (.int 2)) (ae (eC (.int 4)) (ae (eC (.int 8)) ah)))) (aG bJ (ae (af 0) (ae (eC (.int 3)) ah)))) ah))) ah)))))) bK) (aP (aU (ae (eC (.str "made")) (ae (af 2) (ae (af 3) (ae (aG sm (ae (af 0) ah)) ah))))))))
def u5:WR Fl:=(ar (bA (dJ (aY (e2 bH (e2 aE (af 6) (eC (.int 0))) (eC (.str "mended")))) (dJ (aY (e2 bH (e2 aE (af 6) (eC (.int 1))) (af 1))) (aY (e2 bH (e2 aE (af 6) (eC (.int 3))) (af 2))))) (c9 (jB (af 5) (e2 aE (af 6) (eC (.int 2))))) bK) (bA (dJ (aY (e2 bH (e2 aE (af 6) (eC (.int 0))) (eC (.str "made")))) (aY (e2 bH (e2 aE (af 6) (eC (.int 1))) (af 1)))) (ar (bb (e2 bO (af 3) (e2 cL (cC (ae (e2 aE (af 6) (eC (.int 2))) ah)) (eB ot (ae (e2 eD (af 2) (e2 aE (e2 aE (af 6) (eC (.int 3))) (eC (.int 0)))) ah)))) (gN 3)) (bb (e2 bO (af 4) (e2 cL (cC (ae (e2 aE (af 6) (eC (.int 2))) ah)) (eB ot (ae (e2 eD (af 2) (e2 aE (e2 aE (af 6) (eC (.int 3))) (eC (.int 1)))) ah)))) (gN 4))) bK))
def u6:WR Fl:=(ar (bA (dJ (aY (e2 eD (af 8) (af 5))) (aY (e2 eD (af 8) (af 3)))) (aP (eC (.bl false))) bK) (ar (bb (rf (e2 eD (af 8) (af 3)) (dP (af 7) (e2 jc (af 8) (af 5)))) (gN 7)) (bA (dJ (cQ (af 7)) (aY (e2 eD (af 8) (af 4)))) (aP (eC (.bl false))) bK)))
def rL:List D->aa->Res D:=aJ 3 9 (ar (uk 3 4 5 (ae (cC ah) (ae (cC ah) (ae (eNew ah) ah)))) (ar (et (dQ (af 0)) (gN 6) u5) (ar (bb (eC (.bl false)) (gN 7)) (ar (et (cw (ae (eC (.int 31)) ah)) (gN 8) u6) (aP (eC (.bl true)))))))
def Bq:WR Fl:=(bA (eY (cQ (aG rL (ae (af 0) (ae (af 1) (ae (af 2) ah)))))) (aP (eC (.bl false))) bK)
def Br:WR Fl:=(et (cw (ae (eC (.int 8)) ah)) (gN 2) Bq)
def rT:List D->aa->Res D:=aJ 1 3 (ar (bA (aY (e2 qx (eB cI (ae (af 0) ah)) (eC (.int 24)))) (aP (eC (.bl false))) bK) (ar (et (cw (ae (eC (.int 4)) ah)) (gN 1) Br) (aP (eC (.bl true)))))
def Co:WR Fl:=(ar (bb (aG sI (ae (af 0) (ae (af 3) ah))) (gN 5)) (bA (dJ (aY (e2 jc (af 5) (af 2))) (cQ (aG rT (ae (e2 bO (af 2) (cC (ae (af 5) ah))) ah)))) (c9 (jB (af 2) (af 5))) bK))
def pF:List D->aa->Res D:=aJ 2 6 (ar (mK 2 3 (ae (eNew ah) (ae (e2 aE (cC (ae (eC (.int 31)) (ae (eC (.int 6)) (ae (eC (.int 12)) ah)))) (aG bJ (ae (af 0) (ae (eC (.int 3)) ah)))) ah))) (ar (et (cw (ae (af 1) ah)) (gN 4) Co) (aP (eB dw (ae (eB TK.nL (ae (af 2) ah)) ah)))))
def rV:List D->aa->Res D:=aJ 2 3 (ar (bb (cC (ae (aU ah) (ae (eB nU (ae (af 1) ah)) (ae (e2 cL (af 1) (eC (.int 10))) (ae (e2 bO (af 1) (aU (ae (eC .ao) ah))) (ae (e2 bO (af 1) (aU (ae (aU (ae (eC (.int 8)) ah)) ah))) (ae (aU (ae (aU (ae (eC (.int 1)) (ae (eC (.int 0)) ah))) ah)) (ae (aU (ae (aU (ae (eC (.int 0)) (ae (eC (.int 0)) ah))) ah)) (ae (aU (ae (aU (ae (eC (.bl true)) ah)) ah)) (ae (eC .ao) (ae (eC (.bq [])) (ae (eC (.str "0")) ah)))))))))))) (gN 2)) (ar (bb (e2 bO (af 2) (cC (ae (aU (ae (cC (ae (eC (.int 0)) ah)) ah)) (ae (aU (ae (eC (.int 0)) ah)) (ae (aU (ae (aU (ae (e1 xN (eC (.int 1))) ah)) ah)) (ae (aU (ae (aU (ae (eC (.str "0")) ah)) ah)) (ae (e2 bO (e2 aE (af 1) (eC (.int 0))) (aU (ae (eC (.int 9)) ah))) (ae (eC (.int 0)) (ae (eC (.bl true)) (ae (e2 cL (aU (ae (aU ah) ah)) (eC (.int 10))) ah)))))))))) (gN 2)) (aP (e2 aE (af 2) (aG bJ (ae (af 0) (ae (eB cI (ae (af 2) ah)) ah)))))))
def rW:List D->aa->Res D:=aJ 2 5 (ar (bb (eC (.tup [.tup [.str "made",.int 1,.int 3,.tup [.tup [.int 2],.tup []]],.tup [.str "made",.int 1,.int 5,.tup [.tup [],.tup [.int 2]]]])) (gT [(gN 2),(gN 3)])) (ar (bb (eNew (ae (eB nU (ae (af 1) ah)) (ae (aU (ae (af 1) (ae (af 1) ah))) (ae (eC .ao) (ae (eC (.bq [])) (ae (eC (.str "")) (ae (aU (ae (eC .ao) ah)) (ae (aU (ae (af 3) (ae (af 2) ah))) (ae (aU (ae (af 2) (ae (af 3) ah))) (ae (aU (ae (af 2) (ae (af 2) ah))) ah)))))))))) (gN 4)) (ar (bb (e2 nM (af 4) (cC (ae (aU (ae (af 2) (ae (aU (ae (eC (.str "mended")) (ae (eC (.int 1)) (ae (eC (.int 3)) (ae (eC (.int 2)) ah))))) ah))) (ae (aU (ae (aU (ae (eC (.str "mended")) (ae (eC (.int 0)) (ae (eC (.int 0)) (ae (eC (.int 8)) ah))))) ah)) (ae (eC (.tup [.tup [.str "mended",.int 0,.int 1,.int 0],.tup [.str "mended",.int 0,.int 0,.int 0]])) ah))))) (gN 4)) (ar (bb (e2 nM (af 4) (eC (.lst [.tup [.tup [.str "made",.int 0,.int 4,.tup [.tup [.int 0],.tup []]],.tup [.str "made",.int 0,.int 4,.tup [.tup [],.tup [.int 0]]]],.tup [.tup [.str "mended",.int 0,.int 31,.int 0]]]))) (gN 4)) (ar (c9 (jB (af 4) (eB dw (ae (cK 1 [] (cw (ae (eC (.int 25)) ah)) (gN 0) dD (aU (ae (eC (.str "mended")) (ae (eC (.int 0)) (ae (af 0) (ae (eC (.int 0)) ah)))))) ah)))) (aP (e2 aE (af 4) (aG bJ (ae (af 0) (ae (eB cI (ae (af 4) ah)) ah))))))))))
def Bz:List D->aa->Res D:=aJ 1 2 (ar (bb (cC (ae (e1 (cN bo (isNm "NoMarks")) (af 0)) (ae (e1 (cN bo (isNm "NoSheet")) (af 0)) (ae (e1 (cN bo (isNm "NoPage")) (af 0)) (ae (e1 (cN bo (isNm "NoBook")) (af 0)) ah))))) (gN 1)) (ar (bb (e2 bO (af 1) (cC (ae (e1 (cN bo (isNm "NoMould")) (af 0)) (ae (e1 (cN bo (isNm "NoDay")) (af 0)) (ae (e1 (cN bo (isNm "NoSort")) (af 0)) (ae (e1 (cN bo (isNm "NoNumber")) (af 0)) ah)))))) (gN 1)) (ar (bb (e2 bO (af 1) (cC (ae (e1 (cN bo (isNm "NoSheets")) (af 0)) (ae (e1 (cN bo (isNm "NoRun")) (af 0)) (ae (e1 (cN bo (isNm "NoLaying")) (af 0)) (ae (e1 (cN bo (isNm "NoHeap")) (af 0)) ah)))))) (gN 1)) (ar (bb (e2 bO (af 1) (cC (ae (e1 (cN bo (isNm "NoCount")) (af 0)) (ae (e1 (cN bo (isNm "Clash")) (af 0)) (ae (e1 (cN bo (isNm "NoDeed")) (af 0)) (ae (e1 (cN bo (isNm "NoText")) (af 0)) ah)))))) (gN 1)) (aP (e2 bO (af 1) (cC (ae (e1 (cN bo (isNm "NoRow")) (af 0)) (ae (e1 (cN bo (isNm "TooMany")) (af 0)) (ae (e1 (cN bo (isNm "Lacking")) (af 0)) ah))))))))))
def fZ:List D->aa->Res D:=aJ 1 1 (bA (eY (cQ (aG iq (ae (af 0) (ae (eC (.int (9))) ah))))) (xh "NoHeap" (ae (eC (.str "a heap is a tuple of one to nine marks")) ah)) bK)
def so:List D->aa->Res D:=aJ 1 1 (ar (c9 (cF fZ (ae (af 0) ah))) jQ)
def rZ:List D->aa->Res D:=aJ 1 3 (ar (c9 (cF fZ (ae (af 0) ah))) jQ)
def rM:List D->aa->Res D:=aJ 1 1 (ar (c9 (cF fZ (ae (af 0) ah))) jQ)
def sr:List D->aa->Res D:=aJ 1 2 (ar (c9 (cF fZ (ae (af 0) ah))) jQ)
def rX:List D->aa->Res D:=aJ 2 2 (ar (c9 (cF fZ (ae (af 0) ah))) jQ)
def rK:List D->aa->Res D:=aJ 2 2 (ar (c9 (cF fZ (ae (af 0) ah))) jQ)
def sd:List D->aa->Res D:=aJ 2 2 (ar (c9 (cF fZ (ae (af 0) ah))) jQ)
def pq:List D->aa->Res D:=aJ 2 2 (ar (bA (aY (e2 bH (af 0) (eC (.int 0)))) (aP (cF so (ae (af 1) ah))) bK) (ar (bA (aY (e2 bH (af 0) (eC (.int 1)))) (aP (cF rZ (ae (af 1) ah))) bK) (ar (bA (aY (e2 bH (af 0) (eC (.int 2)))) (aP (cF rM (ae (af 1) ah))) bK) (ar (bA (aY (e2 bH (af 0) (eC (.int 3)))) (aP (cF sr (ae (af 1) ah))) bK) (ar (bA (aY (e2 bH (af 0) (eC (.int 4)))) (aP (cF rX (ae (af 1) (ae (aU (ae (aU (ae (eC (.int 0)) ah)) ah)) ah)))) bK) (aP (rg (aY (e2 bH (af 0) (eC (.int 5)))) (cF rK (ae (af 1) (ae (aU ah) ah))) (cF sd (ae (af 1) (ae (eC .ao) ah))))))))))
def l0:List D->aa->Res D:=aJ 1 1 (bA (eY (cQ (aG kU (ae (af 0) ah)))) (xh "NoBook" (ae (eC (.str "a book is laid pages without faults")) ah)) bK)
def nr:List D->aa->Res D:=aJ 1 1 (ar (c9 (cF l0 (ae (af 0) ah))) jQ)
def eQ (cl:D) (th:aa->Res D):List D->aa->Res D:=aJ 1 3 (lC bo "told" (oU cl th 0) 1 (ar (bb (aG Bz (ae (af 1) ah)) (gN 2)) (ar (bA (iS (eY (cQ (e1 (cN bo anyS) (af 1)))) (aY (e2 xT (e1 yQ (af 2)) (eC (.int 1))))) (aP (aU (ae (eC (.str "other")) (ae (eC .ao) ah)))) bK) (ar (bA (cQ (e2 aE (af 2) (eC (.int 17)))) (aP (aU (ae (eC (.str "many")) (ae Ar ah)))) bK) (ar (bA (cQ (e2 aE (af 2) (eC (.int 18)))) (aP (aU (ae (eC (.str "lacking")) (ae Ar ah)))) bK) (aP (aU (ae (eC (.str "refused")) (ae (e1 Am (af 2)) ah)))))))))
def xj:WR Fl:=(bA (aY (e2 fM (lJ "law" [9,6] (cF pq (ae (af 0) (ae (af 1) ah))) eQ) (aU (ae (eC (.str "refused")) (ae (eC (.int 11)) ah))))) (aP (eC (.bl false))) bK)
def xk:WR Fl:=(ar (bb (aU (ae (aG rV (ae (af 2) (ae (af 3) ah))) (ae (aG rW (ae (af 2) (ae (af 4) ah))) ah))) (gT [(gN 6),(gN 7)])) (ar (bb (eB pW (ae (aU (ae (af 6) (ae (af 7) ah))) ah)) (gN 8)) (ar (et (cw (ae (eC (.int 7)) ah)) (gN 9) xj) (bA (iS (aY (e2 fM (lJ "law" [7] (cF nr (ae (af 0) ah)) eQ) (aU (ae (eC (.str "refused")) (ae (eC (.int 3)) ah))))) (aY (e2 fM (eB pW (ae (aU (ae (af 6) (ae (af 7) ah))) ah)) (af 8)))) (aP (eC (.bl false))) bK))))
def xl:WR Fl:=(ar (bb (aG ph (ae (af 0) (ae (af 1) ah))) (gN 2)) (ar (mK 3 4 (ae (aG sH (ae (af 2) (ae (eC (.int 9)) ah))) (ae (aG pF (ae (af 2) (ae (aG bJ (ae (af 2) (ae (eC (.int 9)) ah))) ah))) ah))) (et (cw (ae (eC (.int 3)) ah)) (gN 5) xk)))
def tM:List D->aa->Res D:=aJ 1 10 (ar (et (cw (ae (eB nT (ae (eC (.int 1)) (ae (eB qc (ae (eB cI (ae (af 0) ah)) (ae (eC (.int 2)) ah))) ah))) ah)) (gN 1) xl) (aP (eC (.bl true))))
end
end DI.aO
namespace DI
open PySem L2
def Wp {α:Type} (r:Res α) (Q:α->aa->Prop):Prop:=∃a s,r=some (.ok a,s)/\Q a s
section
variable {α β:Type} {r:Res α} {k:α->aa->Res β} {Q Q':α->aa->Prop} {R:β->aa->Prop} {env:Env} {s:aa}
theorem Wp.ok {a:α} (h:Q a s):Wp (DI.ok a s) Q:=⟨a,s,rfl,h⟩
def Wp.mono (h:Wp r Q) (i:∀a s,Q a s->Q' a s):Wp r Q':=by
 obtain ⟨a,s,e,q⟩:=h;exact ⟨a,s,e,i a s q⟩
theorem Wp.ai (h:Wp r fun a s=>Wp (k a s) R):Wp (DI.ai r k) R:=by
 obtain ⟨a,s,e,b,Z,Y,q⟩:=h;exact ⟨b,Z,by rw [e];exact Y,q⟩
theorem Wp.ne (h:Wp r Q):Wp (DI.ne r) Q:=by
 obtain ⟨a,s,e,q⟩:=h;exact ⟨a,s,by rw [e];rfl,q⟩
def WS (e:r=some (.ok a,s)) (h:Q a s):Wp r Q:=⟨a,s,e,h⟩
def Wp.seq {f g:WR Fl} {Q:Fl->aa->Prop} (h:Wp (f env s) fun fl s=>match fl with
  | .nx env=>Wp (g env s) Q
  |fl=>Q fl s):Wp (ar f g env s) Q:=by
 obtain ⟨fl,Z,e,h⟩:=h;unfold ar;rw [e]
 cases fl with
 |nx env=>exact h
 |rt d=>exact ⟨_,_,rfl,h⟩
 |bk e=>exact ⟨_,_,rfl,h⟩
 |ct e=>exact ⟨_,_,rfl,h⟩
def Wp.kD {Q:Fl->aa->Prop} (I:Nat->Env->aa->Prop) (all:List D) (h0:I 0 env s)
 (step:∀i d env s,all[i]?=some d->I i env s->∃az,g d env=some az/\Wp (b az s) fun fl s=>match fl with
   | .nx e=>I (i+1) e s
   | .ct e=>I (i+1) e s
   | .bk e=>Q (.nx e) s
   | .rt d=>Q (.rt d) s) (fin:∀env s,I all.length env s->Q (.nx env) s):Wp (jt g b all env s) Q:=by
 have key:∀(Z:List D) (i:Nat) (env:Env) (s:aa),all.drop i=Z->i<=all.length->I i env s->Wp (jt g b Z env s) Q:=by
  intro Z
  induction Z with
  |nil =>
   intro i env s Y hi h;have e:i=all.length:=by
    have:=ĺ List.length Y;simp at this;omega
   subst e;exact Wp.ok (fin _ _ h)
  |cons d Z ih =>
   intro i env s Y hi h;have X:all[i]?=some d:=by
    have:=ĺ (fun l=>l[0]?) Y;simpa using this
   have W:all.drop (i+1)=Z:=by
    have:=ĺ (List.drop 1) Y;simpa [List.drop_drop] using this
   obtain ⟨az,U,T⟩:=step i d env s X h;have V:=(Æ.mp X).1;unfold jt;rw [U];refine Wp.ai (T.mono fun fl s q=>?_)
   cases fl with
   |nx e=>exact ih (i+1) e s W V q
   |ct e=>exact ih (i+1) e s W V q
   |bk e=>exact Wp.ok q
   |rt d=>exact Wp.ok q
 exact key all 0 env s rfl (Ć _) h0
def De {nt:Nat} {t:WR Bool} {Q:List D->aa->Prop} (I:Nat->List D->aa->Prop) (all:List D) (h0:I 0 [] s)
 (step:∀i d acc s,all[i]?=some d->I i acc s->∃env,g d (Î nt none++caps)=some env/\Wp (t env s) fun b s=>if b=true then Wp (f env s) fun x s=>I (i+1) (acc++[x]) s else I (i+1) acc s)
 (fin:∀acc s,I all.length acc s->Q acc s):Wp (eh nt caps g t f all s) Q:=by
 have key:∀(Z:List D) (i:Nat) (acc:List D) (s:aa),all.drop i=Z->i<=all.length->I i acc s->Wp (eh nt caps g t f Z s) fun X s=>Q (acc++X) s:=by
  intro Z
  induction Z with
  |nil =>
   intro i acc s Y hi h;have e:i=all.length:=by
    have:=ĺ List.length Y;simp at this;omega
   subst e;exact Wp.ok (by rw [Ĩ];exact fin _ _ h)
  |cons d Z ih =>
   intro i acc s Y hi h;have W:all[i]?=some d:=by
    have:=ĺ (fun l=>l[0]?) Y;simpa using this
   have V:all.drop (i+1)=Z:=by
    have:=ĺ (List.drop 1) Y;simpa [List.drop_drop] using this
   obtain ⟨R,T,S⟩:=step i d acc s W h;have U:=(Æ.mp W).1;unfold eh;rw [T];refine Wp.ai (Wp.ne (S.mono fun b s q=>?_))
   cases b with
   |true =>
    rw [ä rfl] at q |-;refine Wp.ai (Wp.ne (q.mono fun x s q=>?_));refine Wp.ai ((ih (i+1) (acc++[x]) s V U q).mono fun X s q=>Wp.ok ?_);rw [Ł] at q;exact q
   |false =>
    rw [í Ò] at q |-;exact ih (i+1) acc s V U q
 have:=key all 0 [] s rfl (Ć _) h0;simpa using this
end
section
variable {α β:Type} {Q:D->aa->Prop} {QL:List D->aa->Prop} {QB:Bool->aa->Prop} {QF:Fl->aa->Prop} {QO:Option Int->aa->Prop} {env:Env} {s:aa} {f g h:WR D} {fa:WR (List D)} {c c':WR Bool} {st dg:WR Fl} {o o':D->D->aa->Res D} {u:D->aa->Res D} {bf:List D->aa->Res D}
def br {a:α} {Q:α->aa->Prop}:Wp (ok a s) Q=Q a s:=propext ⟨fun ⟨b,Z,e,q⟩=>by cases e;exact q,fun q=>⟨a,s,rfl,q⟩⟩
def Ei {Q:α->aa->Prop}:Wp (some (Except.ok a,s)) Q=Q a s:=br
def bN {r:Res α} {k:α->aa->Res β} {R:β->aa->Prop}:Wp (ai r k) R=Wp r fun a s=>Wp (k a s) R:=propext ⟨fun ⟨b,Z,e,q⟩=>by
 obtain ⟨a,s,e1,e2⟩:=nA e;exact ⟨a,s,e1,b,Z,e2,q⟩,fun h=>Wp.ai h⟩
def xV {Q:α->aa->Prop}:Wp (ne r) Q=Wp r Q:=propext ⟨fun ⟨b,Z,e,q⟩=>⟨b,Z,wA e,q⟩,fun h=>h.ne⟩
def dF {a:D} {r:Env}:Wp (af 0 (some a::r) s) Q=Q a s:=by rw [show af 0 (some a::r) s=ok a s from rfl,br]
def dG {i:Nat} {a:Option D} {r:Env}:Wp (af (i+1) (a::r) s) Q=Wp (af i r s) Q:=by rw [show af (i+1) (a::r) s=af i r s from rfl]
def jE:Wp (eC d env s) Q=Q d s:=by rw [show eC d env s=ok d s from rfl,br]
def Fv:Wp (e1 u f env s) Q=Wp (f env s) fun x s=>Wp (u x s) Q:=by unfold e1;rw [bN]
def gH:Wp (e2 o f g env s) Q=Wp (f env s) fun x s=>Wp (g env s) fun y s=>Wp (o x y s) Q:=by unfold e2;simp only [bN]
def fq:Wp (ah env s) QL=QL [] s:=by unfold ah;rw [br]
def fk:Wp (ae f fa env s) QL=Wp (f env s) fun x s=>Wp (fa env s) fun xs s=>QL (x::xs) s:=by unfold ae;simp only [bN,br]
def my:Wp (eB bf fa env s) Q=Wp (fa env s) fun ds s=>Wp (bf ds s) Q:=by unfold eB;rw [bN]
def wp_call:Wp (aG fn fa env s) Q=Wp (fa env s) fun ds s=>Wp (fn ds s) Q:=by unfold aG;simp only [bN,xV]
def su {Q:α->aa->Prop}:Wp (gk ds r) Q=(ds.length<=Ñ/\Wp r Q):=propext ⟨fun ⟨b,Z,e,q⟩=>by
 unfold gk at e;split at e
 ·exact ⟨by assumption,b,Z,e,q⟩
 ·(cases e),fun ⟨Y,b,Z,e,q⟩=>⟨b,Z,by unfold gk;rw [ä Y];exact e,q⟩⟩
def mf:Wp (aU fa env s) Q=Wp (fa env s) fun ds s=>ds.length<=Ñ/\Q (.tup ds) s:=by unfold aU;simp only [bN,su,br]
def pX:Wp (cC fa env s) Q=Wp (fa env s) fun ds s=>ds.length<=Ñ/\Q (.lst ds) s:=by unfold cC;simp only [bN,su,br]
def xm:Wp (eNew fa env s) Q=Wp (fa env s) fun ds s=>ds.length<=Ñ/\Q (.au s.length) (s++[.lst ds]):=by unfold eNew;simp only [bN,su,br]
def Ej:Wp (yC f env s) Q=Wp (f env s) fun d s=>Wp (ba d s) Q:=by unfold yC;rw [bN]
def lh:Wp (aY f env s) QB=Wp (f env s) fun d s=>Wp (fK d s) QB:=by unfold aY;rw [bN]
def kY {b:Bool}:Wp (fK (.bl b) s) QB=QB b s:=by rw [show fK (.bl b) s=ok b s from rfl,br]
def sW:Wp (cQ f env s) QB=Wp (f env s) fun d s=>Wp (truth d s) QB:=by unfold cQ;rw [bN]
def sJ {b:Bool}:Wp (truth (.bl b) s) QB=QB b s:=by rw [show truth (.bl b) s=ok b s from rfl,br]
def pG:Wp (dJ c c' env s) QB=Wp (c env s) fun b s=>if b=true then Wp (c' env s) QB else QB false s:=by
 unfold dJ;rw [bN];congr 1;funext b s
 cases b<;>simp [br]
def xn:Wp (iS c c' env s) QB=Wp (c env s) fun b s=>if b=true then QB true s else Wp (c' env s) QB:=by
 unfold iS;rw [bN];congr 1;funext b s
 cases b<;>simp [br]
def Dg:Wp (eY c env s) QB=Wp (c env s) fun b s=>QB (!b) s:=by unfold eY;simp only [bN,br]
def Dh:Wp (dP f g env s) Q=Wp (f env s) fun x s=>Wp (fK x s) fun b s=>if b=true then Wp (g env s) Q else Q (.bl false) s:=by
 unfold dP;rw [bN];congr 1;funext x s;rw [bN];congr 1;funext b s
 cases b<;>simp [br]
def Ek:Wp (rf f g env s) Q=Wp (f env s) fun x s=>Wp (fK x s) fun b s=>if b=true then Q (.bl true) s else Wp (g env s) Q:=by
 unfold rf;rw [bN];congr 1;funext x s;rw [bN];congr 1;funext b s
 cases b<;>simp [br]
def Di:Wp (qt f env s) Q=Wp (f env s) fun x s=>Wp (fK x s) fun b s=>Q (.bl (!b)) s:=by unfold qt;simp only [bN,br]
def El:Wp (rg c f g env s) Q=Wp (c env s) fun b s=>if b=true then Wp (f env s) Q else Wp (g env s) Q:=by
 unfold rg;rw [bN];congr 1;funext b s
 cases b<;>simp
def Em:Wp (oJ o o' f g h env s) Q=Wp (f env s) fun x s=>Wp (g env s) fun y s=>Wp (o x y s) fun z s=>Wp (fK z s) fun b s=>if b=true then Wp (h env s) fun u s=>Wp (o' y u s) Q else Q (.bl false) s:=by
 unfold oJ;simp only [bN];congr 1;funext x s;congr 1;funext y s;congr 1;funext z s;congr 1;funext b s
 cases b<;>simp [br,bN]
def jd:Wp (bK env s) QF=QF (.nx env) s:=by unfold bK;rw [br]
def nG:Wp (aP f env s) QF=Wp (f env s) fun d s=>QF (.rt d) s:=by unfold aP;simp only [bN,br]
def sv:Wp (c9 f env s) QF=Wp (f env s) fun _ s=>QF (.nx env) s:=by unfold c9;simp only [bN,br]
def Cp:Wp (EX env s) QF=QF (.ct env) s:=by unfold EX;rw [br]
def lW (st:WR Fl) (Q:Fl->aa->Prop):Fl->aa->Prop:=fun fl s=>match fl with
 | .nx env=>Wp (st env s) Q
 |fl=>Q fl s
def wD:Wp (ar st dg env s) QF=Wp (st env s) (lW dg QF):=propext ⟨fun h=>by
 unfold ar at h;rw [bN] at h;refine h.mono fun Z s q=>?_
 cases Z with
 |nx e=>exact q
 |rt d=>have q:Wp (ok (Fl.rt d) s) QF:=q;rw [br] at q;exact q
 |bk d=>have q:Wp (ok (Fl.bk d) s) QF:=q;rw [br] at q;exact q
 |ct d=>have q:Wp (ok (Fl.ct d) s) QF:=q;rw [br] at q;exact q,fun h=>Wp.seq (h.mono fun Z s q=>by cases Z<;>exact q)⟩
def WU (h:∀R,R=dg->Wp (st env s) (lW R QF)):Wp (ar st dg env s) QF:=by rw [wD];exact h _ rfl
def eR:lW st QF (.nx env) s=Wp (st env s) QF:=rfl
def xo:lW st QF (.rt d) s=QF (.rt d) s:=rfl
def En:lW st QF (.ct env) s=QF (.ct env) s:=rfl
def mi:Wp (bA c st dg env s) QF=Wp (c env s) fun b s=>if b=true then Wp (st env s) QF else Wp (dg env s) QF:=by
 unfold bA;rw [bN];congr 1;funext b s
 cases b<;>simp
def kZ {gd:D->Env->Option Env}:Wp (bb f gd env s) QF=Wp (f env s) fun d s=>∃e,gd d env=some e/\QF (.nx e) s:=by
 unfold bb;rw [bN];congr 1;funext d s
 cases h:gd d env with
 |none=>exact propext ⟨fun ⟨_,_,e,_⟩=>(by cases e),fun ⟨_,e,_⟩=>(by cases e)⟩
 |some e=>rw [br];exact propext ⟨fun q=>⟨e,rfl,q⟩,fun ⟨Z,z,q⟩=>by cases z;exact q⟩
def mz {i:Nat} {P:Env->Prop}:(∃e,gN i d env=some e/\P e)=P (env.set i (some d)):=propext ⟨fun ⟨e,z,q⟩=>by cases z;exact q,fun q=>⟨_,rfl,q⟩⟩
def xW {P:Env->Prop}:(∃e,gT gs (.tup ds) env=some e/\P e)=∃e,fv gs ds env=some e/\P e:=rfl
def wF {P:Env->Prop}:(∃e,fv [] [] env=some e/\P e)=P env:=propext ⟨fun ⟨e,z,q⟩=>by cases z;exact q,fun q=>⟨_,rfl,q⟩⟩
def vY {i:Nat} {P:Env->Prop}:(∃e,fv (gN i::gs) (d::ds) env=some e/\P e)=∃e,fv gs ds (env.set i (some d))=some e/\P e:=rfl
def pH {i j:Nat}:Wp (mK i j fa env s) QF=Wp (fa env s) fun ds s=>∃x y,ds=[x,y]/\QF (.nx ((env.set i (some x)).set j (some y))) s:=by
 unfold mK;rw [bN];congr 1;funext ds s
 match ds with
 | [x,y] =>
  show Wp (ok (Fl.nx ((env.set i (some x)).set j (some y))) s) QF=_;rw [br];exact propext ⟨fun q=>⟨x,y,rfl,q⟩,fun ⟨Z,Y,e,q⟩=>by cases e;exact q⟩
 | []=>exact propext ⟨fun ⟨_,_,e,_⟩=>(by cases e),fun ⟨_,_,e,_⟩=>(by cases e)⟩
 | [_]=>exact propext ⟨fun ⟨_,_,e,_⟩=>(by cases e),fun ⟨_,_,e,_⟩=>(by cases e)⟩
 |_::_::_::_=>exact propext ⟨fun ⟨_,_,e,_⟩=>(by cases e),fun ⟨_,_,e,_⟩=>(by cases e)⟩
def Eo {P:D->D->Prop}:(∃x' y',[x,y]=[x',y']/\P x' y')=P x y:=propext ⟨fun ⟨_,_,e,q⟩=>by cases e;exact q,fun q=>⟨x,y,rfl,q⟩⟩
def je:Wp (et it gd st env s) QF=Wp (it env s) fun ds s=>Wp (jt gd st ds env s) QF:=by unfold et;rw [bN]
def Dj {fo fi:WR D}:Wp (ku f fo fi env s) QF=Wp (f env s) fun x s=>Wp (fo env s) fun d s=>Wp (fi env s) fun n s=>∃s',iN d n x s=some s'/\QF (.nx env) s':=by
 unfold ku;simp only [bN];congr 1;funext x s;congr 1;funext d s;congr 1;funext n s
 cases h:iN d n x s with
 |none=>exact propext ⟨fun ⟨_,_,e,_⟩=>(by cases e),fun ⟨_,e,_⟩=>(by cases e)⟩
 |some e=>simp only [br];exact propext ⟨fun q=>⟨e,rfl,q⟩,fun ⟨Z,z,q⟩=>by cases z;exact q⟩
def sX:Wp (jB f g env s) Q=Wp (f env s) fun d s=>kq d s=true/\Wp (g env s) fun x s=>Wp (ko d x s) Q:=by
 unfold jB;rw [bN];congr 1;funext d s
 cases h:kq d s with
 |true=>rw [ä rfl,bN];simp
 |false=>rw [í Ò];exact propext ⟨fun ⟨_,_,e,_⟩=>(by cases e),fun ⟨e,_⟩=>(by cases e)⟩
def yR (Q:D->aa->Prop):Fl->aa->Prop:=fun Z s=>match Z with
 | .rt d=>Q d s
 | .nx _=>Q .ao s
 |_=>False
def iH:Wp (aJ np ns st ds s) Q=(ds.length=np/\Wp (st (ds.map some++Î (ns-np) none) s) (yR Q)):=by
 unfold aJ;by_cases h:ds.length=np
 ·rw [ä h,bN]
  refine propext ⟨fun q=>⟨h,q.mono fun Z s q=>?_⟩,fun ⟨_,q⟩=>q.mono fun Z s q=>?_⟩
  ·cases Z with
   |rt d=>exact (show Wp (ok d s) Q from q) |> fun z=>by rw [br] at z;exact z
   |nx e=>exact (show Wp (ok D.ao s) Q from q) |> fun z=>by rw [br] at z;exact z
   |bk e=>obtain ⟨_,_,e,_⟩:=q;cases e
   |ct e=>obtain ⟨_,_,e,_⟩:=q;cases e
  ·cases Z with
   |rt d=>exact Wp.ok q
   |nx e=>exact Wp.ok q
   |bk e=>exact q.elim
   |ct e=>exact q.elim
 ·rw [í h]
  exact propext ⟨fun ⟨_,_,e,_⟩=>(by cases e),fun ⟨e,_⟩=>absurd e h⟩
def Ep:yR Q (.rt d) s=Q d s:=rfl
def Er:yR Q (.nx env) s=Q .ao s:=rfl
def pI:Wp (cK nt cap it gd c f env s) Q=Wp (it env s) fun ds s=>ds.length<=Ñ/\Wp (eh nt (iF cap env) gd c f ds s) fun xs s=>Q (.lst xs) s:=by
 unfold cK;simp only [bN,su,br]
def Fx:Wp (rm f l' h' env s) Q=Wp (f env s) fun d s=>Wp (l' env s) fun lo s=>Wp (h' env s) fun hi s=>Wp (pR d lo hi s) Q:=by unfold rm;simp only [bN]
def Es:Wp (rl env s) QO=QO none s:=by unfold rl;rw [br]
def Nd {i:Int} (hi:f env s=ok (.int i) s):Wp (qz f env s) QO=QO (some i) s:=by unfold qz;rw [hi,iB,br]
end
open DI.aO
def Nf {cl:D} {th:aa->Res D} {r:Env} {s:aa}:oU cl th 0 (some cl::r) s=th s:=ä rfl
def Fy (b:WR Fl) (cl:D) (r:Res D) (s:aa):Res D:=ai (lC bo "told" (fun _ _=>r) 1 b [some cl,none,none] s) fun Z s=>match Z with
 | .rt d=>ok d s
 | .nx _=>ok .ao s
 |_=>none
def md {cl:D} {th:aa->Res D} {s:aa} {b:WR Fl}:aJ 1 3 (lC bo "told" (oU cl th 0) 1 b) [cl] s=Fy b cl (th s) s:=by
 show ai (lC bo "told" (oU cl th 0) 1 b [some cl,none,none] s) _=_;unfold lC;rw [Nf];rfl
def Et {cl d:D} {th:aa->Res D} {s s':aa} (h:th s=some (.ok d,s')):eQ cl th [cl] s=ok (.tup [.str "told",d]) s':=by
 unfold eQ;rw [md,h];rfl
def vZ {cl:D} {th:aa->Res D} {s s':aa} (h:th s=some (.error ⟨"NoBook",none⟩,s')):eQ cl th [cl] s=ok (.tup [.str "refused",.int 3]) s':=by
 unfold eQ;rw [md,h]
 kernel_rfl
def v5 {cl:D} {th:aa->Res D} {s s':aa} (h:th s=some (.error ⟨"NoHeap",none⟩,s')):eQ cl th [cl] s=ok (.tup [.str "refused",.int 11]) s':=by
 unfold eQ;rw [md,h]
 kernel_rfl
def Cq (cl:D) (th:aa->Res D) (s:aa):eQ cl th [cl] s=eQ .ao th [.ao] s:=by
 cases h:th s with
 |none=>unfold eQ;rw [md,md,h];rfl
 |some q =>
  obtain ⟨q,Y⟩:=q
  cases q with
  |ok d=>rw [Et h,Et h]
  |error x =>
   obtain ⟨c,m⟩:=x;by_cases Z:(decide (c∈bo)&&m.isNone)=true
   ·rw [È,Ü] at Z
    have e1:c="NoBook"\/c="NoHeap":=by simpa [bo] using Z.1
    have e2:m=none:=η.mp Z.2;subst e2
    rcases e1 with rfl|rfl
    ·rw [vZ h,vZ h]
    ·rw [v5 h,v5 h]
   ·unfold eQ
    rw [md,md,h];unfold Fy lC;dsimp only;rw [í Z,í Z]
end DI
namespace DI.aO
open PySem L2 DI
noncomputable def top (i:Nat):WE:=PySem.Challenge.pw_twinmoulds_k53_refusals_of_the_later_sta.main.body.getD i (.Pass ⟨0,0,0,0⟩)
noncomputable abbrev qF:List Str:=[WY,"_law_k"]
noncomputable abbrev mP:List Str:=[WX,WZ]
noncomputable abbrev Gb:List Str:=[WX,"_law_most"]
noncomputable abbrev Ge:List Str:=[WX]
noncomputable abbrev Gf:List Str:=[WX,"_law_days"]
noncomputable abbrev Gg:List Str:=[W2,W3,W0]
noncomputable abbrev Gh:List Str:=[W2]
noncomputable abbrev Gi:List Str:=[WX,W5]
noncomputable abbrev Gj:List Str:=[WX,W6]
noncomputable abbrev Gk:List Str:=["_law_e"]
noncomputable abbrev xX:List Str:=["things"]
noncomputable abbrev bV:List Str:=["thing"]
noncomputable abbrev xY:List Str:=["thing","many"]
noncomputable abbrev xZ:List Str:=["thing","most"]
noncomputable abbrev jy:List Str:=["heap"]
noncomputable abbrev nX:List Str:=["heap","thing"]
noncomputable abbrev x8:List Str:=["heap","marks"]
noncomputable abbrev x9:List Str:=[W4,"_law_thing"]
noncomputable abbrev ya:List Str:=["marks","others"]
noncomputable abbrev yb:List Str:=["pages","mould","mark","half"]
noncomputable abbrev qj:List Str:=["pages","mould","mark"]
noncomputable abbrev yc:List Str:=["days","day","later"]
noncomputable abbrev yd:List Str:=["pages"]
noncomputable abbrev ye:List Str:=["book"]
noncomputable abbrev Fz:List Str:=["_law_call"]
noncomputable abbrev FA:List Str:=[WY]
structure bw (K:č) (mg:Str->Option Ä):Prop where
 HL:mg "ValueError"=none
 sY:mg "all"=none
 Eu:mg "any"=none
 Ng:mg "bool"=none
 xp:mg "int"=none
 cE:mg "isinstance"=none
 jo:mg "len"=none
 Dk:mg "list"=none
 OX:mg "max"=none
 OY:mg "min"=none
 fm:mg "range"=none
 Dl:mg "repr"=none
 Ew:mg "set"=none
 vC:mg "sorted"=none
 gZ:mg "tuple"=none
 OZ:mg "zip"=none
 Jy:dk K mg bo "NoMarks"
 Jz:dk K mg bo "NoSheet"
 Km:dk K mg bo "NoPage"
 Ko:dk K mg bo "NoBook"
 JA:dk K mg bo "NoMould"
 LU:dk K mg bo "NoDay"
 Kq:dk K mg bo "NoSort"
 Iv:dk K mg bo "NoNumber"
 Iw:dk K mg bo "NoSheets"
 LV:dk K mg bo "NoRun"
 Iy:dk K mg bo "NoLaying"
 Kr:dk K mg bo "NoHeap"
 JB:dk K mg bo "NoCount"
 LW:dk K mg bo "Clash"
 Ks:dk K mg bo "NoDeed"
 Kt:dk K mg bo "NoText"
 LX:dk K mg bo "NoRow"
 JC:dk K mg bo "TooMany"
 JD:dk K mg bo "Lacking"
 HM:nF K bo (.type "ValueError") anyS
 Ku:uq K mg "NoBook"
 Kv:uq K mg "NoHeap"
 HN:Hc K mg bo "MouldError"
 sx:∃t,mg "MARKS"=some (.int (8) t)
 se:∃t,mg "MOULDS"=some (.int (4) t)
 sL:∃t,mg "DAYS"=some (.int (31) t)
 v7:∃t,mg "PAGES"=some (.int (24) t)
 xq:∃t,mg "HAS"=some (.int (0) t)
 v8:∃t,mg "LACKS"=some (.int (1) t)
 wG:∃t,mg "HEAP"=some (.int (9) t)
 Iz:GG K mg "_law_cell_at" (top 75) qF
 Kw:GG K mg "_law_state" (top 76) qF
 ee:GG K mg "_law_take" (top 77) mP
 Kx:GG K mg "_law_marks" (top 78) mP
 LY:GG K mg "_law_heap" (top 86) Gb
 Ky:GG K mg "_law_sheet" (top 79) Ge
 LZ:GG K mg "_law_page" (top 80) Gf
 Hv:GG K mg  W7 (top 81) Gg
 IA:GG K mg "_law_is_book" (top 82) Gh
 L0:GG K mg "_law_book" (top 83) mP
 IC:GG K mg "_law_no_heap" (top 88) Gi
 ID:GG K mg "_law_no_book" (top 87) Gj
 IE:GG K mg "_law_classes" (top 84) Gk
 Bg:GG K mg "is_rising" (top 30) xX
 H0:GG K mg "is_number" (top 25) bV
 vn:GG K mg "is_below" (top 26) xY
 BA:GG K mg "is_mark" (top 27) bV
 va:GG K mg "are_marks" (top 35) bV
 Hm:GG K mg "are_laid_marks" (top 39) xZ
 lX:GG K mg "need_heap" (top 59) bV
 Kz:GG K mg "fewest" (top 54) jy
 JE:GG K mg "rows_of" (top 55) jy
 Hw:GG K mg "strangers_of" (top 56) jy
 KC:GG K mg "needed" (top 58) jy
 IF:GG K mg "are_rows" (top 52) nX
 Hq:GG K mg "are_strangers" (top 53) nX
 JF:GG K mg "more_by" (top 57) x8
 KD:GG K mg "_law_asked" (top 89) x9
 H9:GG K mg "are_apart" (top 37) ya
 IG:GG K mg "is_sheet" (top 36) bV
 IH:GG K mg "is_mould" (top 28) bV
 KG:GG K mg "is_day" (top 29) bV
 JG:GG K mg "is_page" (top 40) bV
 II:GG K mg "are_laid" (top 41) bV
 Bh:GG K mg "days_seen" (top 46) yb
 HD:GG K mg "days_mended" (top 47) qj
 Hr:GG K mg "is_any_behind" (top 45) yc
 JH:GG K mg "clashes" (top 44) qj
 Ia:GG K mg "faults_of" (top 43) yd
 JI:GG K mg "is_book" (top 42) bV
 Ib:GG K mg "need_book" (top 49) bV
 Ic:GG K mg "book_text" (top 70) ye
 Dm:GG K mg "_law_met" (top 85) Fz
section
variable {P:ß} {w:ú} {K:č} {mg:Str->Option Ä} {base:ħ}
def IJ (F:bw K mg):bW P w K mg base "_law_cell_at" (top 75) qF 1 nv:=fun {_ _} G =>
 cb G qF (by kernel_rfl) fun Y _ _ _ _ _ _ Z=>(aK (cD (bE (ui Z) (ag 1) (cA jv rfl F.jo jw (ax (ag 0))) (bF _)) (aM (aX (bD (ag 0) (ag 1)))) cB) (aM (aX aq)))
def KH (F:bw K mg):bW P w K mg base "_law_state" (top 76) qF 2 ph:=fun {_ _} G =>
 cb G [WY,"_law_k","_law_cell"] (by kernel_rfl) fun Z _ _ _ _ _ _ Y=>(aK (b9 2 Z (aZ F.Iz (IJ F) Y (aN (ag 0) (ag 1)))) (aK (cD (bE FY (ag 2) (bG E1 aq aq) (bF _)) (aM (aX (nO (aN (bG P4 (ag 2) (bG E1 aq aq)) er)))) cB) (aM (aX (nO (aN (bG nS (ag 2) aq) er))))))
def ef (F:bw K mg):bW P w K mg base "_law_take" (top 77) mP 1 bJ:=fun {_ _} G =>
 cb G [WX,WZ,"_law_found","_law_mixed"] (by kernel_rfl) fun Z _ _ _ _ _ _ Y=>(aK (cD (gn (bD (ag 0) aq)) (aK (b9 2 Z (bG nS (bD (ag 0) aq) (ag 1))) (aK (E4 (bG EZ (bD (ag 0) aq) (ag 1)) (ag 0) aq) (aM (aX (ag 2))))) cB) (aK (E4 (bG nS (bG eT (bG kj (bD (ag 0) aq) aq) aq) aq) (ag 0) aq) (aK (b9 3 Z (bG nS (bG eT (bG eT (bG kj (bD (ag 0) aq) (bD (ag 0) aq)) (bG kj aq (bD (ag 0) aq))) aq) aq)) (aK (b9 3 Z (bG nS (bG eT (bG kj (ag 3) (ag 3)) (bG kj aq (ag 3))) aq)) (aM (aX (bG nS (bG EZ (ag 3) aq) (ag 1))))))))
def KI (F:bw K mg):bW P w K mg base "_law_marks" (top 78) mP 2 pk:=fun {_ _} G =>
 cb G mP (by kernel_rfl) fun Y _ _ _ _ _ _ Z=>(aM (aX (iw ma rfl F.gZ hU (ax (ic [W0,WX] (fE rfl F.fm (ax (ag 1))) (fun _ _ _ _ _ _=>⟨(nQ (bE (cM Z) (aZ F.ee (ef F) Z (aN (ag 1) aq)) aq (bF _))),(ag 0)⟩))))))
def L3 (F:bw K mg):bW P w K mg base "_law_heap" (top 86) Gb 3 sH:=fun {_ _} G =>
 cb G [WX,"_law_most",WZ,W4,"_law_found","_law_turn","_law_marks_here","_law_other"] (by kernel_rfl) fun Y _ _ _ _ _ _ Z=>(aK (sQ 2 3 rfl Y (aN (bG eT aq (aZ F.ee (ef F) Z (aN (ag 0) (ag 1)))) (aZ F.ee (ef F) Z (aN (ag 0) aq)))) (aK (b9 4 Y (nO cq)) (aK (ki Ĺ rfl (fE rfl F.fm (ax (ag 2))) (dH 5 Y) (aK (b9 6 Y (aZ F.Kx (KI F) Z (aN (ag 0) (bD (dh (aQ aq (aQ aq (aQ aq (aQ aq cq))))) (ag 3))))) (aK (cD (PW.pt (w_and (bE (og Z) (ag 4) (dh cq) (bF _)) (jh (bE (cM Z) (aZ F.ee (ef F) Z (aN (ag 0) aq)) aq (bF _))))) (aK (b9 7 Y (bD (ag 4) (aZ F.ee (ef F) Z (aN (ag 0) (cA jv rfl F.jo jw (ax (ag 4))))))) (aM (b9 6 Y (FV (bE (cM Z) (aZ F.ee (ef F) Z (aN (ag 0) aq)) aq (bF _)) (iw ma rfl F.gZ hU (ax (Js (bG eT (ag 7) (ag 6)) rfl rfl F.vC vN rfl F.Ew E9))) (ag 7))))) cB) (aM (hV (tG (ag 4) (ag 6))))))) (aM (aX (iw ma rfl F.gZ hU (ax (ag 4))))))))
def KJ (F:bw K mg):bW P w K mg base "_law_sheet" (top 79) Ge 2 sm:=fun {_ _} G =>
 cb G [WX,WZ,"_law_parts","_law_has"] (by kernel_rfl) fun Y _ _ _ _ _ _ Z=>(aK (b9 1 Y (bD (dh (jl aq aq aq)) (aZ F.ee (ef F) Z (aN (ag 0) aq)))) (aK (b9 2 Y (ic [W0,WX] (fE rfl F.fm (ax (ag 1))) (fun _ _ _ _ _ _=>⟨hZ,(aZ F.ee (ef F) Z (aN (ag 1) aq))⟩))) (aK (b9 3 Y (iw ma rfl F.gZ hU (ax (ic [W0,"_law_parts"] (fE rfl F.fm (ax (ag 1))) (fun _ _ _ _ _ _=>⟨(nQ (bE (cM Z) (bD (ag 1) (ag 0)) aq (bF _))),(ag 0)⟩))))) (aM (aX (bp (aN (ag 3) (iw ma rfl F.gZ hU (ax (ic [W0,"_law_parts"] (fE rfl F.fm (ax (ag 1))) (fun _ _ _ _ _ _=>⟨(nQ (bE (cM Z) (bD (ag 1) (ag 0)) aq (bF _))),(ag 0)⟩)))))))))))
def L4 (F:bw K mg):bW P w K mg base "_law_page" (top 80) Gf 3 sI:=fun {_ _} G =>
 cb G [WX,"_law_days",W3,"_law_day"] (by kernel_rfl) fun Y _ _ _ _ _ _ Z=>(aK (sQ 2 3 rfl Y (aN (bD (dh (aN aq (aZ F.ee (ef F) Z (aN (ag 0) aq)))) (aZ F.ee (ef F) Z (aN (ag 0) aq))) (aZ F.ee (ef F) Z (aN (ag 0) (ag 1))))) (aK (cD (bE (cM Z) (aZ F.ee (ef F) Z (aN (ag 0) aq)) aq (bF _)) (aM (aX (bp (aQ cT (aQ (ag 2) (aQ (ag 3) (aQ (aZ F.ee (ef F) Z (aN (ag 0) (bD (dh (jl aq aq aq)) (aZ F.ee (ef F) Z (aN (ag 0) aq))))) cq))))))) cB) (aM (aX (bp (aQ cT (aQ (ag 2) (aQ (ag 3) (aQ (aZ F.Ky (KJ F) Z (ax (ag 0))) cq)))))))))
def Hx (F:bw K mg):bW P w K mg base  W7 (top 81) Gg 1 rL:=fun {_ _} G =>
 cb G [W2,W3,W0,"_law_shown","_law_lacked","_law_mended","_law_page_here","_law_sure","_law_day"] (by kernel_rfl) fun Y _ _ _ _ _ _ Z=>(aK (OI 3 4 5 rfl Y (jl (dh cq) (dh cq) (nO cq))) (aK (ki Ĺ rfl (ju (ag 0)) (dH 6 Y) (aK (cD (PW.pt (w_and (bE (cM Z) (bD (ag 6) aq) cT (bF _)) (w_and (bE (cM Z) (bD (ag 6) aq) (ag 1) (bF _)) (jh (bE (cM Z) (bD (ag 6) aq) (ag 2) (bF _)))))) (aM (hV (tG (ag 5) (bD (ag 6) aq)))) cB) (aM (cD (PW.pt (w_and (bE (cM Z) (bD (ag 6) aq) cT (bF _)) (jh (bE (cM Z) (bD (ag 6) aq) (ag 1) (bF _))))) (aK (b9 3 Y (bG eT (ag 3) (bG kj (dh (ax (bD (ag 6) aq))) (iw Fu rfl F.xp xQ (ax (jr (jA Z) (ag 2) (bD (bD (ag 6) aq) aq) rfl)))))) (aM (b9 4 Y (bG eT (ag 4) (bG kj (dh (ax (bD (ag 6) aq))) (iw Fu rfl F.xp xQ (ax (jr (jA Z) (ag 2) (bD (bD (ag 6) aq) aq) rfl)))))))) cB)))) (aK (b9 7 Y er) (aK (ki Ĺ rfl (fE rfl F.fm (ax aq)) (dH 8 Y) (aK (cD (PW.pt (w_and (bE (jA Z) (ag 8) (ag 5) rfl) (jh (bE (jA Z) (ag 8) (ag 3) rfl)))) (aM (aX er)) cB) (aK (b9 7 Y (Rw (jr (jA Z) (ag 8) (ag 3) rfl) (js (fF (ag 7) (js (jr (CZ Z) (ag 8) (ag 5) rfl)))))) (aM (cD (PW.pt (w_and (gn (ag 7)) (jh (bE (jA Z) (ag 8) (ag 4) rfl)))) (aM (aX er)) cB))))) (aM (aX er))))))
def IK (F:bw K mg):bW P w K mg base "_law_is_book" (top 82) Gh 2 rT:=fun {_ _} G =>
 cb G [W2,W3,W0] (by kernel_rfl) fun Z _ _ _ _ _ _ Y=>(aK (cD (bE Rx (cA jv rfl F.jo jw (ax (ag 0))) aq (bF _)) (aM (aX er)) cB) (aK (ki Ĺ rfl (fE rfl F.fm (ax aq)) (dH 1 Z) (aM (ki Ĺ rfl (fE rfl F.fm (ax aq)) (dH 2 Z) (aM (cD (kh (gn (aZ F.Hv (Hx F) Y (jl (ag 0) (ag 1) (ag 2))))) (aM (aX er)) cB))))) (aM (aX er))))
def L5 (F:bw K mg):bW P w K mg base "_law_book" (top 83) mP 4 pF:=fun {_ _} G =>
 cb G [WX,WZ,W2,"_law_days","_law_turn","_law_page_here"] (by kernel_rfl) fun Y _ _ _ _ _ _ Z=>(aK (sQ 2 3 rfl Y (aN (nO cq) (bD (dh (jl aq aq aq)) (aZ F.ee (ef F) Z (aN (ag 0) aq))))) (aK (ki Ĺ rfl (fE rfl F.fm (ax (ag 1))) (dH 4 Y) (aK (b9 5 Y (aZ F.LZ (L4 F) Z (aN (ag 0) (ag 3)))) (aM (cD (PW.pt (w_and (bE (CZ Z) (ag 5) (ag 2) rfl) (jh (gn (aZ F.IA (IK F) Z (ax (bG eT (ag 2) (dh (ax (ag 5)))))))))) (aM (hV (tG (ag 2) (ag 5)))) cB)))) (aM (aX (iw ma rfl F.gZ hU (ax (cA (TK.M6 Z) rfl F.vC vN (ax (ag 2)))))))))
def IL (F:bw K mg):bW P w K mg base "_law_no_heap" (top 88) Gi 2 rV:=fun {_ _} G =>
 cb G [WX,W5,"_law_some"] (by kernel_rfl) fun Z _ _ _ _ _ _ Y=>(aK (b9 2 Z (by refine' M9 ?_ ?_ ?_ ?_ ?_ ?_ ?_ ?_ ?_ ?_ ?_;exact (bp cq);exact (iw DU rfl F.Dk D2 (ax (ag 1)));exact (bG kj (ag 1) aq);exact (bG eT (ag 1) (bp (ax mr)));exact (bG eT (ag 1) (bp (ax (bp (ax aq)))));exact (bp (ax (bp (aN aq aq))));exact (bp (ax (bp (aN aq aq))));exact (bp (ax (bp (ax er))));exact mr;exact Ee;exact cT)) (aK (b9 2 Z (bG eT (ag 2) (by refine' OJ ?_ ?_ ?_ ?_ ?_ ?_ ?_ ?_;exact (bp (ax (dh (ax aq))));exact (bp (ax aq));exact (bp (ax (bp (ax (FU E2 aq)))));exact (bp (ax (bp (ax cT))));exact (bG eT (bD (ag 1) aq) (bp (ax aq)));exact aq;exact er;exact (bG kj (bp (ax (bp cq))) aq)))) (aM (aX (bD (ag 2) (aZ F.ee (ef F) Y (aN (ag 0) (cA jv rfl F.jo jw (ax (ag 2))))))))))
def IM (F:bw K mg):bW P w K mg base "_law_no_book" (top 87) Gj 2 rW:=fun {_ _} G =>
 cb G [WX,W6,"_law_shown","_law_lacked","_law_some"] (by kernel_rfl) fun Z _ _ _ _ _ _ Y=>(@aK _ _ _ _ _ _ (@tD _ _ _ _ _ _ _ (@qi _ _ 5 _ _ rfl) (tB rfl (ja (dH 2 Z) (ja (dH 3 Z) sO))) rfl rfl rfl) (aK (b9 4 Z (nO (aQ (iw DU rfl F.Dk D2 (ax (ag 1))) (aQ (bp (aN (ag 1) (ag 1))) (aQ mr (aQ Ee (aQ cT (aQ (bp (ax mr)) (aQ (bp (aN (ag 3) (ag 2))) (aQ (bp (aN (ag 2) (ag 3))) (aQ (bp (aN (ag 2) (ag 2))) cq))))))))))) (aK (b9 4 Z (bG Ed (ag 4) (dh (jl (bp (aN (ag 2) (bp (aQ cT (aQ aq (aQ aq (aQ aq cq))))))) (bp (ax (bp (aQ cT (aQ aq (aQ aq (aQ aq cq))))))) (@qi _ _ 3 _ _ rfl))))) (aK (b9 4 Z (bG Ed (ag 4) (@qi _ _ 6 _ _ rfl))) (aK (hV (tG (ag 4) (iw ma rfl F.gZ hU (ax (ic ["_law_day"] (fE rfl F.fm (ax aq)) (fun _ _ _ _ _ _=>⟨hZ,(bp (aQ cT (aQ aq (aQ (ag 0) (aQ aq cq)))))⟩)))))) (aM (aX (bD (ag 4) (aZ F.ee (ef F) Y (aN (ag 0) (cA jv rfl F.jo jw (ax (ag 4)))))))))))))
def IP (F:bw K mg):Hd P w K mg base "_law_classes" (top 84) Gk 1 Bz:=fun {_ _} G =>
 Qs G ["_law_e","_law_found"] (by kernel_rfl) fun Z _ _ _ _ _ _ Y=>(aK (b9 1 Z (dh (aQ (dI F.Jy (ag 0) F.cE) (aQ (dI F.Jz (ag 0) F.cE) (aQ (dI F.Km (ag 0) F.cE) (aQ (dI F.Ko (ag 0) F.cE) cq)))))) (aK (b9 1 Z (bG eT (ag 1) (dh (aQ (dI F.JA (ag 0) F.cE) (aQ (dI F.LU (ag 0) F.cE) (aQ (dI F.Kq (ag 0) F.cE) (aQ (dI F.Iv (ag 0) F.cE) cq))))))) (aK (b9 1 Z (bG eT (ag 1) (dh (aQ (dI F.Iw (ag 0) F.cE) (aQ (dI F.LV (ag 0) F.cE) (aQ (dI F.Iy (ag 0) F.cE) (aQ (dI F.Kr (ag 0) F.cE) cq))))))) (aK (b9 1 Z (bG eT (ag 1) (dh (aQ (dI F.JB (ag 0) F.cE) (aQ (dI F.LW (ag 0) F.cE) (aQ (dI F.Ks (ag 0) F.cE) (aQ (dI F.Kt (ag 0) F.cE) cq))))))) (aM (aX (bG eT (ag 1) (dh (jl (dI F.LX (ag 0) F.cE) (dI F.JC (ag 0) F.cE) (dI F.JD (ag 0) F.cE))))))))))
def Bi (F:bw K mg):bW P w K mg base "is_rising" (top 30) xX 1 oW:=fun {_ _} G=>by
 have Z:(["ahead","behind"]:List Str).Nodup:=by decide +kernel
 exact cb G xX (by kernel_rfl) fun X _ _ _ _ _ _ Y=>(aM (aX (cA (tF rfl) rfl F.sY tH (ax (C5 (N:=["ahead","behind"]) (nt:=2) (cap:=[]) rfl (Fi (by kernel_rfl)) (DT (sj 0 (sj 1 CU))) (P1 rfl F.OZ (aN (ag 0) (RA (ag 0) (P5 aq) Rz))) (fun cl C s H ex W=>⟨(wQ rfl (o9 (i8 (i:=0) Z rfl (Wy rfl)) (o9 (i8 (i:=1) Z rfl (Wy rfl)) wc))),hZ,(jr (ui Y) (ag 0) (ag 1) (bF _))⟩))))))
def Ie (F:bw K mg):bW P w K mg base "is_number" (top 25) bV 1 vj:=fun {_ _} G =>
 cb G bV (by kernel_rfl) fun Z _ _ _ _ _ _ Y=>(aM (aX (fF (cA mx rfl F.cE jZ (aN (ag 0) (mJ xQ rfl F.xp))) (fF (EW (cA mx rfl F.cE jZ (aN (ag 0) (mJ Ox rfl F.Ng)))) (js (jr FY (ag 0) aq (bF _)))))))
def vo (F:bw K mg):bW P w K mg base "is_below" (top 26) xY 2 ny:=fun {_ _} G =>
 cb G xY (by kernel_rfl) fun Y _ _ _ _ _ _ Z=>(aM (aX (fF (aZ F.H0 (Ie F) Z (ax (ag 0))) (js (jr (ui Z) (ag 0) (ag 1) (bF _))))))
def BB (F:bw K mg):bW P w K mg base "is_mark" (top 27) bV 3 oZ:=fun {_ _} G =>
 cb G bV (by kernel_rfl) fun Y _ _ _ _ _ _ Z=>(aM (aX (aZ F.vn (vo F) Z (aN (ag 0) (jC F.sx rfl)))))
def vc (F:bw K mg):bW P w K mg base "are_marks" (top 35) bV 4 j3:=fun {_ _} G =>
 cb G bV (by kernel_rfl) fun Y _ _ _ _ _ _ Z=>(aM (aX (fF (cA mx rfl F.cE jZ (aN (ag 0) (mJ hU rfl F.gZ))) (fF (cA (tF rfl) rfl F.sY tH (ax (ic ["mark"] (ju (ag 0)) (fun _ _ _ _ _ _=>⟨hZ,(aZ F.BA (BB F) Z (ax (ag 0)))⟩)))) (js (aZ F.Bg (Bi F) Z (ax (ag 0))))))))
def Hn (F:bw K mg):bW P w K mg base "are_laid_marks" (top 39) xZ 5 iq:=fun {_ _} G =>
 cb G xZ (by kernel_rfl) fun Y _ _ _ _ _ _ Z=>(aM (aX (fF (cA mx rfl F.cE jZ (aN (ag 0) (mJ hU rfl F.gZ))) (fF (CO ue ue aq (cA jv rfl F.jo jw (ax (ag 0))) (ag 1)) (js (cA (tF rfl) rfl F.sY tH (ax (ic ["marks"] (ju (ag 0)) (fun _ _ _ _ _ _=>⟨hZ,(aZ F.va (vc F) Z (ax (ag 0)))⟩)))))))))
def lY (F:bw K mg):ik P w K mg base "need_heap" (top 59) bV 6 fZ:=fun {_ _} G =>
 iD G bV (by kernel_rfl) fun Y _ _ _ _ _ _ Z L=>(aM (cD (kh (gn (aZ F.Hm (Hn F) Z (aN (ag 0) (jC F.wG rfl))))) (aM (C9 L F.Kv (ax cT))) cB))
def KL (F:bw K mg):ik P w K mg base "fewest" (top 54) jy 7 so:=fun {_ _} G =>
 iD G jy (by kernel_rfl) fun Y _ _ _ _ _ _ Z L=>(aK (hV (eU F.lX (lY F) (eO L) Z (ax (ag 0)))) kX)
def JJ (F:bw K mg):ik P w K mg base "rows_of" (top 55) jy 7 rZ:=fun {_ _} G =>
 iD G ["heap","ahead","behind"] (by kernel_rfl) fun Y _ _ _ _ _ _ Z L=>(aK (hV (eU F.lX (lY F) (eO L) Z (ax (ag 0)))) kX)
def Hy (F:bw K mg):ik P w K mg base "strangers_of" (top 56) jy 7 rM:=fun {_ _} G =>
 iD G jy (by kernel_rfl) fun Y _ _ _ _ _ _ Z L=>(aK (hV (eU F.lX (lY F) (eO L) Z (ax (ag 0)))) kX)
def KN (F:bw K mg):ik P w K mg base "needed" (top 58) jy 7 sr:=fun {_ _} G =>
 iD G ["heap","many"] (by kernel_rfl) fun Y _ _ _ _ _ _ Z L=>(aK (hV (eU F.lX (lY F) (eO L) Z (ax (ag 0)))) kX)
def IQ (F:bw K mg):ik P w K mg base "are_rows" (top 52) nX 7 rX:=fun {_ _} G =>
 iD G nX (by kernel_rfl) fun Y _ _ _ _ _ _ Z L=>(aK (hV (eU F.lX (lY F) (eO L) Z (ax (ag 0)))) kX)
def Hs (F:bw K mg):ik P w K mg base "are_strangers" (top 53) nX 7 rK:=fun {_ _} G =>
 iD G nX (by kernel_rfl) fun Y _ _ _ _ _ _ Z L=>(aK (hV (eU F.lX (lY F) (eO L) Z (ax (ag 0)))) kX)
def JK (F:bw K mg):ik P w K mg base "more_by" (top 57) x8 7 sd:=fun {_ _} G =>
 iD G x8 (by kernel_rfl) fun Y _ _ _ _ _ _ Z L=>(aK (hV (eU F.lX (lY F) (eO L) Z (ax (ag 0)))) kX)
def KO (F:bw K mg):ik P w K mg base "_law_asked" (top 89) x9 8 pq:=fun {_ _} G =>
 iD G x9 (by kernel_rfl) fun Y _ _ _ _ _ _ Z L=>(aK (cD (bE (cM Z) (ag 0) aq (bF _)) (aM (aX (eU F.Kz (KL F) (eO L) Z (ax (ag 1))))) cB) (aK (cD (bE (cM Z) (ag 0) aq (bF _)) (aM (aX (eU F.JE (JJ F) (eO L) Z (ax (ag 1))))) cB) (aK (cD (bE (cM Z) (ag 0) aq (bF _)) (aM (aX (eU F.Hw (Hy F) (eO L) Z (ax (ag 1))))) cB) (aK (cD (bE (cM Z) (ag 0) aq (bF _)) (aM (aX (eU F.KC (KN F) (eO L) Z (ax (ag 1))))) cB) (aK (cD (bE (cM Z) (ag 0) aq (bF _)) (aM (aX (eU F.IF (IQ F) (eO L) Z (aN (ag 1) (bp (ax (bp (ax aq)))))))) cB) (aM (aX (FV (bE (cM Z) (ag 0) aq (bF _)) (eU F.Hq (Hs F) (eO L) Z (aN (ag 1) (bp cq))) (eU F.JF (JK F) (eO L) Z (aN (ag 1) mr))))))))))
def Ig (F:bw K mg):bW P w K mg base "are_apart" (top 37) ya 1 Bo:=fun {_ _} G =>
 cb G ya (by kernel_rfl) fun Y _ _ _ _ _ _ Z=>(aM (aX (EW (cA (E3 rfl) rfl F.Eu Fb (ax (ic ["mark","others"] (ju (ag 0)) (fun _ _ _ _ _ _=>⟨hZ,(jr (jA Z) (ag 0) (ag 1) rfl)⟩)))))))
def IS (F:bw K mg):bW P w K mg base "is_sheet" (top 36) bV 5 Bx:=fun {_ _} G =>
 cb G ["thing","has","lacks"] (by kernel_rfl) fun Y _ _ _ _ _ _ Z=>(aK (cD (PW.pt (w_or (kh (gn (cA mx rfl F.cE jZ (aN (ag 0) (mJ hU rfl F.gZ))))) (nP (bE (og Z) (cA jv rfl F.jo jw (ax (ag 0))) aq (bF _))))) (aM (aX er)) cB) (aK (tD (ag 0) (tB rfl (ja (dH 1 Y) (ja (dH 2 Y) sO)))) (aM (aX (fF (aZ F.va (vc F) Z (ax (ag 1))) (fF (aZ F.va (vc F) Z (ax (ag 2))) (js (aZ F.H9 (Ig F) Z (aN (ag 1) (ag 2))))))))))
def IT (F:bw K mg):bW P w K mg base "is_mould" (top 28) bV 3 By:=fun {_ _} G =>
 cb G bV (by kernel_rfl) fun Y _ _ _ _ _ _ Z=>(aM (aX (aZ F.vn (vo F) Z (aN (ag 0) (jC F.se rfl)))))
def KP (F:bw K mg):bW P w K mg base "is_day" (top 29) bV 3 Ck:=fun {_ _} G =>
 cb G bV (by kernel_rfl) fun Y _ _ _ _ _ _ Z=>(aM (aX (aZ F.vn (vo F) Z (aN (ag 0) (jC F.sL rfl)))))
def JL (F:bw K mg):bW P w K mg base "is_page" (top 40) bV 6 kT:=fun {_ _} G =>
 cb G ["thing","word","mould","day","what"] (by kernel_rfl) fun Y _ _ _ _ _ _ Z=>(aK (cD (PW.pt (w_or (kh (gn (cA mx rfl F.cE jZ (aN (ag 0) (mJ hU rfl F.gZ))))) (nP (bE (og Z) (cA jv rfl F.jo jw (ax (ag 0))) aq (bF _))))) (aM (aX er)) cB) (aK (tD (ag 0) (tB rfl (ja (dH 1 Y) (ja (dH 2 Y) (ja (dH 3 Y) (ja (dH 4 Y) sO)))))) (aK (cD (PW.pt (w_or (kh (gn (aZ F.IH (IT F) Z (ax (ag 2))))) (nP (kh (gn (aZ F.KG (KP F) Z (ax (ag 3)))))))) (aM (aX er)) cB) (aK (cD (bE (cM Z) (ag 1) cT (bF _)) (aM (aX (aZ F.IG (IS F) Z (ax (ag 4))))) cB) (aM (aX (fF (jr (cM Z) (ag 1) cT (bF _)) (js (aZ F.BA (BB F) Z (ax (ag 4)))))))))))
def IU (F:bw K mg):bW P w K mg base "are_laid" (top 41) bV 7 oX:=fun {_ _} G =>
 cb G bV (by kernel_rfl) fun Y _ _ _ _ _ _ Z=>(aM (aX (fF (cA mx rfl F.cE jZ (aN (ag 0) (mJ hU rfl F.gZ))) (fF (jr ue (cA jv rfl F.jo jw (ax (ag 0))) (jC F.v7 rfl) (bF _)) (fF (cA (tF rfl) rfl F.sY tH (ax (ic ["page"] (ju (ag 0)) (fun _ _ _ _ _ _=>⟨hZ,(aZ F.JG (JL F) Z (ax (ag 0)))⟩)))) (js (aZ F.Bg (Bi F) Z (ax (ag 0)))))))))
def Bj (F:bw K mg):bW P w K mg base "days_seen" (top 46) yb 1 vm:=fun {_ _} G =>
 cb G yb (by kernel_rfl) fun Y _ _ _ _ _ _ Z=>(aM (aX (ic ["page","mould","mark","half"] (ju (ag 0)) (fun _ _ _ _ _ _=>⟨(nQ (PW.pt (w_and (bE (cM Z) (bD (ag 0) aq) cT (bF _)) (w_and (bE (cM Z) (bD (ag 0) aq) (ag 1) (bF _)) (jh (bE (jA Z) (ag 2) (bD (bD (ag 0) aq) (ag 3)) rfl)))))),(bD (ag 0) aq)⟩))))
def HE (F:bw K mg):bW P w K mg base "days_mended" (top 47) qj 1 Ba:=fun {_ _} G =>
 cb G qj (by kernel_rfl) fun Y _ _ _ _ _ _ Z=>(aM (aX (ic ["page","mould","mark"] (ju (ag 0)) (fun _ _ _ _ _ _=>⟨(nQ (PW.pt (w_and (bE (cM Z) (bD (ag 0) aq) cT (bF _)) (w_and (bE (cM Z) (bD (ag 0) aq) (ag 1) (bF _)) (jh (bE (cM Z) (bD (ag 0) aq) (ag 2) (bF _))))))),(bD (ag 0) aq)⟩))))
def Ht (F:bw K mg):bW P w K mg base "is_any_behind" (top 45) yc 1 A8:=fun {_ _} G =>
 cb G yc (by kernel_rfl) fun Y _ _ _ _ _ _ Z=>(aM (aX (cA (E3 rfl) rfl F.Eu Fb (ax (ic ["other","day","later"] (ju (ag 0)) (fun _ _ _ _ _ _=>⟨hZ,(CO (ui Z) ue (ag 1) (ag 0) (ag 2))⟩))))))
def JM (F:bw K mg):bW P w K mg base "clashes" (top 44) qj 2 BX:=fun {_ _} G=>by
 have Y:(["day","later","lacked","mended"]:List Str).Nodup:=by decide +kernel
 exact cb G ["pages","mould","mark","lacked","mended"] (by kernel_rfl) fun X _ _ _ _ _ _ Z=>(aK (b9 3 X (aZ F.Bh (Bj F) Z (aQ (ag 0) (aQ (ag 1) (aQ (ag 2) (aQ (jC F.v8 rfl) cq)))))) (aK (b9 4 X (aZ F.HD (HE F) Z (jl (ag 0) (ag 1) (ag 2)))) (aM (aX (MS (N:=["day","later","lacked","mended"]) (nt:=2) (cap:=[3,4]) rfl (ES (by kernel_rfl)) (pC 0) (sE 0) (pC 1) (sE 1) (ju (Jr (aZ F.Bh (Bj F) Z (aQ (ag 0) (aQ (ag 1) (aQ (ag 2) (aQ (jC F.xq rfl) cq))))) rfl rfl F.vC vN rfl F.Ew E9)) (fun cl C s H ex W=>⟨(i8 (i:=0) Y rfl (Wy rfl)),hZ,(Oj rfl F.fm (aN (ag 0) (jC F.sL rfl))),(i8 (i:=1) Y rfl (Wy rfl)),(nQ (PW.pt (w_and (PW.pt (w_or (bE (jA Z) (ag 1) (ag 2) rfl) (nP (PW.pt (w_and (bE (cM Z) (ag 1) (ag 0) (bF _)) (jh (bE (jA Z) (ag 0) (ag 3) rfl))))))) (jh (kh (gn (aZ F.Hr (Ht F) Z (jl (ag 3) (ag 0) (ag 1))))))))),(bp (aN (ag 0) (ag 1)))⟩))))))
def Ih (F:bw K mg):bW P w K mg base "faults_of" (top 43) yd 3 Bp:=fun {_ _} G=>by
 have Z:(["mould","mark","day","later","pages"]:List Str).Nodup:=by decide +kernel
 exact cb G yd (by kernel_rfl) fun X _ _ _ _ _ _ Y=>(aM (aX (MT (N:=["mould","mark","day","later","pages"]) (nt:=4) (cap:=[0]) rfl (ES (by kernel_rfl)) (pC 0) (sE 0) (pC 1) (sE 1) (DT (sj 2 (sj 3 CU))) (wR [2,3]) (fE rfl F.fm (ax (jC F.se rfl))) (fun cl C s H ex W=>⟨(i8 (i:=0) Z rfl (Wy rfl)),hZ,(fE rfl F.fm (ax (jC F.sx rfl))),(i8 (i:=1) Z rfl (Wy rfl)),hZ,(ju (aZ F.JH (JM F) Y (jl (ag 4) (ag 0) (ag 1)))),(wQ rfl (o9 (i8 (i:=2) Z rfl (Wy rfl)) (o9 (i8 (i:=3) Z rfl (Wy rfl)) wc))),hZ,(bp (aQ (ag 0) (aQ (ag 1) (aQ (ag 2) (aQ (ag 3) cq)))))⟩))))
def JN (F:bw K mg):bW P w K mg base "is_book" (top 42) bV 8 kU:=fun {_ _} G =>
 cb G bV (by kernel_rfl) fun Y _ _ _ _ _ _ Z=>(aM (aX (fF (aZ F.II (IU F) Z (ax (ag 0))) (js (TK.OH (aZ F.Ia (Ih F) Z (ax (ag 0))))))))
def Ii (F:bw K mg):ik P w K mg base "need_book" (top 49) bV 9 l0:=fun {_ _} G =>
 iD G bV (by kernel_rfl) fun Y _ _ _ _ _ _ Z L=>(aM (cD (kh (gn (aZ F.JI (JN F) Z (ax (ag 0))))) (aM (C9 L F.Ku (ax cT))) cB))
def Ij (F:bw K mg):ik P w K mg base "book_text" (top 70) ye 10 nr:=fun {_ _} G =>
 iD G ye (by kernel_rfl) fun Y _ _ _ _ _ _ Z L=>(aK (hV (eU F.Ib (Ii F) (eO L) Z (ax (ag 0)))) kX)
def Dp (F:bw K mg):G4 P w K mg "_law_met" (top 85) Fz 12 11 eQ:=fun {_ _ _ _ _ _} T {_ _} G =>
 Qm G ["_law_call","_law_e","_law_some"] (by kernel_rfl) fun Z _ _ _ _ _ _ X Y=>(aM (OW T X (Y.mono (by decide)) F.HN (fun _=>(aK (b9 2 Z (Qt F.IE (IP F) (Y.h.held _) (ax (ag 1)))) (aK (cD (PW.pt (w_or (kh (gn (OU F.HM (ag 1) F.cE F.HL))) (nP (bE Qu (OS (ag 2)) aq (bF _))))) (aM (aX (bp (aN cT mr)))) cB) (aK (cD (gn (bD (ag 2) aq)) (aM (aX (bp (aN cT Ga)))) cB) (aK (cD (gn (bD (ag 2) aq)) (aM (aX (bp (aN cT Ga)))) cB) (aM (aX (bp (aN cT (Qp (ag 2))))))))))) Z))
def O0 (F:bw K mg) {c T:Ø} (ht:WM K "law"=some (c,T)) (hC:PySem.W.codeHdIn K c T=true) (hB:base.BuiltinsAt mg T) {f:Ø} {fd:ę} (G:Gd K mg "law" (top 90) FA f fd) (hx:é K Ó "law"=some (some (.ref f))):cG P w K mg base cP 13 f fd FA (i4 K tM):=by
 exact Qq G hx ht [WY,"_law_k",WX,W5,W6,"_law_turn","_law_bad","_law_less","_law_kept",W4] (by kernel_rfl) fun Y _ _ _ _ _ Z=>(aK (ki Ĺ rfl (fE rfl F.fm (ax (cA (Oq rfl) rfl F.OX P7 (aN aq (cA (Ot rfl) rfl F.OY P8 (aN (cA jv rfl F.jo jw (ax (ag 0))) aq)))))) (dH 1 Y) (aK (b9 2 Y (aZ F.Kw (KH F) Z (aN (ag 0) (ag 1)))) (aK (sQ 3 4 rfl Y (aN (aZ F.LY (L3 F) Z (aN (ag 2) aq)) (aZ F.L0 (L5 F) Z (aN (ag 2) (aZ F.ee (ef F) Z (aN (ag 2) aq)))))) (aM (ki Ĺ rfl (fE rfl F.fm (ax aq)) (dH 5 Y) (aK (tD (bp (aN (aZ F.IC (IL F) Z (aN (ag 2) (ag 3))) (aZ F.ID (IM F) Z (aN (ag 2) (ag 4))))) (tB rfl (ja (dH 6 Y) (ja (dH 7 Y) sO)))) (aK (b9 8 Y (cA (Dd Z) rfl F.Dl D3 (ax (bp (aN (ag 6) (ag 7)))))) (aK (ki Ĺ rfl (fE rfl F.fm (ax aq)) (dH 9 Y) (aM (cD (bE (og Z) (Fo [W4,"_law_bad"] rfl rfl ht hC hB F.Dm (Dp F) Cq Z (fun _ _ _ _ _ _ _ _ _ _ Z L=>(eU F.KD (KO F) (eO L) Z (aN (ag 0) (ag 1))))) (bp (aN cT aq)) (bF _)) (aM (aX er)) cB))) (aM (cD (PW.pt (w_or (bE (og Z) (Fo ["_law_less"] rfl rfl ht hC hB F.Dm (Dp F) Cq Z (fun _ _ _ _ _ _ _ _ _ _ Z L=>(eU F.Ic (Ij F) (eO L) Z (ax (ag 0))))) (bp (aN cT aq)) (bF _)) (nP (bE (og Z) (cA (Dd Z) rfl F.Dl D3 (ax (bp (aN (ag 6) (ag 7))))) (ag 8) (bF _))))) (aM (aX er)) cB)))))))))) (aM (aX er)))
end
end DI.aO
namespace DI
open PySem L2
def jF (s:aa) (k:Nat):Prop:=∃a b:Int,s[k]?=some (.lst [.int a,.int b])/\0<=a/\0<=b/\b<2147483647
structure Ex (k:Nat) (s s':aa):Prop where
 len:s.length<=s'.length
 val:∀j,j<s.length->j≠k->s'[j]?=s[j]?
def Ex.refl (k:Nat) (s:aa):Ex k s s:=⟨WV _,fun _ _ _=>rfl⟩
theorem Ex.trans (h:Ex k a b) (g:Ex k b c):Ex k a c:=⟨á h.len g.len,fun j Z Y=>(g.val j (Å Z h.len) Y).trans (h.val j Z Y)⟩
theorem Ex.set (k:Nat) (s:aa) (c:Cell):Ex k s (s.set k c):=⟨by simp,fun j _ Z=>â (Ÿ Z)⟩
def Ex.app (k:Nat) (s:aa) (c:List Cell):Ex k s (s++c):=⟨by simp,fun j Z _=>Ú Z⟩
def jF.lt (h:jF s k):k<s.length:=by
 obtain ⟨a,b,e,_⟩:=h;exact (Æ.mp e).1
def jF.app (h:jF s k) (c:List Cell):jF (s++c) k:=by
 obtain ⟨a,b,e,r⟩:=h;exact ⟨a,b,by rw [Ú (Æ.mp e).1];exact e,r⟩
theorem jF.set (h:jF s k) (hj:j≠k) (c:Cell):jF (s.set j c) k:=by
 obtain ⟨a,b,e,r⟩:=h;exact ⟨a,b,by rw [â hj];exact e,r⟩
def u0 (x y:D) (k:Nat) (s:aa) (h:s[k]?=some (.lst [x,y])):aE (.au k) (.int 0) s=ok x s:=by
 simp [aE,jT,res,h,dj,ff,bL]
def As (x y:D) (k:Nat) (s:aa) (h:s[k]?=some (.lst [x,y])):aE (.au k) (.int 1) s=ok y s:=by
 simp [aE,jT,res,h,dj,ff,bL]
def yS (x y z:D) (k:Nat) (s:aa) (h:s[k]?=some (.lst [x,y])):iN (.au k) (.int 0) z s=some (s.set k (.lst [z,y])):=by
 simp [iN,h,ff]
def RV (x y z:D) (k:Nat) (s:aa) (h:s[k]?=some (.lst [x,y])):iN (.au k) (.int 1) z s=some (s.set k (.lst [x,z])):=by
 simp [iN,h,ff]
@[simp] theorem sZ {a:D} {r:Env} {s:aa}:af 0 (some a::r) s=ok a s:=rfl
@[simp] theorem tj {i:Nat} {a:Option D} {r:Env} {s:aa}:af (i+1) (a::r) s=af i r s:=rfl
def ltI (i j:Int) (s:aa):lH (.int i) (.int j) s=ok (.bl (decide (i<j))) s:=rfl
def T5 (i j:Int) (s:aa):qx (.int i) (.int j) s=ok (.bl (decide (j<i))) s:=rfl
def T6 (i j:Int) (s:aa):qy (.int i) (.int j) s=ok (.bl (decide (j<=i))) s:=rfl
def T7 (i j:Int) (s:aa):mI (.int i) (.int j) s=ok (.bl (decide (i<=j))) s:=rfl
def Gm (i j:Int) (s:aa):bO (.int i) (.int j) s=ok (.int (i+j)) s:=rfl
def RW (i j:Int) (s:aa):qa (.int i) (.int j) s=ok (.int (i-j)) s:=rfl
def T8 (i j:Int) (s:aa):bH (.int i) (.int j) s=ok (.bl (i==j)) s:=rfl
def T9 (i j:Int) (s:aa):fM (.int i) (.int j) s=ok (.bl (!(i==j))) s:=rfl
def ou {i j:Int} (s:aa) (h:0<j):fG (.int i) (.int j) s=ok (.int (i % j)) s:=by
 simp [fG,yF,h,bL]
def Gn (s:aa) (h:0<j) (h2:j<1073741824):mv (.int i) (.int j) s=ok (.int (i / j)) s:=by
 simp [mv,yG,h,h2,bL]
def qG (s:aa) (h:qb i j=true):cL (.int i) (.int j) s=ok (.int (i*j)) s:=by
 simp [cL,qw,h,bL]
def mulOk_of (h1:-(2 ^ 64)<i) (h2:i<2 ^ 64):qb i j=true:=by
 unfold qb;rw [Þ h1,Þ h2];rfl
def le_size (h:n<=1000000):n<=Ñ:=á h (by decide)
def L6 (h1:-1000000<=j) (h2:j<=1000000):lj j=true:=by
 unfold lj;rw [Þ (show -(2 ^ 62)<=j by omega),Þ (show j<2 ^ 62 by omega)];rfl
def Ey {α:Type} {xs:List α} {i:Int} (h0:0<=i) (h1:i<xs.length):∃x,dj xs i=some x/\xs[i.toNat]?=some x:=by
 have Z:i.toNat<xs.length:=by omega
 refine ⟨xs[i.toNat],?_,Ë Z⟩;unfold dj ff;rw [ä h0,ä h1];exact Ë Z
def Nh {ns:List Int} {i:Int} {s:aa} (h0:0<=i):∃c:Int,nv [.bz ns,.int i] s=ok (.int c) s:=by
 by_cases h:i<(ns.length:Int)
 ·obtain ⟨x,Z,_⟩:=Ey h0 h
  refine ⟨x,?_⟩;have Y:aE (.bz ns) (.int i) s=ok (.int x) s:=by simp [aE,jT,res,Z,bL]
  simp only [nv,aJ,ar,bA,aY,e2,eB,ae,ah,cI,om,res,bL,sZ,tj,eC,iB,ï,Ŭ,ÿ,Č,ë,õ,Ċ,ltI,fK,Þ h,aP,Y,Î]
 ·refine ⟨0,?_⟩
  simp only [nv,aJ,ar,bA,aY,e2,eB,ae,ah,cI,om,res,bL,sZ,tj,eC,iB,ï,Ŭ,ÿ,Č,ë,õ,Ċ,ltI,fK,ù h,É,ĉ,bK,aP,Î]
structure bU (m:Nat) (ns:List Int):Prop where
 lo:∀x∈ns,0<=x/\x<m
 up:ns.Pairwise (· < ·)
noncomputable abbrev mD (ns:List Int):D:=.tup (ns.map D.int)
def bU.len (h:bU m ns):ns.length<=m:=by
 have key:∀(l:List Int) (b:Int),l.Pairwise (· < ·)->(∀x∈l,b<=x/\x<m)->(l.length:Int)<=m-b\/l=[]:=by
  intro l
  induction l with
  |nil=>intro b _ _;exact .inr rfl
  |cons x l ih =>
   intro b X Z;obtain ⟨W,V⟩:=ü.mp X;have U:=Z x Ö;left
   rcases ih (x+1) V (fun y Y=>⟨by have:=W y Y;omega,(Z y (Õ _ Y)).2⟩) with h|h
   ·rw [ë];omega
   ·subst h
    simp;omega
 rcases key ns 0 h.up h.lo with h'|h'
 ·omega
 ·subst h';simp
def hX (h:fa env s=ok [.int n] s1) (hn:n<=1000000):cw fa env s=ok (di 0 n) s1:=by
 unfold cw;rw [h,iB]
 show (if lj (n:Int)=true then ok (di 0 (n:Int).toNat) s1 else none)=_
 rw [ä (L6 (by omega) (by omega)),ĳ]
def Dq {n:Nat} {i:Int} (h:fa env s=ok [.int i] s1) (hi:i=n) (hn:n<=1000000):cw fa env s=ok (di 0 n) s1:=by
 subst hi;exact hX h hn
def Ez:Wp (lH (.int i) (.int j) s) Q=Q (.bl (decide (i<j))) s:=by rw [ltI,br]
def EA:Wp (qx (.int i) (.int j) s) Q=Q (.bl (decide (j<i))) s:=by rw [T5,br]
def EB:Wp (qy (.int i) (.int j) s) Q=Q (.bl (decide (j<=i))) s:=by rw [T6,br]
def EC:Wp (mI (.int i) (.int j) s) Q=Q (.bl (decide (i<=j))) s:=by rw [T7,br]
def Dr:Wp (bO (.int i) (.int j) s) Q=Q (.int (i+j)) s:=by rw [Gm,br]
def Ds:Wp (qa (.int i) (.int j) s) Q=Q (.int (i-j)) s:=by rw [RW,br]
def ED:Wp (bH (.int i) (.int j) s) Q=Q (.bl (i==j)) s:=by rw [T8,br]
def EE:Wp (fM (.int i) (.int j) s) Q=Q (.bl (!(i==j))) s:=by rw [T9,br]
end DI
local macro_rules | `(tactic| simp only [VC])=>`(tactic| simp only [DI.br,DI.Ei,DI.xV,DI.dF,DI.dG,DI.jE,DI.Fv,DI.gH,DI.fq,DI.fk,DI.my,DI.wp_call,DI.mf,DI.pX,DI.xm,DI.Ej,DI.lh,DI.kY,DI.sW,DI.sJ,DI.pG,DI.xn,DI.Dg,DI.Dh,DI.Ek,DI.Di,DI.El,DI.Em,DI.jd,DI.nG,DI.sv,DI.Cp,DI.wD,DI.eR,DI.xo,DI.En,DI.mi,DI.kZ,DI.mz,DI.xW,DI.wF,DI.vY,DI.pH,DI.Eo,DI.je,DI.Dj,DI.sX,DI.iH,DI.Ep,DI.Er,DI.pI,DI.Fx,DI.Es,List.map_cons,List.map_nil,List.cons_append,List.nil_append,List.length_cons,List.length_nil,List.set_cons_succ,List.set_cons_zero,List.replicate,true_and,Nat.reduceSub,Nat.reduceAdd,DI.Ez,DI.EA,DI.EB,DI.EC,DI.Dr,DI.Ds,DI.ED,DI.EE])
local macro_rules | `(tactic| simp only [VC,$xs,*])=>`(tactic| simp only [DI.br,DI.Ei,DI.xV,DI.dF,DI.dG,DI.jE,DI.Fv,DI.gH,DI.fq,DI.fk,DI.my,DI.wp_call,DI.mf,DI.pX,DI.xm,DI.Ej,DI.lh,DI.kY,DI.sW,DI.sJ,DI.pG,DI.xn,DI.Dg,DI.Dh,DI.Ek,DI.Di,DI.El,DI.Em,DI.jd,DI.nG,DI.sv,DI.Cp,DI.wD,DI.eR,DI.xo,DI.En,DI.mi,DI.kZ,DI.mz,DI.xW,DI.wF,DI.vY,DI.pH,DI.Eo,DI.je,DI.Dj,DI.sX,DI.iH,DI.Ep,DI.Er,DI.pI,DI.Fx,DI.Es,List.map_cons,List.map_nil,List.cons_append,List.nil_append,List.length_cons,List.length_nil,List.set_cons_succ,List.set_cons_zero,List.replicate,true_and,Nat.reduceSub,Nat.reduceAdd,DI.Ez,DI.EA,DI.EB,DI.EC,DI.Dr,DI.Ds,DI.ED,DI.EE,$xs,*])
namespace DI
open PySem L2
def WT {α:Type} {r:Res α} {d:α} {s:aa} (h:Wp r fun a s'=>a=d/\s'=s):r=DI.ok d s:=by
 obtain ⟨a,s',e,rfl,rfl⟩:=h;exact e
def v9 {f:WR D} {env:Env} {s s1:aa} {ds:List D} (h:f env s=ok (.tup ds) s1):dQ f env s=ok ds s1:=by
 unfold dQ;rw [h];rfl
def L7 (h:f env s=ok (.lst ds) s1):dQ f env s=ok ds s1:=by
 unfold dQ;rw [h];rfl
theorem o7:∀(ns:List Int),cu (ns.map D.int)=true
 | []=>rfl
 |n::ns=>by simp only [ï,cu,lay,o7 ns,Ę]
def Dt (x:Int) (ns:List Int):((ns.map D.int).any fun y=>beq y (.int x))=decide (x∈ns):=by
 induction ns with
 |nil=>simp
 |cons n ns ih =>
  simp only [ï,List.any_cons,ih,beq];by_cases h:n=x
  ·subst h;simp
  ·have Z:¬ x=n:=fun e=>h e.symm
   simp [h,Z]
def Du {x:Int} {ns:List Int} {s:aa}:eD (.int x) (mD ns) s=ok (.bl (decide (x∈ns))) s:=by
 have Z:mw 100 (.int x) (ns.map D.int)=true:=by simp only [mw,lay,o7,dep,Ę,Ć,decide_true]
 have e:inD (.int x) (ns.map D.int)=some (decide (x∈ns)):=by unfold inD;rw [ä Z,Dt]
 unfold eD;rw [show lq (mD ns) s=some (ns.map D.int) from rfl];simp only [e];rfl
noncomputable def sub (a b:List Int):Bool:=a.all fun x=>decide (x∈b)
def wH {α:Type} (p:α->Bool) (xs:List α) (s:aa):kn [.lst (xs.map fun x=>D.bl (p x))] s=ok (.bl (xs.all p)) s:=by
 have e:gC (xs.map fun x=>D.bl (p x))=some (xs.map p):=by
  have:=MQ (bs:=xs.map p);rw [V6] at this;exact this
 show bL ((gC (xs.map fun x=>D.bl (p x))).map fun (bs:List Bool)=>D.bl (bs.all id)) s=_;rw [e];show ok (D.bl ((xs.map p).all id)) s=_;rw [List.all_map];rfl
def filter_tt {α:Type} (xs:List α):xs.filter (fun _=>true)=xs:=by simp
def KQ {nt:Nat} {caps:Env} {g:D->Env->Option Env} {t:WR Bool} {f:WR D} {s:aa} (p:Int->Bool) (h:Int->D) (ns:List Int) (hh:∀n∈ns,∃env,g (.int n) (Î nt none++caps)=some env/\t env s=ok (p n) s/\(p n=true->f env s=ok (h n) s)) :
  eh nt caps g t f (ns.map D.int) s=ok ((ns.filter p).map h) s:=by
 induction ns with
 |nil=>rfl
 |cons n ns ih =>
  obtain ⟨env,Y,X,W⟩:=hh n Ö;have ih:=ih fun V U=>hh V (Õ _ U);rw [ï];unfold eh;rw [Y];simp only [X,tw,iB]
  cases Z:p n with
  |true=>simp only [Ċ,W Z,tw,iB,ih,Wf,Z,ï]
  |false=>simp only [É,ĉ,ih,Wf,Z]
def comp_map {α:Type} (d:α->D) (p:α->Bool) (h:α->D) (xs:List α) (hh:∀x∈xs,∃env,g (d x) (Î nt none++caps)=some env/\t env s=ok (p x) s/\(p x=true->f env s=ok (h x) s)) :
  eh nt caps g t f (xs.map d) s=ok ((xs.filter p).map h) s:=by
 induction xs with
 |nil=>rfl
 |cons n T ih =>
  obtain ⟨env,Y,X,W⟩:=hh n Ö;have ih:=ih fun V U=>hh V (Õ _ U);rw [ï];unfold eh;rw [Y];simp only [X,tw,iB]
  cases Z:p n with
  |true=>simp only [Ċ,W Z,tw,iB,ih,Wf,Z,ï]
  |false=>simp only [É,ĉ,ih,Wf,Z]
def KR:vj [.int i] s=ok (.bl (decide (0<=i))) s:=by
 rfl
def si:ny [.int i,.int m] s=ok (.bl (decide (0<=i)&&decide (i<m))) s:=by
 refine WT ?_;unfold ny;simp only [VC,KR];by_cases h:0<=i
 ·simp [h]
 ·simp [h]
def Ni:oZ [.int i] s=ok (.bl (decide (0<=i)&&decide (i<8))) s:=by
 refine WT ?_;unfold oZ;simp only [VC,si,true_and]
def L8 (xs:List D):cutD xs (some 1) none=xs.drop 1:=by
 unfold cutD HT.aS
 cases xs with
 |nil=>simp
 |cons x xs =>
  simp only [ë]
  have e:(if (1:Int)<0 then (1+((xs.length+1:Nat):Int)).toNat else min (1:Int).toNat (xs.length+1))=1:=by simp
  simp
noncomputable def rise:List Int->Bool
 | []=>true
 | [_]=>true
 |a::b::r=>decide (a<b)&&rise (b::r)
def Nj (h:ns.Pairwise (· < ·)):rise ns=true:=by
 induction ns with
 |nil=>rfl
 |cons a ns ih =>
  cases ns with
  |nil=>rfl
  |cons b r =>
   obtain ⟨Z,Y⟩:=ü.mp h;simp only [rise,ih Y,Bool.and_true];exact Þ (Z b Ö)
theorem Cr:∀(ns:List Int),((ns.zip (ns.drop 1)).all fun p=>decide (p.1<p.2))=rise ns
 | []=>rfl
 | [_]=>rfl
 |a::b::r=>by
  have ih:=Cr (b::r);simp only [List.drop_succ_cons,List.drop_zero,ī,List.all_cons,rise] at ih |-;rw [ih]
def KS (xs ys:List Int):iM (xs.map D.int) (ys.map D.int)=(xs.zip ys).map fun p=>D.tup [.int p.1,.int p.2]:=by
 unfold iM;rw [List.zip_map,V6];rfl
def L9 (h:fa env s=ok [.tup xs,.tup ys] s1):qv fa env s=ok (iM xs ys) s1:=by
 unfold qv;rw [h];rfl
def KU (hl:ns.length<=1000000):oW [mD ns] s=ok (.bl (rise ns)) s:=by
 refine WT ?_;unfold oW;simp only [VC];have Z:qv (ae (af 0) (ae (rm (af 0) (qz (eC (.int 1))) rl) ah)) [some (mD ns)] s=ok (iM (ns.map D.int) ((ns.drop 1).map D.int)) s:=by
  refine L9 (WT ?_);simp only [VC];rw [Nd (i:=1) rfl]
  try simp only [VC]
  refine WS (show pR (mD ns) (some 1) none s=ok (.tup (cutD (ns.map D.int) (some 1) none)) s from rfl) ⟨?_,rfl⟩;rw [L8,List.map_drop]
 refine WS Z ⟨le_size (by rw [Cc];simp only [Ì];omega),?_⟩;rw [KS];refine WS (comp_map (fun p:Int×Int=>D.tup [.int p.1,.int p.2]) (fun _=>true) (fun p=>.bl (decide (p.1<p.2))) _ fun p _=>⟨[some (.int p.1),some (.int p.2)],rfl,rfl,fun _=>rfl⟩) ?_;rw [filter_tt];exact WS (wH _ _ _) ⟨by rw [Cr],rfl⟩
def JO (h:bU 8 ns):j3 [mD ns] s=ok (.bl true) s:=by
 have Y:=h.len;refine WT ?_;unfold j3;simp only [VC];refine WS (show gu [mD ns,.ty "tuple"] s=ok (.bl true) s from rfl) ?_;simp only [VC,Ċ];refine WS (v9 rfl) ⟨le_size (by rw [Ì];omega),?_⟩;refine WS (KQ (fun _=>true) (fun x=>.bl (decide (0<=x)&&decide (x<8))) ns fun n _=>⟨[some (.int n)],rfl,rfl,fun _=>?_⟩) ?_
 ·refine WT ?_
  simp only [VC,Ni,true_and]
 ·rw [filter_tt]
  refine WS (wH _ _ _) ?_;have e:(ns.all fun x=>decide (0<=x)&&decide (x<8))=true:=by
   rw [ĝ];intro x Z;have:=h.lo x Z;simp only [È,Ü];omega
  rw [e];simp only [VC,Ċ];exact WS (KU (by omega)) ⟨by rw [Nj h.up],rfl⟩
structure U6 (rs:List (List Int)):Prop where
 lo:1<=rs.length
 hi:rs.length<=10
 fY:∀r∈rs,bU 8 r
abbrev rD (rs:List (List Int)):D:=.tup (rs.map mD)
def O1 {j:Nat} (h:xs[j]?=some d):aE (.tup xs) (.int j) s=ok d s:=by
 unfold aE jT;rw [show res (.tup xs) s=.tup xs from rfl];simp only [wk h];rfl
def getD_some {α:Type} {xs:List α} {i:Nat} {d:α} (h:i<xs.length):xs[i]?=some (xs.getD i d):=by
 rw [List.getD_eq_getElem?_getD,Ë h];rfl
def Ua {rs:List (List Int)} {i:Nat} {s:aa} (h:i<rs.length):aE (rD rs) (.int i) s=ok (mD (rs.getD i [])) s:=O1 (by rw [ç,getD_some (d:=[]) h];rfl)
def Dv (lo:Int) (n:Nat):di lo n=(Ă n).map fun i:Nat=>D.int (lo+i):=rfl
def O2 (rs:List (List Int)) (laid:List Int) (m:Int):Bool:=((Ă laid.length).filter fun i=>laid.getD i 0==m).all fun i=>sub (rs.getD i []) (rs.getD laid.length [])
def step (rs:List (List Int)) (told:List (List Int)):List (List Int):=told.flatMap fun laid=>([0,1].filter fun m=>O2 rs laid m).map fun m=>laid++[m]
def yN (h:a.length+b.length<=1000000):bO (mD a) (mD b) s=ok (mD (a++b)) s:=by
 have e:oh (mD a) (mD b)=some (mD (a++b)):=by
  show (if gr (a.map D.int) (b.map D.int)=true then some (D.tup (a.map D.int++b.map D.int)) else none)=_
  have Z:gr (a.map D.int) (b.map D.int)=true:=by
   unfold gr;rw [Ì,Ì];exact Þ (le_size h)
  rw [ä Z];show some (D.tup (a.map D.int++b.map D.int))=some (D.tup ((a++b).map D.int));rw [Ś]
 show bL (oh (mD a) (mD b)) s=_;rw [e];rfl
noncomputable def brk (l:List Int):List Int:=((Ă (l.length-1)).filter fun i=>l.getD (i+1) 0==l.getD i 0).map fun i:Nat=>1+(i:Int)
def RX (h:xs.length+ys.length<=1000000):bO (.lst xs) (.lst ys) s=ok (.lst (xs++ys)) s:=by
 have e:oh (.lst xs) (.lst ys)=some (.lst (xs++ys)):=by
  show (if gr xs ys=true then some (D.lst (xs++ys)) else none)=_
  have Z:gr xs ys=true:=Þ (le_size h);rw [ä Z]
 show bL (oh (.lst xs) (.lst ys)) s=_;rw [e];rfl
def Ex.get (h:Ex k s s') (e:s[j]?=some c) (hj:j≠k):s'[j]?=some c:=by
 rw [h.val j (Æ.mp e).1 hj];exact e
theorem Ex.hi (h:Ex k s s') (hj:s.length<=j) (c:Cell):Ex k s (s'.set j c):=⟨by rw [ą];exact h.len,fun i hi Z=>by rw [â (by omega)];exact h.val i hi Z⟩
def KW (ha:bU 8 a) (hb:bU 8 b):bU 8 (dA (a++b)):=⟨fun x Z=>by
 rw [oY] at Z
 rcases ð.mp Z with h|h
 ·exact ha.lo x h
 ·exact hb.lo x h,rR _⟩
structure RI (s0:aa) (k rh mh:Nat) (rs:List (List Int)) (s:aa):Prop where
 st:jF s k
 ex:Ex k s0 s
 run:s[rh]?=some (.lst (rs.map mD))
 mo:∃a b,s[mh]?=some (.lst [mD a,mD b])/\bU 8 a/\bU 8 b
 fY:∀r∈rs,bU 8 r
 k1:k<s0.length
 r1:s0.length<=rh
 m1:s0.length<=mh
 ne:rh≠mh
def RI.draw (h:RI s0 k rh mh rs s) (g:jF s' k) (x:Ex k s s'):RI s0 k rh mh rs s':=by
 have:=h.k1;have:=h.r1;have:=h.m1;obtain ⟨a,b,e,Z,Y⟩:=h.mo;exact ⟨g,h.ex.trans x,x.get h.run (by omega),⟨a,b,x.get e (by omega),Z,Y⟩,h.fY,h.k1,h.r1,h.m1,h.ne⟩
def RI.push (h:RI s0 k rh mh rs s) (hr:bU 8 r):RI s0 k rh mh (rs++[r]) (s.set rh (.lst (rs.map mD++[mD r]))):=by
 have:=h.k1;have:=h.r1;have:=h.m1;have:=h.ne;obtain ⟨a,b,e,Z,Y⟩:=h.mo;refine ⟨h.st.set (by omega) _,h.ex.hi (by omega) _,?_,⟨a,b,by rw [â (by omega)];exact e,Z,Y⟩,fun x hx=>?_,h.k1,h.r1,h.m1,h.ne⟩
 ·rw [å (Æ.mp h.run).1,Ś]
  rfl
 ·rcases ð.mp hx with hx|hx
  ·exact h.fY x hx
  ·rw [ý.mp hx];exact hr
def RI.put (h:RI s0 k rh mh rs s) (h0:at_=0\/at_=1):(∃a,aE (.au mh) (.int at_) s=ok (mD a) s/\bU 8 a)/\∀c,bU 8 c->∃s',iN (.au mh) (.int at_) (mD c) s=some s'/\RI s0 k rh mh rs s':=by
 have:=h.k1;have:=h.r1;have:=h.m1;have:=h.ne;obtain ⟨a,b,e,Z,Y⟩:=h.mo;have key:∀a b,bU 8 a->bU 8 b->RI s0 k rh mh rs (s.set mh (.lst [mD a,mD b])):=fun a b Z Y=>⟨h.st.set (by omega) _,h.ex.hi (by omega) _,by rw [â (by omega)];exact h.run,⟨a,b,å (Æ.mp e).1,Z,Y⟩,h.fY,h.k1,h.r1,h.m1,h.ne⟩
 rcases h0 with rfl|rfl
 ·exact ⟨⟨a,u0 _ _ _ _ e,Z⟩,fun c X=>⟨_,yS _ _ _ _ _ e,key _ _ X Y⟩⟩
 ·exact ⟨⟨b,As _ _ _ _ e,Y⟩,fun c X=>⟨_,RV _ _ _ _ _ e,key _ _ Z X⟩⟩
def bU.Au (h:bU n l) (hn:n<=8):bU 8 l:=⟨fun x Z=>by have:=h.lo x Z;omega,h.up⟩
structure GH (rs:List (List Int)):Prop where
 hi:rs.length<=9
 fY:∀r∈rs,bU 8 r
def Sf (s:aa) (k:Nat):Prop:=∃(a:Int) (b:Bool),s[k]?=some (.lst [.int a,.bl b])/\0<=a/\(b=false->a<2147483647)
def Sf.lt {s:aa} {k:Nat} (h:Sf s k):k<s.length:=by
 obtain ⟨a,b,e,_⟩:=h;exact (Æ.mp e).1
def Sf.app {s:aa} {k:Nat} (h:Sf s k) (c:List Cell):Sf (s++c) k:=by
 obtain ⟨a,b,e,r⟩:=h;exact ⟨a,b,by rw [Ú (Æ.mp e).1];exact e,r⟩
theorem Sf.set {s:aa} {k j:Nat} (h:Sf s k) (hj:j≠k) (c:Cell):Sf (s.set j c) k:=by
 obtain ⟨a,b,e,r⟩:=h;exact ⟨a,b,by rw [â hj];exact e,r⟩
def ei {s:aa} {k:Nat} {m:Int} (h:Sf s k) (h1:0<m) (h2:m<1073741824):Wp (aO.bJ [.au k,.int m] s) fun d s'=>∃r:Int,d=.int r/\0<=r/\r<m/\Sf s' k/\Ex k s s':=by
 obtain ⟨a,b,e,V,Y⟩:=h;have X:=(Æ.mp e).1
 cases b with
 |true =>
  have Z:(s.set k (.lst [.int (a / m),.bl true]))[k]?=some (.lst [.int (a / m),.bl true]):=å X;refine ⟨.int (a % m),s.set k (.lst [.int (a / m),.bl true]),?_,a % m,rfl,VL _ (by omega),ŧ _ h1,⟨a / m,true,Z,Int.ediv_nonneg V (by omega),fun z=>by cases z⟩,Ex.set _ _ _⟩;simp only [aO.bJ,aJ,ar,bA,cQ,truth,e2,sZ,tj,eC,iB,ï,Ŭ,ÿ,Č,u0 _ _ k s e,As _ _ k s e,ë,õ,Ċ,bb,gN,ou s h1,ku,Gn s h1 h2,yS _ _ _ k s e,aP,Ď,ď,Î]
 |false =>
  have Y:=Y rfl;have ex:0<=(a*48271+29) % 2147483647/\(a*48271+29) % 2147483647<2147483647:=⟨VL _ (by decide),ŧ _ (by decide)⟩;generalize U:(a*48271+29) % 2147483647=x at ex;have Z:(s.set k (.lst [.int x,.bl false]))[k]?=some (.lst [.int x,.bl false]):=å X;generalize W:(x*x+39373*x+7) % 2147483629=y;have M:0<=y/\y<2147483629:=by rw [<- W];exact ⟨VL _ (by decide),ŧ _ (by decide)⟩
  generalize T:(y*y+16807*y) % 2147483587=z;refine ⟨.int (z / 8 % m),s.set k (.lst [.int x,.bl false]),?_,_,rfl,VL _ (by omega),ŧ _ h1,⟨x,false,Z,ex.1,fun _=>ex.2⟩,Ex.set _ _ _⟩;have S:cL (.int a) (.int 48271) s=ok (.int (a*48271)) s:=qG s (mulOk_of (by omega) (by omega));have R:∀s',cL (.int x) (.int x) s'=ok (.int (x*x)) s':=fun s'=>qG s' (mulOk_of (by omega) (by omega));have Q:∀s',cL (.int 39373) (.int x) s'=ok (.int (39373*x)) s':=fun s'=>qG s' (mulOk_of (by decide) (by decide));have P:∀s',cL (.int y) (.int y) s'=ok (.int (y*y)) s':=fun s'=>qG s' (mulOk_of (by omega) (by omega));have O:∀s',cL (.int 16807) (.int y) s'=ok (.int (16807*y)) s':=fun s'=>qG s' (mulOk_of (by decide) (by decide));have N:∀n:Int,aE (.au k) (.int 0) (s.set k (.lst [.int x,.bl false]))=ok (.int x) (s.set k (.lst [.int x,.bl false])):=fun _=>u0 _ _ k _ Z;simp only [aO.bJ,aJ,ar,bA,cQ,truth,e2,sZ,tj,eC,iB,ï,Ŭ,ÿ,Č,u0 _ _ k s e,As _ _ k s e,ë,õ,É,ĉ,Ċ,bK,bb,gN,ku,yS _ _ _ k s e,aP,Ď,ď,Î,S,R,Q,P,O,Gm,ou _ (show (0:Int)<2147483647 by decide),ou _ (show (0:Int)<2147483629 by decide),ou _ (show (0:Int)<2147483587 by decide),Gn _ (show (0:Int)<8 by decide) (by decide),ou _ h1,U,W,T,N 0]
def Nk {ns:List Int} {i:Int} {s:aa} (h0:0<=i):Wp (aO.ph [.bz ns,.int i] s) fun d s'=>d=.au s.length/\Sf s' s.length/\∃c,s'=s++[c]:=by
 obtain ⟨c,Y⟩:=Nh (ns:=ns) (s:=s) h0;have Z:∀s,nR (.int 10) (.int 18) s=ok (.int (10 ^ 18)) s:=fun s=>by
  have e:yH (.int 10) (.int 18)=some (.int (10 ^ 18)):=by
   show (if (decide ((0:Int)<=18)&&decide ((18:Int)<=1000000)&&decide ((10:Int).natAbs<2 ^ 64))=true then some (D.int (10 ^ (18:Int).toNat)) else none)=_
   rw [ä (by decide)];rfl
  simp only [nR,e,bL]
 unfold aO.ph;simp only [VC,Y,Z];by_cases h:(10:Int) ^ 18<=c
 ·rw [Þ h]
  simp only [VC,Z,Ċ];exact ⟨by decide,⟨_,true,by simp;rfl,by omega,fun z=>by cases z⟩,_,rfl⟩
 ·rw [ù h]
  simp only [VC,É,ĉ,ou _ (show (0:Int)<2147483647 by decide)];exact ⟨by decide,⟨_,false,by simp;rfl,VL _ (by decide),fun _=>ŧ _ (by decide)⟩,_,rfl⟩
def Nl {s:aa} {k n:Nat} (h:Sf s k) (hn:n<=8):Wp (aO.pk [.au k,.int n] s) fun d s'=>∃ns,d=mD ns/\bU n ns/\Sf s' k/\Ex k s s':=by
 unfold aO.pk;simp only [VC];refine WS (hX rfl (by omega)) ⟨by rw [jb];exact le_size (by omega),?_⟩;refine Wp.mono (Q:=fun T s'=>∃ns,T=ns.map D.int/\bU n ns/\Sf s' k/\Ex k s s') ?_ fun T O hx=>?_
 ·refine De (fun i Z s'=>∃ns:List Int,Z=ns.map D.int/\bU i ns/\Sf s' k/\Ex k s s') (di 0 n) ⟨[],rfl,⟨by simp,.nil⟩,h,Ex.refl _ _⟩ (fun i d Z s' X W=>?_) fun Z s' W=>?_
  ·obtain ⟨ns,rfl,Y,U,V⟩:=W
   rw [ix] at X;split at X
   ·cases X
    refine ⟨[some (.int (0+i)),some (.au k)],rfl,?_⟩;simp only [VC];refine (ei U (by decide) (by decide)).mono fun d N X=>?_;obtain ⟨r,rfl,M,L,S,R⟩:=X;simp only [VC];split
    ·refine ⟨ns++[0+(i:Int)],by simp,⟨fun x hx=>?_,?_⟩,S,V.trans R⟩
     ·rcases ð.mp hx with hx|hx
      ·have:=Y.lo x hx;omega
      ·rw [ý.mp hx];omega
     ·refine List.pairwise_append.mpr ⟨Y.up,by simp,fun x hx y P=>?_⟩
      rw [ý.mp P];have:=Y.lo x hx;omega
    ·exact ⟨ns,rfl,⟨fun x hx=>by have:=Y.lo x hx;omega,Y.up⟩,S,V.trans R⟩
   ·cases X
  ·rw [jb] at W
   exact W
 ·obtain ⟨ns,rfl,Y,U,V⟩:=hx
  exact WS rfl ⟨ns,rfl,Y,U,V⟩
def Ub {k:Int} {s:aa} (h0:0<=k) (h1:k<4):∃n:Nat,aE (.lst [.int 2,.int 3,.int 4,.int 8]) (.int k) s=ok (.int n) s/\n<=8:=by
 rcases (show k=0\/k=1\/k=2\/k=3 by omega) with rfl|rfl|rfl|rfl
 ·exact ⟨2,rfl,by decide⟩
 ·exact ⟨3,rfl,by decide⟩
 ·exact ⟨4,rfl,by decide⟩
 ·exact ⟨8,rfl,by decide⟩
def IV {ns:List Int} {s:aa} (h:ns.length<64):pf (mD ns) s=ok (.lst ((dA ns).map D.int)) s:=by
 unfold pf;simp only [Kb,Þ h,Ċ]
structure HI (s0:aa) (k rh:Nat) (rs:List (List Int)) (s:aa):Prop where
 st:Sf s k
 ex:Ex k s0 s
 run:s[rh]?=some (.lst (rs.map mD))
 fY:∀r∈rs,bU 8 r
 k1:k<s0.length
 r1:s0.length<=rh
def HI.draw {s0 s s':aa} {k rh:Nat} {rs:List (List Int)} (h:HI s0 k rh rs s) (g:Sf s' k) (x:Ex k s s'):HI s0 k rh rs s':=by
 have:=h.k1;have:=h.r1;exact ⟨g,h.ex.trans x,x.get h.run (by omega),h.fY,h.k1,h.r1⟩
def HI.push {s0 s:aa} {k rh:Nat} {rs:List (List Int)} {r:List Int} (h:HI s0 k rh rs s) (hr:bU 8 r):HI s0 k rh (rs++[r]) (s.set rh (.lst (rs.map mD++[mD r]))):=by
 have:=h.k1;have:=h.r1;refine ⟨h.st.set (by omega) _,h.ex.hi (by omega) _,?_,fun x hx=>?_,h.k1,h.r1⟩
 ·rw [å (Æ.mp h.run).1,Ś]
  rfl
 ·rcases ð.mp hx with hx|hx
  ·exact h.fY x hx
  ·rw [ý.mp hx];exact hr
def Uc {k i:Nat} {rs:List (List Int)} {s:aa} (h:s[k]?=some (.lst (rs.map mD))) (hi:i<rs.length):aE (.au k) (.int i) s=ok (mD (rs.getD i [])) s:=by
 unfold aE jT res;simp only [h];rw [wk (by rw [ç,getD_some (d:=[]) hi];rfl)];rfl
def Nm (L:List (List Int)):DI.cu (L.map mD)=true:=by
 induction L with
 |nil=>rfl
 |cons a r ih=>simp only [ï,DI.cu,lay,o7,ih,Ę]
def Qx {k:Nat} {rs:List (List Int)} {s:aa} (h:s[k]?=some (.lst (rs.map mD))):fM (.au k) (.lst []) s=ok (.bl (!rs.isEmpty)) s:=by
 have e1:res (.au k) s=.lst (rs.map mD):=by unfold res;simp only [h]
 have e:iG (.lst (rs.map mD)) (.lst [])=some rs.isEmpty:=by
  unfold iG;rw [í (show ¬ (kN (.lst _)&&kN (.lst _))=true from Ò),ä (by simp only [lay,Nm];simp [DI.cu,dep,cH])]
  cases rs<;>rfl
 unfold fM;rw [e1]
 show (match iG (.lst (rs.map mD)) (.lst []) with|some b=>ok (D.bl (!b)) s|none=>none)=_
 rw [e]
def RY {k:Nat} {rs:List (List Int)} {s:aa} (h:s[k]?=some (.lst (rs.map mD))):cI [.au k] s=ok (.int rs.length) s:=by
 unfold cI om res;simp only [h,Ì];rfl
def O3 {s:aa} {k:Nat} (h:Sf s k):Wp (aO.sH [.au k,.int 9] s) fun d s'=>∃rs,d=rD rs/\1<=rs.length/\GH rs/\Sf s' k/\Ex k s s':=by
 have A:=h.lt;unfold aO.sH;simp only [VC];refine (ei h (by decide) (by decide)).mono fun d s1 Z=>?_;obtain ⟨n,rfl,n0,n1,y,I⟩:=Z
 try simp only [VC]
 refine (ei y (by decide) (by decide)).mono fun d P Z=>?_;obtain ⟨way,rfl,x,w,v,H⟩:=Z
 try simp only [VC]
 refine ⟨by decide,?_⟩;have l1:=I.len;have l2:=H.len;have L:HI s k P.length [] (P++[.lst []]):=⟨v.app _,(I.trans H).trans (Ex.app _ _ _),by simp,by simp,A,by omega⟩;generalize hS:P++[.lst []]=S at L;generalize P.length=Y at L;refine WS (Dq (n:=(1+n).toNat) (s1:=S) (i:=1+n) (WT (by simp only [VC,V0])) (by omega) (by omega)) ?_;refine Wp.kD (fun i env s'=>∃rs V U R,rs.length=i/\HI s k Y rs s'/\env=[some (.au k),some (.int 9),some (.int (1+n)),some (.int way),some (.au Y),V,U,R]) _ ⟨[],_,_,_,rfl,L,rfl⟩ (fun i d env s' Z K=>?_) (fun env s' K=>?_)
 ·obtain ⟨rs,V,U,R,J,T,rfl⟩:=K
  rw [ix] at Z;split at Z
  ·rename_i hi
   cases Z;refine ⟨_,rfl,?_⟩;simp only [VC];refine ⟨by decide,?_⟩;obtain ⟨q,u,G⟩:=Ub (s:=s') x w;rw [u];simp only [VC];refine (Nl T.st G).mono fun d t Z=>?_;obtain ⟨F,rfl,Q,r,p⟩:=Z;have Q:=Q.Au G;have lm:=Q.len;have O:=T.draw r p;simp only [VC,Qx O.run];have fin:∀(m:List Int) (X:aa) (R:Option D),bU 8 m->HI s k Y rs X->kq (.au Y) X=true/\Wp (ko (.au Y) (mD m) X) fun _ o=>∃rs V U l,rs.length=i+1/\HI s k Y rs o/\([some (.au k),some (.int 9),some (.int (1+n)),some (.int way),some (.au Y),some (.int (0+(i:Int))),some (mD m),R]:Env)=[some (.au k),some (.int 9),some (.int (1+n)),some (.int way),some (.au Y),V,U,l]:=fun m X R g W=>by
    refine ⟨by unfold kq;simp only [W.run],?_⟩;refine WS (show ko (.au Y) (mD m) X=ok .ao (X.set Y (.lst (rs.map mD++[mD m]))) from ?_) ⟨rs++[m],_,_,_,by rw [Ý,J];rfl,W.push g,rfl⟩;unfold ko;have f:(rs.map mD).length<Ñ:=VH (show _<=1000000 by rw [Ì];omega) (by decide);simp only [W.run,Þ f,Ċ]
   refine ⟨Ć _,?_⟩;split
   ·rename_i E
    have e:rs≠[]:=by
     intro z;rw [z] at E;cases E
    have uu:=List.length_pos_iff.mpr e;refine (ei O.st (by decide) (by decide)).mono fun d c Z=>?_;obtain ⟨q1,rfl,_,_,b,a⟩:=Z;have N:=O.draw b a;simp only [VC];split
    ·rw [RY N.run]
     simp only [VC];refine (ei N.st (by omega) (by omega)).mono fun d s5 Z=>?_;obtain ⟨j,rfl,j0,j1,h5,V⟩:=Z;have W:=N.draw h5 V;obtain ⟨M,rfl⟩:=Int.eq_ofNat_of_zero_le j0;have C:M < rs.length:=by omega
     rw [Uc W.run C];simp only [VC];have go:bU 8 (rs.getD M []):=W.fY _ (ĭ (getD_some (d:=[]) C));have lo:=go.len;refine (ei W.st (by decide) (by decide)).mono fun d X Z=>?_;obtain ⟨q2,rfl,_,_,h6,U⟩:=Z;have B:=W.draw h6 U;simp only [VC];split
     ·refine WS (yN (by omega)) ?_
      refine WS (IV (by rw [Ý];omega)) ?_;refine WS (show dw [.lst ((dA (rs.getD M []++F)).map D.int)] X=ok (mD (dA (rs.getD M []++F))) X from rfl) ?_;exact fin _ X _ (KW go Q) B
     ·exact fin _ X _ go B
    ·exact fin _ c _ Q N
   ·simp only [É,ĉ]
    exact fin _ t _ Q O
  ·cases Z
 ·obtain ⟨rs,V,U,R,J,T,rfl⟩:=K
  rw [jb] at J;simp only [VC];refine WS (show dw [.au Y] s'=ok (rD rs) s' from ?_) ⟨rs,rfl,by omega,⟨by omega,T.fY⟩,T.st,T.ex⟩;unfold dw res;simp only [T.run]
structure Ft (n W:Nat) (d:D):Prop where
 pl:plain d=true
 sh:(py d).showable=true
 nd:(py d).hasDict=false
 dp:(py d).depth<=n
 wt:(py d).weight<=W
 lv:(py d).leavesShort 40=true
def yT (d:D):Bool:=plain d&&(py d).showable&&!(py d).hasDict&&decide ((py d).depth<=0)&&decide ((py d).weight<=110)&&(py d).leavesShort 40
def tN (h:yT d=true):Ft 0 110 d:=by
 unfold yT at h;simp only [È,Ü,ŵ] at h;obtain ⟨⟨⟨⟨⟨Z,Y⟩,X⟩,W⟩,V⟩,U⟩:=h;exact ⟨Z,Y,X,W,V,U⟩
def O4:∀n:Fin 62,yT (.int ((n.val:Int)-1))=true:=by decide +kernel
def ke (h1:-1<=n) (h2:n<=60):Ft 0 110 (.int n):=by
 refine tN ?_;have:=O4 ⟨(n+1).toNat,by omega⟩;have e2:(((n+1).toNat:Nat):Int)-1=n:=by omega
 rw [e2] at this;exact this
theorem xr:∀{ds:List D},(∀x∈ds,Ft n W x)->ji ds=true/\ő (bI ds)=true/\PyData.hasDictAll (bI ds)=false/\ě (bI ds)<=n/\Ţ (bI ds)<=ds.length*(W+1)/\V8 40 (bI ds)=true
 | [],_=>⟨rfl,rfl,rfl,Ć _,by simp [bI,Ţ],rfl⟩
 |x::Z,h=>by
  obtain ⟨z,a,b,c,d,e⟩:=xr (ds:=Z) fun y Y=>h y (Õ _ Y);have k:=h x Ö;refine ⟨?_,?_,?_,?_,?_,?_⟩
  ·simp only [ji,k.pl,z,Ę]
  ·simp only [bI,ő,k.sh,a,Ę]
  ·simp only [bI,PyData.hasDictAll,k.nd,b,Bool.or_self]
  ·simp only [bI,ě];have:=k.dp;omega
  ·simp only [bI,Ţ,ë]
   have:=k.wt;rw [Nat.add_mul];omega
  ·simp only [bI,V8,k.lv,e,Ę]
def jq (hl:ds.length<=c) (h:∀x∈ds,Ft n W x):Ft (n+1) (c*(W+1)) (.tup ds):=by
 obtain ⟨z,a,b,X,Z,Y⟩:=xr h;have hw:Ţ (bI ds)<=c*(W+1):=á Z (Wg _ hl);exact ⟨by simp only [plain];exact z,by simp only [py,ŭ];exact a,by simp only [py,θ];exact b,by simp only [py,PyData.depth];omega,by simp only [py,PyData.weight];exact hw,by simp only [py,WA];exact Y⟩
def EF (hl:ds.length<=c) (h:∀x∈ds,Ft n W x):Ft (n+1) (c*(W+1)) (.lst ds):=by
 obtain ⟨z,a,b,X,Z,Y⟩:=xr h;have hw:Ţ (bI ds)<=c*(W+1):=á Z (Wg _ hl);exact ⟨by simp only [plain];exact z,by simp only [py,ŭ];exact a,by simp only [py,θ];exact b,by simp only [py,PyData.depth];omega,by simp only [py,PyData.weight];exact hw,by simp only [py,WA];exact Y⟩
def ne_str:fM (.str x) (.str x) s=ok (.bl false) s:=by
 show (match iG (.str x) (.str x) with|some b=>ok (D.bl (!b)) s|none=>none)=_
 have e:iG (.str x) (.str x)=some true:=by
  unfold iG;rw [ä (show (kN (.str x)&&kN (.str x))=true from rfl)];simp [beq]
 rw [e];rfl
open TK
def qk {ds:List D} {r:Int} {s:aa} (h0:0<=r) (h1:r<ds.length):∃d∈ds,aE (.lst ds) (.int r) s=ok d s:=by
 obtain ⟨x,e,e2⟩:=Ey h0 h1;exact ⟨x,ĭ e2,by simp only [aE,jT,res,e,bL]⟩
def Hf {k:Int} {s:aa} (h0:0<=k) (h1:k<3):∃n:Nat,aE (.lst [.int 2,.int 4,.int 8]) (.int k) s=ok (.int n) s/\2<=n/\n<=8:=by
 obtain ⟨d,Z,e⟩:=qk (ds:=[.int 2,.int 4,.int 8]) (s:=s) h0 h1;simp only [Ð,ê,or_false] at Z
 rcases Z with rfl|rfl|rfl
 ·exact ⟨2,e,by decide,by decide⟩
 ·exact ⟨4,e,by decide,by decide⟩
 ·exact ⟨8,e,by decide,by decide⟩
def Ma {s:aa} {k n:Nat} (h:Sf s k):Wp (eh 1 [some (.au k)] (gN 0) dD (aG aO.bJ (ae (af 1) (ae (eC (.int 3)) ah))) (di 0 n) s) fun xs s'=>∃ns:List Int,xs=ns.map D.int/\ns.length=n/\Sf s' k/\Ex k s s':=by
 refine De (fun i Z s'=>∃ns:List Int,Z=ns.map D.int/\ns.length=i/\Sf s' k/\Ex k s s') (di 0 n) ⟨[],rfl,rfl,h,Ex.refl _ _⟩ (fun i d Z s' Y X=>?_) fun Z s' X=>?_
 ·obtain ⟨ns,rfl,W,V,U⟩:=X
  rw [ix] at Y;split at Y
  ·cases Y
   refine ⟨[some (.int (0+i)),some (.au k)],rfl,?_⟩;simp only [VC];refine WS (show dD _ s'=ok true s' from rfl) ?_;simp only [Ċ];refine (ei V (by decide) (by decide)).mono fun d R Y=>?_;obtain ⟨r,rfl,Q,P,T,S⟩:=Y;exact ⟨ns++[r],by simp,by rw [Ý,W];rfl,T,U.trans S⟩
  ·cases Y
 ·rw [jb] at X
  exact X
noncomputable def pick (ns:List Int) (c:Int) (n:Nat):List Int:=((Ă n).filter fun i=>decide (ns.getD i 0=c)).map fun i:Nat=>(i:Int)
def Ct (ns:List Int) (c:Int) (n:Nat):bU n (pick ns c n):=by
 refine ⟨fun x Z=>?_,?_⟩
 ·obtain ⟨i,hi,rfl⟩:=į.mp Z
  have:=Ĝ.mp (Vt.mp hi).1;omega
 ·unfold pick
  rw [List.pairwise_map];exact (List.pairwise_lt_range.filter _).imp fun h=>by omega
def Dw {ns:List Int} {c:Int} {s:aa}:eh 1 [some (.lst (ns.map D.int))] (gN 0) (aY (DI.e2 bH (DI.e2 aE (af 1) (af 0)) (eC (.int c)))) (af 0) (di 0 ns.length) s=ok ((pick ns c ns.length).map D.int) s:=by
 rw [Dv];have:=comp_map (nt:=1) (caps:=[some (.lst (ns.map D.int))]) (g:=gN 0) (t:=aY (DI.e2 bH (DI.e2 aE (af 1) (af 0)) (eC (.int c)))) (f:=af 0) (s:=s) (fun i:Nat=>D.int (0+(i:Int))) (fun i=>decide (ns.getD i 0=c)) (fun i:Nat=>D.int i) (Ă ns.length) fun i hi=>⟨[some (.int (0+(i:Int))),some (.lst (ns.map D.int))],rfl,?_,fun _=>?_⟩
 ·rw [this]
  unfold pick;rw [V6];rfl
 ·have hi:=Ĝ.mp hi
  rw [WB];refine WT ?_;simp only [VC];refine WS (show aE (.lst (ns.map D.int)) (.int i) s=ok (.int (ns.getD i 0)) s from ?_) ?_
  ·unfold aE jT res
   simp only [];rw [wk (by rw [ç,getD_some (d:=0) hi];rfl)];rfl
  ·simp only [VC]
   exact ⟨by rw [ń];simp,trivial⟩
 ·rw [WB];rfl
def Nn {s:aa} {k:Nat} (h:Sf s k):Wp (aO.sm [.au k] s) fun d s'=>∃a b,d=.tup [mD a,mD b]/\bU 8 a/\bU 8 b/\Sf s' k/\Ex k s s':=by
 unfold aO.sm;refine iH.symm ▸ ⟨rfl,WU fun R Y=>?_⟩;simp only [VC];refine ⟨by decide,?_⟩;refine (ei h (by decide) (by decide)).mono fun d V U=>?_;obtain ⟨r,rfl,T,S,Q,P⟩:=U;obtain ⟨n,e,K,W⟩:=Hf (s:=V) T S;refine WS e ?_;subst Y;refine WU fun R Y=>?_;simp only [VC];refine WS (hX (n:=n) rfl (by omega)) ⟨by rw [jb];exact le_size (by omega),?_⟩;refine (Ma Q).mono fun J X O=>?_;obtain ⟨Z,rfl,N,M,L⟩:=O;subst Y;subst N;refine WU fun R Y=>?_;simp only [VC];refine WS (hX (n:=Z.length) rfl (by omega)) ⟨by rw [jb];exact le_size (by omega),?_⟩;refine WS Dw ?_;refine WS (show dw [.lst ((pick Z 1 Z.length).map D.int)] X=ok (mD (pick Z 1 Z.length)) X from rfl) ?_;subst Y;simp only [VC];refine WS (hX (n:=Z.length) rfl (by omega)) ⟨by rw [jb];exact le_size (by omega),?_⟩;refine WS Dw ?_;refine WS (show dw [.lst ((pick Z 2 Z.length).map D.int)] X=ok (mD (pick Z 2 Z.length)) X from rfl) ?_;exact ⟨by decide,_,_,rfl,(Ct Z 1 _).Au W,(Ct Z 2 _).Au W,M,P.trans L⟩
def oV:Pg->Prop
 | .made m d h l=>(0<=m/\m<4)/\(0<=d/\d<31)/\bU 8 h/\bU 8 l
 | .iQ m d k=>(0<=m/\m<4)/\(0<=d/\d<31)/\0<=k/\k<8
def O5 {s:aa} {k:Nat} {n:Int} (h:Sf s k) (h0:0<n) (h1:n<=31):Wp (aO.sI [.au k,.int n] s) fun d s'=>∃p,d=p.d/\oV p/\Sf s' k/\Ex k s s':=by
 unfold aO.sI;refine iH.symm ▸ ⟨rfl,WU fun R X=>?_⟩;simp only [ï,Ŭ,Î,Nat.reduceSub,ÿ,Č,pH,fk,fq,gH,pX,jE,wp_call,dF,dG];refine (ei h (by decide) (by decide)).mono fun d B Z=>?_;obtain ⟨m,rfl,m0,K,g1,T⟩:=Z;refine ⟨le_size (n:=2) (by decide),?_⟩;refine (ei g1 (by decide) (by decide)).mono fun d J Z=>?_;obtain ⟨r,rfl,I,H,g2,S⟩:=Z;obtain ⟨d,Z,e⟩:=qk (ds:=[.int 0,.int m]) (s:=J) I H;refine WS e ?_;have W:∃Y:Int,d=.int Y/\0<=Y/\Y < 4:=by
  simp only [Ð,ê,or_false] at Z
  rcases Z with rfl|rfl
  ·exact ⟨0,rfl,by decide,by decide⟩
  ·exact ⟨m,rfl,m0,K⟩
 obtain ⟨Y,rfl,W⟩:=W;refine (ei g2 h0 (by omega)).mono fun d A Z=>?_;obtain ⟨y,rfl,Q,y1,g3,P⟩:=Z;refine ⟨_,_,rfl,?_⟩;simp only [Ď,ď,eR];subst X;refine WU fun R X=>?_;simp only [VC];refine (ei g3 (by decide) (by decide)).mono fun d x Z=>?_;obtain ⟨z,rfl,O,N,M,L⟩:=Z;simp only [VC];split
 ·refine ⟨by decide,?_⟩
  refine (ei M (by decide) (by decide)).mono fun d s5 Z=>?_;obtain ⟨z,rfl,O,N,V,U⟩:=Z;obtain ⟨n,e,w,v⟩:=Hf (s:=s5) O N;refine WS e ?_;refine (ei V (by omega) (by omega)).mono fun d u Z=>?_;obtain ⟨c,rfl,G,t,F,E⟩:=Z;refine ⟨by decide,?_⟩;subst X;exact ⟨.iQ Y y c,rfl,⟨W,⟨Q,by omega⟩,G,by omega⟩,F,((((T.trans S).trans P).trans L).trans U).trans E⟩
 ·subst X
  simp only [VC];refine (Nn M).mono fun d s5 Z=>?_;obtain ⟨a,b,rfl,D,C,V,U⟩:=Z;exact ⟨by decide,.made Y y a b,rfl,⟨W,⟨Q,by omega⟩,D,C⟩,V,(((T.trans S).trans P).trans L).trans U⟩
open DI.aO
def Kp (s s':aa):Prop:=s.length<=s'.length/\∀j,j<s.length->s'[j]?=s[j]?
def Kp.refl (s:aa):Kp s s:=⟨WV _,fun _ _=>rfl⟩
theorem Kp.trans {a b c:aa} (h:Kp a b) (g:Kp b c):Kp a c:=⟨á h.1 g.1,fun j Z=>(g.2 j (Å Z h.1)).trans (h.2 j Z)⟩
def Kp.app (s c:aa):Kp s (s++c):=⟨by simp,fun j Z=>Ú Z⟩
def Kp.get {s s':aa} (h:Kp s s') {k:Nat} {c:Cell} (e:s[k]?=some c):s'[k]?=some c:=by rw [h.2 k (Æ.mp e).1];exact e
def Kp.sf {s s':aa} {k:Nat} (h:Kp s s') (g:Sf s k):Sf s' k:=by
 obtain ⟨a,b,e,r⟩:=g;exact ⟨a,b,h.get e,r⟩
theorem Kp.set {s s':aa} (h:Kp s s') {j:Nat} (hj:s.length<=j) (c:Cell):Kp s (s'.set j c):=⟨by rw [ą];exact h.1,fun i hi=>by rw [â (by omega)];exact h.2 i hi⟩
def xt {x:Int} {ns:List Int} {d:D} {s:aa} (h:lq d s=some (ns.map D.int)):eD (.int x) d s=ok (.bl (decide (x∈ns))) s/\jc (.int x) d s=ok (.bl (!decide (x∈ns))) s:=by
 have Z:mw 100 (.int x) (ns.map D.int)=true:=by simp only [mw,lay,o7,dep,Ę,Ć,decide_true]
 have e:inD (.int x) (ns.map D.int)=some (decide (x∈ns)):=by unfold inD;rw [ä Z,Dt]
 unfold eD jc;rw [h];simp only [e];exact ⟨rfl,rfl⟩
def Dx {ds:List D} {j:Nat} {s:aa} (h:s[j]?=some (.lst ds)):lq (.au j) s=some ds:=by unfold lq res;simp only [h]
def wI {ds:List D} {x:D} {j:Nat} {s:aa} (h:s[j]?=some (.lst ds)) (hl:ds.length<=1000):kq (.au j) s=true/\ko (.au j) x s=ok .ao (s.set j (.lst (ds++[x]))):=by
 refine ⟨by simp only [kq,h],?_⟩;unfold ko;simp only [h,Þ (VH hl (show 1000<Ñ by decide)),Ċ]
section
variable {s:aa} {Q:Fl->aa->Prop} {e0 e1 e2 e3 e4 e5 e6 e7 e8:Option D}
def Cu {x:Int} {b:Bool}:cL (.lst [.int x]) (.int (if b then 1 else 0)) s=ok (.lst ((if b=true then [x] else []).map D.int)) s:=by
 cases b<;>rfl
def EG {a b:List Int} (h:a.length+b.length<=1000000):bO (.lst (a.map D.int)) (.lst (b.map D.int)) s=ok (.lst ((a++b).map D.int)) s:=by
 rw [RX (by simpa only [Ì] using h),Ś]
def one_le (x:Int) (b:Bool):(if b=true then [x] else []).length<=1:=by cases b<;>simp
def O6 {p:Pg} {m k:Int} {a b c:List Int} {j:Nat} (hj:s[j]?=some (.lst (c.map D.int))) (la:a.length<=900) (lb:b.length<=900) (lc:c.length<=900)
  (hQ:∀(a' b' c':List Int) s',a'.length<=a.length+1->b'.length<=b.length+1->c'.length<=c.length+1->s'[j]?=some (.lst (c'.map D.int))->(s'=s\/∃x,s'=s.set j x)->Q (.nx [e0,some (.int m),some (.int k),some (.lst (a'.map D.int)),some (.lst (b'.map D.int)),some (.au j),some p.d,e7,e8]) s') :
  Wp (u5 [e0,some (.int m),some (.int k),some (.lst (a.map D.int)),some (.lst (b.map D.int)),some (.au j),some p.d,e7,e8] s) Q:=by
 unfold u5
 cases p with
 |iQ Y Z V =>
  refine WU fun R U=>?_;simp only [VC,Pg.d];refine WS (show aE (.tup [.str "mended",.int Y,.int Z,.int V]) (.int 0) s=ok (.str "mended") s from rfl) ?_;refine WS (show bH (.str "mended") (.str "mended") s=ok (.bl true) s from rfl) ?_;simp only [VC,Ċ];refine WS (show aE (.tup [.str "mended",.int Y,.int Z,.int V]) (.int 1) s=ok (.int Y) s from rfl) ?_;have rest:∀(c':List Int) s',c'.length<=c.length+1->s'[j]?=some (.lst (c'.map D.int))->(s'=s\/∃x,s'=s.set j x)->lW R Q (.nx [e0,some (.int m),some (.int k),some (.lst (a.map D.int)),some (.lst (b.map D.int)),some (.au j),some (.tup [.str "mended",.int Y,.int Z,.int V]),e7,e8]) s':=fun c' s' T e x=>by
   rw [eR];subst U;simp only [VC];refine WS (show aE (.tup [.str "mended",.int Y,.int Z,.int V]) (.int 0) s'=ok (.str "mended") s' from rfl) ?_;refine WS (show bH (.str "mended") (.str "made") s'=ok (.bl false) s' from rfl) ?_;simp only [VC,É,ĉ];exact hQ a b c' s' (by omega) (by omega) T e x
  simp only [VC];split
  ·refine WS (show aE (.tup [.str "mended",.int Y,.int Z,.int V]) (.int 3) s=ok (.int V) s from rfl) ?_
   simp only [VC];split
   ·obtain ⟨S,P⟩:=wI (x:=.int Z) hj (by rw [Ì];omega)
    refine ⟨S,?_⟩;refine WS (show aE (.tup [.str "mended",.int Y,.int Z,.int V]) (.int 2) s=ok (.int Z) s from rfl) ?_;refine WS P (rest (c++[Z]) _ (by rw [Ý];exact WV _) ?_ (.inr ⟨_,rfl⟩));rw [å (Æ.mp hj).1];simp
   ·exact rest c s (by omega) hj (.inl rfl)
  ·simp only [É,ĉ]
   exact rest c s (by omega) hj (.inl rfl)
 |made Y Z X W =>
  refine WU fun R U=>?_;simp only [VC,Pg.d];refine WS (show aE (.tup [.str "made",.int Y,.int Z,.tup [ti X,ti W]]) (.int 0) s=ok (.str "made") s from rfl) ?_;refine WS (show bH (.str "made") (.str "mended") s=ok (.bl false) s from rfl) ?_;simp only [VC,É,ĉ];subst U;simp only [VC];refine WS (show aE (.tup [.str "made",.int Y,.int Z,.tup [ti X,ti W]]) (.int 0) s=ok (.str "made") s from rfl) ?_;refine WS (show bH (.str "made") (.str "made") s=ok (.bl true) s from rfl) ?_;simp only [VC,Ċ];refine WS (show aE (.tup [.str "made",.int Y,.int Z,.tup [ti X,ti W]]) (.int 1) s=ok (.int Y) s from rfl) ?_;simp only [VC];split
  ·refine WS (show aE (.tup [.str "made",.int Y,.int Z,.tup [ti X,ti W]]) (.int 2) s=ok (.int Z) s from rfl) ?_
   refine ⟨by decide,?_⟩;refine WS (show aE (.tup [.str "made",.int Y,.int Z,.tup [ti X,ti W]]) (.int 3) s=ok (.tup [ti X,ti W]) s from rfl) ?_;refine WS (show aE (.tup [ti X,ti W]) (.int 0) s=ok (ti X) s from rfl) ?_;refine WS (Du (ns:=X)) ?_
   refine WS (show ot [.bl (decide (k∈X))] s=ok (.int (if decide (k∈X) then 1 else 0)) s from rfl) ?_
   refine WS Cu ?_;have O:=one_le Z (decide (k∈X));have N:=one_le Z (decide (k∈W));refine WS (EG (by omega)) ?_;refine WS (show aE (.tup [.str "made",.int Y,.int Z,.tup [ti X,ti W]]) (.int 2) s=ok (.int Z) s from rfl) ?_;refine ⟨by decide,?_⟩;refine WS (show aE (.tup [.str "made",.int Y,.int Z,.tup [ti X,ti W]]) (.int 3) s=ok (.tup [ti X,ti W]) s from rfl) ?_;refine WS (show aE (.tup [ti X,ti W]) (.int 1) s=ok (ti W) s from rfl) ?_;refine WS (Du (ns:=W)) ?_
   refine WS (show ot [.bl (decide (k∈W))] s=ok (.int (if decide (k∈W) then 1 else 0)) s from rfl) ?_
   refine WS Cu ?_;refine WS (EG (by omega)) ?_;exact hQ _ _ c s (by rw [Ý];omega) (by rw [Ý];omega) (by omega) hj (.inl rfl)
  ·exact hQ a b c s (by omega) (by omega) (by omega) hj (.inl rfl)
def O7 {a b c:List Int} {j:Nat} {y:Int} {t:Bool} (hj:s[j]?=some (.lst (c.map D.int)))
  (hR:Q (.rt (.bl false)) s) (hQ:∀t',Q (.nx [e0,e1,e2,some (.lst (a.map D.int)),some (.lst (b.map D.int)),some (.au j),e6,some (.bl t'),some (.int y)]) s) :
  Wp (u6 [e0,e1,e2,some (.lst (a.map D.int)),some (.lst (b.map D.int)),some (.au j),e6,some (.bl t),some (.int y)] s) Q:=by
 have Y:=xt (x:=y) (Dx hj);have X:=xt (x:=y) (d:=.lst (a.map D.int)) (s:=s) (ns:=a) rfl;have V:=xt (x:=y) (d:=.lst (b.map D.int)) (s:=s) (ns:=b) rfl;have fin:∀(R:WR Fl) (t':Bool),R=bA (dJ (cQ (af 7)) (aY (DI.e2 eD (af 8) (af 4)))) (aP (eC (.bl false))) bK->lW R Q (.nx [e0,e1,e2,some (.lst (a.map D.int)),some (.lst (b.map D.int)),some (.au j),e6,some (.bl t'),some (.int y)]) s:=fun R t' Z=>by
  rw [eR];subst Z;simp only [mi,pG,sW,dF,dG,sJ,lh,gH,V.1,br,kY]
  cases t' with
  |false=>simp only [É,ĉ,jd];exact hQ false
  |true =>
   simp only [Ċ];split
   ·simp only [nG,jE];exact hR
   ·simp only [jd];exact hQ true
 unfold u6;refine WU fun R Z=>?_;simp only [mi,pG,dF,dG,lh,gH,Y.1,X.1,br,kY]
 have next:lW R Q (.nx [e0,e1,e2,some (.lst (a.map D.int)),some (.lst (b.map D.int)),some (.au j),e6,some (.bl t),some (.int y)]) s:=by
  rw [eR];subst Z;refine WU fun R Z=>?_;simp only [VC,kZ,mz,gH,dF,dG,X.1,Y.2,br,Ď,ď];split
  ·exact fin R _ Z
  ·cases t
   ·simp only [VC,É,ĉ];exact fin R _ Z
   ·simp only [VC,Ċ,Y.2];exact fin R _ Z
 by_cases W:y∈c
 ·rw [Þ W,ä rfl]
  split
  ·simp only [nG,jE,xo];exact hR
  ·simp only [jd];exact next
 ·rw [ù W,í Ò]
  simp only [É,ĉ,jd]
  exact next
def KY {ps:List Pg} {m k:Int} (hl:ps.length<=100):Wp (rL [.lst (ps.map Pg.d),.int m,.int k] s) fun d s'=>(∃b,d=.bl b)/\Kp s s':=by
 unfold rL;refine iH.symm ▸ ⟨rfl,WU fun R Z=>?_⟩;refine WS (show uk 3 4 5 (ae (cC ah) (ae (cC ah) (ae (eNew ah) ah))) _ s=ok (.nx [some (.lst (ps.map Pg.d)),some (.int m),some (.int k),some (.lst []),some (.lst []),some (.au s.length),none,none,none]) (s++[.lst []]) from rfl) ?_;rw [eR];subst Z;refine WU fun R Z=>?_;rw [je];refine WS (L7 rfl) ?_;have T:=Kp.app s [.lst []];have Q:(s++[Cell.lst []])[s.length]?=some (.lst (([]:List Int).map D.int)):=by simp
 generalize s++[Cell.lst []]=S at T Q;refine Wp.kD (fun i env s'=>∃(a b c:List Int) (e6:Option D),env=[some (.lst (ps.map Pg.d)),some (.int m),some (.int k),some (.lst (a.map D.int)),some (.lst (b.map D.int)),some (.au s.length),e6,none,none]/\a.length<=i/\b.length<=i/\c.length<=i/\s'[s.length]?=some (.lst (c.map D.int))/\Kp s s') _ ⟨[],[],[],_,rfl,WV _,WV _,WV _,Q,T⟩ (fun i d env s' Y X=>?_) (fun env s' X=>?_)
 ·obtain ⟨a,b,c,e6,rfl,P,O,lc,U,W⟩:=X
  rw [ç] at Y;obtain ⟨p,N,rfl⟩:=Option.map_eq_some_iff.mp Y;have hi:=(Æ.mp N).1;refine ⟨_,rfl,?_⟩;refine O6 U (by omega) (by omega) (by omega) fun M L K V H G F J I=>⟨M,L,K,_,rfl,by omega,by omega,by omega,J,?_⟩
  rcases I with rfl | ⟨x,rfl⟩
  ·exact W
  ·exact W.set (WV _) _
 obtain ⟨a,b,c,e6,rfl,P,O,lc,U,W⟩:=X;subst Z;refine WU fun R Z=>?_;simp only [kZ,mz,jE,Ď,ď,eR];subst Z;refine WU fun R Z=>?_;rw [je];refine WS (hX (n:=31) rfl (by decide)) ?_;refine Wp.kD (fun i env V=>V=s'/\∃t e8,env=[some (.lst (ps.map Pg.d)),some (.int m),some (.int k),some (.lst (a.map D.int)),some (.lst (b.map D.int)),some (.au s.length),e6,some (.bl t),e8]) _ ⟨rfl,_,_,rfl⟩ (fun i d env V Y X=>?_) (fun env V X=>?_)
 ·obtain ⟨rfl,t,e8,rfl⟩:=X
  rw [ix] at Y;split at Y
  ·cases Y
   refine ⟨_,rfl,?_⟩;refine O7 U ?_ fun E=>⟨rfl,_,_,rfl⟩;subst Z;exact ⟨⟨_,rfl⟩,W⟩
  ·cases Y
 ·obtain ⟨rfl,t,e8,rfl⟩:=X
  subst Z;simp only [VC];exact ⟨⟨_,rfl⟩,W⟩
end
section
variable {s:aa} {Q:Fl->aa->Prop} {e0 e1 e2 e3 e4 e5 e6 e7 e8:Option D}
def RZ {ps:List Pg} (hl:ps.length<=100):Wp (rT [.lst (ps.map Pg.d)] s) fun d s'=>(∃b,d=.bl b)/\Kp s s':=by
 unfold rT;refine iH.symm ▸ ⟨rfl,WU fun R W=>?_⟩;simp only [VC];refine WS (show cI [.lst (ps.map Pg.d)] s=ok (.int ps.length) s from by show ok (D.int ((ps.map Pg.d).length:Nat)) s=_;rw [Ì]) ?_;simp only [VC];split
 ·exact ⟨⟨_,rfl⟩,Kp.refl s⟩
 ·subst W
  refine WU fun R W=>?_;rw [je];refine WS (hX (n:=4) rfl (by decide)) ?_;refine Wp.kD (fun i env s'=>Kp s s'/\∃e1 e2,env=[some (.lst (ps.map Pg.d)),e1,e2]) _ ⟨Kp.refl s,_,_,rfl⟩ (fun i d env s' Z X=>?_) (fun env s' X=>?_)
  ·obtain ⟨Y,e1,e2,rfl⟩:=X
   rw [ix] at Z;split at Z
   ·cases Z
    refine ⟨_,rfl,?_⟩;unfold Br;rw [je];refine WS (hX (n:=8) rfl (by decide)) ?_;refine Wp.kD (fun U env s'=>Kp s s'/\∃e2,env=[some (.lst (ps.map Pg.d)),some (.int (0+(i:Int))),e2]) _ ⟨Y,_,rfl⟩ (fun U d env T Z X=>?_) (fun env T X=>?_)
    ·obtain ⟨Y,e2,rfl⟩:=X
     rw [ix] at Z;split at Z
     ·cases Z
      refine ⟨_,rfl,?_⟩;unfold Bq;simp only [VC];refine (KY hl).mono fun d S Z=>?_;obtain ⟨⟨b,rfl⟩,V⟩:=Z;simp only [VC];split
      ·subst W
       exact ⟨⟨_,rfl⟩,Y.trans V⟩
      ·exact ⟨Y.trans V,_,rfl⟩
     ·cases Z
    ·obtain ⟨Y,e2,rfl⟩:=X
     exact ⟨Y,_,_,rfl⟩
   ·cases Z
  ·obtain ⟨Y,e1,e2,rfl⟩:=X
   subst W;simp only [VC];exact ⟨⟨_,rfl⟩,Y⟩
def EH (p:Pg):lay p.d=true:=by
 have Z:ω "made"=true:=by decide +kernel
 have Y:ω "mended"=true:=by decide +kernel
 cases p with
 |made m d a b=>simp only [Pg.d,lay,DI.cu,ti,o7,Z,Ę]
 |iQ m d k=>simp only [Pg.d,lay,DI.cu,Y,Ę]
def Mb (ps:List Pg):DI.cu (ps.map Pg.d)=true:=by
 induction ps with
 |nil=>rfl
 |cons p r ih=>simp only [ï,DI.cu,EH,ih,Ę]
def KZ {ps:List Pg} {p:Pg} {j:Nat} (h:s[j]?=some (.lst (ps.map Pg.d))):∃b,jc p.d (.au j) s=ok (.bl b) s:=by
 unfold jc;rw [Dx h];unfold inD;simp only [];have Z:=Ec p;rw [ä (by unfold mw;rw [Mb,EH,Þ (show dep p.d<=100 by omega)];rfl)];exact ⟨_,rfl⟩
def O8 {k:Nat} {n:Int} (h:Sf s k) (h0:0<=n) (h1:n<=8):Wp (aO.pF [.au k,.int n] s) fun d s'=>∃ps:List Pg,d=.tup (ps.map Pg.d)/\ps.length<=8/\(∀p∈ps,oV p)/\Sf s' k/\Ex k s s':=by
 have o:=h.lt;unfold aO.pF;refine iH.symm ▸ ⟨rfl,WU fun R Y=>?_⟩;simp only [ï,Ŭ,Î,Nat.reduceSub,ÿ,Č,pH,fk,fq,xm,gH,pX,jE,wp_call,dF,dG];refine ⟨le_size (n:=0) (by decide),le_size (n:=3) (by decide),?_⟩;refine (ei (h.app _) (by decide) (by decide)).mono fun d s1 Z=>?_;obtain ⟨r,rfl,G,F,g1,L⟩:=Z;obtain ⟨d,Z,e⟩:=qk (ds:=[.int 31,.int 6,.int 12]) (s:=s1) G F;refine WS e ?_;have E:∃y:Int,d=.int y/\0<y/\y<=31:=by
  simp only [Ð,ê,or_false] at Z
  rcases Z with rfl|rfl|rfl
  ·exact ⟨31,rfl,by decide,by decide⟩
  ·exact ⟨6,rfl,by decide,by decide⟩
  ·exact ⟨12,rfl,by decide,by decide⟩
 obtain ⟨y,rfl,C,y1⟩:=E;refine ⟨_,_,rfl,?_⟩;simp only [Ď,ď,eR];have T:s.length≠k:=by omega
 have B:s1[s.length]?=some (.lst (([]:List Pg).map Pg.d)):=L.get (by simp) T;have A:Ex k s s1:=(Ex.app k s _).trans L;subst Y;refine WU fun R Y=>?_;rw [je];refine WS (Dq (n:=n.toNat) (s1:=s1) (i:=n) (WT (by simp only [VC,V0])) (by omega) (by omega)) ?_;refine Wp.kD (fun i env s'=>∃(ps:List Pg) (e4 e5:Option D),env=[some (.au k),some (.int n),some (.au s.length),some (.int y),e4,e5]/\ps.length<=i/\(∀p∈ps,oV p)/\s'[s.length]?=some (.lst (ps.map Pg.d))/\Sf s' k/\Ex k s s') _ ⟨[],_,_,rfl,WV _,fun _ z=>(ê z).elim,B,g1,A⟩ (fun i d env s' Z S=>?_) (fun env s' S=>?_)
 ·obtain ⟨ps,e4,e5,rfl,Q,X,P,g2,O⟩:=S
  rw [ix] at Z;split at Z
  ·rename_i hi
   cases Z;refine ⟨_,rfl,?_⟩;unfold Co;refine WU fun R Y=>?_;simp only [kZ,mz,wp_call,fk,fq,dF,dG,Ď,ď];refine (O5 g2 C y1).mono fun d W Z=>?_;obtain ⟨p,rfl,w,g3,K⟩:=Z;have V:=K.get P T;have J:=O.trans K;rw [eR];subst Y;obtain ⟨b,v⟩:=KZ (p:=p) V;simp only [mi,pG,lh,gH,dF,dG,v,br,kY];split
   ·simp only [sW,wp_call,fk,fq,gH,pX,dF,dG]
    refine ⟨le_size (n:=1) (by decide),?_⟩;refine WS (show bO (.au s.length) (.lst [p.d]) W=ok (.lst ((ps++[p]).map Pg.d)) W from ?_) ?_
    ·unfold bO
     have e:res (.au s.length) W=.lst (ps.map Pg.d):=by unfold res;simp only [V]
     rw [e];have u:gr (ps.map Pg.d) [p.d]=true:=Þ (le_size (by rw [Ì,ë,õ];omega))
     show bL (if gr (ps.map Pg.d) [p.d]=true then some (D.lst (ps.map Pg.d++[p.d])) else none) W=_
     rw [ä u,Ś];rfl
    ·refine (RZ (by rw [Ý,ë,õ];omega)).mono fun d t Z=>?_
     obtain ⟨⟨b,rfl⟩,U⟩:=Z;have N:=U.get V;have I:=U.sf g3;have H:Ex k s t:=J.trans ⟨U.1,fun i hi _=>U.2 i hi⟩;simp only [sJ];split
     ·simp only [sv,sX,dF,dG]
      obtain ⟨a1,a2⟩:=wI (x:=p.d) N (by rw [Ì];omega);refine ⟨a1,?_⟩;refine WS a2 ?_;refine ⟨ps++[p],_,_,rfl,by rw [Ý];exact Nat.succ_le_succ Q,fun q M=>?_,?_,I.set T _,H.hi (WV _) _⟩
      ·rcases ð.mp M with z|z
       ·exact X q z
       ·rw [ý.mp z];exact w
      ·rw [å (Æ.mp N).1,Ś]
       rfl
     ·simp only [jd]
      exact ⟨ps,_,_,rfl,by omega,X,N,I,H⟩
   ·simp only [É,ĉ,jd]
    exact ⟨ps,_,_,rfl,by omega,X,V,g3,J⟩
  ·cases Z
 ·obtain ⟨ps,e4,e5,rfl,Q,X,P,g2,O⟩:=S
  rw [jb] at Q;subst Y;rw [eR];simp only [nG,my,fk,fq,dF,dG];refine WS (show nL [.au s.length] s'=ok (.lst ((ST.jx jW ps).map Pg.d)) s' from ?_) ?_
  ·unfold nL
   have e:res (.au s.length) s'=.lst (ps.map Pg.d):=by unfold res;simp only [P]
   simp only [e];rw [ä (by rw [Ì];omega),Cj];rfl
  ·refine WS (show dw [.lst ((ST.jx jW ps).map Pg.d)] s'=ok (.tup ((ST.jx jW ps).map Pg.d)) s' from rfl) ?_
   exact ⟨_,rfl,by rw [(ST.vt ps).length_eq];omega,fun p M=>X p ((ST.vt ps).mem_iff.mp M),g2,O⟩
end
section
variable {s:aa}
def Dy {ps:List (D×Bool)} (hp:∀p∈ps,j3 [p.1] s=ok (.bl p.2) s) (hx:∃p∈ps,p.2=false) (hl:ps.length<=100):iq [.tup (ps.map Prod.fst),.int 9] s=ok (.bl false) s:=by
 refine WT ?_;unfold iq;simp only [VC];refine WS (show gu [.tup (ps.map Prod.fst),.ty "tuple"] s=ok (.bl true) s from rfl) ?_;simp only [VC,Ċ];refine WS (show cI [.tup (ps.map Prod.fst)] s=ok (.int (ps.map Prod.fst).length) s from rfl) ?_;rw [Ì];simp only [VC];have all:Wp (cK 1 [] (dQ (af 0)) (gN 0) dD (aG j3 (ae (af 0) ah)) [some (.tup (ps.map Prod.fst)),some (.int 9)] s) fun x Z=>Wp (kn [x] Z) fun d Y=>d=.bl false/\Y=s:=by
  rw [pI];refine WS (v9 rfl) ⟨le_size (by rw [Ì];omega),?_⟩;refine WS (comp_map Prod.fst (fun _=>true) (fun p=>.bl p.2) ps fun p X=>⟨[some p.1],rfl,rfl,fun _=>?_⟩) ?_
  ·refine WT ?_
   simp only [VC];exact WS (hp p X) ⟨rfl,rfl⟩
  ·rw [filter_tt]
   refine WS (wH (fun p:D×Bool=>p.2) _ _) ⟨?_,rfl⟩;obtain ⟨p,W,V⟩:=hx;congr 1;rw [List.all_eq_false];exact ⟨p,W,by rw [V];exact Ò⟩
 simp only [pI] at all;by_cases e1:(1:Int)<=ps.length
 ·rw [Þ e1]
  simp only [VC,Ċ];by_cases e2:(ps.length:Int)<=9
  ·rw [Þ e2]
   simp only [VC,Ċ];exact all
  ·rw [ù e2]
   simp only [VC,É,ĉ,V0]
 ·rw [ù e1]
  simp only [VC,É,ĉ,V0]
def K0 {ds:List D} (hl:9<ds.length):iq [.tup ds,.int 9] s=ok (.bl false) s:=by
 refine WT ?_;unfold iq;simp only [VC];refine WS (show gu [.tup ds,.ty "tuple"] s=ok (.bl true) s from rfl) ?_;simp only [VC,Ċ];refine WS (show cI [.tup ds] s=ok (.int ds.length) s from rfl) ?_;simp only [VC];rw [Þ (show (1:Int)<=ds.length by omega)];simp only [VC,Ċ];rw [ù (show ¬ (ds.length:Int)<=9 by omega)];simp only [VC,É,ĉ,V0]
def lK (rs:List (List Int)):List D:=[.tup [],.lst (rs.map mD),.tup (Î 10 (rs.map mD)).flatten,.tup (rs.map mD++[.ao]),.tup (rs.map mD++[.tup [.int 8]]),.tup [.tup [.int 1,.int 0]],.tup [.tup [.int 0,.int 0]],.tup [.tup [.bl true]],.ao,.bq [],.str "0"] ++
 [.tup [.lst [.int 0]],.tup [.int 0],.tup [.tup [.int (-1)]],.tup [.tup [.str "0"]],.tup ((rs.getD 0 []).map D.int++[.int 9]),.int 0,.bl true,.tup (Î 10 [.tup []]).flatten]
def BY {rs:List (List Int)} (g:GH rs) {x:D} (hx:j3 [x] s=ok (.bl false) s):iq [.tup (rs.map mD++[x]),.int 9] s=ok (.bl false) s:=by
 have hi:=g.hi;have:=Dy (s:=s) (ps:=rs.map (fun r=>(mD r,true))++[(x,false)]) (fun p Z=>?_) ⟨_,Í _ (ý.mpr rfl),rfl⟩ (by rw [Ý,Ì,ë,õ];omega)
 ·rw [Ś,V6] at this
  exact this
 ·rcases ð.mp Z with z|z
  ·obtain ⟨r,Y,rfl⟩:=į.mp z
   exact JO (g.fY r Y)
  ·rw [ý.mp z];exact hx
def Np {rs:List (List Int)} (g:GH rs) (h1:1<=rs.length) {d:D} (hd:d∈lK rs):iq [d,.int 9] s=ok (.bl false) s:=by
 have hi:=g.hi;simp only [lK,ÿ,Č,Ð,ê,or_false] at hd
 rcases hd with rfl|rfl|rfl|rfl|rfl|rfl|rfl|rfl|rfl|rfl|rfl|rfl|rfl|rfl|rfl|rfl|rfl|rfl|rfl
 ·kernel_rfl
 ·kernel_rfl
 ·refine K0 ?_
  rw [List.length_flatten,List.map_replicate,Ì];simp only [List.sum_replicate_nat];omega
 ·exact BY g (by kernel_rfl)
 ·exact BY g (by kernel_rfl)
 ·kernel_rfl
 ·kernel_rfl
 ·kernel_rfl
 ·kernel_rfl
 ·kernel_rfl
 ·kernel_rfl
 ·kernel_rfl
 ·kernel_rfl
 ·kernel_rfl
 ·kernel_rfl
 ·have Z:=(g.fY _ (ĭ (getD_some (d:=[]) h1))).len
  generalize rs.getD 0 []=m at Z;have:=Dy (s:=s) (ps:=(m++[9]).map fun n=>(D.int n,false)) (fun p Y=>?_) ⟨_,į.mpr ⟨9,by simp,rfl⟩,rfl⟩ (by rw [Ì,Ý,ë,õ];omega)
  ·rw [V6] at this
   have e:List.map (Prod.fst ∘ fun n=>(D.int n,false)) (m++[9])=m.map D.int++[.int 9]:=by simp [Function.comp_def]
   rw [e] at this;exact this
  ·obtain ⟨n,_,rfl⟩:=į.mp Y
   rfl
 ·kernel_rfl
 ·kernel_rfl
 ·kernel_rfl
noncomputable abbrev rG:D:=.tup [.str "made",.int 1,.int 3,.tup [.tup [.int 2],.tup []]]
noncomputable abbrev Hj:D:=.tup [.str "made",.int 1,.int 5,.tup [.tup [],.tup [.int 2]]]
noncomputable abbrev il (m d k:Int):D:=.tup [.str "mended",.int m,.int d,.int k]
def cW (ps:List Pg):List D:=[.lst (ps.map Pg.d),.tup [.tup (ps.map Pg.d),.tup (ps.map Pg.d)],.ao,.bq [],.str "",.tup [.ao],.tup [Hj,rG],.tup [rG,Hj],.tup [rG,rG]]++[.tup [rG,il 1 3 2],.tup [il 0 0 8],.tup [il 0 1 0,il 0 0 0]] ++
 [.tup [.tup [.str "made",.int 0,.int 4,.tup [.tup [.int 0],.tup []]],.tup [.str "made",.int 0,.int 4,.tup [.tup [],.tup [.int 0]]]],.tup [il 0 31 0]]++[.tup ((Ă 25).map fun i:Nat=>il 0 i 0)]
def Nq {ps:List Pg}:kT [.tup (ps.map Pg.d)] s=ok (.bl false) s:=by
 match ps with
 | []=>kernel_rfl
 | [p]=>rfl
 | [p,q]=>rfl
 | [p,q,r]=>rfl
 | [p,q,r,t]=>cases q<;>rfl
 |p::q::r::t::u::v =>
  refine WT ?_;unfold kT;refine iH.symm ▸ ⟨rfl,WU fun R Z=>?_⟩;simp only [VC];refine WS (show gu [.tup ((p::q::r::t::u::v).map Pg.d),.ty "tuple"] s=ok (.bl true) s from rfl) ?_;simp only [VC,Ő,É,ĉ];refine WS (show cI [.tup ((p::q::r::t::u::v).map Pg.d)] s=ok (.int (v.length+5:Nat)) s from by show ok (D.int ((List.map Pg.d _).length:Nat)) s=_;rw [Ì];rfl) ?_;simp only [VC];rw [show ((((v.length+5:Nat):Int))==4)=false from beq_eq_false_iff_ne.mpr (by omega)];simp only [VC,Bool.not_false,Ċ,V0]
end
section
variable {s:aa}
def Mc {d:D} (h:kT [d] s=ok (.bl false) s):oX [.tup [d,d]] s=ok (.bl false) s:=by
 refine WT ?_;unfold oX;simp only [VC];refine WS (show gu [.tup [d,d],.ty "tuple"] s=ok (.bl true) s from rfl) ?_;simp only [VC,Ċ];refine WS (show cI [.tup [d,d]] s=ok (.int 2) s from rfl) ?_;simp only [VC];rw [Þ (show (2:Int)<=24 by decide)];simp only [VC,Ċ];refine WS (v9 rfl) ⟨le_size (n:=2) (by decide),?_⟩;refine WS (show eh 1 _ (gN 0) dD (aG kT (ae (af 0) ah)) [d,d] s=ok [.bl false,.bl false] s from ?_) ?_
 ·have e:aG kT (ae (af 0) ah) [some d] s=ok (.bl false) s:=by
   refine WT ?_;simp only [VC];exact WS h ⟨rfl,rfl⟩
  have:=comp_map (nt:=1) (caps:=[]) (g:=gN 0) (t:=dD) (f:=aG kT (ae (af 0) ah)) (s:=s) (fun _:Unit=>d) (fun _=>true) (fun _=>D.bl false) [(),()] fun _ _=>⟨[some d],rfl,rfl,fun _=>e⟩;exact this
 ·refine WS (show kn [.lst [.bl false,.bl false]] s=ok (.bl false) s from rfl) ?_
  simp only [VC,É,ĉ,V0]
def O9 {d:D} (h:oX [d] s=ok (.bl false) s):kU [d] s=ok (.bl false) s:=by
 refine WT ?_;unfold kU;simp only [VC];refine WS h ?_;simp only [VC,É,ĉ,V0]
def Nr {ps:List Pg} {d:D} (hd:d∈cW ps):kU [d] s=ok (.bl false) s:=by
 simp only [cW,ÿ,Č,Ł,Ð,ê,or_false] at hd
 rcases hd with rfl|rfl|rfl|rfl|rfl|rfl|rfl|rfl|rfl|rfl|rfl|rfl|rfl|rfl|rfl
 ·kernel_rfl
 ·exact O9 (Mc Nq)
 all_goals kernel_rfl
structure Fa (d:D):Prop where
 pl:plain d=true
 sh:(py d).showable=true
 dp:(py d).depth<=50
 wt:(py d).weight<=120000
 lv:(py d).leavesShort 40=true
def Hk (d:D):Bool:=plain d&&(py d).showable&&decide ((py d).depth<=50)&&decide ((py d).weight<=120000)&&(py d).leavesShort 40
def fH {d:D} (h:Hk d=true):Fa d:=by
 unfold Hk at h;simp only [È,Ü] at h;obtain ⟨⟨⟨⟨Z,Y⟩,X⟩,W⟩,V⟩:=h;exact ⟨Z,Y,X,W,V⟩
def nY {n W:Nat} {d:D} (h:Ft n W d) (hn:n<=50) (hw:W<=120000):Fa d:=⟨h.pl,h.sh,á h.dp hn,á h.wt hw,h.lv⟩
def nH {n n' W W':Nat} {d:D} (h:Ft n W d) (h1:n<=n') (h2:W<=W'):Ft n' W' d:=⟨h.pl,h.sh,h.nd,á h.dp h1,á h.wt h2,h.lv⟩
def xu {ns:List Int} (h:bU 8 ns):Ft 1 888 (mD ns):=jq (n:=0) (W:=110) (c:=8) (ds:=ns.map D.int) (by rw [Ì];exact h.len) fun x Z=>by
 obtain ⟨n,Y,rfl⟩:=į.mp Z;have:=h.lo n Y;exact ke (by omega) (by omega)
def Qy {p:Pg} (h:oV p):Ft 3 7116 p.d:=by
 have Y:Ft 0 110 (.str "made"):=tN (by decide +kernel);have X:Ft 0 110 (.str "mended"):=tN (by decide +kernel)
 cases p with
 |made m d a b =>
  obtain ⟨V,U,T,S⟩:=h;have f:Ft 2 1778 (.tup [mD a,mD b]):=jq (n:=1) (W:=888) (c:=2) (ds:=[mD a,mD b]) (WV 2) fun x Z=>by
   simp only [Ð,ê,or_false] at Z
   rcases Z with rfl|rfl
   ·exact xu T
   ·exact xu S
  refine jq (n:=2) (W:=1778) (c:=4) (ds:=[.str "made",.int m,.int d,.tup [mD a,mD b]]) (WV 4) fun x Z=>?_;simp only [Ð,ê,or_false] at Z
  rcases Z with rfl|rfl|rfl|rfl
  ·exact nH Y (by decide) (by decide)
  ·exact nH (ke (by omega) (by omega)) (by decide) (by decide)
  ·exact nH (ke (by omega) (by omega)) (by decide) (by decide)
  ·exact f
 |iQ m d k =>
  obtain ⟨V,U,R⟩:=h;refine nH (n:=1) (W:=444) (jq (n:=0) (W:=110) (c:=4) (ds:=[.str "mended",.int m,.int d,.int k]) (WV 4) fun x Z=>?_) (by decide) (by decide);simp only [Ð,ê,or_false] at Z
  rcases Z with rfl|rfl|rfl|rfl
  ·exact X
  ·exact ke (by omega) (by omega)
  ·exact ke (by omega) (by omega)
  ·exact ke (by omega) (by omega)
def Nt {rs:List (List Int)} (g:GH rs) (h1:1<=rs.length) {d:D} (hd:d∈lK rs):Fa d:=by
 have hi:=g.hi;have row:∀x∈rs.map mD,Ft 1 888 x:=fun x Z=>by
  obtain ⟨r,V,rfl⟩:=į.mp Z;exact xu (g.fY r V)
 have one:∀y:D,Ft 1 888 y->Fa (.tup (rs.map mD++[y])):=fun y U=>nY (jq (n:=1) (W:=888) (c:=10) (by rw [Ý,Ì];exact Nat.succ_le_succ hi) fun x Z=>by
  rcases ð.mp Z with z|z
  ·exact row x z
  ·rw [ý.mp z];exact U) (by decide) (by decide)
 simp only [lK,ÿ,Č,Ð,ê,or_false] at hd
 rcases hd with rfl|rfl|rfl|rfl|rfl|rfl|rfl|rfl|rfl|rfl|rfl|rfl|rfl|rfl|rfl|rfl|rfl|rfl|rfl
 ·exact fH (by decide +kernel)
 ·exact nY (EF (n:=1) (W:=888) (c:=9) (by rw [Ì];exact hi) row) (by decide) (by decide)
 ·refine nY (jq (n:=1) (W:=888) (c:=90) ?_ fun x Z=>?_) (by decide) (by decide)
  ·rw [List.length_flatten,List.map_replicate,Ì]
   simp only [List.sum_replicate_nat];omega
  ·obtain ⟨l,Y,Z⟩:=List.mem_flatten.mp Z
   rw [List.eq_of_mem_replicate Y] at Z;exact row x Z
 ·exact one _ (nH (n:=0) (W:=110) (tN (by decide +kernel)) (by decide) (by decide))
 ·exact one _ (nH (n:=1) (W:=111) (jq (n:=0) (W:=110) (c:=1) (ds:=[.int 8]) (WV 1) fun x Z=>by rw [ý.mp Z];exact ke (by decide) (by decide)) (by decide) (by decide))
 ·exact fH (by decide +kernel)
 ·exact fH (by decide +kernel)
 ·exact fH (by decide +kernel)
 ·exact fH (by decide +kernel)
 ·exact fH (by decide +kernel)
 ·exact fH (by decide +kernel)
 ·exact fH (by decide +kernel)
 ·exact fH (by decide +kernel)
 ·exact fH (by decide +kernel)
 ·exact fH (by decide +kernel)
 ·have X:=g.fY _ (ĭ (getD_some (d:=[]) h1))
  generalize rs.getD 0 []=m at X;have Y:=X.len;refine nY (jq (n:=0) (W:=110) (c:=9) (by rw [Ý,Ì];exact Nat.succ_le_succ Y) fun x Z=>?_) (by decide) (by decide)
  rcases ð.mp Z with z|z
  ·obtain ⟨n,T,rfl⟩:=į.mp z
   have:=X.lo n T;exact ke (by omega) (by omega)
  ·rw [ý.mp z];exact ke (by decide) (by decide)
 ·exact fH (by decide +kernel)
 ·exact fH (by decide +kernel)
 ·exact fH (by decide +kernel)
def Nu {ps:List Pg} (hp:∀p∈ps,oV p) (hl:ps.length<=8) {d:D} (hd:d∈cW ps):Fa d:=by
 have row:∀x∈ps.map Pg.d,Ft 3 7116 x:=fun x Z=>by
  obtain ⟨p,Y,rfl⟩:=į.mp Z;exact Qy (hp p Y)
 simp only [cW,ÿ,Č,Ł,Ð,ê,or_false] at hd
 rcases hd with rfl|rfl|rfl|rfl|rfl|rfl|rfl|rfl|rfl|rfl|rfl|rfl|rfl|rfl|rfl
 ·exact nY (EF (n:=3) (W:=7116) (c:=8) (by rw [Ì];exact hl) row) (by decide) (by decide)
 ·refine nY (n:=5) (W:=2*(8*7117+1)) (jq (n:=4) (W:=8*7117) (c:=2) (ds:=[.tup (ps.map Pg.d),.tup (ps.map Pg.d)]) (WV 2) fun x Z=>?_) (by decide) (by decide)
  have:x=.tup (ps.map Pg.d):=by simpa using Z
  subst this;exact jq (n:=3) (W:=7116) (c:=8) (by rw [Ì];exact hl) row
 all_goals exact fH (by decide +kernel)
def Dz {a b:D} (ha:Fa a) (hb:Fa b):pW [.tup [a,b]] s=ok (.str (py (.tup [a,b])).shown) s:=by
 have lv:(py (.tup [a,b])).leavesShort 40=true:=by simp only [py,bI,WA,V8,ha.lv,hb.lv,Ę]
 have l:=PyData.shown_le 40 (by decide) _ lv;have z:Ñ=16777216:=Ũ;have Y:=ha.wt;have X:=hb.wt;have wt:(py (.tup [a,b])).weight<=300000:=by simp only [py,bI,PyData.weight,Ţ];omega
 have W:=ha.dp;have V:=hb.dp;have dp:(py (.tup [a,b])).depth<=100:=by simp only [py,bI,PyData.depth,ě];omega
 have Z:(py (.tup [a,b])).shown.length<=Ñ:=by rw [z];omega
 show (if uw (.tup [a,b])=true then ok (D.str (py (.tup [a,b])).shown) s else none)=_
 rw [ä];unfold uw;rw [Þ dp,Þ Z];simp only [plain,ji,ha.pl,hb.pl,py,bI,ŭ,ő,ha.sh,hb.sh,Ę]
end
section
variable {s:aa}
def Qz {rs:List (List Int)} (h1:1<=rs.length) (h9:rs.length<=9):cL (rD rs) (.int 10) s=ok (.tup (Î 10 (rs.map mD)).flatten) s:=by
 show bL (qw (.tup (rs.map mD)) (.int 10)) s=_;unfold qw;simp only [];rw [ä]
 ·rfl
 ·have e:(rs.map mD).isEmpty=false:=by cases rs with
   |nil=>cases h1
   |cons _ _=>rfl
  rw [e,Þ (show (1:Int)<=10 by decide),Þ (show (rs.map mD).length*Int.toNat 10<=Ñ from le_size (by rw [Ì];have:Int.toNat 10=10:=rfl;rw [this];omega))];rfl
def xw {xs:List D} {y:D} (h:xs.length<=1000):bO (.tup xs) (.tup [y]) s=ok (.tup (xs++[y])) s:=by
 show bL (if gr xs [y]=true then some (D.tup (xs++[y])) else none) s=_
 rw [ä (show gr xs [y]=true from Þ (le_size (by rw [ë,õ];omega)))];rfl
def Md {rs:List (List Int)} {k:Nat} (h:Sf s k) (g:GH rs) (h1:1<=rs.length):Wp (aO.rV [.au k,rD rs] s) fun d s'=>Sf s' k/\Ex k s s'/\d∈lK rs:=by
 have hi:=g.hi;have Y:(rs.map mD).length<=1000:=by rw [Ì];omega
 have Q:=(g.fY _ (ĭ (getD_some (d:=[]) h1))).len;unfold aO.rV;refine iH.symm ▸ ⟨rfl,WU fun R Z=>?_⟩;simp only [VC];refine ⟨by decide,?_⟩;refine WS (show nU [rD rs] s=ok (.lst (rs.map mD)) s from rfl) ?_;refine WS (Qz h1 hi) ?_;simp only [VC];refine ⟨by decide,?_⟩;refine WS (xw Y) ?_;refine ⟨by decide,by decide,?_⟩;refine WS (xw Y) ?_
 repeat (refine ⟨(by decide:_<=Ñ),?_⟩)
 subst Z;refine WU fun R Z=>?_;simp only [VC]
 repeat (refine ⟨(by decide:_<=Ñ),?_⟩)
 refine WS (show xN (.int 1) s=ok (.int (-1)) s from rfl) ?_
 repeat (refine ⟨(by decide:_<=Ñ),?_⟩)
 refine WS (show aE (rD rs) (.int (0:Nat)) s=_ from Ua h1) ?_
 repeat (refine ⟨(by decide:_<=Ñ),?_⟩)
 refine WS (xw (by rw [Ì];omega)) ?_
 repeat (refine ⟨(by decide:_<=Ñ),?_⟩)
 refine WS (show cL (.tup [.tup []]) (.int 10) s=ok (.tup (Î 10 [D.tup []]).flatten) s from rfl) ?_
 repeat (refine ⟨(by decide:_<=Ñ),?_⟩)
 refine WS (show _=ok (.lst (lK rs)) s from rfl) ?_;subst Z;simp only [VC];refine WS (show cI [.lst (lK rs)] s=ok (.int 19) s from rfl) ?_;refine (ei h (by decide) (by decide)).mono fun x X W=>?_;obtain ⟨r,rfl,V,U,T,ex⟩:=W;obtain ⟨d,S,e⟩:=qk (ds:=lK rs) (s:=X) V U;exact WS e ⟨T,ex,S⟩
def DA {j:Nat} {xs ys:List D} (h:s[j]?=some (.lst xs)) (hl:xs.length+ys.length<=1000):nM (.au j) (.lst ys) s=ok (.au s.length) (s++[.lst (xs++ys)]):=by
 unfold nM;have e:res (.au j) s=.lst xs:=by unfold res;simp only [h]
 rw [e]
 show (if gr xs ys=true then _ else _)=_
 rw [ä (show gr xs ys=true from Þ (le_size (by omega)))]
def wJ (s:aa) (c:Cell):(s++[c])[s.length]?=some c:=by simp
def Me {env:Env}:cK 1 [] (cw (ae (eC (.int 25)) ah)) (gN 0) dD (aU (ae (eC (.str "mended")) (ae (eC (.int 0)) (ae (af 0) (ae (eC (.int 0)) ah))))) env s=ok (.lst ((Ă 25).map fun i:Nat=>il 0 i 0)) s:=by
 refine WT ?_;rw [pI];refine WS (hX (n:=25) rfl (by decide)) ⟨by rw [jb];exact le_size (by decide),?_⟩;rw [Dv];refine WS (comp_map (fun i:Nat=>D.int (0+(i:Int))) (fun _=>true) (fun i:Nat=>il 0 i 0) (Ă 25) fun i _=>⟨[some (.int (0+(i:Int)))],rfl,rfl,fun _=>?_⟩) ?_
 ·rw [WB]
  rfl
 ·rw [filter_tt]
  exact ⟨rfl,rfl⟩
def Mf {ps:List Pg} {k:Nat} (h:Sf s k):Wp (aO.rW [.au k,.tup (ps.map Pg.d)] s) fun d s'=>Sf s' k/\Ex k s s'/\d∈cW ps:=by
 have F:=h.lt;unfold aO.rW;refine iH.symm ▸ ⟨rfl,WU fun R Y=>?_⟩;simp only [VC];subst Y;refine WU fun R Y=>?_;simp only [VC];refine WS (show nU [.tup (ps.map Pg.d)] s=ok (.lst (ps.map Pg.d)) s from rfl) ?_
 repeat (refine ⟨(by decide:_<=Ñ),?_⟩)
 subst Y;have g1:∀c,Sf (s++[c]) k:=fun c=>h.app _;have N:∀c,Ex k s (s++[c]):=fun c=>Ex.app k s _;refine WU fun R Y=>?_;simp only [VC]
 repeat (refine ⟨(by decide:_<=Ñ),?_⟩)
 refine WS (DA (wJ s _) (by simp only [ë,õ];decide)) ?_;generalize X:s++[Cell.lst _]=W;have g2:Sf W k:=X ▸ g1 _;have M:Ex k s W:=X ▸ N _;have E:=g2.lt;clear X;subst Y;refine WU fun R Y=>?_;simp only [VC];refine WS (DA (wJ W _) (by simp only [ë,õ,ÿ,Č];decide)) ?_;generalize X:W++[Cell.lst _]=Z;have g3:Sf Z k:=X ▸ g2.app _;have S:Ex k s Z:=X ▸ M.trans (Ex.app k W _);have D:=g3.lt;clear X;subst Y;refine WU fun R Y=>?_;simp only [sv,sX,dF,dG,my,fk,fq];obtain ⟨a1,a2⟩:=wI (x:=.tup ((Ă 25).map fun i:Nat=>il 0 i 0)) (wJ Z (.lst ((cW ps).take 14))) (by simp [cW]);refine ⟨a1,?_⟩;refine WS Me ?_;refine WS (show dw [.lst ((Ă 25).map fun i:Nat=>il 0 i 0)] _=ok (.tup ((Ă 25).map fun i:Nat=>il 0 i 0)) _ from rfl) ?_;refine WS a2 ?_;have e:(cW ps).take 14++[.tup ((Ă 25).map fun i:Nat=>il 0 i 0)]=cW ps:=rfl;rw [e];have U:((Z++[Cell.lst ((cW ps).take 14)]).set Z.length (.lst (cW ps)))[Z.length]?=some (.lst (cW ps)):=å (by simp);have Q:Sf ((Z++[Cell.lst ((cW ps).take 14)]).set Z.length (.lst (cW ps))) k:=(g3.app _).set (by omega) _;have P:Ex k s ((Z++[Cell.lst ((cW ps).take 14)]).set Z.length (.lst (cW ps))):=(S.trans (Ex.app k Z _)).hi S.len _;have O:Z.length≠k:=by omega
 generalize (Z++[Cell.lst ((cW ps).take 14)]).set Z.length (.lst (cW ps))=T at U Q P;generalize Z.length=j at U O;rw [eR];subst Y;simp only [nG,gH,wp_call,fk,fq,my,dF,dG];refine WS (show cI [.au j] T=ok (.int 15) T from ?_) ?_
 ·have e:res (.au j) T=.lst (cW ps):=by unfold res;simp only [U]
  unfold cI om;simp only [e];rfl
 refine (ei Q (by decide) (by decide)).mono fun x V L=>?_;obtain ⟨r,rfl,K,J,I,ex⟩:=L;have H:=ex.get U O;obtain ⟨d,G,e⟩:=qk (ds:=cW ps) (s:=V) K J;refine WS (show aE (.au j) (.int r) V=ok d V from ?_) ⟨I,P.trans ex,G⟩;rw [<- e];unfold aE jT;have e1:res (.au j) V=.lst (cW ps):=by unfold res;simp only [H]
 have e2:res (.lst (cW ps)) V=.lst (cW ps):=rfl;rw [e1,e2]
end
section
variable {s:aa} {d:D} {Q:Fl->aa->Prop} {e0 e1 e2 e3 e4 e5 e6 e7 e8 e9:Option D}
abbrev ip (s:aa):Res D:=some (.error ⟨"NoHeap",none⟩,s)
def Nv (h:iq [d,.int 9] s=ok (.bl false) s):aO.fZ [d] s=ip s:=by
 have e2:eY (cQ (aG iq (ae (af 0) (ae (eC (.int 9)) ah)))) [some d] s=ok true s:=by
  refine WT ?_;simp only [VC];refine WS h ?_;simp only [VC,Bool.not_false,V0]
 unfold aO.fZ aJ;show ai (bA _ _ _ [some d] s) _=_;unfold bA;rw [e2];rfl
def mj {b:WR Fl} {env:Env} (he:env[0]?=some (some d)) (hn:aO.fZ [d] s=ip s):ar (c9 (cF aO.fZ (ae (af 0) ah))) b env s=some (.error ⟨"NoHeap",none⟩,s):=by
 have e:ae (af 0) ah env s=ok [d] s:=by
  unfold ae af;simp only [he];rfl
 unfold ar c9 cF;rw [e];show ai (ai (aO.fZ [d] s) _) _=_;rw [hn];rfl
def mB {n m:Nat} {b:WR Fl} {ds:List D} (h:b (ds.map some++Î (m-n) none) s=some (.error ⟨"NoHeap",none⟩,s)) (hl:ds.length=n):aJ n m b ds s=ip s:=by
 unfold aJ;rw [ä hl,h];rfl
def Mg {w:Nat} (hw:w<7) (hn:aO.fZ [d] s=ip s):aO.pq [.int w,d] s=ip s:=by
 have Z:aO.so [d] s=ip s:=mB (mj rfl hn) rfl;have a1:aO.rZ [d] s=ip s:=mB (mj rfl hn) rfl;have a2:aO.rM [d] s=ip s:=mB (mj rfl hn) rfl;have Y:aO.sr [d] s=ip s:=mB (mj rfl hn) rfl;have X:∀x,aO.rX [d,x] s=ip s:=fun x=>mB (mj rfl hn) rfl;have W:∀x,aO.rK [d,x] s=ip s:=fun x=>mB (mj rfl hn) rfl;have V:∀x,aO.sd [d,x] s=ip s:=fun x=>mB (mj rfl hn) rfl
 match w,hw with
 |0,_ =>
  show ai (ai (ai (aO.so [d] s) _) _) _=_;rw [Z];rfl
 |1,_ =>
  show ai (ai (ai (aO.rZ [d] s) _) _) _=_;rw [a1];rfl
 |2,_ =>
  show ai (ai (ai (aO.rM [d] s) _) _) _=_;rw [a2];rfl
 |3,_ =>
  show ai (ai (ai (aO.sr [d] s) _) _) _=_;rw [Y];rfl
 |4,_ =>
  show ai (ai (ai (aO.rX [d,.tup [.tup [.int 0]]] s) _) _) _=_;rw [X];rfl
 |5,_ =>
  show ai (ai (aO.rK [d,.tup []] s) _) _=_;rw [W];rfl
 |6,_ =>
  show ai (ai (aO.sd [d,.ao] s) _) _=_;rw [V];rfl
def Nw (h:kU [d] s=ok (.bl false) s):aO.nr [d] s=some (.error ⟨"NoBook",none⟩,s):=by
 have e2:eY (cQ (aG kU (ae (af 0) ah))) [some d] s=ok true s:=by
  refine WT ?_;simp only [VC];refine WS h ?_;simp only [VC,Bool.not_false,V0]
 have e3:aO.l0 [d] s=some (.error ⟨"NoBook",none⟩,s):=by
  unfold aO.l0 aJ;show ai (bA _ _ _ [some d] s) _=_;unfold bA;rw [e2];rfl
 unfold aO.nr aJ;show ai (ar (c9 (cF aO.l0 (ae (af 0) ah))) _ [some d] s) _=_;unfold ar c9 cF;show ai (ai (ai (aO.l0 [d] s) _) _) _=_;rw [e3];rfl
def EI {caps:List Nat} {env:Env} {ds:List D} {fb:WR D} {r:D} (h0:s[0]?=some (.tb "law")) (ht:lu env caps=some ds) (h:eQ .ao (fb (ds.map some)) [.ao] s=ok r s):lJ "law" caps fb eQ env s=ok r s:=by
 unfold lJ;rw [ht];dsimp only;rw [h0];dsimp only;rw [ä (Þ rfl),h];rfl
def EJ (i:Int):fM (.tup [.str "refused",.int i]) (.tup [.str "refused",.int i]) s=ok (.bl false) s:=by
 have e:ω "refused"=true:=by decide +kernel
 unfold fM iG;simp [res,kN,beq,fL,lay,DI.cu,dep,cH,e]
def Mh {w:Nat} (hw:w<7) (h0:s[0]?=some (.tb "law")) (hd:iq [d,.int 9] s=ok (.bl false) s) (hQ:Q (.nx [e0,e1,e2,e3,e4,e5,some d,e7,e8,some (.int w)]) s) :
  Wp (xj [e0,e1,e2,e3,e4,e5,some d,e7,e8,some (.int w)] s) Q:=by
 have Z:lJ "law" [9,6] (cF aO.pq (ae (af 0) (ae (af 1) ah))) eQ [e0,e1,e2,e3,e4,e5,some d,e7,e8,some (.int w)] s=ok (.tup [.str "refused",.int 11]) s :=
  EI h0 (ds:=[.int w,d]) rfl (v5 (show (cF aO.pq (ae (af 0) (ae (af 1) ah))) [some (.int w),some d] s=_ from Mg hw (Nv hd)))
 unfold xj;rw [mi,lh,gH];refine WS Z ?_;simp only [mf,fk,fq,jE];refine ⟨le_size (n:=2) (by decide),?_⟩;refine WS (EJ 11) ?_;simp only [kY,É,ĉ,jd];exact hQ
def Pa {rs:List (List Int)} {ps:List Pg} {k:Nat} {a0 a1 a5:Option D} (st:Sf s k) (k0:(0:Nat)≠k) (h0:s[0]?=some (.tb "law")) (g:GH rs) (h1:1<=rs.length) (hp:∀p∈ps,oV p) (hl:ps.length<=8)
  (hQ:∀e6 e7 e8 e9 s',Sf s' k->s'[0]?=some (.tb "law")->Q (.nx [a0,a1,some (.au k),some (rD rs),some (.tup (ps.map Pg.d)),a5,e6,e7,e8,e9]) s') :
  Wp (xk [a0,a1,some (.au k),some (rD rs),some (.tup (ps.map Pg.d)),a5,e6,e7,e8,e9] s) Q:=by
 unfold xk;refine WU fun R Y=>?_;simp only [kZ,mf,fk,fq,wp_call,dF,dG];refine (Md st g h1).mono fun bad L Z=>?_;obtain ⟨T,S,W⟩:=Z;refine (Mf T).mono fun less P Z=>?_;obtain ⟨O,N,hle⟩:=Z;have g2:=N.get (S.get h0 k0) k0;refine ⟨le_size (n:=2) (by decide),?_⟩;simp only [xW,vY,wF,Ď,ď,eR];have V:=Nt g h1 W;have U:=Nu hp hl hle;subst Y;refine WU fun R Y=>?_;simp only [kZ,mz,my,mf,fk,fq,dF,dG,Ď,ď];refine ⟨le_size (n:=2) (by decide),?_⟩;refine WS (Dz V U) ?_;rw [eR];subst Y;refine WU fun R Y=>?_;rw [je];refine WS (hX (n:=7) rfl (by decide)) ?_;refine Wp.kD (fun i env s'=>s'=P/\∃e9,env=[a0,a1,some (.au k),some (rD rs),some (.tup (ps.map Pg.d)),a5,some bad,some less,some (.str (py (.tup [bad,less])).shown),e9]) _ ⟨rfl,_,rfl⟩ (fun i d env s' Z X=>?_) (fun env s' X=>?_)
 ·obtain ⟨rfl,e9,rfl⟩:=X
  rw [ix] at Z;split at Z
  ·rename_i hi
   cases Z;refine ⟨_,rfl,?_⟩;rw [WB];exact Mh hi g2 (Np g h1 W) ⟨rfl,_,rfl⟩
  ·cases Z
 obtain ⟨rfl,e9,rfl⟩:=X;subst Y;rw [eR];have M:lJ "law" [7] (cF aO.nr (ae (af 0) ah)) eQ [a0,a1,some (.au k),some (rD rs),some (.tup (ps.map Pg.d)),a5,some bad,some less,some (.str (py (.tup [bad,less])).shown),e9] s'=ok (.tup [.str "refused",.int 3]) s' :=
  EI g2 (ds:=[less]) rfl (vZ (show (cF aO.nr (ae (af 0) ah)) [some less] s'=_ from Nw (Nr hle)))
 rw [mi,xn,lh,gH];refine WS M ?_;simp only [mf,fk,fq,jE];refine ⟨le_size (n:=2) (by decide),?_⟩;refine WS (EJ 3) ?_;simp only [kY,É,ĉ,lh,gH,my,mf,fk,fq,dF,dG];refine ⟨le_size (n:=2) (by decide),?_⟩;refine WS (Dz V U) ?_;refine WS ne_str ?_;simp only [kY,É,ĉ,jd];exact hQ _ _ _ _ s' O g2
def Pb {ns:List Int} {i:Int} (hi:0<=i) (h0:s[0]?=some (.tb "law")) (hQ:∀e2 e3 e4 e5 e6 e7 e8 e9 s',s'[0]?=some (.tb "law")->Q (.nx [some (.bz ns),some (.int i),e2,e3,e4,e5,e6,e7,e8,e9]) s') :
  Wp (xl [some (.bz ns),some (.int i),e2,e3,e4,e5,e6,e7,e8,e9] s) Q:=by
 have P:0<s.length:=(Æ.mp h0).1;unfold xl;refine WU fun R X=>?_;simp only [kZ,mz,wp_call,fk,fq,dF,dG,Ď,ď];refine (Nk hi).mono fun d z Z=>?_;obtain ⟨rfl,W,T,rfl⟩:=Z;have Y:(0:Nat)≠s.length:=by omega
 have g1:(s++[T])[0]?=some (.tb "law"):=by rw [Ú P];exact h0
 generalize s++[T]=y at W g1;generalize s.length=k at W Y;rw [eR];subst X;refine WU fun R X=>?_;simp only [pH,wp_call,fk,fq,dF,dG,jE];refine (O3 W).mono fun d x Z=>?_;obtain ⟨O,rfl,N,h,M,L⟩:=Z;refine (ei M (by decide) (by decide)).mono fun d w Z=>?_;obtain ⟨n,rfl,K,v,J,I⟩:=Z;refine (O8 J K (by omega)).mono fun d u Z=>?_;obtain ⟨H,rfl,G,F,E,D⟩:=Z;have C:=D.get (I.get (L.get g1 Y) Y) Y;refine ⟨_,_,rfl,?_⟩;simp only [Ď,ď];rw [eR];subst X;rw [je];refine WS (hX (n:=3) rfl (by decide)) ?_;refine Wp.kD (fun j env s'=>Sf s' k/\s'[0]?=some (.tb "law")/\∃e5 e6 e7 e8 e9,env=[some (.bz ns),some (.int i),some (.au k),some (rD O),some (.tup (H.map Pg.d)),e5,e6,e7,e8,e9]) _ ⟨E,C,_,_,_,_,_,rfl⟩ (fun j d env s' Z V=>?_) (fun env s' V=>?_)
 ·obtain ⟨S,U,e5,e6,e7,e8,e9,rfl⟩:=V
  rw [ix] at Z;split at Z
  ·cases Z
   refine ⟨_,rfl,?_⟩;exact Pa S Y U h N F G fun e6 e7 e8 e9 t B A=>⟨B,A,_,_,_,_,_,rfl⟩
  ·cases Z
 ·obtain ⟨S,U,e5,e6,e7,e8,e9,rfl⟩:=V
  exact hQ _ _ _ _ _ _ _ _ _ U
end
def Mi (ns:List Int) (hn:ns.length<=63):∃s,aO.tM [.bz ns] [.tb "law"]=some (.ok (.bl true),s):=by
 suffices h:Wp (aO.tM [.bz ns] [.tb "law"]) fun d _=>d=.bl true by
  obtain ⟨d,s,e,rfl⟩:=h;exact ⟨s,e⟩
 unfold aO.tM;refine iH.symm ▸ ⟨rfl,WU fun R O=>?_⟩;rw [je];have Q:∃n:Nat,cw (ae (eB nT (ae (eC (.int 1)) (ae (eB qc (ae (eB cI (ae (af 0) ah)) (ae (eC (.int 2)) ah))) ah))) ah) [some (.bz ns),none,none,none,none,none,none,none,none,none] [.tb "law"]=ok (di 0 n) [.tb "law"]:=by
  have e:∃n:Nat,n<=1000/\(ae (eB nT (ae (eC (.int 1)) (ae (eB qc (ae (eB cI (ae (af 0) ah)) (ae (eC (.int 2)) ah))) ah))) ah) [some (.bz ns),none,none,none,none,none,none,none,none,none] [.tb "law"]=ok [.int n] [.tb "law"]:=by
   refine ⟨(if (if (2:Int)<ns.length then (2:Int) else ns.length) > 1 then (if (2:Int)<ns.length then (2:Int) else ns.length) else 1).toNat,by split<;>split<;>omega,?_⟩
   rw [Int.toNat_of_nonneg (by split<;>split<;>omega)]
   rfl
  obtain ⟨n,L,N⟩:=e;exact ⟨n,hX N (by omega)⟩
 obtain ⟨n,Q⟩:=Q;refine WS Q ?_;refine Wp.kD (fun i env s=>s[0]?=some (.tb "law")/\∃e1 e2 Z Y X W V U T,env=[some (.bz ns),e1,e2,Z,Y,X,W,V,U,T]) _ ⟨rfl,_,_,_,_,_,_,_,_,_,rfl⟩ (fun i d env s S P=>?_) (fun env s P=>?_)
 ·obtain ⟨g,e1,e2,Z,Y,X,W,V,U,T,rfl⟩:=P
  rw [ix] at S;split at S
  ·cases S
   refine ⟨_,rfl,?_⟩;rw [WB];exact Pb (by omega) g fun e2 Z Y X W V U T K M=>⟨M,_,_,_,_,_,_,_,_,_,rfl⟩
  ·cases S
 ·obtain ⟨g,e1,e2,Z,Y,X,W,V,U,T,rfl⟩:=P
  subst O;simp only [VC]
end DI
end
namespace DI.aO
open PySem L2 DI
noncomputable def QA:List Str:=["NoMarks","NoSheet","NoPage","NoBook","NoMould","NoDay","NoSort","NoNumber","NoSheets","NoRun","NoLaying","NoHeap","NoCount","Clash","NoDeed","NoText","NoRow","TooMany","Lacking"]
def Df (K:č) (x:Str) (st:WE):Prop:=∃(f:Ø) (Z:Ä) (Y:Option Ø) (X:Array (Option Ä)) (kV W pm:Ä) (an:Option Ø) (cd V:Ä),é K Ó x=some (some (.ref f))/\K.lookup f=some ⟨Z,Y,.func (ľ x x (l9 st) (gb st) (bX st) .none kV W pm an cd V),X⟩/\ż K cd x=true/\ĵ K (.ref f)=true
def QC {K:č} {x:Str} {st:WE} {f:Ø} {oc:Ä} {od:Option Ø} {sl:Array (Option Ä)} {kV dc pm:Ä} {an:Option Ø} {cd ct:Ä} (a:é K Ó x=some (some (.ref f))) (l:K.lookup f=some ⟨oc,od,.func (ľ x x (l9 st) (gb st) (bX st) .none kV dc pm an cd ct),sl⟩) (c:ż K cd x=true) (k:ĵ K (.ref f)=true):Df K x st:=⟨f,oc,od,sl,kV,dc,pm,an,cd,ct,a,l,c,k⟩
def mC {K:č} {x:Str} {i:Int} {t:Tok} (e:é K Ó x=some (some (.int i t))):∃t,é K Ó x=some (some (.int i t)):=⟨t,e⟩
def bx {K:č} {h:ħ} {mg:Str->Option Ä} {x:Str} {st:WE} {ps:List Str} (X:K.In h) (G:h.Ns Ó mg) (D:Df K x st) (hb:∀(kV doc pm:Ä) (an:Option Ø) (aR ct:Ä) (us:List Ä),us.length=ps.length->bindArgs (ľ x x (l9 st) (gb st) (bX st) .none kV doc pm an aR ct) ⟨us,[]⟩=pure (ps.zip us)):∃f fd,Gd K mg x st ps f fd:=by
 obtain ⟨f,Z,Y,W,kV,V,pm,an,cd,ct,a,l,c,k⟩:=D;have F:=DJ (st:=st) l c k;exact ⟨f,_,Ķ X G a,F,F.binds hb⟩
def cU {P:List Ä->Prop} (h:∀a0:Ä,P [a0]) (us:List Ä) (hl:us.length=1):P us:=by
 cases us with
 |nil=>simp at hl
 |cons a0 Z =>
 cases Z with
 |cons _ _=>simp at hl
 |nil =>
 exact h a0
def fu {P:List Ä->Prop} (h:∀a0 a1:Ä,P [a0,a1]) (us:List Ä) (hl:us.length=2):P us:=by
 cases us with
 |nil=>simp at hl
 |cons a0 Z =>
 cases Z with
 |nil=>simp at hl
 |cons a1 Y =>
 cases Y with
 |cons _ _=>simp at hl
 |nil =>
 exact h a0 a1
def tO {P:List Ä->Prop} (h:∀a0 a1 a2:Ä,P [a0,a1,a2]) (us:List Ä) (hl:us.length=3):P us:=by
 cases us with
 |nil=>simp at hl
 |cons a0 Z =>
 cases Z with
 |nil=>simp at hl
 |cons a1 Y =>
 cases Y with
 |nil=>simp at hl
 |cons a2 X =>
 cases X with
 |cons _ _=>simp at hl
 |nil =>
 exact h a0 a1 a2
def QD {P:List Ä->Prop} (h:∀a0 a1 a2 a3:Ä,P [a0,a1,a2,a3]) (us:List Ä) (hl:us.length=4):P us:=by
 cases us with
 |nil=>simp at hl
 |cons a0 Z =>
 cases Z with
 |nil=>simp at hl
 |cons a1 Y =>
 cases Y with
 |nil=>simp at hl
 |cons a2 X =>
 cases X with
 |nil=>simp at hl
 |cons a3 W =>
 cases W with
 |cons _ _=>simp at hl
 |nil =>
 exact h a0 a1 a2 a3
def all_mk {P:ß} {w:ú} {K:č} {h:ħ} {mg:Str->Option Ä} {fa:Ø} (X:K.In h) (G:h.Ns Ó mg) (Um:mg "law"=some (.ref fa))
  (d0:Df K "_law_cell_at" (top 75))
  (d1:Df K "_law_state" (top 76))
  (d2:Df K "_law_take" (top 77))
  (d3:Df K "_law_marks" (top 78))
  (d4:Df K "_law_heap" (top 86))
  (d5:Df K "_law_sheet" (top 79))
  (d6:Df K "_law_page" (top 80))
  (d7:Df K  W7 (top 81))
  (d8:Df K "_law_is_book" (top 82))
  (d9:Df K "_law_book" (top 83))
  (Ax:Df K "_law_no_heap" (top 88))
  (Ay:Df K "_law_no_book" (top 87))
  (Az:Df K "_law_classes" (top 84))
  (AA:Df K "is_rising" (top 30))
  (AB:Df K "is_number" (top 25))
  (AD:Df K "is_below" (top 26))
  (AE:Df K "is_mark" (top 27))
  (AF:Df K "are_marks" (top 35))
  (AG:Df K "are_laid_marks" (top 39))
  (AH:Df K "need_heap" (top 59))
  (AI:Df K "fewest" (top 54))
  (AJ:Df K "rows_of" (top 55))
  (AK:Df K "strangers_of" (top 56))
  (AL:Df K "needed" (top 58))
  (AM:Df K "are_rows" (top 52))
  (AN:Df K "are_strangers" (top 53))
  (AO:Df K "more_by" (top 57))
  (AQ:Df K "_law_asked" (top 89))
  (AR:Df K "are_apart" (top 37))
  (AS:Df K "is_sheet" (top 36))
  (AU:Df K "is_mould" (top 28))
  (AV:Df K "is_day" (top 29))
  (AW:Df K "is_page" (top 40))
  (AX:Df K "are_laid" (top 41))
  (AY:Df K "days_seen" (top 46))
  (AZ:Df K "days_mended" (top 47))
  (A0:Df K "is_any_behind" (top 45))
  (A1:Df K "clashes" (top 44))
  (A2:Df K "faults_of" (top 43))
  (A3:Df K "is_book" (top 42))
  (A4:Df K "need_book" (top 49))
  (A5:Df K "book_text" (top 70))
  (A6:Df K "_law_met" (top 85))
  (dl:Df K "law" (top 90))
  (wK:∃t,é K Ó "MARKS"=some (some (.int (8) t)))
  (wa:∃t,é K Ó "MOULDS"=some (some (.int (4) t)))
  (xx:∃t,é K Ó "DAYS"=some (some (.int (31) t)))
  (wL:∃t,é K Ó "PAGES"=some (some (.int (24) t)))
  (yf:∃t,é K Ó "HAS"=some (some (.int (0) t)))
  (wM:∃t,é K Ó "LACKS"=some (some (.int (1) t)))
  (xy:∃t,é K Ó "HEAP"=some (some (.int (9) t)))
  (vd:é K Ó "ValueError"=some none)
  (yg:é K Ó "all"=some none)
  (yh:é K Ó "any"=some none)
  (xA:é K Ó "bool"=some none)
  (yi:é K Ó "int"=some none)
  (ve:é K Ó "isinstance"=some none)
  (yj:é K Ó "len"=some none)
  (xB:é K Ó "list"=some none)
  (yk:é K Ó "max"=some none)
  (yl:é K Ó "min"=some none)
  (wN:é K Ó "range"=some none)
  (xC:é K Ó "repr"=some none)
  (ym:é K Ó "set"=some none)
  (wb:é K Ó "sorted"=some none)
  (wO:é K Ó "tuple"=some none)
  (yn:é K Ó "zip"=some none)
  (xf:jm K bo QA "MouldError"=true) (tf:xi K "law"=true)
  : ∃(c T:Ø) (fd:ę),WM K "law"=some (c,T)/\K.lookup T=none/\(∀(s:Ã) (v:Ä),BindsTo s fd ⟨[v],[]⟩ [(WY,v)])/\∀base:ħ,K.In base->base.Ns Ó mg->base.BuiltinsAt mg T->cG P w K mg base cP 13 fa fd [WY] (sV K T):=by
 have Y:=bx (ps:=[WY,"_law_k"]) X G d0 fun _ _ _ _ _ _=>fu fun _ _=>rfl;have g1:=bx (ps:=[WY,"_law_k"]) X G d1 fun _ _ _ _ _ _=>fu fun _ _=>rfl;have g2:=bx (ps:=[WX,WZ]) X G d2 fun _ _ _ _ _ _=>fu fun _ _=>rfl;have g3:=bx (ps:=[WX,WZ]) X G d3 fun _ _ _ _ _ _=>fu fun _ _=>rfl;have W:=bx (ps:=[WX,"_law_most"]) X G d4 fun _ _ _ _ _ _=>fu fun _ _=>rfl;have V:=bx (ps:=[WX]) X G d5 fun _ _ _ _ _ _=>cU fun _=>rfl;have U:=bx (ps:=[WX,"_law_days"]) X G d6 fun _ _ _ _ _ _=>fu fun _ _=>rfl;have S:=bx (ps:=[W2,W3,W0]) X G d7 fun _ _ _ _ _ _=>tO fun _ _ _=>rfl;have R:=bx (ps:=[W2]) X G d8 fun _ _ _ _ _ _=>cU fun _=>rfl;have Q:=bx (ps:=[WX,WZ]) X G d9 fun _ _ _ _ _ _=>fu fun _ _=>rfl;have O:=bx (ps:=[WX,W5]) X G Ax fun _ _ _ _ _ _=>fu fun _ _=>rfl;have N:=bx (ps:=[WX,W6]) X G Ay fun _ _ _ _ _ _=>fu fun _ _=>rfl;have M:=bx (ps:=["_law_e"]) X G Az fun _ _ _ _ _ _=>cU fun _=>rfl;have L:=bx (ps:=["things"]) X G AA fun _ _ _ _ _ _=>cU fun _=>rfl;have J:=bx (ps:=["thing"]) X G AB fun _ _ _ _ _ _=>cU fun _=>rfl;have I:=bx (ps:=["thing","many"]) X G AD fun _ _ _ _ _ _=>fu fun _ _=>rfl;have H:=bx (ps:=["thing"]) X G AE fun _ _ _ _ _ _=>cU fun _=>rfl;have E:=bx (ps:=["thing"]) X G AF fun _ _ _ _ _ _=>cU fun _=>rfl;have D:=bx (ps:=["thing","most"]) X G AG fun _ _ _ _ _ _=>fu fun _ _=>rfl;have C:=bx (ps:=["thing"]) X G AH fun _ _ _ _ _ _=>cU fun _=>rfl;have B:=bx (ps:=["heap"]) X G AI fun _ _ _ _ _ _=>cU fun _=>rfl;have A:=bx (ps:=["heap"]) X G AJ fun _ _ _ _ _ _=>cU fun _=>rfl;have z:=bx (ps:=["heap"]) X G AK fun _ _ _ _ _ _=>cU fun _=>rfl;have y:=bx (ps:=["heap"]) X G AL fun _ _ _ _ _ _=>cU fun _=>rfl;have x:=bx (ps:=["heap","thing"]) X G AM fun _ _ _ _ _ _=>fu fun _ _=>rfl;have u:=bx (ps:=["heap","thing"]) X G AN fun _ _ _ _ _ _=>fu fun _ _=>rfl;have r:=bx (ps:=["heap","marks"]) X G AO fun _ _ _ _ _ _=>fu fun _ _=>rfl;have q:=bx (ps:=[W4,"_law_thing"]) X G AQ fun _ _ _ _ _ _=>fu fun _ _=>rfl;have p:=bx (ps:=["marks","others"]) X G AR fun _ _ _ _ _ _=>fu fun _ _=>rfl;have o:=bx (ps:=["thing"]) X G AS fun _ _ _ _ _ _=>cU fun _=>rfl;have n:=bx (ps:=["thing"]) X G AU fun _ _ _ _ _ _=>cU fun _=>rfl;have m:=bx (ps:=["thing"]) X G AV fun _ _ _ _ _ _=>cU fun _=>rfl;have j:=bx (ps:=["thing"]) X G AW fun _ _ _ _ _ _=>cU fun _=>rfl;have i:=bx (ps:=["thing"]) X G AX fun _ _ _ _ _ _=>cU fun _=>rfl;have g:=bx (ps:=["pages","mould","mark","half"]) X G AY fun _ _ _ _ _ _=>QD fun _ _ _ _=>rfl;have d:=bx (ps:=["pages","mould","mark"]) X G AZ fun _ _ _ _ _ _=>tO fun _ _ _=>rfl;have b:=bx (ps:=["days","day","later"]) X G A0 fun _ _ _ _ _ _=>tO fun _ _ _=>rfl;have UR:=bx (ps:=["pages","mould","mark"]) X G A1 fun _ _ _ _ _ _=>tO fun _ _ _=>rfl;have US:=bx (ps:=["pages"]) X G A2 fun _ _ _ _ _ _=>cU fun _=>rfl;have UT:=bx (ps:=["thing"]) X G A3 fun _ _ _ _ _ _=>cU fun _=>rfl;have UU:=bx (ps:=["thing"]) X G A4 fun _ _ _ _ _ _=>cU fun _=>rfl;have UW:=bx (ps:=["book"]) X G A5 fun _ _ _ _ _ _=>cU fun _=>rfl;have UX:=bx (ps:=["_law_call"]) X G A6 fun _ _ _ _ _ _=>cU fun _=>rfl;have sx:∃t,mg "MARKS"=some (.int (8) t):=by obtain ⟨t,e⟩:=wK;exact ⟨t,Ķ X G e⟩
 have se:∃t,mg "MOULDS"=some (.int (4) t):=by obtain ⟨t,e⟩:=wa;exact ⟨t,Ķ X G e⟩
 have sL:∃t,mg "DAYS"=some (.int (31) t):=by obtain ⟨t,e⟩:=xx;exact ⟨t,Ķ X G e⟩
 have v7:∃t,mg "PAGES"=some (.int (24) t):=by obtain ⟨t,e⟩:=wL;exact ⟨t,Ķ X G e⟩
 have xq:∃t,mg "HAS"=some (.int (0) t):=by obtain ⟨t,e⟩:=yf;exact ⟨t,Ķ X G e⟩
 have v8:∃t,mg "LACKS"=some (.int (1) t):=by obtain ⟨t,e⟩:=wM;exact ⟨t,Ķ X G e⟩
 have wG:∃t,mg "HEAP"=some (.int (9) t):=by obtain ⟨t,e⟩:=xy;exact ⟨t,Ķ X G e⟩
 have Ik:=ñ X G vd;have QE:=ñ X G yg;have QG:=ñ X G yh;have Pc:=ñ X G xA;have QH:=ñ X G yi;have Il:=ñ X G ve;have QI:=ñ X G yj;have Pd:=ñ X G xB;have QJ:=ñ X G yk;have QK:=ñ X G yl;have Nx:=ñ X G wN;have Pe:=ñ X G xC;have QM:=ñ X G ym;have Mj:=ñ X G wb;have Ny:=ñ X G wO;have QN:=ñ X G yn;obtain ⟨f,oc,od,sl,kV,dc,pm,an,cd,ct,a,l,c,k⟩:=dl;have e:=Um.symm.trans (Ķ X G a);cases e;have F:=DJ (st:=(top 90)) l c k;have GL:Gd K mg "law" (top 90) [WY] _ _:=⟨Ķ X G a,F,F.binds fun _ _ _ _ _ _=>cU fun _=>rfl⟩;obtain ⟨c0,T0,Z,hC,hT⟩:=Nc tf;exact ⟨c0,T0,_,Z,hT,fun s v=>.of_eq rfl,fun base _ _ hB=>Nb (O0 ⟨Ik,QE,QG,Pc,QH,Il,QI,Pd,QJ,QK,Nx,Pe,QM,Mj,Ny,QN,dR X G xf (by decide +kernel),dR X G xf (by decide +kernel),dR X G xf (by decide +kernel),dR X G xf (by decide +kernel),dR X G xf (by decide +kernel),dR X G xf (by decide +kernel),dR X G xf (by decide +kernel),dR X G xf (by decide +kernel),dR X G xf (by decide +kernel),dR X G xf (by decide +kernel),dR X G xf (by decide +kernel),dR X G xf (by decide +kernel),dR X G xf (by decide +kernel),dR X G xf (by decide +kernel),dR X G xf (by decide +kernel),dR X G xf (by decide +kernel),dR X G xf (by decide +kernel),dR X G xf (by decide +kernel),dR X G xf (by decide +kernel),Qr xf,F9 X G xf (by decide +kernel),F9 X G xf (by decide +kernel),RT X G xf,sx,se,sL,v7,xq,v8,wG,Y,g1,g2,g3,W,V,U,S,R,Q,O,N,M,L,J,I,H,E,D,C,B,A,z,y,x,u,r,q,p,o,n,m,j,i,g,d,b,UR,US,UT,UU,UW,UX⟩ Z hC hB GL a) Z Mi⟩
def walk {l:PySem.W.OpenLaw} {q:ß} {loose:List Str} {XP:(Str->Option Ä)->ħ->Prop} {YP:ú->ħ->Prop} {d:DefRec} {K:Params->č} (hn:l.most=some 63) (qT:d.params.defaults=[]) (hd:(PyProof.Rows.recsOf q).find? (fun e=>e.name==d.name)=some d)
  (hY:∀(w:ú) (h:ħ),YP w h->(K w.params).In h)
  (F:∀(w:ú) (mg:Str->Option Ä) (fa:Ø) (h:ħ),(K w.params).In h->h.Ns Ó mg->mg d.name=some (.ref fa) ->
   ∃(c T:Ø) (fd:ę),WM (K w.params) d.name=some (c,T)/\(K w.params).lookup T=none/\(∀(s:Ã) (u:Ä),BindsTo s fd ⟨[u],[]⟩ [(WY,u)])/\∀base:ħ,(K w.params).In base->base.Ns Ó mg->base.BuiltinsAt mg T->cG l.prog w (K w.params) mg base cP 13 fa fd [WY] (sV (K w.params) T)) :
  PySem.W.WalkO q loose XP YP l.row.toRowW d [] (fun f vs=>PySem.call f vs) :=
 L2.OT (n:=63) (k:=13) (x:= WY) (CX:=fun _=>cP) (sp:=fun w=>sV (K w.params)) hn (by decide) qT ⟨rfl,by decide,by decide,rfl⟩ hY hd F (fun _ _ _ a Z Y X V=>⟨a,Z,rfl,V,Y,X,fun _=>rfl⟩) fun _ _ _ _ _ z=>z
end DI.aO
open PySem PySem.W PyProof.Rows
namespace PySem.W.Fast
def te8998628050389653703:=trivial
def te10866518913703069540:=trivial
def te14034133921676925380:=trivial
def te8403559534865787773:=trivial
def te15500001179271910561:=trivial
def te4678103353419205127:=trivial
end PySem.W.Fast
set_option maxRecDepth 100000 in
set_option maxHeartbeats 0 in
theorem PySem.Challenge.cw_twinmoulds_k53_refusals_of_the_later_sta_holds : PySem.Challenge.rw_twinmoulds_k53_refusals_of_the_later_sta.Holds := by
 w_on;o_law;k_head;(case hw=>w_witness2)
 k_fill
 refine DI.aO.walk (l:=PySem.Challenge.rw_twinmoulds_k53_refusals_of_the_later_sta) rfl rfl rfl (fun w h Y=>PySem.W.km_in_of Y) ?F
 case F =>
  intro w V U h Z G X;refine' DI.aO.all_mk Z G X ?d0 ?d1 ?d2 ?d3 ?d4 ?d5 ?d6 ?d7 ?d8 ?d9 ?Ax ?Ay ?Az ?AA ?AB ?AD ?AE ?AF ?AG ?AH ?AI ?AJ ?AK ?AL ?AM ?AN ?AO ?AQ ?AR ?AS ?AU ?AV ?AW ?AX ?AY ?AZ ?A0 ?A1 ?A2 ?A3 ?A4 ?A5 ?A6 ?dl ?wK ?wa ?xx ?wL ?yf ?wM ?xy ?vd ?yg ?yh ?xA ?yi ?ve ?yj ?xB ?yk ?yl ?wN ?xC ?ym ?wb ?wO ?yn ?xf ?tf
  (case d0|d1|d2|d3|d4|d5|d6|d7|d8|d9|Ax|Ay|Az|AA|AB|AD|AE|AF|AG|AH|AI|AJ|AK|AL|AM|AN|AO|AQ|AR|AS|AU|AV|AW|AX|AY|AZ|A0|A1|A2|A3|A4|A5|A6|dl=>refine' DI.aO.QC ?a ?l ?c ?k;(case a=>k_is);(case l=>k_is);(case c=>k_is);(case k=>k_is))
  (case wK=>refine' DI.aO.mC ?e;(case e=>k_is))
  (case wa=>refine' DI.aO.mC ?e;(case e=>k_is))
  (case xx=>refine' DI.aO.mC ?e;(case e=>k_is))
  (case wL=>refine' DI.aO.mC ?e;(case e=>k_is))
  (case yf=>refine' DI.aO.mC ?e;(case e=>k_is))
  (case wM=>refine' DI.aO.mC ?e;(case e=>k_is))
  (case xy=>refine' DI.aO.mC ?e;(case e=>k_is))
  (case vd|yg|yh|xA|yi|ve|yj|xB|yk|yl|wN|xC|ym|wb|wO|yn=>k_is)
  (case xf=>kernel_rfl)
  (case tf=>kernel_rfl)
