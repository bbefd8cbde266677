import PyProof.Rows.All
import Wide.All
import OpenK.AllK
import Wide.FinOn
import Lean
import PyProof.EqAt
import PyProof.EqKinds
import PyProof.TupleCall
import PyProof.NeData
import PyProof.P3In
import PyProof.FactsAll.set
import PyProof.CollectWalk
import PyProof.FactsAll.range
import PyProof.MinMaxWalk
import KE.KMinKey
import PyProof.WalkInts
import PyProof.Rows.CallKwBuiltin
import KE.KLam
import KE.KSortTup
import PyProof.Rows.Range3
import PyProof.ListRange
import PyProof.DictRoadsH
import KE.KDictList
import PyProof.Rows.SortKeyStr
import KE.KTryMore
import OpenK.KOwn
import PyProof.ExcBaseAll.ValueError
import KE.KNestM
import PyProof.NsDelKeeps
import PyProof.ExcAttrAll.ValueError
import PyProof.DictCompW
import PyProof.DictWalks
import PyProof.Rows.CompDC
import PyProof.SumAny
import PyProof.TupleOfGen
import PyProof.CollectIter
import PySem.Challenge.RW_twinmoulds_k43_a_sheet_more_and_those_ne
set_option bootstrap.genMatcherCode false
set_option genInjectivity false
set_option genSizeOfSpec false
set_option Elab.async false
set_option linter.all false
set_option maxRecDepth 100000
set_option maxHeartbeats 4000000
open PySem renaming wpAny_bind→À,wpAny_pure→Â,Shared→Ã,Value→Ä,starEach→Æ,Addr→Ò,mainGlobals→Ó,wpAny→Ô,sizeLine→Ö,Program→Û,model→á,Around→ã,bootBuiltins→ê,wpAny_newObj_type→ì,World→ú,wpAny_callSpecial?_slot→ü,wpAny_seqItems→ý,wpAny_call_entry→Ā,codeAny_builtin→Ą,wpAny_holding→ą,compareOp→Ć,FuncData→č,plainId_quiet→Ę,Expr→Ě,backTo→Ġ,mem_of_lookup→ġ,wpAny_mono→ģ,wpAny_truthy_bool→Ĥ,Heap→ħ,wpAny_field→Ī,foldedSetIterable→į,binaryOp→Ĳ,wpAny_tryCatch→ĳ,eval→ĺ,wpAny_updateSeq→Ľ,intKind→ŀ,wpAny_Call_Name_kw→Ň,wpAny_setField_rec→ň,wpAny_letGo→Ŏ,wpAny_pyIter_list→Ő,wpAny_setState_of→ŕ,codeAny_mono→Ŗ,NameKind→ŗ,wpAny_attempt→Ř,wpAny_setEntries_of→ř,pickOrder→ś,wpAny_askSetting→Ŝ,wpAny_rule→ŝ,wpAny_setField→Ş,Builtin→š,pyNext→ţ,codeAny→ť,fits_of_scanBound→Ů,rawInt→Ų,cellsFrom→ų,IsPair→Ŷ,scanBound→Ÿ,Scope→ε,wpAny_typeOf→ι,letOwnedTupleGo→υ,wpAny_passesOwn→ω,behindInMarks→RD,attributeBase→RH,PyData→RS,holding→RT,sizeLine_eq→RU,sliceBounds→RW,keywordEach→RX,wpAny_of_eq→R0,wpAny_storeSet_of→R4,eqIsQuiet_byValue→R7,Keyword→Se,wpAny_isInstance→Sj,checkBuiltinCall→Sn,sysModules→Sr,assignEach→Ss,wpAny_call→Su,seqItems?→Sx,wpAny_specialOf→SA,Stmt→SH,Arguments→SM
open PySem.Heap renaming get?_push_of_some→Á,get?_push_size→Ç,lt_size→É,get?_update_other→å,get?_update_self→î,size_push→ö,SameBut→Ĭ,ExtBut→RY
open List renaming getElem?_eq_some_iff→Å,mem_append_right→Ê,length_map→Ë,getElem?_eq_getElem→Ì,size_toArray→Ð,replicate→Ñ,mem_cons_of_mem→Õ,mem_cons_self→Ø,mem_cons→Ù,getElem?_append_left→Ú,getElem?_set_ne→Ü,getElem?_set_self→Þ,map_cons→ç,getElem?_map→è,length_append→ð,length_set→ô,length_cons→ø,getElem?_append_right→ù,mem_append→û,mem_singleton→Ă,range→ć,pairwise_cons→Ĉ,lookup_cons→ď,getElem?_eq_none→ĕ,length_nil→Ė,not_mem_nil→ė,mem_of_getElem?→ě,set_cons_succ→Ĝ,set_cons_zero→ĝ,append_nil→ĩ,all_eq_true→ĭ,replicate_succ→İ,getElem?_replicate→ĸ,mem_range→Ĺ,cons_append→ņ,zip_cons_cons→ŋ,length_filter_le→Ō,mem_append_left→ŏ,flatten_cons→Œ,nil_append→œ,getD→Ś,nodup_cons→Ŧ,getElem?_toArray→Ū,map_append→ū,append_assoc→ŭ,drop_eq_getElem_cons→Ź,length_take→ż,isEmpty_nil→ž,filter_cons→ſ,filterMap_cons→ζ,getElem_of_mem→η,map_nil→μ,mem_map→ξ,map_map→ο,mem_filter→ς,mem_filterMap→ψ,of_mem_zip→RF,forIn_cons→RJ,length_eq_zero_iff→RL,ext_getElem?→R1,length_range→R5,length_replicate→Sa,getElem_mem→Sh,any_eq_true→Si,getElem?_range→Sz,drop_drop→SJ
open Nat renaming lt_of_lt_of_le→È,ne_of_lt→Ý,le_trans→â,lt_irrefl→ò,lt_succ_of_lt→ÿ,zero_le→ċ,ne_of_gt→Ĵ,le_of_eq→ļ,lt_succ_self→Ņ,le_succ→ŧ,lt_of_le_of_lt→RO,le_of_not_lt→Sg,add_assoc→Sq
open Bool renaming and_eq_true→Í,false_eq_true→Î,false_ne_true→Ï,not_true→ğ,eq_iff_iff→ő,and_self→RM,not_eq_true→Sm,false_and→SI
open PySem.NameKind renaming free→ä
open PySem.F renaming plain_max_loop→æ,entry_max_loop→Į,slot_tuple_iterator_next→ł,isi_meta_tuple→ń,isi_meta_list→Ŕ,called_set→Ũ,args_tuple_add_2→θ,entry_tuple_add→RG,plainAttrs_list→RN,slot_tuple_add→RR,slot_tuple_hash→R6,called_tuple→So,slot_int_rmul→Sw,slot_zip_next→Sy
open PySem.Around renaming under_plainId→í
open PySem.W renaming nsIn→ï,mg_none_of→ñ,Frag→ĉ,keepIn→Ĩ,fnOf→Ļ,cellsFrom_some→Š,codeIn→Ŵ,hideAll_get→δ,mg_of→RP,findIn→R8,callWith_K→SG,methodObj→SK,tabIn→SQ,excIn→SR
open PySem.Builtin.SmallTypes renaming nextOf→ó,ownedTupleIsFree→Ģ,ownedTupleHandOut→ŷ
open PySem.SetTable renaming below→þ,grown→R9
open PySem.Obj renaming data_mapFields→ā,mapSeq→Ğ,isFreed_of_fields→ĵ,cls_mapFields→RZ
open Array renaming length_toList→ă,getElem?_toList→Ŋ
open PyProof.Rows renaming slot_tuple_getitem→Ċ,envOfC→ı,firstMet→Ŀ,callWith_type1→Ť,IntsAre→RV,AllBare→SO,envOfC→SS
open False renaming elim→Č
open PySem.Heap.SameBut renaming update→Ď
open PySem.PyData renaming eqv→Đ,depthAll→SE
open PySem.Builtin.Tuple renaming tupleExact→Ĕ,tupleItemsOf→Ł,tupleIsExact→Ű,tupleHashOf→ź
open Int renaming toNat_natCast→ĥ,emod_lt_of_pos→Ţ,emod_nonneg→RQ,zero_add→Sd
open PySem.Str renaming ofString→Ħ
open ForInStep renaming yield→ī
open PySem.PassesOwn renaming never→Ķ
open PySem.Builtin.Builtins renaming bindParams→ľ
open PySem.Value renaming bool→Ń,type→Ŭ,ref→ű,int→Sv
open PySem.Builtin.Slice renaming slicePlaces→ō,sliceAdjust→ŵ,sliceApplied→SF
open Ne renaming symm→ş
open PySem.Builtin.List renaming listExtendWith→ũ,listTooLong→ν
open Option renaming isNone_iff_eq_none→Ż,map_some→SD
open PySem.Builtin.Range renaming rangeSize→χ
open PySem.Calls renaming spliced_cons→RE
open PyProof.Rows.F renaming plain_set_update_loop→RK
open PySem.SetTable.below renaming go→R3
open List.Pairwise renaming sublist→Sb
open PySem.SetTable.probe renaming go→SN
open Or renaming inl→SU
def ß:=@decide_eq_true_eq
def à:=@decide_eq_true
def é:=@if_pos
def ë:=@decide_eq_false
def õ:=@if_neg
def đ:=@bne_self_eq_false
def Ē:=@if_false
def ē:=@if_true
def ę:=@of_decide_eq_true
def ķ:=@congrArg
def ů:=@and_self
def Ž:=@beq_self_eq_true
def S0:=@Nat.le_refl
def S7:=@Option.some.inj
abbrev S9:PySem.Str:="_law_script"
abbrev Ta:PySem.Str:="_law_state_here"
abbrev Tb:PySem.Str:="_law_other"
abbrev Tc:PySem.Str:="_law_heap_here"
abbrev Td:PySem.Str:="_law_one"
abbrev Te:PySem.Str:="_law_told"
abbrev Tf:PySem.Str:="_law_due"
abbrev Ti:PySem.Str:="_law_many"
noncomputable section
local macro_rules | `(tactic| omega) => `(tactic| lia)
open PySem.W (Frag)
namespace L2
open PySem PySem.Spec PyProof.Rows
noncomputable abbrev Key:=Sum Int Str
def vO:Key->Ä->Bool
 | .inl k,v=>Value.isInt k v
 | .inr x,v=>Value.isStrOf x v
def Nd (w:ú):Key->Int
 | .inl k=>hashInt k
 | .inr x=>hashStr w x
def iI:∀{k:Key} {v:Ä},vO k v=true->(∃i t,k=Sum.inl i/\v=Sv i t)\/(∃x t,k=Sum.inr x/\v=Value.str x t)
 | .inl i,v,h=>by
  obtain ⟨t,e⟩:=Value.isInt_shape (k:=i) (v:=v) h;exact .inl ⟨i,t,rfl,e⟩
 | .inr x,v,h=>by
  obtain ⟨t,e⟩:=Value.isStrOf_shape (x:=x) (v:=v) h;exact .inr ⟨x,t,rfl,e⟩
def JU (a b:Int):decide ((Sum.inl a:Key)=Sum.inl b)=(a==b):=by
 by_cases e:a=b
 ·subst e;simp
 ·have h:¬ (Sum.inl a:Key)=Sum.inl b:=fun q=>e (Sum.inl.inj q)
  rw [ë h];exact (beq_eq_false_iff_ne.mpr e).symm
def JV (a b:Str):decide ((Sum.inr a:Key)=Sum.inr b)=decide (a=b):=by
 by_cases e:a=b
 ·subst e;simp
 ·have h:¬ (Sum.inr a:Key)=Sum.inr b:=fun q=>e (Sum.inr.inj q)
  rw [ë h,ë e]
def JW (a:Int) (b:Str):decide ((Sum.inl a:Key)=Sum.inr b)=false:=ë (fun q=>nomatch q)
def JX (a:Str) (b:Int):decide ((Sum.inr a:Key)=Sum.inl b)=false:=ë (fun q=>nomatch q)
def qO (prog:Û) (w:ú):PySem.KeyKind prog w Key where
 is:=vO
 hash:=Nd w
 inj:=fun v a b X Y=>by
  rcases iI X with ⟨i,t,rfl,rfl⟩ | ⟨x,t,rfl,rfl⟩
  ·rcases iI Y with ⟨j,u,rfl,e⟩ | ⟨y,u,rfl,e⟩
   ·injection e with e1 _;rw [e1]
   ·exact nomatch e
  ·rcases iI Y with ⟨j,u,rfl,e⟩ | ⟨y,u,rfl,e⟩
   ·exact nomatch e
   ·injection e with e1 _;rw [e1]
 byValue:=fun k v h=>by
  rcases iI h with ⟨i,t,rfl,rfl⟩ | ⟨x,t,rfl,rfl⟩<;>rfl
 pyHash:=fun Z h=>by
  rcases iI Z with ⟨i,t,rfl,rfl⟩ | ⟨x,t,rfl,rfl⟩
  ·exact wpAny_pyHash_int h
  ·exact wpAny_pyHash_str h
 eqBool:=fun W Z h=>by
  rcases iI W with ⟨i,t,rfl,rfl⟩ | ⟨x,t,rfl,rfl⟩
  ·rcases iI Z with ⟨j,u,rfl,rfl⟩ | ⟨y,u,rfl,rfl⟩
   ·rw [JU] at h;exact wpAny_eqBool_int h
   ·rw [JW] at h;exact SeqAt.EqAt.int_str i t y u _ _ _ _ h
  ·rcases iI Z with ⟨j,u,rfl,rfl⟩ | ⟨y,u,rfl,rfl⟩
   ·rw [JX] at h;exact SeqAt.EqAt.str_int x t j u _ _ _ _ h
   ·rw [JV] at h;exact wpAny_eqBool_str h
 «strs»:=fun k x t v h=>by
  rcases iI h with ⟨i,u,rfl,e⟩ | ⟨y,u,rfl,e⟩
  ·exact nomatch e
  ·injection e with e1 _
   subst e1
   cases v<;>rfl
set_option genInjectivity true in
inductive V where
 |ao|bl (b:Bool)|int (i:Int)|str (x:Str)|fY (b:Array UInt8)|pC (b:UInt64)|ref (a:Ò)|ty (n:String)
 deriving DecidableEq
def RelV:V->Ä->Prop
 | .ao,u=>u=Value.none
 | .bl b,u=>u=Ń b
 | .int i,u=>∃t,u=Sv i t
 | .str x,u=>∃t,u=Value.str x t
 | .fY b,u=>∃t,u=Value.bytes b t
 | .pC b,u=>∃t,u=Value.float b t
 | .ref a,u=>u=ű a
 | .ty n,u=>u=Ŭ n
abbrev Vals:List V->List Ä->Prop:=Paired RelV
theorem Vals.length (r:Vals xs us):xs.length=us.length:=Paired.length r
theorem Vals.get:∀{xs:List V} {us:List Ä} {i:Nat} {x:V},Vals xs us->xs[i]?=some x->∃u,us[i]?=some u/\RelV x u
 |_,_,_,_,.nil,e=>by simp at e
 |_,_,0,_,.cons r _,e=>by simp at e;subst e;exact ⟨_,rfl,r⟩
 |_,_,i+1,x,.cons _ t,e=>by
  obtain ⟨u,Z,Y⟩:=Vals.get (i:=i) (x:=x) t (by simpa using e);exact ⟨u,by simpa using Z,Y⟩
theorem Vals.set (r:RelV x u):∀{xs:List V} {us:List Ä} (i:Nat),Vals xs us->Vals (xs.set i x) (us.set i u)
 |_,_,_,.nil=>.nil
 |_,_,0,.cons _ t=>.cons r t
 |_,_,i+1,.cons q t=>.cons q (Vals.set r i t)
theorem Vals.append:∀{xs ys:List V} {us ws:List Ä},Vals xs us->Vals ys ws->Vals (xs++ys) (us++ws)
 |_,_,_,_,.nil,s=>s
 |_,_,_,_,.cons r t,s=>.cons r (Vals.append t s)
theorem Vals.take:∀{xs:List V} {us:List Ä} (n:Nat),Vals xs us->Vals (xs.take n) (us.take n)
 |_,_,0,_=>.nil
 |_,_,_ + 1,.nil=>.nil
 |_,_,n+1,.cons r t=>.cons r (Vals.take n t)
theorem Vals.drop:∀{xs:List V} {us:List Ä} (n:Nat),Vals xs us->Vals (xs.drop n) (us.drop n)
 |_,_,0,r=>r
 |_,_,_ + 1,.nil=>.nil
 |_,_,n+1,.cons _ t=>Vals.drop n t
def Cy:Option V->Option Ä->Prop
 |some v,some u=>RelV v u
 |none,none=>True
 |_,_=>False
def KV {κ:Type}:List (κ×V)->List (κ×Ä)->Prop:=Paired fun (p:κ×V) (q:κ×Ä)=>p.1=q.1/\RelV p.2 q.2
def kV:Key->V
 | .inl i=>.int i
 | .inr x=>.str x
inductive HO where
 |lst (xs:List V)
 |tup (xs:List V)
 |dK (ay:List (Key×V))|dT (ay:List (List Key×V))
 |set (S:Int->Bool) (n:Nat)
 |ins (C dx:Ò) (fs:List (Str×V))
 |own (x:Ò)
 |xd (fs:List (Str×V))
 |met (f x:Ò)
 |cb (lo hi:Int)
 |aN (o:Obj) (u:HO)
 |cu (ps:Array Ä)
 |ext (φ:ħ->Prop)
noncomputable abbrev Hp:=Ò->Option HO
def upd (H:Hp) (a:Ò) (o:HO):Hp:=fun b=>if b=a then some o else H b
def bS:upd H a o a=some o:=by unfold upd;rw [é rfl]
def aJ (h:b≠a):upd H a o b=H b:=by unfold upd;rw [õ h]
def bX {H:Hp} {a b:Ò} {o:HO} (h:H a=some o) (h':H b=none):a≠b:=by
 intro e;subst e;rw [h] at h';cases h'
section
variable (P:Û) (w:ú)
def ck (H:Hp) (h:ħ) (a:Ò):HO->Prop
 | .lst Z=>Z.length<=Ö/\∃(its:List Ä) (n:Nat),Vals Z its/\h.get? a=some { cls:=.type "list",data:=.seq its.toArray n }
 | .tup Z=>Z.length<=Ö/\∃its:List Ä,Vals Z its/\IsTup h a its.toArray
 | .dK X=>X.length<=Ö/\(a==Sr)=false/\∃R,KV X R/\h.DictOf (qO P w) a R
 | .dT X=>X.length<=Ö/\(a==Sr)=false/\∃Z:List (List Key×Ò×Ä),
   Paired (fun (p:List Key×V) (q:List Key×Ò×Ä)=>p.1=q.1/\H q.2.1=some (.tup (p.1.map kV))/\RelV p.2 q.2.2) X Z /\
   ∃o Q M,h.get? a=some o/\o.ExactDict/\o.data=.dict Q M/\Q.toList=Z.map (entryOfKey (tupleKind (qO P w)))/\(Z.map (·.1)).Nodup
 | .set S n=>h.SetOf (ŀ P w) a S n
 | .ins C U fs=>H U=some (.own a)/\fs.length<=1000/\U≠a/\h.get? a=some (PySem.W.instObj C U) /\
   ∃Y,h.Ns1 U Y/\(∀f,Cy (fs.lookup f) (Y f))/\PySem.Within Y (fs.map (·.1))
 | .own _=>∃o,h.get? a=some o
 | .xd fs=>∃Y,h.Ns1 a Y/\∀f,Cy (fs.lookup f) (Y f)
 | .cb lo hi=>∃t u v,h.get? a=some { cls:=.type "range",data:=.fields #[.int lo t,.int hi u,.int 1 v] }
 | .aN o u=>h.get? a=some o/\ck H h a u
 | .cu L=>h.get? a=some { cls:=.none,data:=.fields L }
 | .met f x=>h.get? a=some (SK (.ref f) (.ref x))
 | .ext T=>T h/\(∃o,h.get? a=some o)/\∀O N:ħ,T O->(∀o,O.get? a=some o->N.get? a=some o)->T N
def bC (H:Hp) (h:ħ):Prop:=∀a o,H a=some o->ck P w H h a o
end
section
variable {P:Û} {w:ú} {H H':Hp} {h h':ħ} {a:Ò} {o:HO}
theorem ck.lt (x:ck P w H h a o):a<h.objs.size:=by
 cases o with
 |lst Z=>obtain ⟨_,_,_,_,e⟩:=x;exact É e
 |tup Z=>obtain ⟨_,_,_,p⟩:=x;exact p.lt
 |dK Y=>obtain ⟨_,_,_,_,o,_,_,e,_⟩:=x;exact É e
 |dT Y=>obtain ⟨_,_,_,_,o,_,_,e,_⟩:=x;exact É e
 |set S n=>obtain ⟨o,_,_,_,e,_⟩:=x;exact É e
 |ins C X fs=>obtain ⟨_,_,_,e,_⟩:=x;exact É e
 |own y=>obtain ⟨_,e⟩:=x;exact É e
 |xd fs=>obtain ⟨_,⟨_,_,_,e,_⟩,_⟩:=x;exact É e
 |cb lo hi=>obtain ⟨_,_,_,e⟩:=x;exact É e
 |aN W u=>obtain ⟨e,_⟩:=x;exact É e
 |cu V=>exact É (show h.get? a=some _ from x)
 |met f y=>exact É (show h.get? a=some _ from x)
 |ext U=>obtain ⟨_,⟨_,e⟩,_⟩:=x;exact É e
theorem Paired.Cz {α β:Type} {F G:α->β->Prop}:∀{CA:List α} {CB:List β},Paired F CA CB->(∀a b,F a b->G a b)->Paired G CA CB
 |_,_,.nil,_=>.nil
 |_,_,.cons r t,f=>.cons (f _ _ r) (Paired.Cz t f)
def ck.cD (x:ck P w H h a o) (k:∀b u,(b=a\/H b=some (.own a))->h.get? b=some u->h'.get? b=some u)
  (ho:∀b,H b=some (.own a)->H' b=some (.own a)) (ht:∀b xs,H b=some (.tup xs)->H' b=some (.tup xs)):ck P w H' h' a o:=by
 induction o with
 |lst xs=>obtain ⟨z,its,n,r,e⟩:=x;exact ⟨z,its,n,r,k _ _ (.inl rfl) e⟩
 |tup xs=>obtain ⟨z,its,r,Z,e,c⟩:=x;exact ⟨z,its,r,Z,k _ _ (.inl rfl) e,c⟩
 |dK R=>obtain ⟨z,y,Q,r,Z,Y,X,e,c⟩:=x;exact ⟨z,y,Q,r,Z,Y,X,k _ _ (.inl rfl) e,c⟩
 |dT R =>
  obtain ⟨z,y,xs,r,Z,Y,X,e,c⟩:=x;exact ⟨z,y,xs,Paired.Cz r fun p q z=>⟨z.1,ht _ _ z.2.1,z.2.2⟩,Z,Y,X,k _ _ (.inl rfl) e,c⟩
 |set S n=>obtain ⟨Z,Y,X,t,e,c⟩:=x;exact ⟨Z,Y,X,t,k _ _ (.inl rfl) e,c⟩
 |ins C O fs =>
  obtain ⟨d,z,ne,e,W,⟨V,Y,X,e2,c⟩,r⟩:=x;exact ⟨ho _ d,z,ne,k _ _ (.inl rfl) e,W,⟨V,Y,X,k _ _ (.inr d) e2,c⟩,r⟩
 |own y=>obtain ⟨Z,e⟩:=x;exact ⟨Z,k _ _ (.inl rfl) e⟩
 |xd fs=>obtain ⟨W,⟨V,Y,X,e,c⟩,r⟩:=x;exact ⟨W,⟨V,Y,X,k _ _ (.inl rfl) e,c⟩,r⟩
 |cb lo hi=>obtain ⟨t,u,v,e⟩:=x;exact ⟨t,u,v,k _ _ (.inl rfl) e⟩
 |aN Z u ih=>obtain ⟨e,q⟩:=x;exact ⟨k _ _ (.inl rfl) e,ih q⟩
 |cu U =>
  have e:h.get? a=some { cls:=.none,data:=.fields U }:=x;show h'.get? a=some { cls:=.none,data:=.fields U };exact k a _ (.inl rfl) e
 |met f y =>
  have e:h.get? a=some (SK (.ref f) (.ref y)):=x;show h'.get? a=some (SK (.ref f) (.ref y));exact k a _ (.inl rfl) e
 |ext N=>obtain ⟨p,⟨o,e⟩,T⟩:=x;exact ⟨T _ _ p fun o q=>k _ _ (.inl rfl) q,⟨o,k _ _ (.inl rfl) e⟩,T⟩
theorem bC.lt (x:bC P w H h) (e:H a=some o):a<h.objs.size:=(x a o e).lt
def bC.fresh (x:bC P w H h) (e:h.objs.size<=a):H a=none:=by
 cases q:H a with
 |none=>rfl
 |some u=>exact absurd (È (x.lt q) e) (ò _)
def bC.kept (x:bC P w H h) (k:∀b u,h.get? b=some u->h'.get? b=some u):bC P w H h':=fun a o e =>
 (x a o e).cD (fun b u _ q=>k b u q) (fun _ q=>q) fun _ _ q=>q
def bC.laid (x:bC P w H h) (k:∀b u,h.get? b=some u->h'.get? b=some u) (hp:h.objs.size<=a) (new:ck P w (upd H a o) h' a o):bC P w (upd H a o) h':=fun b u e=>by
 have Z:=x.fresh hp;by_cases Y:b=a
 ·subst Y;rw [bS] at e;cases e;exact new
 ·rw [aJ Y] at e
  exact (x b u e).cD (fun c v _ q=>k c v q) (fun c q=>by rw [aJ (bX q Z)];exact q) fun c X q=>by rw [aJ (bX q Z)];exact q
end
def Rd (H:Hp) (a:Ò) (u:HO):Prop:=H a=some u\/∃o,H a=some (.aN o u)
def Rd.ok (r:Rd H a u) (x:bC P w H h):ck P w H h a u:=by
 rcases r with r | ⟨o,r⟩
 ·exact x a u r
 ·obtain ⟨_,q⟩:=x a _ r
  exact q
def sE:Option HO->Prop
 |some (.lst _)=>True
 |some (.dK _)=>True
 |some (.dT _)=>True
 |some (.set _ _)=>True
 |some (.ins _ _ _)=>True
 |some (.ext _)=>True
 |_=>False
section
variable {P:Û} {w:ú} {H:Hp} {h h':ħ} {x e:Ò} {o':HO}
def bC.write (ok:bC P w H h) (mu:sE (H x)) (he:e=x\/H e=some (.own x)) (k:∀b u,b≠e->h.get? b=some u->h'.get? b=some u) (nv:∃u,h'.get? e=some u)
  (new:ck P w (upd H x o') h' x o'):bC P w (upd H x o') h':=fun b u q=>by
 have W:∀c y,H c=some (.own y)->c≠x:=fun c y r z=>by subst z;rw [r] at mu;exact mu
 have U:∀c Z,H c=some (.tup Z)->c≠x:=fun c Z r z=>by subst z;rw [r] at mu;exact mu
 by_cases Y:b=x
 ·subst Y;rw [bS] at q;cases q;exact new
 ·rw [aJ Y] at q
  by_cases X:b=e
  ·have V:H b=some (.own x):=by
    rcases he with z|z
    ·exact absurd (X.trans z) Y
    ·rw [X];exact z
   rw [q] at V;cases V;obtain ⟨v,T⟩:=nv;exact ⟨v,by rw [X];exact T⟩
  ·refine (ok b u q).cD (fun c v hc r=>k c v ?_ r) (fun c r=>by rw [aJ (W c b r)];exact r) fun c Z r=>by rw [aJ (U c Z r)];exact r
   rcases hc with rfl|hc
   ·exact X
   ·rintro rfl
    rcases he with z|z
    ·exact W c b hc z
    ·rw [hc] at z;cases z;exact Y rfl
end
structure Un (fs ex:List Ò) (H H':Hp) (h h':ħ):Prop where
 keep:∀b o,h.get? b=some o->H b=none->b∉fs->b∉ex->h'.get? b=some o
 slot:∀b o,h.get? b=some o->H b=none->b∈fs->b∉ex->∃sl,h'.get? b=some { o with slots:=sl }
 free:∀b o,h.get? b=some o->H b=none->b∉ex->H' b=none
 there:∀b o,h.get? b=some o->b∉ex->∃o',h'.get? b=some o'
 cT:∀b xs,H b=some (.tup xs)->H' b=some (.tup xs)
 cH:∀b o u,H b=some (.aN o u)->H' b=some (.aN o u)
 cU:∀b ps,H b=some (.cu ps)->∃more,H' b=some (.cu (ps++more))
section
variable {fs Ov ex Q9:List Ò} {H H1 H2:Hp} {h h1 h2 h':ħ} {a x e:Ò} {o:HO}
def Un.any (u:Un fs ex H H1 h h1) (q:h.get? b=some ob) (n:H b=none) (hx:b∉ex):∃sl,h1.get? b=some { ob with slots:=sl }:=by
 by_cases Z:b∈fs
 ·exact u.slot b ob q n Z hx
 ·exact ⟨ob.slots,u.keep b ob q n Z hx⟩
def Un.kept (k:∀b u,h.get? b=some u->h'.get? b=some u):Un fs ex H H h h' :=
 ⟨fun b Z q _ _ _=>k b Z q,fun b Z q _ _ _=>⟨Z.slots,k b Z q⟩,fun _ _ _ n _=>n,fun b Z q _=>⟨Z,k b Z q⟩,fun _ _ q=>q,fun _ _ _ q=>q,fun _ Y q=>⟨#[],by rw [q];simp⟩⟩
def Un.refl:Un fs ex H H h h:=Un.kept fun _ _ q=>q
def Un.laid (k:∀b u,h.get? b=some u->h'.get? b=some u) (hp:h.objs.size<=a) (hn:H a=none):Un fs ex H (upd H a o) h h' where
 keep:=fun b u q _ _ _=>k b u q
 slot:=fun b u q _ _ _=>⟨u.slots,k b u q⟩
 free:=fun b u q n _=>by rw [aJ (Ý (È (É q) hp))];exact n
 there:=fun b u q _=>⟨u,k b u q⟩
 cT:=fun b Z q=>by rw [aJ (bX q hn)];exact q
 cH:=fun b u Z q=>by rw [aJ (bX q hn)];exact q
 cU:=fun b Y q=>⟨#[],by rw [aJ (bX q hn),q];simp⟩
def Un.write (mu:sE (H x)) (he:e=x\/H e=some (.own x)) (k:∀b u,b≠e->h.get? b=some u->h'.get? b=some u) (nv:∃u,h'.get? e=some u):Un fs ex H (upd H x o) h h':=by
 have Y:∀b,H b=none->b≠x:=fun b n z=>by subst z;rw [n] at mu;exact mu
 have X:∀b,H b=none->b≠e:=fun b n z=>by
  subst z
  rcases he with r|r
  ·exact Y b n r
  ·rw [n] at r;cases r
 have Z:∀b u,H b=some u->¬ sE (some u)->b≠x:=fun b u q nm z=>by subst z;rw [q] at mu;exact nm mu
 refine ⟨fun b u q n _ _=>k b u (X b n) q,fun b u q n _ _=>⟨u.slots,k b u (X b n) q⟩,fun b u q n _=>by rw [aJ (Y b n)];exact n,fun b u q _=>?_,
  fun b V q=>by rw [aJ (Z b _ q fun z=>z)];exact q,fun b u V q=>by rw [aJ (Z b _ q fun z=>z)];exact q,fun b U q=>⟨#[],by rw [aJ (Z b _ q fun z=>z),q];simp⟩⟩
 by_cases W:b=e
 ·subst W;exact nv
 ·exact ⟨u,k b u W q⟩
end
def ny (h:ħ) (H:Hp):List Ò:=(ć h.objs.size).filter fun a=>(H a).isSome
def jt (h:ħ) (H:Hp):ħ:=PySem.W.hideAll h (ny h H)
def FY (h:ħ) (H:Hp):(jt h H).objs.size=h.objs.size:=PySem.W.hideAll_size _ _
def ue (e:h.get? b=some o) (n:H b=none):(jt h H).get? b=some o :=
 δ _ e fun Z=>by
  have q:(H b).isSome=true:=(ς.mp Z).2;rw [n] at q;simp at q
def Iu (e:(jt h H).get? b=some o):h.get? b=some o/\H b=none:=by
 have Z:h.get? b=some o:=PySem.W.of_hideAll (ny h H) e;refine ⟨Z,?_⟩
 cases q:H b with
 |none=>rfl
 |some x =>
  have Y:b∈ny h H:=ς.mpr ⟨Ĺ.mpr (É Z),by simp [q]⟩;have z:(jt h H).get? b=none:=PySem.W.hideAll_none (ny h H) Y;rw [z] at e;cases e
noncomputable def Iv (g h:ħ) (L:Ò):List (Ò×Obj):=(ć h.objs.size).filterMap fun a=>if a=L\/(g.get? a).isSome=true then none else (h.get? a).map fun o=>(a,o)
def rest (g h:ħ) (L d:Ò):List (Ò×Obj):=(Iv g h L).filter fun p=>decide (p.1≠d)
structure Mod (K:ĉ) (mg:Str->Option Ä) (base:ħ):Prop where
 iu:K.In base
 glob:base.Ns Ó mg
 blt:∃mb,base.Ns builtinsNs mb/\∀x:Str,x≠"__name__"->mb x=ê x
 nolimit:base.NoLimit
structure Cx where
 prog:Û
 w:ú
 K:ĉ
 mg:Str->Option Ä
 base:ħ
 A:ã
 N:List Str
 bQ:Ã
 iQ:Hp
 env:Env
 outer:List Env
 stack:List Env
 ex:List Ò
 fn:Str->Bool
 calm:Bool
 pn:List (Ò×Obj)
 xe:Ä->Ã->Prop
noncomputable def bD (l:List Env):List Ò:=l.filterMap (·.frame)
abbrev Cx.fs (X:Cx):List Ò:=bD X.outer
def nA (sc:ε) (x:Str):Prop:=sc.names.lookup x=some .local\/sc.names.lookup x=some .cell\/sc.names.lookup x=some .free
def Loc (sc:ε) (x:Str):Prop:=sc.names.lookup x=some .local\/sc.names.lookup x=some .cell
def Look (env:Env) (h:ħ) (m:Str->Option Ä) (x:Str) (u:Ä):Prop :=
 (env.kindOf x=some .local/\m x=some u)\/((env.kindOf x=some .cell\/env.kindOf x=some .free)/\∃c,env.cells.lookup x=some c/\h.IsCell c (some u))
structure Cx.Ok (X:Cx):Prop where
 mod:Mod X.K X.mg X.base
 kind:X.env.scope.kind=.function
 glob:X.env.globals=Ó
 blt:X.env.builtins=builtinsNs
 above:X.bQ.heap.objs.size<=X.env.locals
 inj:∀x y c,X.env.cells.lookup x=some c->X.env.cells.lookup y=some c->x=y
 has:∀x,(X.env.kindOf x=some .cell\/X.env.kindOf x=some .free)->∃c,X.env.cells.lookup x=some c
 kz:∀x c,X.fn x=true->X.env.cells.lookup x=some c->X.bQ.heap.objs.size<=c
 hd:X.calm=true->X.A.handled=none
 frames:X.A.frames=some X.stack
 gG:X.stack=X.outer\/(X.stack=X.env::X.outer/\X.env.frame=some X.env.locals)
 sF:∀b∈X.ex,b≠X.env.locals/\∀x c,X.env.cells.lookup x=some c->c≠b
 bs:∀b o,X.base.get? b=some o->X.bQ.heap.get? b=some o/\X.iQ b=none
 fJ:X.base.objs.size<=X.bQ.heap.objs.size
 ju:∀b o,X.base.get? b=some o->b∉X.ex
 mV:∀b∈X.ex,b∉X.fs
 eG:X.bQ.heap.FunFrames X.base X.outer
 gH:∀b∈X.fs,X.iQ b=none
structure Inv (X:Cx) (π:List (Ò×Obj)) (σ:List (Option V)) (H:Hp) (s:Ã):Prop where
 ok:X.Ok
 os:s.os=X.bQ.os
 bare:SO s.gens
 base:Un X.fs X.ex X.iQ H X.bQ.heap s.heap
 loc:∃m,s.heap.Ns X.env.locals m/\∀(i:Nat) (x:Str) (v:V),X.N[i]?=some x->σ[i]?=some (some v)->nA X.env.scope x->∃u,RelV v u/\Look X.env s.heap m x u
 cell:∀x c,X.env.cells.lookup x=some c->∃v,s.heap.IsCell c v
 free:H X.env.locals=none
 fD:∀x c,X.env.cells.lookup x=some c->H c=none
 pin:∀p∈X.pn++π,s.heap.get? p.1=some p.2/\H p.1=none/\p.1≠X.env.locals/\p.1∉X.fs/\∀v,p.2.data≠.cell v
 au:bC X.prog X.w H s.heap
 len:σ.length=X.N.length
section
variable {X:Cx} {π:List (Ò×Obj)} {σ:List (Option V)} {H H':Hp} {s:Ã} {h':ħ}
def Cx.Ok.Ng (ok:X.Ok) (e:X.base.get? b=some o):b∉X.fs:=fun Z=>by
 have:=(ok.eG.mem Z).1;rw [e] at this;cases this
theorem Inv.bs (I:Inv X π σ H s):∀b o,X.base.get? b=some o->s.heap.get? b=some o/\H b=none:=fun b o e =>
 ⟨I.base.keep b o (I.ok.bs b o e).1 (I.ok.bs b o e).2 (I.ok.Ng e) (I.ok.ju b o e),I.base.free b o (I.ok.bs b o e).1 (I.ok.bs b o e).2 (I.ok.ju b o e)⟩
def Inv.bk (I:Inv X π σ H s):∀b o,X.base.get? b=some o->s.heap.get? b=some o:=fun b o e=>(I.bs b o e).1
theorem Inv.mod (I:Inv X π σ H s):Mod X.K X.mg X.base:=I.ok.mod
def Inv.fK (I:Inv X π σ H s):X.K.In s.heap:=I.ok.mod.iu.keeps I.bk
theorem Inv.lt (I:Inv X π σ H s):X.env.locals<s.heap.objs.size:=let ⟨_,Z,_⟩:=I.loc;Z.lt
def Inv.sz (I:Inv X π σ H s):X.bQ.heap.objs.size<=s.heap.objs.size:=â I.ok.above (Nat.le_of_lt I.lt)
def Inv.wB (I:Inv X π σ H s) {a:Ò} (h:s.heap.objs.size<=a):a∉X.fs:=fun Z=>by
 obtain ⟨_,o,Y,_⟩:=I.ok.eG.mem Z;exact absurd (È (É Y) (â I.sz h)) (ò _)
def Inv.gJ (I:Inv X π σ H s):∀x c,X.env.cells.lookup x=some c->c≠X.env.locals:=fun x c e z=>by
 obtain ⟨v,o,Z,Y⟩:=I.cell x c e;obtain ⟨m,⟨U,T,S,W,V,_⟩,_⟩:=I.loc;rw [z,W] at Z;cases Z;rw [V] at Y;cases Y
theorem Inv.eG (I:Inv X π σ H s):s.heap.FunFrames X.base X.outer:=by
 have all:∀(l:List Env),(∀b∈bD l,b∈X.fs)->X.bQ.heap.FunFrames X.base l->s.heap.FunFrames X.base l:=by
  intro l
  induction l with
  |nil=>intro _ _;trivial
  |cons env r ih =>
   intro hs V;obtain ⟨U,⟨L,o,Z,T,S,R⟩,Q⟩:=V;have Y:L∈X.fs:=hs L (by unfold bD;rw [ζ,Z];exact Ø);obtain ⟨P,e⟩:=I.base.slot L o S (I.ok.gH L Y) Y fun z=>I.ok.mV L z Y;exact ⟨U,⟨L,_,Z,T,e,R⟩,ih (fun b W=>hs b (by unfold bD;rw [ζ,Z];exact Õ _ W)) Q⟩
 exact all X.outer (fun _ W=>W) I.ok.eG
theorem Inv.stack (I:Inv X π σ H s):s.heap.FunFrames X.base X.stack:=by
 rcases I.ok.gG with e | ⟨e,Z⟩
 ·rw [e];exact I.eG
 ·rw [e]
  obtain ⟨m,Y,_⟩:=I.loc;refine .cons (by rw [I.ok.kind];decide) Z Y ?_ I.eG;exact Heap.get?_none_of_le (â I.ok.fJ I.ok.above)
def Inv.kU (I:Inv X π σ H s):∀b∈bD X.stack,b∈X.env.locals::X.fs:=fun b Z=>by
 rcases I.ok.gG with e | ⟨e,Y⟩
 ·rw [e] at Z;exact Õ _ Z
 ·rw [e] at Z
  unfold bD at Z;rw [ζ,Y] at Z;exact Z
def Inv.qP (I:Inv X π σ H s):∀b∈bD X.stack,H b=none:=fun b hb=>by
 rcases Ù.mp (I.kU b hb) with e|hb
 ·rw [e];exact I.free
 ·obtain ⟨_,o,Z,_⟩:=I.ok.eG.mem hb
  exact I.base.free b o Z (I.ok.gH b hb) fun z=>I.ok.mV b z hb
def Inv.step {g':Array GenState} {t':Nat} {d':Drawn} {ch:List Ò} (I:Inv X π σ H s)
  (i3:∀b∈ch,(b∈X.ex\/X.bQ.heap.objs.size<=b)/\b≠X.env.locals/\(∀x c,X.env.cells.lookup x=some c->c≠b)/\∀p∈X.pn++π,p.1≠b)
  (keep:∀b o,b≠X.env.locals->b∉X.fs->b∉ch->s.heap.get? b=some o->H b=none->h'.get? b=some o)
  (slot:∀b o,b≠X.env.locals->b∈X.fs->b∉ch->s.heap.get? b=some o->H b=none->∃sl,h'.get? b=some { o with slots:=sl }) (free:∀b o,b∉ch->s.heap.get? b=some o->H b=none->H' b=none)
  (there:∀b o,b∉ch->s.heap.get? b=some o->∃o',h'.get? b=some o')
  (cT:∀b xs,H b=some (.tup xs)->H' b=some (.tup xs)) (cH:∀b o u,H b=some (.aN o u)->H' b=some (.aN o u)) (cU:∀b ps,H b=some (.cu ps)->∃more,H' b=some (.cu (ps++more)))
  (ns:∀m,s.heap.Ns X.env.locals m->h'.Ns X.env.locals m) (au:bC X.prog X.w H' h') (hg:SO g') :
  Inv X π σ H' { s with heap:=h',gens:=g',drawn:=d',toks:=t' }:=by
 have S:∀b o,X.bQ.heap.get? b=some o->b≠X.env.locals:=fun b o e=>Ý (È (É e) I.ok.above);have U:∀b o,X.bQ.heap.get? b=some o->b∉X.ex->b∉ch:=fun b o e Z Y=>by
  rcases (i3 b Y).1 with z|z
  ·exact Z z
  ·exact absurd (È (É e) z) (ò _)
 have cellK:∀x c,X.env.cells.lookup x=some c->∀v,s.heap.IsCell c v->h'.IsCell c v:=fun x c e v ⟨o,W,T⟩=>by
  have V:c∉ch:=fun z=>(i3 c z).2.2.1 x c e rfl;by_cases R:c∈X.fs
  ·obtain ⟨sl,q⟩:=slot c o (I.gJ x c e) R V W (I.fD x c e)
   exact ⟨_,q,T⟩
  ·exact ⟨o,keep c o (I.gJ x c e) R V W (I.fD x c e),T⟩
 refine ⟨I.ok,I.os,hg,⟨fun b o e n Y Z=>?_,fun b o e n Y Z=>?_,fun b o e n Z=>?_,fun b o e Z=>?_,fun b xs e=>cT b xs (I.base.cT b xs e),fun b o xs e=>cH b o xs (I.base.cH b o xs e),fun b ps e=>?_⟩,?_,fun x c e=>?_,?_,fun x c e=>?_,fun p Q=>?_,au,I.len⟩
 ·exact keep b o (S b o e) Y (U b o e Z) (I.base.keep b o e n Y Z) (I.base.free b o e n Z)
 ·obtain ⟨sl,e1⟩:=I.base.slot b o e n Y Z
  obtain ⟨O,e2⟩:=slot b _ (S b o e) Y (U b o e Z) e1 (I.base.free b o e n Z);exact ⟨O,e2⟩
 ·obtain ⟨o',e1⟩:=I.base.there b o e Z
  exact free b o' (U b o e Z) e1 (I.base.free b o e n Z)
 ·obtain ⟨o',e1⟩:=I.base.there b o e Z
  exact there b o' (U b o e Z) e1
 ·obtain ⟨N,e1⟩:=I.base.cU b ps e
  obtain ⟨M,e2⟩:=cU b _ e1;exact ⟨N++M,by rw [e2,Array.append_assoc]⟩
 ·obtain ⟨m,L,K⟩:=I.loc
  refine ⟨m,ns m L,fun i x v e1 e2 J=>?_⟩;obtain ⟨u,r,l⟩:=K i x v e1 e2 J;refine ⟨u,r,?_⟩
  rcases l with l | ⟨k,c,e,z⟩
  ·exact .inl l
  ·exact .inr ⟨k,c,e,cellK x c e _ z⟩
 ·obtain ⟨v,z⟩:=I.cell x c e
  exact ⟨v,cellK x c e v z⟩
 ·obtain ⟨m,⟨o,_,_,W,_⟩,_⟩:=I.loc
  exact free _ o (fun z=>(i3 _ z).2.1 rfl) W I.free
 ·obtain ⟨v,o,W,T⟩:=I.cell x c e
  exact free c o (fun z=>(i3 c z).2.2.1 x c e rfl) W (I.fD x c e)
 ·obtain ⟨e,n,ne,P,d⟩:=I.pin p Q
  have V:p.1∉ch:=fun z=>(i3 p.1 z).2.2.2 p Q rfl;exact ⟨keep p.1 p.2 ne P V e n,free p.1 p.2 V e n,ne,P,d⟩
def Inv.un {t':Nat} (I:Inv X π σ H s) (u:Un X.fs [] H H' s.heap h') (au:bC X.prog X.w H' h'):Inv X π σ H' { s with heap:=h',toks:=t' }:=by
 obtain ⟨m,⟨o,Q,P,Y,r⟩,_⟩:=id I.loc;obtain ⟨O,V⟩:=u.any Y I.free (by simp)
 exact I.step (g':=s.gens) (d':=s.drawn) (ch:=[]) (fun _ z=>nomatch z) (fun b o _ Z _ e n=>u.keep b o e n Z (by simp)) (fun b o _ Z _ e n=>u.slot b o e n Z (by simp)) (fun b o _ e n=>u.free b o e n (by simp)) (fun b o _ e=>u.there b o e (by simp)) u.cT u.cH u.cU (fun N U=>by
  obtain ⟨M,T,S,W,R⟩:=U;rw [Y] at W;cases W;exact ⟨_,T,S,V,R⟩) au I.bare
def Inv.call {g':Array GenState} {t':Nat} {d':Drawn} {ch:List Ò} (I:Inv X π σ H s) (u:Un (bD X.stack) ch H H' s.heap h') (au:bC X.prog X.w H' h') (hg:SO g')
  (i3:∀b∈ch,(b∈X.ex\/X.bQ.heap.objs.size<=b)/\b≠X.env.locals/\(∀x c,X.env.cells.lookup x=some c->c≠b)/\∀p∈X.pn++π,p.1≠b) :
  Inv X π σ H' { s with heap:=h',gens:=g',drawn:=d',toks:=t' }:=by
 obtain ⟨m,⟨o,P,O,W,r⟩,_⟩:=id I.loc;obtain ⟨N,Y⟩:=u.any W I.free fun z=>(i3 _ z).2.1 rfl;exact I.step (ch:=ch) i3 (fun b o Y U Z e n=>u.keep b o e n (fun z=>(Ù.mp (I.kU b z)).elim Y U) Z) (fun b o _ _ Z e n=>u.any e n Z) (fun b o Z e n=>u.free b o e n Z) (fun b o Z e=>u.there b o e Z) u.cT u.cH u.cU (fun M T=>by
  obtain ⟨L,S,R,V,Q⟩:=T;rw [W] at V;cases V;exact ⟨_,S,R,Y,Q⟩) au hg
def Inv.turned {t':Nat} {it:Ò} (I:Inv X π σ H s) (k:∀b o,b≠it->s.heap.get? b=some o->h'.get? b=some o) (hn:H it=none) (hL:it≠X.env.locals)
  (h1:it∈X.ex\/X.bQ.heap.objs.size<=it) (h2:∀x c,X.env.cells.lookup x=some c->c≠it) (h3:∀p∈X.pn++π,p.1≠it):Inv X π σ H { s with heap:=h',toks:=t' }:=by
 have Y:∀b u,H b=some u->b≠it:=fun b u e z=>by rw [z,hn] at e;cases e
 refine I.step (g':=s.gens) (d':=s.drawn) (ch:=[it]) (fun b W=>?_) (fun b o _ _ Z e _=>k b o (fun z=>Z (by simp [z])) e) (fun b o _ _ Z e _=>⟨o.slots,k b o (fun z=>Z (by simp [z])) e⟩) (fun _ _ _ _ n=>n)
  (fun b o Z e=>⟨o,k b o (fun z=>Z (by simp [z])) e⟩) (fun _ _ e=>e) (fun _ _ _ e=>e) (fun b R e=>⟨#[],by rw [e];simp⟩) (fun m V=>?_) (fun b u e=>?_) I.bare
 ·have e:b=it:=by simpa using W
  subst e;exact ⟨h1,hL,h2,h3⟩
 ·obtain ⟨o,U,T,S,r⟩:=V
  exact ⟨o,U,T,k _ o (ş hL) S,r⟩
 ·refine (I.au b u e).cD (fun c v Z q=>k c v ?_ q) (fun _ q=>q) fun _ _ q=>q
  rcases Z with z|z
  ·rw [z];exact Y b u e
  ·exact Y c _ z
def Inv.tok (I:Inv X π σ H s) (t:Nat):Inv X π σ H { s with toks:=t }:=I.un (h':=s.heap) (t':=t) Un.refl I.au
theorem Inv.kept (I:Inv X π σ H s) (k:∀b u,s.heap.get? b=some u->h'.get? b=some u):Inv X π σ H { s with heap:=h',toks:=t' }:=I.un (Un.kept k) (I.au.kept k)
theorem Inv.laid {a:Ò} {o:HO} {t':Nat} (I:Inv X π σ H s) (k:∀b u,s.heap.get? b=some u->h'.get? b=some u) (hp:s.heap.objs.size<=a) (new:ck X.prog X.w (upd H a o) h' a o) :
  Inv X π σ (upd H a o) { s with heap:=h',toks:=t' }:=I.un (Un.laid k hp (I.au.fresh hp)) (I.au.laid k hp new)
theorem Inv.write (I:Inv X π σ H s) (mu:sE (H x)) (he:e=x\/H e=some (.own x)) (k:∀b u,b≠e->s.heap.get? b=some u->h'.get? b=some u) (nv:∃u,h'.get? e=some u)
 (new:ck X.prog X.w (upd H x o) h' x o):Inv X π σ (upd H x o) { s with heap:=h',toks:=t' }:=I.un (Un.write mu he k nv) (I.au.write mu he k nv new)
def Inv.iJ (I:Inv X π σ H s) (h:∀p∈pins',s.heap.get? p.1=some p.2/\H p.1=none/\p.1≠X.env.locals/\p.1∉X.fs/\∀v,p.2.data≠.cell v):Inv X pins' σ H s :=
 ⟨I.ok,I.os,I.bare,I.base,I.loc,I.cell,I.free,I.fD,fun p Z=>(û.mp Z).elim (fun z=>I.pin p (ŏ _ z)) (h p),I.au,I.len⟩
def ug {N:List Str} (hN:N.Nodup) {i j:Nat} {x:Str} (a:N[i]?=some x) (b:N[j]?=some x):i=j:=by
 obtain ⟨Z,e1⟩:=Å.mp a;obtain ⟨Y,e2⟩:=Å.mp b;exact (List.getElem_inj hN).mp (e1.trans e2.symm)
def FZ {M:Model} {A:ã} {E:Ä->Ã->Prop} {i:Nat} {x:Str} {v:V} {u:Ä} {Q:Unit->Ã->Prop} (I:Inv X π σ H s) (hN:X.N.Nodup) (hi:X.N[i]?=some x) (hx:Loc X.env.scope x) (r:RelV v u)
  (h:∀s',Inv X π (σ.set i (some v)) H s'->(∃a,Ĭ a s.heap s'.heap/\(a=X.env.locals\/X.env.cells.lookup x=some a))->Q () s') (hf:X.fn x=true\/X.env.scope.names.lookup x=some .local:=by first|exact .inl rfl|exact .inr rfl|assumption):Ô M A (storeName X.env x u) Q E s:=by
 obtain ⟨m,T,D⟩:=id I.loc;have oQ:(X.env.scope.kind==.class||(X.env.scope.kind==.module&&X.env.locals != X.env.globals))=false:=by rw [I.ok.kind];rfl
 have C:i < σ.length:=by rw [I.len];exact (Å.mp hi).1
 have gJ:=I.gJ;have tracked:∀{a:Ò} {h':ħ},(∃o,s.heap.get? a=some o/\H a=none)->Ĭ a s.heap h'->bC X.prog X.w H h':=fun {a h'} ha hs b ob e=>by
  obtain ⟨_,_,B⟩:=ha;refine (I.au b ob e).cD (fun c W hc q=>(hs.2 c ?_).trans q) (fun _ q=>q) fun _ _ q=>q;rintro rfl
  rcases hc with rfl|hc
  ·rw [B] at e;cases e
  ·rw [B] at hc;cases hc
 rcases hx with hk|hk
 ·refine wpAny_storeName_local hk T (fun h' i4 hs=>?_) oQ
  obtain ⟨oL,_,_,nB,_⟩:=id T;refine h _ ⟨I.ok,I.os,I.bare,⟨fun b o e n Z hx=>?_,fun b o e n Z hx=>?_,I.base.free,fun b o e hx=>?_,I.base.cT,I.base.cH,I.base.cU⟩,⟨_,i4,fun j y S e1 e2 R=>?_⟩,fun y c e=>?_,I.free,I.fD,fun p P=>?_,tracked ⟨oL,nB,I.free⟩ hs,by simpa using I.len⟩ ⟨_,hs,.inl rfl⟩
  ·exact (hs.2 b (Ý (È (É e) I.ok.above))).trans (I.base.keep b o e n Z hx)
  ·obtain ⟨O,e1⟩:=I.base.slot b o e n Z hx
   exact ⟨O,(hs.2 b (Ý (È (É e) I.ok.above))).trans e1⟩
  ·obtain ⟨L,e1⟩:=I.base.there b o e hx
   exact ⟨L,(hs.2 b (Ý (È (É e) I.ok.above))).trans e1⟩
  ·by_cases Y:j=i
   ·subst Y
    rw [hi] at e1;cases e1;rw [Þ C] at e2;cases e2;exact ⟨u,r,.inl ⟨hk,by simp⟩⟩
   ·rw [Ü (ş Y)] at e2
    obtain ⟨K,J,q⟩:=D j y S e1 e2 R;refine ⟨K,J,?_⟩
    rcases q with ⟨k,e⟩ | ⟨k,c,e,z⟩
    ·refine .inl ⟨k,?_⟩
     have:y≠x:=fun e=>Y (ug hN e1 (e ▸ hi));simp [this,e]
    ·exact .inr ⟨k,c,e,z.sameBut hs (gJ y c e)⟩
  ·obtain ⟨W,z⟩:=I.cell y c e
   exact ⟨W,z.sameBut hs (gJ y c e)⟩
  ·obtain ⟨e,n,ne,G,d⟩:=I.pin p P
   exact ⟨(hs.2 p.1 ne).trans e,n,ne,G,d⟩
 ·have F:X.fn x=true:=by
   rcases hf with z|z
   ·exact z
   ·rw [z] at hk;cases hk
  obtain ⟨c,hc⟩:=I.ok.has x (.inl hk);obtain ⟨W,z⟩:=I.cell x c hc;refine wpAny_storeName_cell I.ok.kind hk hc z (fun h' t hs=>?_);obtain ⟨l,g,Nh⟩:=id z
  refine h { s with heap:=h' } ⟨I.ok,I.os,I.bare,⟨fun b o e n Z hx=>?_,fun b o e n Z hx=>?_,I.base.free,fun b o e hx=>?_,I.base.cT,I.base.cH,I.base.cU⟩,⟨m,T.sameBut hs (ş (gJ x c hc)),fun j y S e1 e2 R=>?_⟩,fun y U e=>?_,I.free,I.fD,fun p P=>?_,tracked ⟨l,g,I.fD x c hc⟩ hs,by simpa using I.len⟩ ⟨c,hs,.inr hc⟩
  ·exact (hs.2 b (Ý (È (É e) (I.ok.kz x c F hc)))).trans (I.base.keep b o e n Z hx)
  ·obtain ⟨O,e1⟩:=I.base.slot b o e n Z hx
   exact ⟨O,(hs.2 b (Ý (È (É e) (I.ok.kz x c F hc)))).trans e1⟩
  ·obtain ⟨L,e1⟩:=I.base.there b o e hx
   exact ⟨L,(hs.2 b (Ý (È (É e) (I.ok.kz x c F hc)))).trans e1⟩
  ·by_cases Y:j=i
   ·subst Y
    rw [hi] at e1;cases e1;rw [Þ C] at e2;cases e2;exact ⟨u,r,.inr ⟨.inl hk,c,hc,t⟩⟩
   ·rw [Ü (ş Y)] at e2
    obtain ⟨K,J,q⟩:=D j y S e1 e2 R;refine ⟨K,J,?_⟩
    rcases q with q | ⟨k,U,e,z'⟩
    ·exact .inl q
    ·refine .inr ⟨k,U,e,z'.sameBut hs ?_⟩
     rintro rfl;exact Y (ug hN e1 (I.ok.inj _ _ _ e hc ▸ hi))
  ·by_cases f:U=c
   ·subst f;exact ⟨_,t⟩
   ·obtain ⟨w2,z2⟩:=I.cell y U e
    exact ⟨w2,z2.sameBut hs f⟩
  ·obtain ⟨e,n,ne,G,d⟩:=I.pin p P
   refine ⟨(hs.2 p.1 ?_).trans e,n,ne,G,d⟩;intro q;rw [q,g] at e;have q':l=p.2:=S7 e;exact d W (by rw [<- q'];exact Nh)
def nW (I:Inv X π σ H s) (hN:X.N.Nodup) (hi:X.N[i]?=some x) (hx:Loc X.env.scope x) (r:RelV v u)
 (h:∀s',Inv X π (σ.set i (some v)) H s'->Q () s') (hf:X.fn x=true\/X.env.scope.names.lookup x=some .local:=by first|exact .inl rfl|exact .inr rfl|assumption):Ô M A (storeName X.env x u) Q E s :=
 FZ I hN hi hx r (fun s' Z _=>h s' Z) hf
def Inv.rN (I:Inv X π σ H s) (ho:s'.os=s.os) (u:Un (bD X.stack) ch H H' s.heap s'.heap) (au:bC X.prog X.w H' s'.heap) (hg:SO s'.gens)
 (i3:∀b∈ch,(b∈X.ex\/X.bQ.heap.objs.size<=b)/\b≠X.env.locals/\(∀x c,X.env.cells.lookup x=some c->c≠b)/\∀p∈X.pn++π,p.1≠b):Inv X π σ H' s':=by
 obtain ⟨h',g',d',t',Z⟩:=s';have e:Z=s.os:=ho;subst e;exact I.call (g':=g') (t':=t') (d':=d') u au hg i3
end
abbrev XK:=Ä->Option Ò->Hp->Prop
noncomputable abbrev St:=List (Option V)
abbrev VK:=V->Hp->Prop
abbrev TE:=St->Hp->VK->Prop
abbrev TT:=St->Hp->(Bool->Hp->Prop)->Prop
abbrev TA:=St->Hp->(List V->Hp->Prop)->Prop
structure Ends where
 nx:St->Hp->Prop
 rt:VK
 bk:St->Hp->Prop:=fun _ _=>False
 ct:St->Hp->Prop:=fun _ _=>False
abbrev TS:=Ends->St->Hp->Prop
def EP (X:Cx) (π:List (Ò×Obj)) (σ:St) (Q:VK) (u:Ä) (s':Ã):Prop:=∃v Z,Inv X π σ Z s'/\RelV v u/\Q v Z
def TP (X:Cx) (π:List (Ò×Obj)) (σ:St) (Q:Bool->Hp->Prop) (b:Bool) (s':Ã):Prop:=∃Z,Inv X π σ Z s'/\Q b Z
def AP (X:Cx) (π:List (Ò×Obj)) (σ:St) (Q:List V->Hp->Prop) (us:List Ä) (s':Ã):Prop:=∃Z Y,Inv X π σ Y s'/\Vals Z us/\Q Z Y
def SP (X:Cx) (π:List (Ò×Obj)) (D:Ends) (f:Flow) (s':Ã):Prop :=
 match f with
 | .next=>∃ Y Z,Inv X π Y Z s'/\D.nx Y Z
 | .brk=>∃ Y Z,Inv X π Y Z s'/\D.bk Y Z
 | .cont=>∃ Y Z,Inv X π Y Z s'/\D.ct Y Z
 | .ret u=>∃v Y Z,Inv X π Y Z s'/\RelV v u/\D.rt v Z
def PE (X:Cx) (e:Ě) (t:TE):Prop :=
 ∀(Z:List (Ò×Obj)) (s:Ã) (σ:St) (H:Hp) (Q:VK),Inv X Z σ H s->t σ H Q->Ô (á X.prog X.w) X.A (ĺ e X.env) (EP X Z σ Q) X.xe s
def PT (X:Cx) (e:Ě) (t:TT):Prop :=
 ∀(Z:List (Ò×Obj)) (s:Ã) (σ:St) (H:Hp) (Q:Bool->Hp->Prop),Inv X Z σ H s->t σ H Q->Ô (á X.prog X.w) X.A (isTrue e X.env (ĺ e X.env)) (TP X Z σ Q) X.xe s
def PW (X:Cx) (e:Ě) (t:TT):Prop :=
 ∀(whole:Sem Ä) (Z:List (Ò×Obj)) (s:Ã) (σ:St) (H:Hp) (Q:Bool->Hp->Prop),Inv X Z σ H s->t σ H Q->Ô (á X.prog X.w) X.A (isTrue e X.env whole) (TP X Z σ Q) X.xe s
def PW.pt (h:PW X e t):PT X e t:=h _
def PA (X:Cx) (es:List Ě) (t:TA):Prop :=
 ∀(pos:Pos) (Z:List (Ò×Obj)) (s:Ã) (σ:St) (H:Hp) (Q:List V->Hp->Prop),Inv X Z σ H s->t σ H Q->Ô (á X.prog X.w) X.A (spliced (Ġ pos (Æ es X.env))) (AP X Z σ Q) X.xe s
def PS (X:Cx) (st:SH) (t:TS):Prop :=
 ∀(Z:List (Ò×Obj)) (s:Ã) (σ:St) (H:Hp) (D:Ends),Inv X Z σ H s->t D σ H->Ô (á X.prog X.w) X.A (exec st X.env) (SP X Z D) X.xe s
def bV (X:Cx) (st:List SH) (t:TS):Prop :=
 ∀(Z:List (Ò×Obj)) (s:Ã) (σ:St) (H:Hp) (D:Ends),Inv X Z σ H s->t D σ H->Ô (á X.prog X.w) X.A (execs st X.env) (SP X Z D) X.xe s
def aE {α:Type} {t:Sem α} {Q Q':α->Ã->Prop} {M:Model} {A:ã} {E:Ä->Ã->Prop} {s:Ã} (h:Ô M A t Q E s) (hQ:∀a s,Q a s->Q' a s):Ô M A t Q' E s:=ģ h hQ fun _ _ x=>x
section
variable {X:Cx}
def Ni (i:Nat):TE:=fun σ H Q=>∃v,σ[i]?=some (some v)/\Q v H
def tC (v:V):TE:=fun _ H Q=>Q v H
def A6 {i:Nat} {x:Str} {pos:Pos} (hN:X.N[i]?=some x) (hv:nA X.env.scope x) (hd:(x==("__debug__":Str))=false:=by decide) (cE:(x==("__classdict__":Str))=false:=by decide):PE X (.Name x pos) (Ni i):=by
 intro W s σ H Q I h;obtain ⟨v,e,h⟩:=h;obtain ⟨m,V,U⟩:=I.loc;obtain ⟨u,r,l⟩:=U i x v hN e hv;have fin:EP X W σ Q u s:=⟨v,H,I,r,h⟩
 rcases l with ⟨hk,T⟩ | ⟨hk,c,Z,Y⟩
 ·exact wpAny_Name (wpAny_loadName_local I.ok.kind hk V T fin) hd
 ·rcases hk with hk|hk
  ·exact wpAny_Name (wpAny_loadName_cell I.ok.kind hk Z Y fin) hd
  ·exact wpAny_Name (wpAny_loadName_free I.ok.kind hk Z Y fin cE) hd
def JY {i j pos}:PE X (.Constant (.int i) j pos) (tC (.int i)):=fun _ _ _ H _ I h=>wpAny_Constant_int ⟨.int i,H,I.tok _,⟨_,rfl⟩,h⟩
def vQ {b j pos}:PE X (.Constant (.bool b) j pos) (tC (.bl b)):=fun _ _ _ H _ I h=>Constant_bool ⟨.bl b,H,I,rfl,h⟩
def JZ {j pos}:PE X (.Constant .none j pos) (tC .ao):=fun _ _ _ H _ I h=>Constant_none ⟨.ao,H,I,rfl,h⟩
def J0 {x j pos}:PE X (.Constant (.str x) j pos) (tC (.str x)):=fun _ _ _ H _ I h=>Calls.Constant_str ⟨.str x,H,I.tok _,⟨_,rfl⟩,h⟩
def Gl (X:Cx) (x:Str):Prop:=X.env.kindOf x=some .globalImplicit
def mB {E:Ä->Ã->Prop} {π:List (Ò×Obj)} {s:Ã} {σ:St} {H:Hp} {x:Str} {u:Ä} {pos:Pos} {Q:Ä->Ã->Prop} (I:Inv X π σ H s) (hg:Gl X x) (hm:X.mg x=some u) (h:Q u s)
  (hd:(x==("__debug__":Str))=false:=by decide):Ô (á X.prog X.w) X.A (ĺ (.Name x pos) X.env) Q E s :=
 Calls.Name_function_global I.ok.kind hg (Calls.loadGlobal_global (by rw [I.ok.glob];exact I.mod.glob.keeps I.bk) hm h) hd
def kW {E:Ä->Ã->Prop} {π:List (Ò×Obj)} {s:Ã} {σ:St} {H:Hp} {x:Str} {u:Ä} {pos:Pos} {Q:Ä->Ã->Prop} (I:Inv X π σ H s) (hg:Gl X x) (hm:X.mg x=none) (hv:ê x=some u) (h:Q u s)
  (hn:x≠"__name__":=by decide) (hd:(x==("__debug__":Str))=false:=by decide):Ô (á X.prog X.w) X.A (ĺ (.Name x pos) X.env) Q E s:=by
 obtain ⟨W,Z,Y⟩:=I.mod.blt;exact Calls.Name_function_global I.ok.kind hg (Calls.loadGlobal_builtin (by rw [I.ok.glob];exact I.mod.glob.keeps I.bk) hm (by rw [I.ok.blt];exact Z.keeps I.bk) ((Y x hn).trans hv) h) hd
def Aj (hg:Gl X x) (hm:X.mg x=some u) (r:RelV v u) (hd:(x==("__debug__":Str))=false:=by decide):PE X (.Name x pos) (tC v) :=
 fun _ _ _ H _ I h=>mB I hg hm ⟨v,H,I,r,h⟩ hd
def qQ {x:Str} {v:V} {u:Ä} {pos:Pos} (hg:Gl X x) (hm:X.mg x=none) (hv:ê x=some u) (r:RelV v u) (hn:x≠"__name__":=by decide) (hd:(x==("__debug__":Str))=false:=by decide):PE X (.Name x pos) (tC v) :=
 fun _ _ _ H _ I h=>kW I hg hm hv ⟨v,H,I,r,h⟩ hn hd
variable {a b:Ě} {ta tb:TE} {pos:Pos}
variable {tA sJ:TT} {rest:List Ě}
def lI (t u:TT):TT:=fun σ H Q=>t σ H fun c Z=>if c=true then u σ Z Q else Q false Z
def kA (t u:TT):TT:=fun σ H Q=>t σ H fun c Z=>if c=true then Q true Z else u σ Z Q
def ib (t:TT):TT:=fun σ H Q=>t σ H fun c Z=>Q (!c) Z
def Iw (ha:PT X a tA):PW X (.BoolOp .And [a] pos) tA:=by
 intro Y Z s σ H Q I h;refine isTrue_and (aE (ha Z s σ H Q I h) fun c W e=>?_)
 cases c with
 |true=>exact isTrue_and_nil e
 |false=>exact e
def J1 (ha:PT X a tA):PW X (.BoolOp .Or [a] pos) tA:=by
 intro Y Z s σ H Q I h;refine isTrue_or (aE (ha Z s σ H Q I h) fun c W e=>?_)
 cases c with
 |false=>exact isTrue_or_nil e
 |true=>exact e
def J2 (ha:PT X a tA) (hb:PW X (.BoolOp .And (b::rest) pos) sJ):PW X (.BoolOp .And (a::b::rest) pos) (lI tA sJ):=by
 intro U Z s σ H Q I h;refine isTrue_and (aE (ha Z s σ H _ I h) fun c T ⟨Y,W,V⟩=>?_)
 cases c with
 |true=>exact hb U Z T σ Y Q W V
 |false=>exact ⟨Y,W,V⟩
def LN (ha:PT X a tA) (hb:PW X (.BoolOp .Or (b::rest) pos) sJ):PW X (.BoolOp .Or (a::b::rest) pos) (kA tA sJ):=by
 intro U Z s σ H Q I h;refine isTrue_or (aE (ha Z s σ H _ I h) fun c T ⟨Y,W,V⟩=>?_)
 cases c with
 |true=>exact ⟨Y,W,V⟩
 |false=>exact hb U Z T σ Y Q W V
def J3 (ha:PT X a tA):PT X (.UnaryOp .Not a pos) (ib tA):=by
 intro Z s σ H Q I h;exact isTrue_not (ha Z s σ H (fun c Y=>Q (!c) Y) I h)
def LO (ta tb:TE):TE:=fun σ H Q=>ta σ H fun x Z=>∃c,x=.bl c/\if c=true then tb σ Z Q else Q (.bl false) Z
def Nj (ta tb:TE):TE:=fun σ H Q=>ta σ H fun x Z=>∃c,x=.bl c/\if c=true then Q (.bl true) Z else tb σ Z Q
def LP (ta:TE):TE:=fun σ H Q=>ta σ H fun x Z=>∃c,x=.bl c/\Q (.bl (!c)) Z
def J4 {op} (h:PE X a t):PE X (.BoolOp op [a] pos) t:=fun Z s σ H Q I hw=>BoolOp_one (h Z s σ H Q I hw)
def J5 (ha:PE X a ta) (hb:PE X (.BoolOp .And (b::rest) pos) tb):PE X (.BoolOp .And (a::b::rest) pos) (LO ta tb):=by
 intro Y s σ H Q I h;refine BoolOp_and (aE (ha Y s σ H _ I h) fun v U ⟨x,W,V,T,Z⟩=>?_);obtain ⟨c,rfl,Z⟩:=Z;cases T;refine Ĥ ?_
 cases c with
 |true=>exact hb Y U σ W Q V Z
 |false=>exact ⟨.bl false,W,V,rfl,Z⟩
def LQ (ha:PE X a ta) (hb:PE X (.BoolOp .Or (b::rest) pos) tb):PE X (.BoolOp .Or (a::b::rest) pos) (Nj ta tb):=by
 intro Y s σ H Q I h;refine BoolOp_or (aE (ha Y s σ H _ I h) fun v U ⟨x,W,V,T,Z⟩=>?_);obtain ⟨c,rfl,Z⟩:=Z;cases T;refine Ĥ ?_
 cases c with
 |false=>exact hb Y U σ W Q V Z
 |true=>exact ⟨.bl true,W,V,rfl,Z⟩
def J6 (ha:PE X a ta):PE X (.UnaryOp .Not a pos) (LP ta):=by
 intro Y s σ H Q I h;refine UnaryOp_ (aE (ha Y s σ H _ I h) fun v T ⟨x,W,V,U,Z⟩=>?_);obtain ⟨c,rfl,Z⟩:=Z;cases U;exact not_of (Ĥ ⟨.bl (!c),W,V,rfl,Z⟩)
def Ow (t:TT) (ta tb:TE):TE:=fun σ H Q=>t σ H fun c Z=>if c=true then ta σ Z Q else tb σ Z Q
def G6 {c:Ě} (hc:PT X c tA) (ha:PE X a ta) (hb:PE X b tb):PE X (.IfExp c a b pos) (Ow tA ta tb):=by
 intro Z s σ H Q I h;refine wpAny_IfExp (aE (hc Z s σ H _ I h) fun d Y ⟨W,V,U⟩=>?_)
 cases d with
 |true=>exact ha Z Y σ W Q V U
 |false=>exact hb Z Y σ W Q V U
end
def aR (K:ĉ) (H:Hp) (a:Ò) (xs:List V):Prop :=
 Rd H a (.lst xs) \/
  ∃(o:Obj) (its:Array Ä) (n:Nat),K.lookup a=some o/\o.cls=.type "list"/\o.dict=none/\o.data=.seq its n/\its.size<=Ö/\Vals xs its.toList
def aT (K:ĉ) (H:Hp) (a:Ò) (xs:List V):Prop :=
 Rd H a (.tup xs) \/
  ∃(o:Obj) (its:Array Ä) (n:Nat),K.lookup a=some o/\o.cls=.type "tuple"/\o.data=.seq its n/\its.size<=Ö/\Vals xs its.toList
noncomputable def Nk:Ä->Option V
 | .none=>some .ao
 | .bool b=>some (.bl b)
 | .int i _=>some (.int i)
 | .str x _=>some (.str x)
 | .bytes b _=>some (.fY b)
 | .float b _=>some (.pC b)
 | .ref a=>some (.ref a)
 | .type n=>some (.ty n)
 |_=>none
def RelV.abs (r:RelV x u):Nk u=some x:=by
 cases x with
 |ao=>cases r;rfl
 |bl _=>cases r;rfl
 |int _=>obtain ⟨t,rfl⟩:=r;rfl
 |str _=>obtain ⟨t,rfl⟩:=r;rfl
 |fY _=>obtain ⟨t,rfl⟩:=r;rfl
 |pC _=>obtain ⟨t,rfl⟩:=r;rfl
 |ref _=>cases r;rfl
 |ty _=>cases r;rfl
def RelV.inj (r:RelV x u) (q:RelV y u):x=y:=S7 (r.abs.symm.trans q.abs)
theorem Vals.inj:∀{xs ys:List V} {us:List Ä},Vals xs us->Vals ys us->xs=ys
 |_,_,_,.nil,.nil=>rfl
 |_,_,_,.cons r t,.cons Z Y=>by rw [r.inj Z,Vals.inj t Y]
section
variable {X:Cx} {π:List (Ò×Obj)} {σ:St} {H:Hp} {s:Ã} {a:Ò} {xs ys:List V}
def aR.of {K:ĉ} (h:H a=some (.lst xs)):aR K H a xs:=.inl (.inl h)
def aT.of {K:ĉ} (h:H a=some (.tup xs)):aT K H a xs:=.inl (.inl h)
def Inv.list (I:Inv X π σ H s) (h:aR X.K H a xs):∃its:List Ä,Vals xs its/\PlainL s.heap a its.toArray/\xs.length<=Ö:=by
 rcases h with h | ⟨o,its,n,Z,Y,W,hs,V,r⟩
 ·obtain ⟨z,its,n,r,e⟩:=h.ok I.au
  exact ⟨its,r,⟨_,n,e,rfl,rfl,rfl⟩,z⟩
 ·refine ⟨its.toList,r,⟨o,n,I.fK a o Z,Y,W,by simpa using hs⟩,?_⟩
  have e:=r.length;simp only [ă] at e;omega
def Inv.tuple (I:Inv X π σ H s) (h:aT X.K H a xs):∃its:List Ä,Vals xs its/\IsTup s.heap a its.toArray/\xs.length<=Ö:=by
 rcases h with h | ⟨o,its,n,Z,Y,hs,W,r⟩
 ·obtain ⟨z,its,r,p⟩:=h.ok I.au
  exact ⟨its,r,p,z⟩
 ·refine ⟨its.toList,r,⟨o,I.fK a o Z,Y,n,by simpa using hs⟩,?_⟩
  have e:=r.length;simp only [ă] at e;omega
def Inv.zQ (I:Inv X π σ H s) (h:aR X.K H a xs) (h':aR X.K H a ys):xs=ys:=by
 obtain ⟨its,r,⟨o,n,e,_,_,d⟩,_⟩:=I.list h;obtain ⟨Z,V,⟨T,S,Y,_,_,W⟩,_⟩:=I.list h';rw [e] at Y;cases Y;rw [d] at W
 injection W with U _
 have:its=Z:=by simpa using ķ Array.toList U
 subst this;exact r.inj V
def Inv.zy (I:Inv X π σ H s) (h:aT X.K H a xs) (h':aT X.K H a ys):xs=ys:=by
 obtain ⟨its,r,⟨o,e,_,n,d⟩,_⟩:=I.tuple h;obtain ⟨Z,V,⟨T,Y,_,S,W⟩,_⟩:=I.tuple h';rw [e] at Y;cases Y;rw [d] at W
 injection W with U _
 have:its=Z:=by simpa using ķ Array.toList U
 subst this;exact r.inj V
end
noncomputable abbrev Cx.gE (X:Cx) (E:Ä->Ã->Prop):Cx:={ X with xe:=E }
noncomputable abbrev Cx.jG (X:Cx):Cx:=X.gE fun _ _=>False
theorem Cx.Ok.gE {X:Cx} (ok:X.Ok) (E:Ä->Ã->Prop):(X.gE E).Ok :=
 ⟨ok.mod,ok.kind,ok.glob,ok.blt,ok.above,ok.inj,ok.has,ok.kz,ok.hd,ok.frames,ok.gG,ok.sF,ok.bs,ok.fJ,ok.ju,ok.mV,ok.eG,ok.gH⟩
def Cx.Ok.ji {X:Cx} {E:Ä->Ã->Prop} (ok:(X.gE E).Ok):X.Ok :=
 ⟨ok.mod,ok.kind,ok.glob,ok.blt,ok.above,ok.inj,ok.has,ok.kz,ok.hd,ok.frames,ok.gG,ok.sF,ok.bs,ok.fJ,ok.ju,ok.mV,ok.eG,ok.gH⟩
section
variable {X:Cx} {π:List (Ò×Obj)} {σ:St} {H:Hp} {s:Ã} {E:Ä->Ã->Prop}
theorem Inv.gE (I:Inv X π σ H s) (E:Ä->Ã->Prop):Inv (X.gE E) π σ H s:=⟨I.ok.gE E,I.os,I.bare,I.base,I.loc,I.cell,I.free,I.fD,I.pin,I.au,I.len⟩
theorem Inv.ji (I:Inv (X.gE E) π σ H s):Inv X π σ H s:=⟨I.ok.ji,I.os,I.bare,I.base,I.loc,I.cell,I.free,I.fD,I.pin,I.au,I.len⟩
theorem SP.ji (h:SP (X.gE E) π D f s'):SP X π D f s':=by
 cases f with
 |next=>obtain ⟨Z,Y,I,q⟩:=h;exact ⟨Z,Y,I.ji,q⟩
 |brk=>obtain ⟨Z,Y,I,q⟩:=h;exact ⟨Z,Y,I.ji,q⟩
 |cont=>obtain ⟨Z,Y,I,q⟩:=h;exact ⟨Z,Y,I.ji,q⟩
 |ret u=>obtain ⟨v,Z,Y,I,r,q⟩:=h;exact ⟨v,Z,Y,I.ji,r,q⟩
theorem bV.jG {st:List SH} {t:TS} (h:bV X.jG st t):bV X st t:=fun π s σ H D I hw =>
 ģ (h π s σ H D (I.gE _) hw) (fun _ _ q=>q.ji) fun _ _ z=>Č z
end
section
variable {X:Cx} {st:SH} {rest:List SH} {t u:TS} {e:Ě} {te:TE} {pos:Pos}
def LR:TS:=fun D σ H=>D.nx σ H
def Nl (t u:TS):TS:=fun D σ H=>t { D with nx:=u D } σ H
def Iy:bV X [] LR:=fun _ _ σ H _ I h=>wpAny_execs_nil ⟨σ,H,I,h⟩
def G7 (h1:PS X st t) (h2:bV X rest u):bV X (st::rest) (Nl t u):=by
 intro Z s σ H D I h
 refine wpAny_execs_cons (aE (h1 Z s σ H { D with nx:=u D } I h) fun f Y q=>?_)
 cases f with
 |next =>
  obtain ⟨W,V,U,q⟩:=q;exact h2 Z Y W V D U q
 |ret v=>exact q
 |brk=>exact q
 |cont=>exact q
def Iz (h1:PS X st t):bV X [st] t:=by
 intro Z s σ H D I h;refine wpAny_execs_cons (aE (h1 Z s σ H D I h) fun f Y q=>?_)
 cases f with
 |next=>exact wpAny_execs_nil q
 |ret v=>exact q
 |brk=>exact q
 |cont=>exact q
def Inv.quiet {π:List (Ò×Obj)} {σ:St} {H:Hp} {s:Ã} (I:Inv X π σ H s):interactive X.env=false:=by simp [interactive,I.ok.kind]
def LS (te:TE):TS:=fun D σ H=>te σ H fun _ Z=>D.nx σ Z
def IA (he:PE X e te) (hs:swapsWith e none pos.line X.env=pure false:=by rfl):PS X (.Expr e pos) (LS te):=by
 intro Z s σ H D I h;exact wpAny_Expr_any (aE (he Z s σ H _ I h) fun v U ⟨x,Y,W,T,V⟩=>⟨σ,Y,W,V⟩) I.quiet hs
def Nm (te:TE):TS:=fun D σ H=>te σ H D.rt
def J8 (he:PE X e te):PS X (.Return (some e) pos) (Nm te):=by
 intro Z s σ H D I h;exact wpAny_Return_some (aE (he Z s σ H _ I h) fun v T ⟨x,Y,W,V,U⟩=>⟨x,σ,Y,W,V,U⟩)
def Nn (c:TT) (t u:TS):TS:=fun D σ H=>c σ H fun b Z=>if b=true then t D σ Z else u D σ Z
def LU {c:Ě} {a b:List SH} {tc:TT} (hc:PT X c tc) (ha:bV X a t) (hb:bV X b u):PS X (.If c a b pos) (Nn tc t u):=by
 intro Z s σ H D I h;refine wpAny_If (aE (hc Z s σ H _ I h) fun d Y ⟨W,V,U⟩=>?_)
 cases d with
 |true=>exact ha Z Y σ W D V U
 |false=>exact hb Z Y σ W D V U
end
abbrev TG:=V->St->Hp->(St->Hp->Prop)->Prop
abbrev i5:=List V->St->Hp->(St->Hp->Prop)->Prop
def PG (X:Cx) (target:Ě) (t:TG):Prop :=
 ∀(Z:List (Ò×Obj)) (s:Ã) (σ:St) (H:Hp) (v:V) (u:Ä) (Q:St->Hp->Prop),Inv X Z σ H s->RelV v u->t v σ H Q ->
  Ô (á X.prog X.w) X.A (assign target X.env u) (fun _ U=>∃ Y W,Inv X Z Y W U/\Q Y W) X.xe s
def sL (X:Cx) (ts:List Ě) (t:i5):Prop :=
 ∀(Z:List (Ò×Obj)) (s:Ã) (σ:St) (H:Hp) (Y:List V) (W:List Ä) (Q:St->Hp->Prop),Inv X Z σ H s->Vals Y W->t Y σ H Q ->
  Ô (á X.prog X.w) X.A (assignInOrder ((Ss ts X.env).map (·.2)) W) (fun _ S=>∃ U T,Inv X Z U T S/\Q U T) X.xe s
abbrev wC:=V->V->V->Hp->(Hp->Prop)->Prop
def CF (X:Cx) (t:wC):Prop :=
 ∀(Z:List (Ò×Obj)) (s:Ã) (σ:St) (H:Hp) (o i v:V) (Y W u:Ä) (Q:Hp->Prop),Inv X Z σ H s->RelV o Y->RelV i W->RelV v u->t o i v H Q ->
  Ô (á X.prog X.w) X.A (setItem Y W u) (fun _ T=>∃U,Inv X Z σ U T/\Q U) X.xe s
section
variable {X:Cx} {pos:Pos}
def lp (i:Nat):TG:=fun v σ H Q=>Q (σ.set i (some v)) H
def kP (hN:X.N.Nodup) (hi:X.N[i]?=some x) (hx:Loc X.env.scope x) (hf:X.fn x=true\/X.env.scope.names.lookup x=some .local:=by first|exact .inl rfl|exact .inr rfl|assumption):PG X (.Name x pos) (lp i):=by
 intro Y s σ H v u Q I r h;exact wpAny_assign_Name (nW I hN hi hx r (fun W Z=>⟨_,H,Z,h⟩) hf)
def wD:i5:=fun Z σ H Q=>Z=[]/\Q σ H
def vU (t:TG) (u:i5):i5:=fun Z σ H Q=>∃v r,Z=v::r/\t v σ H fun Y X=>u r Y X Q
def Ak:sL X [] wD:=by
 intro Z s σ H Y W Q I r h;obtain ⟨e,h⟩:=h;subst e;cases r;exact assignInOrder_nil ⟨σ,H,I,h⟩
def qF {e:Ě} {es:List Ě} {t:TG} {u:i5} (h1:PG X e t) (h2:sL X es u)
  (hs:(Ss (e::es) X.env).map (·.2)=assign e X.env::(Ss es X.env).map (·.2):=by rfl):sL X (e::es) (vU t u):=by
 intro Z s σ H R P Q I r h;obtain ⟨v,O,e1,h⟩:=h;subst e1
 cases r with
 |cons r Y =>
  rw [hs];refine assignInOrder_cons (aE (h1 Z s σ H _ _ _ I r h) fun _ W ⟨V,U,T,S⟩=>?_);exact h2 Z W V U _ _ Q T Y S
def wF (K:ĉ) (n:Nat) (t:i5):TG:=fun v σ H Q=>∃a Z,v=.ref a/\aT K H a Z/\Z.length=n/\t Z σ H Q
def A7 {k:Nat} {n:Nat} (hc:X.calm=true) (h:sL X es t)
 (hn:(Ss es X.env).length=n:=by rfl) (Oy:(Ss es X.env).findIdx? (·.1)=none:=by rfl):PG X (.Tuple es k pos) (wF X.K n t):=by
 intro Z s σ H v u Q I r hw;obtain ⟨a,W,e1,V,U,hw⟩:=hw;subst e1;cases r;obtain ⟨its,Y,T,O⟩:=I.tuple V;refine assign_Tuple_tuple (I.ok.hd hc) T (by simp [hn,<- U,Y.length]) Oy fun S R=>?_
 have P:Inv X Z σ H { s with heap:=S }:=I.kept (t':=s.toks) fun b o e=>R b o (Ý (É e)) e
 exact h Z _ σ H W _ Q P (by simpa using Y) hw
def Np (to ti:TE) (t:wC):TG:=fun v σ H Q=>to σ H fun o Z=>ti σ Z fun i Y=>t o i v Y fun X=>Q σ X
def J9 {o i:Ě} {to ti:TE} {t:wC} (ho:PE X o to) (hi:PE X i ti) (hs:CF X t)
  (ha:∀v,assign (.Subscript o i pos) X.env v=(do
   let ov <- RT [v] (ĺ o X.env)
   let iv <- RT [v,ov] (ĺ i X.env)
   standAt pos
   RT [v,ov,iv] (setItem ov iv v)
   release [v,ov,iv] []):=by intro _;rfl):PG X (.Subscript o i pos) (Np to ti t):=by
 intro Z s σ H v u Q I r h;rw [ha];refine À (ą (aE (ho Z s σ H _ I h) fun ov Y ⟨x,W,V,U,T⟩=>?_));refine À (ą (aE (hi Z Y σ W _ V T) fun iv S ⟨y,R,P,O,N⟩=>?_));refine À (wpAny_standAt (À (ą (aE (hs Z S σ R x y v ov iv u _ P U O r N) fun _ J ⟨M,L,K⟩=>?_))));exact wpAny_release ⟨σ,M,L,K⟩
def oR (te:TE) (g:TG):TS:=fun D σ H=>te σ H fun x Z=>g x σ Z D.nx
def Ka {tg e:Ě} {te:TE} {g:TG} (he:PE X e te) (hg:PG X tg g) (hs:swapsWithSole [tg] e pos.line X.env=pure false:=by rfl) (hw:swappedStores [tg] e X.env=pure none:=by rfl)
  (h1:(Ss [tg] X.env).map (·.2)=[assign tg X.env]:=by rfl):PS X (.Assign [tg] e pos) (oR te g):=by
 intro Z s σ H D I h;refine wpAny_Assign_stores (aE (he Z s σ H _ I h) fun v Y ⟨x,W,V,U,T⟩=>?_) hs hw;rw [h1];exact aE (hg Z Y σ W x v _ V U T) fun _ S q=>q
def Kb {i:Nat} {x:Str} {e:Ě} {te:TE} {pos':Pos} (hN:X.N.Nodup) (hi:X.N[i]?=some x) (hx:Loc X.env.scope x) (he:PE X e te) (hs:swapsWith e (some (.Name x pos')) pos.line X.env=pure false:=by rfl) (hf:X.fn x=true\/X.env.scope.names.lookup x=some .local:=by first|exact .inl rfl|exact .inr rfl|assumption) :
  PS X (.Assign [.Name x pos'] e pos) (oR te (lp i)):=by
 intro Z s σ H D I h;refine wpAny_Assign_Name (aE (he Z s σ H _ I h) fun v S ⟨y,Y,W,V,U⟩=>?_) hs;exact nW W hN hi hx V (fun R T=>⟨_,Y,T,U⟩) hf
def Nq (i j:Nat) (ta:TA):TS:=fun D σ H=>ta σ H fun Z Y=>∃v w,Z=[v,w]/\D.nx ((σ.set i (some v)).set j (some w)) Y
def Kc {i j:Nat} {x y:Str} {a b:Ě} {ta:TA} {px py pt:Pos} {kt k2 lV} (hc:X.calm=true) (hN:X.N.Nodup) (hi:X.N[i]?=some x) (hj:X.N[j]?=some y) (jH:i≠j)
  (hx:X.env.scope.names.lookup x=some .local) (hy:X.env.scope.names.lookup y=some .local) (ha:PA X [a,b] ta)
  (hw:swappedStores [.Tuple [.Name x px,.Name y py] kt pt] (.Tuple [a,b] k2 lV) X.env=pure (some [x,y]))
  (hs:swapsWithSole [.Tuple [.Name x px,.Name y py] kt pt] (.Tuple [a,b] k2 lV) pos.line X.env=pure false:=by rfl) :
  PS X (.Assign [.Tuple [.Name x px,.Name y py] kt pt] (.Tuple [a,b] k2 lV) pos) (Nq i j ta):=by
 intro U s σ H D I h;rw [exec_Assign_arm];refine À (wpAny_standAt ?_);rw [hs];refine À (Â ?_);rw [õ (by decide)];refine À (Tuple_ (aE (ha _ U s σ H _ I h) fun R Z ⟨C,T,Q,P,V⟩=>?_));obtain ⟨v,w,e1,V⟩:=V;subst e1;obtain ⟨Y,W,rfl,O,M⟩:∃Y W,R=[Y,W]/\RelV v Y/\RelV w W:=by
  cases P with
  |cons p q =>
   cases q with
   |cons L K =>
    cases K;exact ⟨_,_,rfl,p,L⟩
 refine ì ?_ (by show 2<=Ö;decide)
 have J:Inv X U σ T { Z with heap:=Z.heap.push { cls:=.type "tuple",data:=.seq [Y,W].toArray } }:=Q.kept (t':=Z.toks) fun b o e=>Á _ e
 rw [hw];refine À (Â ?_)
 show Ô (á X.prog X.w) X.A (do rule "assign.swapped-stores";let items <- unpackItems (.ref Z.heap.objs.size) 2 none;assignInOrder [fun v=>bindName X.env y v,fun v=>bindName X.env x v] items.reverse;pure Flow.next) _ _ _
 refine À (ŝ (À (unpackItems_tuple (items:=#[Y,W]) (I.ok.hd hc) (IsTup.new Z.heap _) fun h' G=>?_)));have F:=J.kept (h':=h') (t':=Z.toks) fun b o e=>G b o (Ý (É e)) e
 show Ô _ _ (assignInOrder [fun v=>bindName X.env y v,fun v=>bindName X.env x v] [W,Y] >>= fun _=>pure Flow.next) _ _ _
 refine À (assignInOrder_cons (wpAny_bindName (nW F hN hj (.inl hy) M (fun B E=>?_) (.inr hy))));refine assignInOrder_cons (wpAny_bindName (nW E hN hi (.inl hx) O (fun z S=>assignInOrder_nil (Â ?_)) (.inr hx)));rw [List.set_comm _ _ (ş jH)] at S;exact ⟨_,T,S,V⟩
end
section
variable {X:Cx} {pos:Pos}
end
structure It where
 go:Nat->Hp->Prop
 pH:Nat->Hp->V->Hp->Prop
 stop:Nat->Hp->Prop
def bR (X:Cx) (π:List (Ò×Obj)) (H:Hp) (b:Ò):Prop :=
 H b=none/\b≠X.env.locals/\b∉X.fs/\(b∈X.ex\/X.bQ.heap.objs.size<=b)/\(∀x c,X.env.cells.lookup x=some c->c≠b)/\∀p∈X.pn++π,p.1≠b
def Inv.kh {X:Cx} {π:List (Ò×Obj)} {σ:St} {H H':Hp} {s:Ã} {b:Ò} (I:Inv X π σ H s) (hb:s.heap.objs.size<=b) (hn:H' b=none):bR X π H' b:=by
 refine ⟨hn,Ĵ (È I.lt hb),I.wB hb,.inr (â I.sz hb),fun x c e z=>?_,fun p Z z=>?_⟩
 ·obtain ⟨v,q⟩:=I.cell x c e
  exact absurd (È q.lt (by rw [z];exact hb)) (ò _)
 ·exact absurd (È (É (I.pin p Z).1) (by rw [z];exact hb)) (ò _)
structure Turn (P:Û) (w:ú) (K:ĉ) (tg:Ě) (J:It) (fp:List Ò) (it:Ò) (tn:Nat->ħ->Prop):Prop where
 mem:it∈fp
 obj:∀i h,tn i h->∀b∈fp,∃o,h.get? b=some o/\∀v,o.data≠.cell v
 keep:∀i h h',tn i h->(∀b∈fp,∀o,h.get? b=some o->h'.get? b=some o)->tn i h'
 item:∀(X:Cx),X.prog=P->X.w=w->X.K=K->X.calm=true->∀(i:Nat) (π:List (Ò×Obj)) (s:Ã) (σ:St) (H:Hp) (E:Ä->Ã->Prop),Inv X π σ H s->(∀b∈fp,bR X π H b)->tn i s.heap->J.go i H ->
  Ô (á P w) X.A (ţ (.ref it)) (fun r s1=>∃u,r=some u /\
   Ô (á P w) X.A (υ tg (.ref it) u) (fun _ s2=>∃x H',Inv X π σ H' s2/\RelV x u/\J.pH i H x H'/\tn (i+1) s2.heap/\∀b∈fp,H' b=none) E s1) E s
 done:∀(X:Cx),X.prog=P->X.w=w->X.K=K->X.calm=true->∀(i:Nat) (π:List (Ò×Obj)) (s:Ã) (σ:St) (H:Hp) (E:Ä->Ã->Prop),Inv X π σ H s->(∀b∈fp,bR X π H b)->tn i s.heap->J.stop i H ->
  Ô (á P w) X.A (ţ (.ref it)) (fun r s1=>r=none/\Inv X π σ H s1) E s
 self:∀(A:ã) (i:Nat) (s:Ã) (Q:Ä->Ã->Prop) (E:Ä->Ã->Prop),tn i s.heap->Q (.ref it) s->Ô (á P w) A (pyIter (.ref it)) Q E s
abbrev TI:=St->Hp->(It->Hp->Prop)->Prop
def Dr (X:Cx) (π:List (Ò×Obj)) (σ:St) (tg:Ě) (R:It->Hp->Prop) (iw:Ä) (s2:Ã):Prop :=
 ∃(it:Ò) (Y:List Ò) (W:Nat->ħ->Prop) (J:It) (Z:Hp),iw=.ref it/\Inv X π σ Z s2/\Turn X.prog X.w X.K tg J Y it W/\W 0 s2.heap/\(∀b∈Y,bR X π Z b)/\R J Z
def PI (X:Cx) (tg iter:Ě) (wi:TI):Prop :=
 ∀(Z:List (Ò×Obj)) (s:Ã) (σ:St) (H:Hp) (R:It->Hp->Prop),Inv X Z σ H s->wi σ H R ->
  Ô (á X.prog X.w) X.A (ĺ iter X.env) (fun v Y=>Ô (á X.prog X.w) X.A (pyIter v) (Dr X Z σ tg R) X.xe Y) X.xe s
def vV (ho:s.heap.get? it=some o) (hc:o.cls=.type n) (hd:o.data=.fields vs)
 (hn:["enumerate","zip","dict_itemiterator","dict_reverseitemiterator","odict_iterator","itertools.zip_longest","itertools.pairwise"].contains n=false) (hQ:Q () s):Ô M A (υ tg (.ref it) u) Q E s:=by
 unfold υ
 cases tg<;>first
  |exact Â hQ
  |(cases u<;>first
    |exact Â hQ
    |(refine À (wpAny_load ho ?_)
      rw [hc,hd]
      show Ô M A (if (["enumerate","zip","dict_itemiterator","dict_reverseitemiterator","odict_iterator","itertools.zip_longest","itertools.pairwise"].contains n&&vs[0]?==some (Ų _))=true then _ else _) Q E s
      rw [õ (by intro h;rw [hn,SI] at h;cases h)];exact Â hQ))
noncomputable def xu (K:ĉ) (a:Ò):It :=
 ⟨fun i H=>∃Z x,aR K H a Z/\Z[i]?=some x,fun i H x Y=>Y=H/\∀Z,aR K H a Z->Z[i]?=some x,fun i H=>∃Z,aR K H a Z/\Z.length<=i⟩
noncomputable def xw (K:ĉ) (a:Ò):It :=
 ⟨fun i H=>∃Z x,aT K H a Z/\Z[i]?=some x,fun i H x Y=>Y=H/\∀Z,aT K H a Z->Z[i]?=some x,fun i H=>∃Z,aT K H a Z/\Z.length<=i⟩
noncomputable def sM (lo:Int) (n:Nat):It:=⟨fun i _=>i<n,fun i H x Z=>Z=H/\x=.int (lo+i),fun i _=>n<=i⟩
def F0 {P:Û} {w:ú} {K:ĉ} {tg:Ě} (a it:Ò):Turn P w K tg (xu K a) [it] it (fun i h=>h.IsListIter it a i) where
 mem:=by simp
 obj:=fun i h Z b Y=>by
  have e:b=it:=by simpa using Y
  subst e;obtain ⟨o,e,c,d⟩:=Z;exact ⟨o,e,fun v z=>by rw [d] at z;cases z⟩
 keep:=fun i h W Z k=>Z.at fun o e=>k it (by simp) o e
 item:=by
  intro X T hw S L i J s σ H E I V Z R;subst T hw S;obtain ⟨F,x,U,Q⟩:=R;obtain ⟨its,O,p,D⟩:=I.list U;obtain ⟨u,C,B⟩:=O.get Q;obtain ⟨f0,f1,f2,N,f4,M⟩:=V it (by simp);refine wpAny_pyNext_list_item Z p.isList (x:=u) (by simpa using C) fun W G A=>?_
  have y:Inv X J σ H { s with heap:=W }:=I.turned (t':=s.toks) (fun b o Y e=>(A.2 b Y).trans e) f0 f1 N f4 M
  obtain ⟨o,e,c,d⟩:=id G
  exact ⟨u,rfl,vV (s:={ s with heap:=W }) e c d (by decide) ⟨x,H,y,B,⟨rfl,fun q t=>by rw [I.zQ t U];exact Q⟩,G,fun b Y=>(V b Y).1⟩⟩
 done:=by
  intro X T hw S L i J s σ H E I V Z R;subst T hw S;obtain ⟨F,U,Q⟩:=R;obtain ⟨its,O,p,D⟩:=I.list U;obtain ⟨f0,f1,f2,N,f4,M⟩:=V it (by simp);have n:=O.length;exact wpAny_pyNext_list_end (I.ok.hd L) Z p.isList (by simp;omega) fun W r=>⟨rfl,I.turned (t':=s.toks) (fun b o Y e=>r b o Y e) f0 f1 N f4 M⟩
 self:=fun _ _ _ _ _ Z h=>wpAny_pyIter_listiter Z h
def Fg {P:Û} {w:ú} {K:ĉ} {tg:Ě} (a it:Ò):Turn P w K tg (xw K a) [it] it (fun i h=>h.IsTupleIter it a i) where
 mem:=by simp
 obj:=fun i h Z b Y=>by
  have e:b=it:=by simpa using Y
  subst e;obtain ⟨o,e,c,d⟩:=Z;exact ⟨o,e,fun v z=>by rw [d] at z;cases z⟩
 keep:=fun i h W Z k=>Z.at fun o e=>k it (by simp) o e
 item:=by
  intro X T hw S L i J s σ H E I V Z R;subst T hw S;obtain ⟨F,x,U,Q⟩:=R;obtain ⟨its,O,p,D⟩:=I.tuple U;obtain ⟨u,C,B⟩:=O.get Q;obtain ⟨f0,f1,f2,N,f4,M⟩:=V it (by simp);refine wpAny_pyNext_tuple_item Z (show s.heap.IsTuple a its.toArray from p) (x:=u) (by simpa using C) fun W G A=>?_
  have y:Inv X J σ H { s with heap:=W }:=I.turned (t':=s.toks) (fun b o Y e=>(A.2 b Y).trans e) f0 f1 N f4 M
  obtain ⟨o,e,c,d⟩:=id G
  exact ⟨u,rfl,vV (s:={ s with heap:=W }) e c d (by decide) ⟨x,H,y,B,⟨rfl,fun q t=>by rw [I.zy t U];exact Q⟩,G,fun b Y=>(V b Y).1⟩⟩
 done:=by
  intro X T hw S L i J s σ H E I V Z R;subst T hw S;obtain ⟨F,U,Q⟩:=R;obtain ⟨its,O,p,D⟩:=I.tuple U;obtain ⟨f0,f1,f2,N,f4,M⟩:=V it (by simp);have n:=O.length;exact wpAny_pyNext_tuple_end (I.ok.hd L) Z (show s.heap.IsTuple a its.toArray from p) (by simp;omega) fun W r=>⟨rfl,I.turned (t':=s.toks) (fun b o Y e=>r b o Y e) f0 f1 N f4 M⟩
 self:=fun _ _ _ _ _ Z h=>wpAny_pyIter_tupleiter Z h
def Fh {P:Û} {w:ú} {K:ĉ} {tg:Ě} (it:Ò) (lo:Int) (n:Nat):Turn P w K tg (sM lo n) [it] it (fun i h=>IsRangeIter h it (lo+(i:Nat)*1) ((n:Int)-(i:Nat)) 1) where
 mem:=by simp
 obj:=fun i h Z b Y=>by
  have e:b=it:=by simpa using Y
  subst e;exact ⟨_,Z,fun v z=>by
   have G:Data.fields _=Data.cell v:=z;cases G⟩
 keep:=fun i h V Z k=>k it (by simp) _ Z
 item:=by
  intro X T hw S R i M s σ H E I U Z Q;subst T hw S;obtain ⟨f0,f1,f2,O,f4,N⟩:=U it (by simp);have W:=Walks.range (prog:=X.prog) (w:=X.w) (I.ok.hd R) it lo 1 n;refine W.item i s _ _ Q Z fun v V L F J D=>?_;obtain ⟨t,rfl⟩:=F
  have C:Inv X M σ H { s with heap:=V,toks:=L }:=I.turned (fun b o Y e=>D b o (by simpa using Y) e) f0 f1 O f4 N
  refine ⟨_,rfl,vV (s:={ s with heap:=V,toks:=L }) (n:="range_iterator") J rfl rfl (by decide) ⟨.int (lo+i),H,C,⟨t,?_⟩,⟨rfl,rfl⟩,J,fun b Y=>(U b Y).1⟩⟩
  rw [Int.mul_one]
 done:=by
  intro X T hw S R i M s σ H E I U Z Q;subst T hw S;obtain ⟨f0,f1,f2,O,f4,N⟩:=U it (by simp);exact wpAny_pyNext_range_end (I.ok.hd R) Z (by have:n<=i:=Q;omega) fun V B=>⟨rfl,I.turned (t':=s.toks) (fun b o Y e=>B b o Y e) f0 f1 O f4 N⟩
 self:=fun _ _ _ _ _ Z h=>wpAny_pyIter_rangeiter Z h
section
variable {X:Cx} {tg:Ě}
def BP (K:ĉ) (tl:TE):TI:=fun σ H R=>tl σ H fun x Z=>∃a,x=.ref a/\(∃Y,aR K Z a Y)/\R (xu K a) Z
def CG (K:ĉ) (tl:TE):TI:=fun σ H R=>tl σ H fun x Z=>∃a,x=.ref a/\(∃Y,aT K Z a Y)/\R (xw K a) Z
def IC {l:Ě} {tl:TE} (hl:PE X l tl):PI X tg l (BP X.K tl):=by
 intro W s σ H R I h;refine aE (hl W s σ H _ I h) fun v Z ⟨x,V,Y,U,T⟩=>?_;obtain ⟨a,e,⟨P,S⟩,q⟩:=T;subst e;cases U;obtain ⟨its,O,p,N⟩:=Y.list S;refine Ő p.isList ?_;refine ⟨Z.heap.objs.size,[Z.heap.objs.size],_,_,V,rfl,Y.kept (t':=Z.toks) fun b o e=>Á _ e,F0 a _,⟨_,Ç _ rfl,rfl,rfl⟩,fun b Q=>?_,q⟩;have e:b=Z.heap.objs.size:=by simpa using Q
 subst e;exact Y.kh (S0 _) (Y.au.fresh (S0 _))
def Kd {l:Ě} {tl:TE} (hl:PE X l tl):PI X tg l (CG X.K tl):=by
 intro W s σ H R I h;refine aE (hl W s σ H _ I h) fun v Z ⟨x,V,Y,U,T⟩=>?_;obtain ⟨a,e,⟨P,S⟩,q⟩:=T;subst e;cases U;obtain ⟨its,O,p,N⟩:=Y.tuple S;refine wpAny_pyIter_tuple (show Z.heap.IsTuple a its.toArray from p) ?_;refine ⟨Z.heap.objs.size,[Z.heap.objs.size],_,_,V,rfl,Y.kept (t':=Z.toks) fun b o e=>Á _ e,Fg a _,⟨_,Ç _ rfl,rfl,rfl⟩,fun b Q=>?_,q⟩;have e:b=Z.heap.objs.size:=by simpa using Q
 subst e;exact Y.kh (S0 _) (Y.au.fresh (S0 _))
def G8 {π:List (Ò×Obj)} {σ:St} {H:Hp} {s:Ã} {R:It->Hp->Prop} {E:Ä->Ã->Prop} {lo hi:Int} {t u v:Tok} {tk:Nat} (I:Inv X π σ H s) (h1:-(2 ^ 62)<=lo) (h2:lo<2 ^ 62) (h3:-(2 ^ 62)<=hi) (h4:hi<2 ^ 62)
  (q:R (sM lo (hi-lo).toNat) H):Ô (á X.prog X.w) X.A (pyIter (.ref s.heap.objs.size)) (Dr X π σ tg R) E { s with heap:=s.heap.push { cls:=.type "range",data:=.fields #[.int lo t,.int hi u,.int 1 v] },toks:=tk }:=by
 refine wpAny_pyIter_range (IsRange.new ..) (small_one h1 h2 h3 h4) ?_
 have Z:Inv X π σ H { s with heap:=s.heap.push { cls:=.type "range",data:=.fields #[.int lo t,.int hi u,.int 1 v] },toks:=tk }:=I.kept fun b o e=>Á _ e
 refine ⟨(s.heap.push { cls:=.type "range",data:=.fields #[.int lo t,.int hi u,.int 1 v] }).objs.size,[(s.heap.push { cls:=.type "range",data:=.fields #[.int lo t,.int hi u,.int 1 v] }).objs.size],_,_,H,rfl,
  Z.kept (t':=tk) fun b o e=>Á _ e,Fh _ lo (hi-lo).toNat,?_,fun b Y=>?_,q⟩
 ·have e1:lo+((0:Nat):Int)*1=lo:=by simp
  have e2:(((hi-lo).toNat:Nat):Int)-((0:Nat):Int)=χ lo hi 1:=by rw [rangeSize_one];split<;>omega
  show IsRangeIter _ _ (lo+((0:Nat):Int)*1) ((((hi-lo).toNat:Nat):Int)-((0:Nat):Int)) 1;rw [e1,e2];exact Ç _ rfl
 ·have e:b=(s.heap.push { cls:=.type "range",data:=.fields #[.int lo t,.int hi u,.int 1 v] }).objs.size:=by simpa using Y
  subst e;exact Z.kh (S0 _) (Z.au.fresh (S0 _))
def LV (ta:TA):TI:=fun σ H R=>ta σ H fun Z Y=>∃j:Int,Z=[.int j]/\-(2 ^ 62)<=j/\j<2 ^ 62/\R (sM 0 j.toNat) Y
def F1 {a:Ě} {ta:TA} {p pos:Pos} (hg:Gl X "range") (hm:X.mg "range"=none) (ha:PA X [a] ta) (hs:Æ [a] X.env=[(false,ĺ a X.env)]:=by rfl):PI X tg (.Call (.Name "range" p) [a] [] pos) (LV ta):=by
 intro Y s σ H R I h;refine Call_ (kW I hg hm boot_range (Ť (aE (ha pos Y s σ H _ I h) fun S Q ⟨P,O,W,V,Z⟩=>?_) hs rfl));obtain ⟨j,e,Z,U,q⟩:=Z;subst e
 cases V with
 |cons r T =>
  cases T;obtain ⟨t,rfl⟩:=r;exact call_range_1 (G8 W (by omega) (by omega) Z U (by simpa using q))
def CH (wi:TI) (g:TG) (tb:TS):TS:=fun D σ H=>wi σ H fun J V=>∃W:Nat->Nat->St->Hp->Prop,(∃m,W 0 m σ V)/\∀i m σ H,W i m σ H ->
 (J.stop i H/\D.nx σ H)\/(J.go i H/\∃N:St->Hp->Prop,(∀ Y Z,N Y Z->∃X,X < m/\W (i+1) X Y Z)/\∀x Z,J.pH i H x Z->g x σ Z fun U T=>tb { D with nx:=N,ct:=N,bk:=D.nx } U T)
noncomputable def oh (fp:List Ò) (h:ħ):List (Ò×Obj):=fp.filterMap fun b=>(h.get? b).map fun o=>(b,o)
def qy (hb:b∈fp) (e:h.get? b=some o):(b,o)∈oh fp h:=ψ.mpr ⟨b,hb,by rw [e];rfl⟩
def F2 (hp:p∈oh fp h):p.1∈fp/\h.get? p.1=some p.2:=by
 obtain ⟨b,Z,e⟩:=ψ.mp hp
 cases q:h.get? b with
 |none=>rw [q] at e;cases e
 |some o =>
  rw [q] at e;have Y:(b,o)=p:=S7 e;subst Y;exact ⟨Z,q⟩
def Inv.pinned {π:List (Ò×Obj)} {σ:St} {H:Hp} {s:Ã} {fp:List Ò} (I:Inv X π σ H s) (hf:∀b∈fp,bR X π H b) (ho:∀b∈fp,∃o,s.heap.get? b=some o/\∀v,o.data≠.cell v):Inv X (π++oh fp s.heap) σ H s :=
 I.iJ fun p W=>(û.mp W).elim (fun z=>I.pin p (Ê _ z)) fun z=>by
  obtain ⟨Z,e⟩:=F2 z;obtain ⟨f0,f1,f2,_⟩:=hf p.1 Z;obtain ⟨o,Y,d⟩:=ho p.1 Z;rw [e] at Y;cases Y;exact ⟨e,f0,f1,f2,d⟩
def Inv.jQ {π pl:List (Ò×Obj)} {σ:St} {H:Hp} {s:Ã} (I:Inv X (π++pl) σ H s):Inv X π σ H s:=I.iJ fun p Z=>I.pin p (Ê _ (ŏ _ Z))
def Ke {iter:Ě} {body:List SH} {wi:TI} {g:TG} {tb:TS} {pos:Pos} (hp:PassesOwn (á X.prog X.w) X.A X.env X.xe) (hc:X.calm=true) (hi:PI X tg iter wi) (hg:PG X tg g) (hb:bV X body tb)
  (hs:∀x,į iter X.env x=pure x:=by intro _;rfl):PS X (.For tg iter body [] pos) (CH wi g tb):=by
 intro R s σ H D I h;refine wpAny_For (aE (hi R s σ H _ I h) fun v s1 p=>aE p fun iw s2 l=>?_) hs;obtain ⟨it,Q,E,J,k,e,j,T,c,f2,W,⟨m0,a⟩,turn⟩:=l;subst e;have stat:∀{U:Hp},(∀b∈Q,U b=none)->∀b∈Q,bR X R U b:=fun hn b hb=>⟨hn b hb,(f2 b hb).2⟩;refine codeAny_forLoop_any (fun n C=>∃i P U,Inv X R P U C/\E i C.heap/\(∀b∈Q,U b=none)/\W i n P U) ?_ m0 ⟨0,σ,k,j,c,fun b hb=>(f2 b hb).1,a⟩;rintro n B ⟨i,O,L,z,y,t,w3⟩
 rcases turn i n O L w3 with ⟨stop,qn⟩ | ⟨go,N,hN,step⟩
 ·refine ω hp (aE (T.done X rfl rfl rfl hc i R B O L X.xe z (stat t) y stop) fun r s4 ⟨K,I4⟩=>?_)
  subst K;exact wpAny_execs_nil ⟨O,L,I4,qn⟩
 ·refine ω hp (aE (T.item X rfl rfl rfl hc i R B O L X.xe z (stat t) y go) fun r s4 ⟨u,K,h4⟩=>?_)
  subst K;refine ω hp (aE h4 fun _ s5 ⟨x,q,I5,r5,y5,G,xx⟩=>?_);have xy:=I5.pinned (stat xx) (T.obj _ _ G);refine ω hp (aE (hg _ s5 O q x u _ xy r5 (step x q y5)) fun _ s6 ⟨OA,H6,I6,q6⟩=>?_);refine ω hp (aE (hb _ s6 OA H6 _ I6 q6) fun f F S=>?_);have again:∀{Z:St} {Y:Hp},Inv X (R++oh Q s5.heap) Z Y F->N Z Y->∃m,m<n/\∃i P U,Inv X R P U F/\E i F.heap/\(∀b∈Q,U b=none)/\W i m P U:=fun {Z Y} V M=>by
   obtain ⟨m',hm,w7⟩:=hN Z Y M;refine ⟨m',hm,i+1,Z,Y,V.jQ,T.keep _ _ _ G fun b hb o e=>(V.pin (b,o) (Ê _ (Ê _ (qy hb e)))).1,fun b hb=>?_,w7⟩;obtain ⟨o,e,d⟩:=T.obj _ _ G b hb;exact (V.pin (b,o) (Ê _ (Ê _ (qy hb e)))).2.1
  cases f with
  |next=>obtain ⟨Z,Y,V,M⟩:=S;exact again V M
  |cont=>obtain ⟨Z,Y,V,M⟩:=S;exact again V M
  |brk=>obtain ⟨Z,Y,V,S⟩:=S;exact ⟨Z,Y,V.jQ,S⟩
  |ret v=>obtain ⟨x7,Z,Y,V,r7,S⟩:=S;exact ⟨x7,Z,Y,V.jQ,r7,S⟩
end
abbrev R2:=V->V->Hp->VK->Prop
def aX (X:Cx) (f:Ä->Ä->Sem Ä) (r:R2):Prop :=
 ∀(Z:List (Ò×Obj)) (s:Ã) (σ:St) (H:Hp) (x y:V) (v u:Ä) (Q:VK),Inv X Z σ H s->RelV x v->RelV y u->r x y H Q ->
  Ô (á X.prog X.w) X.A (f v u) (EP X Z σ Q) X.xe s
def pK (X:Cx) (f:Ä->Sem Ä) (r:V->Hp->VK->Prop):Prop :=
 ∀(Z:List (Ò×Obj)) (s:Ã) (σ:St) (H:Hp) (x:V) (v:Ä) (Q:VK),Inv X Z σ H s->RelV x v->r x H Q ->
  Ô (á X.prog X.w) X.A (f v) (EP X Z σ Q) X.xe s
def bK (X:Cx) (f:Ä) (r:List V->Hp->VK->Prop):Prop :=
 ∀(Z:List (Ò×Obj)) (s:Ã) (σ:St) (H:Hp) (Y:List V) (W:List Ä) (Q:VK),Inv X Z σ H s->Vals Y W->r Y H Q ->
  Ô (á X.prog X.w) X.A (call f W) (EP X Z σ Q) X.xe s
def Nr (X:Cx) (r:V->Hp->(Bool->Hp->Prop)->Prop):Prop :=
 ∀(Z:List (Ò×Obj)) (s:Ã) (σ:St) (H:Hp) (x:V) (v:Ä) (Q:Bool->Hp->Prop),Inv X Z σ H s->RelV x v->r x H Q ->
  Ô (á X.prog X.w) X.A (truthy v) (TP X Z σ Q) X.xe s
def pL (r:R2) (ta tb:TE):TE:=fun σ H Q=>ta σ H fun x Z=>tb σ Z fun y Y=>r x y Y Q
def OB (r:V->Hp->VK->Prop) (ta:TE):TE:=fun σ H Q=>ta σ H fun x Z=>r x Z Q
def rI (C:Int->Int->Prop) (g:Int->Int->V):R2:=fun x y H Q=>∃i j,x=.int i/\y=.int j/\C i j/\Q (g i j) H
def l0 (g:Int->Int->V):R2:=fun x y H Q=>∃i j,x=.int i/\y=.int j/\Q (g i j) H
def rU (g:Int->V):V->Hp->VK->Prop:=fun x H Q=>∃i,x=.int i/\Q (g i) H
section
variable {X:Cx} {a b c:Ě} {ta tb tc:TE} {pos:Pos}
def wG (ha:PE X a ta) (hb:PE X b tb) {π:List (Ò×Obj)} {s:Ã} {σ:St} {H:Hp} {R:V->V->Hp->Prop} (I:Inv X π σ H s)
  (h:ta σ H fun x H1=>tb σ H1 fun y H2=>R x y H2) {Q:Ä->Ã->Prop} {f:Ä->Ä->Sem Ä}
  (hf:∀v u s2 x y H2,Inv X π σ H2 s2->RelV x v->RelV y u->R x y H2->Ô (á X.prog X.w) X.A (f v u) Q X.xe s2) :
  Ô (á X.prog X.w) X.A (ĺ a X.env) (fun v aS=>Ô (á X.prog X.w) X.A (ĺ b X.env) (fun u mW=>Ô (á X.prog X.w) X.A (f v u) Q X.xe mW) X.xe aS) X.xe s:=by
 refine aE (ha π s σ H _ I h) fun v Z ⟨x,H1,Y,W,U⟩=>?_;refine aE (hb π Z σ H1 _ Y U) fun u s2 ⟨y,H2,T,S,P⟩=>?_;exact hf v u s2 x y H2 T W S P
def LW (ho:aX X (Ĳ op) r) (ha:PE X a ta) (hb:PE X b tb):PE X (.BinOp a op b pos) (pL r ta tb):=by
 intro Z s σ H Q I h;exact wpAny_BinOp (wG ha hb I h fun v u Y x y W V U T q=>ho Z Y σ W x y v u Q V U T q)
def LX {op:UnaryOp} {r:V->Hp->VK->Prop} (ho:pK X (unaryOp op) r) (ha:PE X a ta):PE X (.UnaryOp op a pos) (OB r ta):=by
 intro Z s σ H Q I h;exact UnaryOp_ (aE (ha Z s σ H _ I h) fun v Y ⟨x,W,U,T,S⟩=>ho Z Y σ W x v Q U T S)
def sN {C:Int->Int->Prop} {g:Int->Int->Int}
 (rule:∀(i j:Int) (t u:Tok) (s:Ã) (Q:Ä->Ã->Prop) (E:Ä->Ã->Prop),C i j->Q (.int (g i j) s.toks) { s with toks:=s.toks+1 }->Ô (á X.prog X.w) X.A (f (.int i t) (.int j u)) Q E s) :
  aX X f (rI C fun i j=>.int (g i j)):=by
 intro U s σ H x y v u Q I Z Y h;obtain ⟨i,j,rfl,rfl,W,q⟩:=h;obtain ⟨t,rfl⟩:=Z;obtain ⟨V,rfl⟩:=Y;exact rule i j t V s _ _ W ⟨.int (g i j),H,I.tok _,⟨_,rfl⟩,q⟩
def CI {g:Int->Int->Int}
 (rule:∀(i j:Int) (t u:Tok) (s:Ã) (Q:Ä->Ã->Prop) (E:Ä->Ã->Prop),Q (.int (g i j) s.toks) { s with toks:=s.toks+1 }->Ô (á X.prog X.w) X.A (f (.int i t) (.int j u)) Q E s) :
  aX X f (l0 fun i j=>.int (g i j)):=by
 intro V s σ H x y v u Q I Z Y h;obtain ⟨i,j,rfl,rfl,q⟩:=h;obtain ⟨t,rfl⟩:=Z;obtain ⟨W,rfl⟩:=Y;exact rule i j t W s _ _ ⟨.int (g i j),H,I.tok _,⟨_,rfl⟩,q⟩
def wH {g:Int->Int->Bool}
 (rule:∀(i j:Int) (t u:Tok) (s:Ã) (Q:Ä->Ã->Prop) (E:Ä->Ã->Prop),Q (.bool (g i j)) s->Ô (á X.prog X.w) X.A (f (.int i t) (.int j u)) Q E s) :
  aX X f (l0 fun i j=>.bl (g i j)):=by
 intro V s σ H x y v u Q I Z Y h;obtain ⟨i,j,rfl,rfl,q⟩:=h;obtain ⟨t,rfl⟩:=Z;obtain ⟨W,rfl⟩:=Y;exact rule i j t W s _ _ ⟨.bl (g i j),H,I,rfl,q⟩
def Nt (i j:Int):Prop:=0<j/\j<1073741824
def Nu (i j:Int):Prop:=0<=j/\j<=1000000/\i.natAbs<2 ^ 64
def sh (i j:Int):Prop:=(-(2 ^ 64)<i/\i<2 ^ 64)\/(-(2 ^ 64)<j/\j<2 ^ 64)
def sh.ok (h:sh i j):IntMulOk i j:=by
 rcases h with ⟨Z,Y⟩ | ⟨Z,Y⟩
 ·exact .of_left (intBits_le_64 Z Y)
 ·exact .of_right (intBits_le_64 Z Y)
def Kf:aX X (Ĳ .Add) (l0 fun i j=>.int (i+j)):=CI fun _ _ _ _ _ _ _ q=>add_int q
def Kg:aX X (Ĳ .Sub) (l0 fun i j=>.int (i-j)):=CI fun _ _ _ _ _ _ _ q=>sub_int q
def Kh:aX X (Ĳ .Mult) (rI sh fun i j=>.int (i*j)):=sN fun _ _ _ _ _ _ _ Z q=>mul_int q Z.ok
def ID:aX X (Ĳ .FloorDiv) (rI Nt fun i j=>.int (i / j)):=sN fun i j _ _ _ _ _ Z q=>by
 have Y:(0:Int)<j:=Z.1;have W:j<1073741824:=Z.2;exact floordiv_int (by omega) (by rw [Int.fdiv_eq_ediv_of_nonneg i (by omega)];exact q) (.inl (PyProof.noPylong_small (by omega)))
def Ki:aX X (Ĳ .Mod) (rI (fun _ j=>0<j) fun i j=>.int (i % j)):=sN fun i j _ _ _ _ _ Z q=>by
 have Y:(0:Int)<j:=Z;exact mod_int' (by omega) (by rw [Int.fmod_eq_emod_of_nonneg i (by omega)];exact q)
def Kj:aX X (Ĳ .Pow) (rI Nu fun i j=>.int (i ^ j.toNat)):=sN fun _ _ _ _ _ _ _ Z q=>pow_int_small Z.1 Z.2.1 Z.2.2 q
def OC {g:Int->Int}
 (rule:∀(i:Int) (t:Tok) (s:Ã) (Q:Ä->Ã->Prop) (E:Ä->Ã->Prop),Q (.int (g i) s.toks) { s with toks:=s.toks+1 }->Ô (á X.prog X.w) X.A (f (.int i t)) Q E s) :
  pK X f (rU fun i=>.int (g i)):=by
 intro Y s σ H x v Q I Z h;obtain ⟨i,rfl,q⟩:=h;obtain ⟨t,rfl⟩:=Z;exact rule i t s _ _ ⟨.int (g i),H,I.tok _,⟨_,rfl⟩,q⟩
def Kk:pK X (unaryOp .USub) (rU fun i=>.int (-i)):=OC fun _ _ _ _ _ q=>neg_int q
end
noncomputable def wI:V->V->Bool
 | .ao,.ao=>true | .ao,.int _=>true | .int _,.ao=>true | .ao,.bl _=>true | .bl _,.ao=>true | .ao,.str _=>true | .str _,.ao=>true
 | .int _,.int _=>true | .bl _,.bl _=>true | .str _,.str _=>true | .fY _,.fY _=>true
 | .int _,.str _=>true | .str _,.int _=>true | .bl _,.str _=>true | .str _,.bl _=>true
 |_,_=>false
def OD:R2:=fun x y H Q=>wI x y=true/\Q (.bl (decide (x=y))) H
def OE:R2:=fun x y H Q=>wI x y=true/\Q (.bl (!decide (x=y))) H
def Al:decide (V.int i=V.int j)=(i==j):=by
 rw [ő];simp
def A8:decide (V.bl i=V.bl j)=(i==j):=by
 rw [ő];simp
def uK:decide (V.str i=V.str j)=(i==j):=by
 rw [ő];simp
def Am:decide (V.fY i=V.fY j)=(i.toList==j.toList):=by
 rw [ő];cases i;cases j;simp
section
variable {X:Cx} {a b c:Ě} {ta tb tc:TE} {pos:Pos}
def bP {π:List (Ò×Obj)} {σ:St} {H:Hp} {s:Ã} {Q:VK} {k k':Bool} (I:Inv X π σ H s) (q:Q (.bl k) H) (e:k=k'):EP X π σ Q (.bool k') s:=by
 subst e;exact ⟨.bl k,H,I,rfl,q⟩
def LY:aX X (Ć .Eq) OD:=by
 intro U s σ H x y v u Q I V Z h;obtain ⟨hs,q⟩:=h
 cases x with
 |ao =>
  cases V
  cases y with
  |ao=>cases Z;exact PySem.EqNone.eq_none_none (bP I q (by simp))
  |bl j=>cases Z;exact PySem.EqNone.eq_none_bool (bP I q (by simp))
  |int j=>obtain ⟨Y,rfl⟩:=Z;exact PySem.EqNone.eq_none_int (bP I q (by simp))
  |str j=>obtain ⟨Y,rfl⟩:=Z;exact PySem.EqNone.eq_none_str (bP I q (by simp))
  |_=>exact absurd (show false=true from hs) Ï
 |bl i =>
  cases V
  cases y with
  |ao=>cases Z;exact PySem.EqNone.eq_bool_none (bP I q (by simp))
  |bl j=>cases Z;exact eq_bool (bP I q A8)
  |str j=>obtain ⟨Y,rfl⟩:=Z;exact PySem.EqMixed.eq_bool_str (bP I q (by simp))
  |_=>exact absurd (show false=true from hs) Ï
 |int i =>
  obtain ⟨t,rfl⟩:=V
  cases y with
  |ao=>cases Z;exact PySem.EqNone.eq_int_none (bP I q (by simp))
  |int j=>obtain ⟨Y,rfl⟩:=Z;exact eq_int (bP I q Al)
  |str j=>obtain ⟨Y,rfl⟩:=Z;exact PySem.EqMixed.eq_int_str (bP I q (by simp))
  |_=>exact absurd (show false=true from hs) Ï
 |str i =>
  obtain ⟨t,rfl⟩:=V
  cases y with
  |ao=>cases Z;exact PySem.EqNone.eq_str_none (bP I q (by simp))
  |bl j=>cases Z;exact PySem.EqMixed.eq_str_bool (bP I q (by simp))
  |int j=>obtain ⟨Y,rfl⟩:=Z;exact PySem.EqMixed.eq_str_int (bP I q (by simp))
  |str j=>obtain ⟨Y,rfl⟩:=Z;exact eq_str (bP I q uK)
  |_=>exact absurd (show false=true from hs) Ï
 |fY i =>
  obtain ⟨t,rfl⟩:=V
  cases y with
  |fY j=>obtain ⟨Y,rfl⟩:=Z;exact PySem.W.eq_bytes (bP I q Am)
  |_=>exact absurd (show false=true from hs) Ï
 |_=>cases y<;>exact absurd (show false=true from hs) Ï
def BQ:aX X (Ć .NotEq) OE:=by
 intro U s σ H x y v u Q I V Z h;obtain ⟨hs,q⟩:=h
 cases x with
 |ao =>
  cases V
  cases y with
  |ao=>cases Z;exact PySem.EqNone.ne_none_none (bP I q (by simp))
  |bl j=>cases Z;exact PySem.EqNone.ne_none_bool (bP I q (by simp))
  |int j=>obtain ⟨Y,rfl⟩:=Z;exact PySem.EqNone.ne_none_int (bP I q (by simp))
  |str j=>obtain ⟨Y,rfl⟩:=Z;exact PySem.EqNone.ne_none_str (bP I q (by simp))
  |_=>exact absurd (show false=true from hs) Ï
 |bl i =>
  cases V
  cases y with
  |ao=>cases Z;exact PySem.EqNone.ne_bool_none (bP I q (by simp))
  |bl j=>cases Z;exact ne_bool (bP I q (ķ not A8))
  |str j=>obtain ⟨Y,rfl⟩:=Z;exact PySem.EqMixed.ne_bool_str (bP I q (by simp))
  |_=>exact absurd (show false=true from hs) Ï
 |int i =>
  obtain ⟨t,rfl⟩:=V
  cases y with
  |ao=>cases Z;exact PySem.EqNone.ne_int_none (bP I q (by simp))
  |int j=>obtain ⟨Y,rfl⟩:=Z;exact ne_int (bP I q (ķ not Al))
  |str j=>obtain ⟨Y,rfl⟩:=Z;exact PySem.EqMixed.ne_int_str (bP I q (by simp))
  |_=>exact absurd (show false=true from hs) Ï
 |str i =>
  obtain ⟨t,rfl⟩:=V
  cases y with
  |ao=>cases Z;exact PySem.EqNone.ne_str_none (bP I q (by simp))
  |bl j=>cases Z;exact PySem.EqMixed.ne_str_bool (bP I q (by simp))
  |int j=>obtain ⟨Y,rfl⟩:=Z;exact PySem.EqMixed.ne_str_int (bP I q (by simp))
  |str j=>obtain ⟨Y,rfl⟩:=Z;exact ne_str (bP I q (ķ not uK))
  |_=>exact absurd (show false=true from hs) Ï
 |fY i =>
  obtain ⟨t,rfl⟩:=V
  cases y with
  |fY j=>obtain ⟨Y,rfl⟩:=Z;exact PySem.W.ne_bytes (bP I q (ķ not Am))
  |_=>exact absurd (show false=true from hs) Ï
 |_=>cases y<;>exact absurd (show false=true from hs) Ï
def LZ:aX X (Ć .LtE) (l0 fun i j=>.bl (decide (i<=j))):=wH fun _ _ _ _ _ _ _ q=>le_int q
def L0:aX X (Ć .Gt) (l0 fun i j=>.bl (decide (j<i))):=wH fun _ _ _ _ _ _ _ q=>gt_int q
def L3:aX X (Ć .GtE) (l0 fun i j=>.bl (decide (j<=i))):=wH fun _ _ _ _ _ _ _ q=>ge_int q
def cC (b:Ě) (h:op≠.In:=by decide) (h2:op≠.NotIn:=by decide):RD op b=false:=by
 have e1:(op==CmpOp.In)=false:=by cases op<;>first|rfl|exact absurd rfl h
 have e2:(op==CmpOp.NotIn)=false:=by cases op<;>first|rfl|exact absurd rfl h2
 cases b<;>simp [RD,e1,e2]
def IE (ho:aX X (Ć op) r) (ha:PE X a ta) (hb:PE X b tb) (hm:RD op b=false):PE X (.Compare a [op] [b] pos) (pL r ta tb):=by
 intro Z s σ H Q I h;exact wpAny_Compare1 (wG ha hb I h fun v u Y x y W V U T q=>ho Z Y σ W x y v u Q V U T q) hm
def rP (t:TE):TT:=fun σ H Q=>t σ H fun x Z=>∃k,x=.bl k/\Q k Z
def IF {op:CmpOp} {r:R2} (ho:aX X (Ć op) r) (ha:PE X a ta) (hb:PE X b tb) (hm:RD op b=false):PT X (.Compare a [op] [b] pos) (rP (pL r ta tb)):=by
 intro Z s σ H Q I h;refine wpAny_isTrue_Compare1 (aE (ha Z s σ H _ I h) fun v Y ⟨x,W,V,U,T⟩=>aE (hb Z Y σ W _ V T) fun u S ⟨y,R,P,O,N⟩ =>
  aE (ho Z S σ R x y v u _ P U O N) fun c G ⟨z,M,L,K,k,e,J⟩=>?_) hm
 subst e;cases K;exact Ĥ ⟨M,L,J⟩
def A9 (r r':R2) (ta tb tc:TE):TE:=fun σ H Q=>ta σ H fun x Y=>tb σ Y fun y X=>r x y X fun z Z=>∃k,z=.bl k /\
 (if k=true then tc σ Z fun W V=>r' y W V Q else Q (.bl false) Z)
def G9 {op nC:CmpOp} {r r':R2} (ho:aX X (Ć op) r) (fj:aX X (Ć nC) r') (ha:PE X a ta) (hb:PE X b tb) (hc:PE X c tc)
  (hm:lastMarks [op,nC] [b,c]=false:=by with_unfolding_all rfl):PE X (.Compare a [op,nC] [b,c] pos) (A9 r r' ta tb tc):=by
 intro Z s σ H Q I h;refine Compare_chain (aE (ha Z s σ H _ I h) fun v T ⟨x,S,R,P,O⟩=>chain_link (aE (hb Z T σ S _ R O) fun u N ⟨y,M,L,Y,K⟩ =>
  aE (ho Z N σ M x y v u _ L P Y K) fun d J ⟨z,W,V,G,k,e,U⟩=>?_)) hm
 subst e;cases G;refine Ĥ ?_
 cases k with
 |false=>exact ite_ff ⟨.bl false,W,V,rfl,U⟩
 |true=>exact ite_tt (chain_last (aE (hc Z J σ W _ V U) fun F E ⟨D,C,B,A,w⟩=>fj Z E σ C y D u F Q B Y A w))
def oS (K:ĉ) (x:V) (H:Hp) (k:Bool):Prop :=
 match x with
 | .ao=>k=false
 | .bl b=>k=b
 | .int i=>k=(i != 0)
 | .str y=>y.length<=Ö/\k=((y.length:Int) != 0)
 | .fY y=>y.size<=Ö/\k=((y.size:Int) != 0)
 | .ref p=>(∃Z,aR K H p Z/\k=!Z.isEmpty)\/(∃Z,aT K H p Z/\k=!Z.isEmpty)\/∃Y,H p=some (.dK Y)/\k=!Y.isEmpty
 |_=>False
def Fi {κ:Type} {ay:List (κ×V)} {vs:List (κ×Ä)} (r:KV ay vs):(!vs.isEmpty)=!ay.isEmpty:=by
 cases r<;>rfl
def zi (r:Vals xs its):(!its.toArray.isEmpty)=!xs.isEmpty:=by
 cases r<;>simp
def kX:(Ö:Nat)<2 ^ 63:=by rw [RU];decide
def Kl:Nr X (fun x H Q=>∃k,oS X.K x H k/\Q k H):=by
 intro J s σ H x v Q I U h;obtain ⟨k,e,q⟩:=h;have G:=kX;have hs:Ö=16777216:=RU
 cases x with
 |ao =>
  cases U;have Z:k=false:=e;subst Z;exact truthy_none ⟨H,I,q⟩
 |bl b =>
  cases U;have Z:k=b:=e;subst Z;exact Ĥ ⟨H,I,q⟩
 |int i =>
  obtain ⟨t,rfl⟩:=U;have Z:k=(i != 0):=e;subst Z;exact PySem.P.truthy_int ⟨H,I,q⟩
 |str y =>
  obtain ⟨t,rfl⟩:=U;obtain ⟨M,Z⟩:y.length<=Ö/\k=((y.length:Int) != 0):=e;subst Z;exact PySem.P.truthy_str (by omega) ⟨H,I.tok _,q⟩
 |fY y =>
  obtain ⟨t,rfl⟩:=U;obtain ⟨M,Z⟩:y.size<=Ö/\k=((y.size:Int) != 0):=e;subst Z;exact PySem.W.truthy_bytes (by omega) ⟨H,I.tok _,q⟩
 |ref p =>
  cases U;have Z:(∃V,aR X.K H p V/\k=!V.isEmpty)\/(∃V,aT X.K H p V/\k=!V.isEmpty)\/∃T,H p=some (.dK T)/\k=!T.isEmpty:=e
  rcases Z with ⟨V,S,Z⟩ | ⟨V,S,Z⟩ | ⟨T,S,Z⟩
  ·subst Z
   obtain ⟨its,r,O,N⟩:=I.list S;have Y:=r.length;exact wpAny_truthy_list O.isList (by simp only [Ð];omega) ⟨H,I.tok _,by rw [zi r];exact q⟩
  ·subst Z
   obtain ⟨its,r,O,N⟩:=I.tuple S;have Y:=r.length;exact truthy_tuple O (by simp only [Ð];omega) ⟨H,I.tok _,by rw [zi r];exact q⟩
  ·subst Z
   obtain ⟨N,L,R,r,m⟩:T.length<=Ö/\(p==Sr)=false/\∃R,KV T R/\s.heap.DictOf (qO X.prog X.w) p R:=I.au p _ S;have Y:T.length=R.length:=Paired.length r;exact wpAny_truthy_dict L m (by omega) ⟨H,I.tok _,by rw [Fi r];exact q⟩
 |_=>exact (show False from e).elim
def Ha (ha:PE X a ta) (he:∀whole,isTrue a X.env whole=(do let v <- whole;standAt a.pos;RT [v] (truthy v))) :
  PT X a (fun σ H Q=>ta σ H fun x H'=>∃k,oS X.K x H' k/\Q k H'):=by
 intro Z s σ H Q I h;exact isTrue_plain (aE (ha Z s σ H _ I h) fun v Y ⟨x,W,V,U,T⟩=>Kl Z Y σ W x v Q V U T) (he _)
def Fj:aX X (Ĳ .Add) (fun x y H Q=>∃i j,x=.str i/\y=.str j/\i.length+j.length<=Ö/\Q (.str (i++j)) H):=by
 intro U s σ H x y v u Q I Z Y h;obtain ⟨i,j,rfl,rfl,W,q⟩:=h;obtain ⟨t,rfl⟩:=Z;obtain ⟨V,rfl⟩:=Y;exact add_str (fun V T=>⟨.str (i++j),H,I.tok _,⟨_,rfl⟩,q⟩) W
def vals1 (r:Vals [x] us):∃u,us=[u]/\RelV x u:=by
 cases r with
 |cons Z Y=>cases Y;exact ⟨_,rfl,Z⟩
def vals2 (r:Vals [x,y] us):∃u w',us=[u,w']/\RelV x u/\RelV y w':=by
 cases r with
 |cons Z Y =>
  cases Y with
  |cons X W=>cases W;exact ⟨_,_,rfl,Z,X⟩
def F5 (hc:X.calm=true):bK X (.builtin "max") (fun xs H Q=>∃i j,xs=[.int i,.int j]/\Q (.int (if j > i then j else i)) H):=by
 intro Y s σ H xs W Q I r h;obtain ⟨i,j,rfl,q⟩:=h;obtain ⟨u,V,rfl,⟨t,rfl⟩,⟨U,rfl⟩⟩:=vals2 r;refine max_two_ints (I.ok.hd hc) fun T S k=>⟨_,H,I.kept k,?_,q⟩;by_cases Z:j > i
 ·rw [é Z,é Z];exact ⟨_,rfl⟩
 ·rw [õ Z,õ Z];exact ⟨_,rfl⟩
def F6 (hc:X.calm=true):bK X (.builtin "min") (fun xs H Q=>∃i j,xs=[.int i,.int j]/\Q (.int (if j<i then j else i)) H):=by
 intro Y s σ H xs W Q I r h;obtain ⟨i,j,rfl,q⟩:=h;obtain ⟨u,V,rfl,⟨t,rfl⟩,⟨U,rfl⟩⟩:=vals2 r;refine min_two_ints (I.ok.hd hc) fun T S k=>⟨_,H,I.kept k,?_,q⟩;by_cases Z:j<i
 ·rw [é Z,é Z];exact ⟨_,rfl⟩
 ·rw [õ Z,õ Z];exact ⟨_,rfl⟩
end
structure Q3 (h:ħ) (x dx C:Ò) (mA:Str->Option Ä):Prop where
 obj:h.get? x=some (PySem.W.instObj C dx)
 ns:h.Ns1 dx mA
 ne:dx≠x
section
variable {prog:Û} {w:ú} {A:ã} {E:Ä->Ã->Prop} {s:Ã} {K:ĉ} {x dx C f:Ò} {mA:Str->Option Ä} {name:Str} {v:Ä}
end
section
variable {P:Û} {w:ú} {H H':Hp} {h h':ħ} {a C dx:Ò} {fs Ov:List (Str×V)}
end
structure OF (K:ĉ) (C:Ò):Prop where
 pg:PySem.W.plainGet K C Str.empty=true
 hd:PySem.W.hasDictIn K C=true
 po:PySem.W.plainOver K C=true
 sa:R8 K (.ref C) "__setattr__"=some (some (.builtin "object.__setattr__"))
structure Ra (K:ĉ) (C:Ò) (f:Str) (v:V) (u:Ä):Prop where
 at_:R8 K (.ref C) f=some (some u)
 rel:RelV v u
 get:PySem.W.specialIn K u "__get__"=some none
 cp:PySem.W.copiedNames.contains f=false
structure Meth (K:ĉ) (C:Ò) (m:Str) (f:Ò):Prop where
 at_:R8 K (.ref C) m=some (some (.ref f))
 fn:PySem.W.isFn K (.ref f)=true
 kp:Ĩ K (.ref f)=true
section
variable {X:Cx} {π:List (Ò×Obj)} {σ:St} {H:Hp} {s:Ã} {a C dx:Ò} {fs:List (Str×V)} {f:Str} {v:V} {A:ã} {E:Ä->Ã->Prop}
end
section
variable {X:Cx} {o e value:Ě} {f:Str} {pos pos' lJ:Pos} {ta tv:TE}
end
section
variable {X:Cx} {π:List (Ò×Obj)} {σ:St} {H:Hp} {s:Ã} {A:ã} {E:Ä->Ã->Prop} {Q:Ä->Ã->Prop} {c:Ä} {b:Bool}
inductive ic (K:ĉ) (H:Hp):V->Ä->Prop where
 |ao:ic K H .ao (.type "NoneType")
 |bl (x:Bool):ic K H (.bl x) (.type "bool")
 |int (i:Int):ic K H (.int i) (.type "int")
 |str (x:Str):ic K H (.str x) (.type "str")
 |pC (x:UInt64):ic K H (.pC x) (.type "float")
 |lst {a:Ò} {xs:List V} (e:H a=some (.lst xs)):ic K H (.ref a) (.type "list")
 |aN {a:Ò} {o:Obj} {xs:List V} (e:H a=some (.aN o (.lst xs))):ic K H (.ref a) (.type "list")
 |tup {a:Ò} {xs:List V} (e:H a=some (.tup xs)):ic K H (.ref a) (.type "tuple")
 |dK {a:Ò} {ay:List (Key×V)} (e:H a=some (.dK ay)):ic K H (.ref a) (.type "dict")
 |dT {a:Ò} {ay:List (List Key×V)} (e:H a=some (.dT ay)):ic K H (.ref a) (.type "dict")
 |ins {a C dx:Ò} {fs:List (Str×V)} (e:H a=some (.ins C dx fs)) (cl:OF K C) (ha:R8 K (.ref C) "__class__"=some (some (.builtin "object.__class__")))
   (hn:PySem.W.specialIn K (.builtin "object.__class__") "__get__"=some (some (.builtin "getset_descriptor.__get__"))) (Rb:PySem.W.takesIn K (.builtin "object.__class__")=some true)
   (hm:PySem.W.mroIn K C (.type "object")=some true):ic K H (.ref a) (.ref C)
end
structure bp (k:Nat) (A:ã):Prop where
 hd:A.handled=none
 dp:A.depth+3*k+5<recursionLimit
 un:A.units+16*k+200<cLine
 gd:A.guards=some []
def bp.mono (r:bp k A) (h:j<=k):bp j A:=⟨r.hd,by have:=r.dp;omega,by have:=r.un;omega,r.gd⟩
theorem bp.deeper (r:bp (k+1) A) (env:Env):bp k (A.deeper env) :=
 ⟨r.hd,by have:=r.dp;show A.depth+1+3*k+5 < _;omega,by have:=r.un;show A.units+3+16*k+200 < _;omega,r.gd⟩
theorem bp.depth (r:bp k A):A.depth<recursionLimit:=by have:=r.dp;omega
def Nv:TA:=fun _ H Q=>Q [] H
def L4 (ta:TE) (tr:TA):TA:=fun σ H Q=>ta σ H fun x Z=>tr σ Z fun Y X=>Q (x::Y) X
section
variable {X:Cx} {e:Ě} {es:List Ě} {te:TE} {t:TA} {pos:Pos}
def gU:PA X [] Nv:=fun _ _ _ _ H Q I h=>Calls.spliced_nil ⟨[],H,I,.nil,h⟩
def fz (ha:PE X e te) (hr:PA X es t) (hs:Æ (e::es) X.env=(false,ĺ e X.env)::Æ es X.env:=by rfl):PA X (e::es) (L4 te t):=by
 intro pos Z s σ H Q I h;rw [hs];show Ô _ _ (spliced ((false,ĺ e X.env)::Ġ pos (Æ es X.env))) _ _ s;refine RE (aE (ha Z s σ H _ I h) fun u Y ⟨x,W,V,U,T⟩=>?_);exact aE (hr pos Z Y σ W _ V T) fun M L ⟨S,R,P,O,N⟩=>⟨x::S,R,P,.cons U O,N⟩
def Nw (t:TA):TE:=fun σ H Q=>t σ H fun Z Y=>Z.length<=Ö/\∀p,Y p=none->Q (.ref p) (upd Y p (.tup Z))
def Nx (t:TA):TE:=fun σ H Q=>t σ H fun Z Y=>Z.length<=Ö/\∀p,Y p=none->Q (.ref p) (upd Y p (.lst Z))
def Km {x1} (h:PA X es t):PE X (.Tuple es x1 pos) (Nw t):=by
 intro V s σ H Q I U;refine wpAny_Tuple_spliced (aE (h pos V s σ H _ I U) fun T Z ⟨S,Y,W,r,z,q⟩=>⟨by rw [<- r.length];exact z,?_⟩);have R:Y Z.heap.objs.size=none:=W.au.fresh (S0 _);refine ⟨.ref Z.heap.objs.size,upd Y Z.heap.objs.size (.tup S),W.laid (t':=Z.toks) (fun b u e=>Á _ e) (S0 _) ?_,rfl,q _ R⟩;exact ⟨z,T,r,⟨_,Ç _ rfl,rfl,_,rfl⟩⟩
def Ba (h:PA X es t):PE X (.List es pos) (Nx t):=by
 intro V s σ H Q I U;refine wpAny_List_spliced (aE (h pos V s σ H _ I U) fun T Z ⟨S,Y,W,r,z,q⟩=>⟨by rw [<- r.length];exact z,?_⟩);have R:Y Z.heap.objs.size=none:=W.au.fresh (S0 _);refine ⟨.ref Z.heap.objs.size,upd Y Z.heap.objs.size (.lst S),W.laid (t':=Z.toks) (fun b u e=>Á _ e) (S0 _) ?_,rfl,q _ R⟩;exact ⟨z,T,0,r,Ç _ rfl⟩
end
abbrev Sp:=List V->Hp->VK->XK->Prop
abbrev fZ:=List Env->Hp->Ã->XK->Ä->Ã->Prop
structure mY (P:Û) (w:ú) (K:ĉ) (mg:Str->Option Ä) (base:ħ) (A:ã) (outer:List Env) (s:Ã) (H:Hp):Prop where
 frames:A.frames=some outer
 mod:Mod K mg base
 bs:∀b o,base.get? b=some o->s.heap.get? b=some o/\H b=none
 fJ:base.objs.size<=s.heap.objs.size
 eG:s.heap.FunFrames base outer
 gH:∀b∈bD outer,H b=none
 au:bC P w H s.heap
 bare:SO s.gens
def CE (outer:List Env) (P:Û) (w:ú) (H:Hp) (s:Ã) (Q:VK) (u:Ä) (s':Ã):Prop :=
 ∃v Z,s'.os=s.os/\SO s'.gens/\Un (bD outer) [] H Z s.heap s'.heap/\bC P w Z s'.heap/\RelV v u/\Q v Z
def CR (CX:fZ) (outer:List Env) (P:Û) (w:ú) (H:Hp) (s:Ã) (Q:VK) (E:XK) (r:Result) (s':Ã):Prop :=
 match r with
 | .ok (.ret u)=>CE outer P w H s Q u s'
 | .ok _=>False
 | .error e=>CX outer H s E e s'
structure bT (P:Û) (w:ú) (K:ĉ) (mg:Str->Option Ä) (base:ħ) (CX:fZ) (k:Nat) (f:Ò) (fd:č) (ps:List Str) (sp:Sp):Prop where
 len:∀vs H Q E,sp vs H Q E->vs.length=ps.length
 run:∀(A:ã) (outer:List Env) (s:Ã) (H:Hp) (args:Args) (us:List Ä) (vs:List V) (Q:VK) (E:XK),bp k A->mY P w K mg base A outer s H->BindsTo s fd args (ps.zip us)->Vals vs us->sp vs H Q E ->
  ť (á P w) A (.call (.ref f) args) (CR CX outer P w H s Q E) s
def bT.imp {P:Û} {w:ú} {K:ĉ} {mg:Str->Option Ä} {base:ħ} {CX:fZ} {k:Nat} {f:Ò} {fd:č} {ps:List Str} {sp Ds:Sp} (F:bT P w K mg base CX k f fd ps sp)
  (h:∀vs H Q E,Ds vs H Q E->sp vs H Q E):bT P w K mg base CX k f fd ps Ds :=
 ⟨fun vs H Q E q=>F.len vs H Q E (h _ _ _ _ q),fun A outer s H args Z vs Q E Y X W V hs=>F.run A outer s H args Z vs Q E Y X W V (h _ _ _ _ hs)⟩
section
variable {X:Cx} {π:List (Ò×Obj)} {σ:St} {H:Hp} {s s':Ã}
def Inv.lK (I:Inv X π σ H s):mY X.prog X.w X.K X.mg X.base X.A X.stack s H :=
 ⟨I.ok.frames,I.ok.mod,I.bs,â I.ok.fJ I.sz,I.stack,I.qP,I.au,I.bare⟩
def Inv.after (I:Inv X π σ H s) (h:CE X.stack X.prog X.w H s Q u s'):EP X π σ Q u s':=by
 obtain ⟨v,Z,os,bare,un,Y,r,q⟩:=h;obtain ⟨W,g,d,t,V⟩:=s';obtain rfl:V=s.os:=os;exact ⟨v,Z,I.call (h':=W) (g':=g) (d':=d) (t':=t) (ch:=[]) un Y bare (fun b z=>absurd z (by simp)),r,q⟩
end
def BR (sp:Sp) (ah:List V) (E:XK) (t:TA):TE:=fun σ H Q=>t σ H fun Z Y=>sp (Z++ah) Y Q E
def Binds (K:ĉ) (fd:č) (ps:List Str) (ds:List Ä):Prop :=
 ∀(s:Ã) (Z:List Ä),K.In s.heap->(Z++ds).length=ps.length->BindsTo s fd ⟨Z,[]⟩ (ps.zip (Z++ds))
def Binds.all {K:ĉ} {fd:č} {ps:List Str} (h:∀us:List Ä,us.length=ps.length->bindArgs fd ⟨us,[]⟩=pure (ps.zip us)):Binds K fd ps []:=fun s us _ Z=>by
 rw [ĩ] at Z |-;exact .of_eq (h us Z)
def Passes (CX:fZ) (X:Cx) (E:XK):Prop:=∀(Y:List (Ò×Obj)) (σ:St) (H:Hp) (s:Ã) (e:Ä) (Z:Ã),Inv X Y σ H s->CX X.stack H s E e Z->X.xe e Z
section
variable {X:Cx} {CX:fZ} {k:Nat} {f C:Ò} {fd:č} {ps:List Str} {sp:Sp} {ah:List V} {ds:List Ä} {E:XK} {x m:Str} {p pos apos:Pos} {e o:Ě} {es:List Ě} {ta:TE} {t:TA}
def Ko {π:List (Ò×Obj)} {σ:St} {H:Hp} {s:Ã} {Q:VK} {us:List Ä} {vs:List V} (F:bT X.prog X.w X.K X.mg X.base CX k f fd ps sp) (hr:bp k X.A) (hb:Binds X.K fd ps ds) (hd:Vals ah ds) (hx:Passes CX X E)
  (I:Inv X π σ H s) (r:Vals vs us) (h:sp (vs++ah) H Q E):Ô (á X.prog X.w) X.A (call (.ref f) us) (EP X π σ Q) X.xe s:=by
 have Y:Vals (vs++ah) (us++ds):=r.append hd;have W:(us++ds).length=ps.length:=by rw [<- Y.length];exact F.len _ _ _ _ h
 refine Su (Ŗ (F.run X.A X.stack s H ⟨us,[]⟩ (us++ds) (vs++ah) Q E hr I.lK (hb s us I.fK W) Y h) fun r U Z=>?_)
 cases r with
 |error e=>exact hx π σ H s e U I Z
 |ok T =>
  cases T with
  |ret u=>exact I.after Z
  |next=>exact Č Z
  |brk=>exact Č Z
  |cont=>exact Č Z
def uL (F:bT X.prog X.w X.K X.mg X.base CX k f fd ps sp) (hr:bp k X.A) (hg:Gl X x) (hm:X.mg x=some (.ref f)) (hk:Ĩ X.K (.ref f)=true) (hb:Binds X.K fd ps ds) (hd:Vals ah ds) (hx:Passes CX X E)
  (ha:PA X (e::es) t) (cf:(x==("__debug__":Str))=false:=by decide) (he:Æ (e::es) X.env=(false,ĺ e X.env)::Æ es X.env:=by rfl) (aZ:(Ġ pos (Æ es X.env)).any (·.1)=false:=by rfl) :
  PE X (.Call (.Name x p) (e::es) [] pos) (BR sp ah E t):=by
 intro Y s σ H Q I h;refine Ň (mB I hg hm ?_ cf);refine SG (h₀:=X.base) I.ok.mod.iu hk (aE (ha pos Y s σ H _ I h) fun W V ⟨U,T,Z,r,q⟩=>⟨Z.fK,?_⟩) he aZ;exact Ko F hr hb hd hx Z r q
structure Mk (K:ĉ) (C f:Ò):Prop where
 makes:PySem.W.makesIn K C=true
 init:R8 K (.ref C) "__init__"=some (some (.ref f))
 fn:PySem.W.isFn K (.ref f)=true
 kp:Ĩ K (.ref C)=true
end
section
variable {X:Cx} {CX:fZ} {k:Nat} {f C:Ò} {fd:č} {ps ks:List Str} {sp:Sp} {E:XK} {x m:Str} {p pos apos wJ:Pos} {e o:Ě} {es:List Ě} {Rc:List Se} {te ta:TE} {t tk:TA} {nm:Option Str}
structure QY (K:ĉ) (fd:č) (ps ks:List Str) (g:List Ä->List Ä->List Ä) (gV:List V->List V->List V):Prop where
 to:∀(s:Ã) (us ws:List Ä),K.In s.heap->(g us ws).length=ps.length->BindsTo s fd ⟨us,ks.zip ws⟩ (ps.zip (g us ws))
 rel:∀{vs:List V} {us:List Ä} {zs:List V} {ws:List Ä},Vals vs us->Vals zs ws->Vals (gV vs zs) (g us ws)
variable {g:List Ä->List Ä->List Ä} {gV:List V->List V->List V}
end
structure kQ (N P:List Str) (sc:ε):Prop where
 kind:sc.kind=.function
 co:sc.isCoroutine=false
 gen:sc.isGenerator=false
 nd:N.Nodup
 pre:N.take P.length=P
 par:∀x∈P,sc.names.lookup x=some .local\/sc.names.lookup x=some .cell
 Kq:∀y∈sc.names,y.2≠.free
theorem zz {kindOf:Str->Option ŗ} {x:Str}:∀{binds:List (Str×Ä)} {m:Str->Option Ä},(∀v,(x,v)∉binds)->bindL kindOf binds m x=m x
 | [],_,_=>rfl
 |(n,v)::r,m,h=>by
  unfold bindL;rw [zz fun w hw=>h w (Õ _ hw)];split
  ·have:x≠n:=by rintro rfl;exact h v Ø
   simp [this]
  ·rfl
theorem zA {kindOf:Str->Option ŗ} {x:Str}:∀{binds:List (Str×Ä)} {m:Str->Option Ä},(∀v,(x,v)∉binds)->bindC kindOf binds m x=m x
 | [],_,_=>rfl
 |(n,v)::r,m,h=>by
  unfold bindC;rw [zA fun w hw=>h w (Õ _ hw)];split
  ·rfl
  ·have:x≠n:=by rintro rfl;exact h v Ø
   simp [this]
theorem zB {kindOf:Str->Option ŗ} {x:Str} {v:Ä}:∀{P:List Str} {vs:List Ä} {i:Nat} {m:Str->Option Ä},P.Nodup->P[i]?=some x->vs[i]?=some v->kindOf x=some .local ->
  bindL kindOf (P.zip vs) m x=some v
 | [],_,_,_,_,h,_,_=>by simp at h
 |_::_,[],_,_,_,_,h,_=>by simp at h
 |p::P,w::vs,0,m,X,Z,Y,W=>by
  simp at Z Y;subst Z;subst Y;show bindL kindOf ((p,w)::P.zip vs) m p=_;unfold bindL;rw [zz fun v V=>(Ŧ.mp X).1 (RF V).1,é W];simp
 |p::P,w::vs,i+1,m,X,Z,Y,W=>by
  show bindL kindOf ((p,w)::P.zip vs) m x=_;unfold bindL;exact zB (i:=i) (Ŧ.mp X).2 (by simpa using Z) (by simpa using Y) W
theorem zC {kindOf:Str->Option ŗ} {x:Str} {v:Ä}:∀{P:List Str} {vs:List Ä} {i:Nat} {m:Str->Option Ä},P.Nodup->P[i]?=some x->vs[i]?=some v->kindOf x≠some .local ->
  bindC kindOf (P.zip vs) m x=some v
 | [],_,_,_,_,h,_,_=>by simp at h
 |_::_,[],_,_,_,_,h,_=>by simp at h
 |p::P,w::vs,0,m,X,Z,Y,W=>by
  simp at Z Y;subst Z;subst Y;show bindC kindOf ((p,w)::P.zip vs) m p=_;unfold bindC;rw [zA fun v V=>(Ŧ.mp X).1 (RF V).1,õ W];simp
 |p::P,w::vs,i+1,m,X,Z,Y,W=>by
  show bindC kindOf ((p,w)::P.zip vs) m x=_;unfold bindC;exact zC (i:=i) (Ŧ.mp X).2 (by simpa using Z) (by simpa using Y) W
def start (N:List Str) (vs:List V):St:=vs.map some++Ñ (N.length-vs.length) none
def fc (CX:fZ) (P:Û) (w:ú) (K:ĉ) (mg:Str->Option Ä) (base:ħ) (N:List Str) (qual:Str) (scope:ε) (f:Ò) (cd:Ä) (A:ã) (outer:List Env) (s:Ã) (H:Hp) (E:XK):Cx where
 prog:=P
 w:=w
 K:=K
 mg:=mg
 base:=base
 A:=A.deeper (SS qual scope s.heap.objs.size f cd)
 N:=N
 bQ:=s
 iQ:=H
 env:=SS qual scope s.heap.objs.size f cd
 outer:=outer
 stack:=SS qual scope s.heap.objs.size f cd::outer
 ex:=[]
 calm:=true
 fn:=fun _=>true
 pn:=[]
 xe:=fun e Y=>Ô (á P w) (A.deeper (SS qual scope s.heap.objs.size f cd)) (leaving (SS qual scope s.heap.objs.size f cd) e) (fun _ Z=>CX outer H s E e Z) (fun X Z=>CX outer H s E X Z) Y
def zR {sc:ε} {n:Nat} {x:Str} (h:sc.names.lookup x=some .cell):∃c,(ų n sc.names []).lookup x=some c:=by
 have q:=Š sc.names n [] (.inl h);exact Option.isSome_iff_exists.mp q
def zD {CX:fZ} {P:Û} {w:ú} {K:ĉ} {mg:Str->Option Ä} {base:ħ} {N ps:List Str} {qual:Str} {scope:ε} {f:Ò} {cd:Ä} {A:ã} {outer:List Env} {s s1:Ã} {H:Hp} {E:XK} {us:List Ä} {vs:List V}
  (S:kQ N ps scope) (hd:A.handled=none) (e0:mY P w K mg base A outer s H) (hl:vs.length=ps.length) (r:Vals vs us)
  (x:InCallC s s.heap.objs.size (bindL (SS qual scope s.heap.objs.size f cd).kindOf (ps.zip us) fun _=>none) (ų (s.heap.objs.size+1) scope.names []) (bindC (SS qual scope s.heap.objs.size f cd).kindOf (ps.zip us) fun _=>none) s1) :
  Inv (fc CX P w K mg base N qual scope f cd A outer s H E) [] (start N vs) H s1:=by
 have M:ps.length<=N.length:=by have:=ķ List.length S.pre;rw [ż] at this;omega
 obtain ⟨X,L,rfl,U⟩:=x.done;have W:∀b:Ò,b∉(fc CX P w K mg base N qual scope f cd A outer s H E).ex:=fun b z=>absurd (show b∈([]:List Ò) from z) (by simp);refine ⟨⟨e0.mod,S.kind,rfl,rfl,S0 _,fun y z c X Z=>?_,fun y hy=>?_,fun y c _ h=>?_,fun _=>hd,Around.frames_deeper e0.frames,.inr ⟨rfl,rfl⟩,fun b z=>absurd z (W b),e0.bs,e0.fJ,fun b _ _=>W b,fun b z=>absurd z (W b),e0.eG,e0.gH⟩,
  rfl,e0.bare,Un.kept U,⟨_,x.toInCall.ns,fun i y v X Z J=>?_⟩,fun y c h=>⟨_,x.cell y c h⟩,e0.au.fresh (S0 _),fun y c h=>?_,fun p Y=>absurd (show p∈([]:List (Ò×Obj)) from Y) (by simp),e0.au.kept U,?_⟩
 ·exact name_of_addr x.apart (ġ X) (ġ Z)
 ·have hy:scope.names.lookup y=some .cell\/scope.names.lookup y=some .free:=hy
  rcases hy with hy|hy
  ·exact zR hy
  ·exact absurd rfl (S.Kq _ (ġ hy))
 ·exact Nat.le_of_lt (x.above y c (ġ h))
 ·have hi:i<vs.length:=by
   unfold start at Z;by_cases hi:i<vs.length
   ·exact hi
   ·rw [ù (by simpa using hi)] at Z
    rw [ĸ] at Z
    split at Z<;>cases Z
  have Q:vs[i]?=some v:=by
   unfold start at Z;rw [Ú (by simpa using hi),è] at Z
   cases e:vs[i]? with
   |none=>rw [e] at Z;cases Z
   |some a=>rw [e] at Z;cases Z;rfl
  obtain ⟨u,T,O⟩:=r.get Q;have Y:ps[i]?=some y:=by
   rw [<- S.pre,List.getElem?_take_of_lt (by omega)];exact X
  have R:ps.Nodup:=by rw [<- S.pre];exact S.nd.sublist (List.take_sublist _ _)
  refine ⟨u,O,?_⟩
  rcases S.par y (ě Y) with k|k
  ·exact .inl ⟨k,zB R Y T k⟩
  ·obtain ⟨c,e⟩:=zR (n:=s.heap.objs.size+1) k
   refine .inr ⟨.inl k,c,e,?_⟩;have q:=x.cell y c e;rw [zC R Y T (by show scope.names.lookup y≠_;rw [k];decide)] at q;exact q
 ·exact e0.au.fresh (Nat.le_of_lt (x.above y c (ġ h)))
 ·unfold start
  show _=N.length;rw [ð,Ë,Sa];omega
def vW {CX:fZ} {P:Û} {w:ú} {K:ĉ} {mg:Str->Option Ä} {base:ħ} {k:Nat} {f:Ò} {name qual:Str} {params:SM} {body:List SH} {scope:ε} {dV kV doc pm aG ct oc:Ä} {an od:Option Ò}
  {f6:Array (Option Ä)} {N ps:List Str} {sp:Sp} (lk:K.lookup f=some ⟨oc,od,.func (Ļ name qual params body scope dV kV doc pm an aG ct),f6⟩) (cE:Ŵ K aG qual=true) (S:kQ N ps scope)
  (len:∀vs H Q E,sp vs H Q E->vs.length=ps.length)
  (hU:∀(A:ã) (outer:List Env) (s:Ã) (H:Hp) (vs:List V) (Q:VK) (E:XK),bp k (A.deeper (SS qual scope s.heap.objs.size f aG))->sp vs H Q E ->
   ∃t,bV (fc CX P w K mg base N qual scope f aG A outer s H E) body t/\t { nx:=fun _ H'=>Q .ao H',rt:=Q } (start N vs) H) :
  bT P w K mg base CX (k+1) f (Ļ name qual params body scope dV kV doc pm an aG ct) ps sp:=by
 refine ⟨len,fun A outer s H args L vs Q E X Z G r R=>?_⟩;have F:=len _ _ _ _ R;have O:K.In s.heap:=Z.mod.iu.keeps fun b o e=>(Z.bs b o e).1;have lim:s.heap.NoLimit:=Z.mod.nolimit.keeps fun b o e=>(Z.bs b o e).1;have D:∀y∈ps.zip L,scope.names.lookup y.1=some .local\/(scope.names.lookup y.1=some .cell/\((ų (s.heap.objs.size+1) scope.names []).lookup y.1).isSome=true):=fun ⟨n,v⟩ C=>by
  rcases S.par n (RF C).1 with q|q
  ·exact .inl q
  ·exact .inr ⟨q,Š _ _ _ (.inl q)⟩
 refine codeAny_call_function X.depth (O _ _ lk) rfl S.co S.gen rfl (PySem.W.codeRec_of O cE) (G _ _ _ _ ?_);refine wpAny_newFunctionEnv_cells S.kind D fun env B M x=>?_;subst B;refine ⟨lim.keeps x.toInCall.keep,codeAny_func ?_⟩;obtain ⟨t,z,p⟩:=hU A outer s H vs Q E (X.deeper _) R;have I:Inv (fc CX P w K mg base N qual scope f aG A outer s H E) [] (start N vs) H M:=zD S X.hd Z F r x;refine ģ (z [] M (start N vs) H _ I p) (fun m U hs=>?_) fun e U hs=>hs;have fin:∀{Y:St} {H':Hp} {v:V} {u:Ä},Inv (fc CX P w K mg base N qual scope f aG A outer s H E) [] Y H' U->RelV v u->Q v H'->CE outer P w H s Q u U :=
  fun {Y H' v u} J T q=>⟨v,H',J.os,J.bare,J.base,J.au,T,q⟩
 cases m with
 |ret u =>
  obtain ⟨v,Y,H',J,T,q⟩:=hs;exact fin J T q
 |next =>
  obtain ⟨Y,H',J,q⟩:=hs;exact fin (v:=V.ao) (u:=Value.none) J rfl q
 |brk =>
  obtain ⟨_,_,_,q⟩:=hs;exact Č q
 |cont =>
  obtain ⟨_,_,_,q⟩:=hs;exact Č q
section
variable {X:Cx} {x:Str} {p pos:Pos} {e:Ě} {es:List Ě} {t:TA} {id T:String} {r:List V->Hp->VK->Prop}
def xB (r:List V->Hp->VK->Prop) (t:TA):TE:=fun σ H Q=>t σ H fun Z Y=>r Z Y Q
def qG (hc:bK X (.builtin id) r) (hg:Gl X x) (hm:X.mg x=none) (hv:ê x=some (.builtin id)) (ha:PA X (e::es) t) (hn:x≠"__name__":=by decide) (cf:(x==("__debug__":Str))=false:=by decide)
  (he:Æ (e::es) X.env=(false,ĺ e X.env)::Æ es X.env:=by rfl) (aZ:(Ġ pos (Æ es X.env)).any (·.1)=false:=by rfl):PE X (.Call (.Name x p) (e::es) [] pos) (xB r t):=by
 intro Z s σ H Q I h;refine Ň (kW I hg hm hv ?_ hn cf);exact PyProof.Rows.callWith_builtin1 (aE (ha pos Z s σ H _ I h) fun Y W ⟨V,U,T,S,R⟩=>hc Z W σ U V Y Q T S R) he aZ
def qA (hc:bK X (.type T) r) (hg:Gl X x) (hm:X.mg x=none) (hv:ê x=some (.type T)) (ha:PA X (e::es) t) (hn:x≠"__name__":=by decide) (cf:(x==("__debug__":Str))=false:=by decide)
  (he:Æ (e::es) X.env=(false,ĺ e X.env)::Æ es X.env:=by rfl) (aZ:(Ġ pos (Æ es X.env)).any (·.1)=false:=by rfl):PE X (.Call (.Name x p) (e::es) [] pos) (xB r t):=by
 intro Z s σ H Q I h;refine Ň (kW I hg hm hv ?_ hn cf);exact Ť (aE (ha pos Z s σ H _ I h) fun Y W ⟨V,U,S,R,P⟩=>hc Z W σ U V Y Q S R P) he aZ
end
end L2
namespace HT
open PySem PyProof.Rows
def zS (A:ã) (s:Ã) (a:Int) (t:Tok) (c:Int) (u:Tok) (prog:Û) (w:ú) (E:Ä->Ã->Prop) (Q:Ä->Ã->Prop) (h:Q (.bool (decide (a<c))) s) :
  Ô (á prog w) A (richCompare .Lt (.int a t) (.int c u)) Q E s :=
 (PyProof.Rows.lt_int h:Ô (á prog w) A (Ć .Lt (.int a t) (.int c u)) Q E s)
section
open PySem.SeqAt
open PySem.AutoSeq1 (wpAny_loadPart')
open PySem.MeetsSeq PySem.MeetsSeq2 PySem.MeetsSeq3
end
section
variable {prog:Û} {w:ú} {A:ã} {E:Ä->Ã->Prop} {s:Ã}
def IG (ht:IsTup s.heap t vs.toArray) (hb:IsTup s.heap b ws.toArray) (hv:vs≠[])
 (h1:ws=[]->Q (.ref t) s) (h2:ws≠[]->Q (.ref s.heap.objs.size) { s with heap:=s.heap.push { cls:=.type "tuple",data:=.seq (vs++ws).toArray } })
 (hsz:vs.length+ws.length<=Ö):Ô (á prog w) A (Ĳ .Add (.ref t) (.ref b)) Q E s:=by
 obtain ⟨⟨cls,X,data,W⟩,Z,V,n,U⟩:=id ht;obtain ⟨⟨O,T,data2,S⟩,Y,R,P,hd2⟩:=id hb;simp only at V U R hd2;subst V U R hd2;have e:vs.toArray++ws.toArray=(vs++ws).toArray:=by simp
 by_cases hw:ws=[]
 ·exact concat_meets ⟨_,Z,rfl⟩ ⟨_,Y,rfl⟩ noFill_tuple_add seq_tuple_add RR RG (θ _ _)
   (tuple_addW1 t b vs.toArray ws.toArray n P X T W S (by simpa using hv) (by simp [hw])) ⟨Z,Y,h1 hw⟩
 ·refine concat_meets ⟨_,Z,rfl⟩ ⟨_,Y,rfl⟩ noFill_tuple_add seq_tuple_add RR RG (θ _ _)
   (tuple_addW2 t b vs.toArray ws.toArray n P X T W S (by simpa using hv) (by simpa using hw) (by rw [Ð,Ð];exact hsz)) ⟨Z,Y,?_⟩
  rw [e];exact h2 hw
noncomputable def aH (n d:Nat):Option Int->Nat
 |none=>d
 |some v=>if v<0 then (v+(n:Int)).toNat else min v.toNat n
def An (n d k:Nat):aH n d (some (k:Int))=min k n:=by
 show (if (k:Int)<0 then ((k:Int)+(n:Int)).toNat else min (k:Int).toNat n)=min k n
 rw [õ (by omega),ĥ]
def Kr (n d:Nat) (hd:d<=n) (o:Option Int):aH n d o<=n:=by
 cases o with
 |none=>exact hd
 |some v =>
  show (if v<0 then (v+(n:Int)).toNat else min v.toNat n)<=n
  by_cases Z:v<0
  ·rw [é Z];omega
  ·rw [õ Z];exact Nat.min_le_right _ _
def Ao (v:Int) (n d:Nat):(if v<0 then max (v+(n:Int)) 0 else min v (n:Int))=((aH n d (some v):Nat):Int):=by
 show (if v<0 then max (v+(n:Int)) 0 else min v (n:Int))=(((if v<0 then (v+(n:Int)).toNat else min v.toNat n):Nat):Int)
 by_cases Z:v<0
 ·simp only [é Z];omega
 ·simp only [õ Z];omega
def Fm (lo hi:Option Int) (n:Nat):ŵ lo hi 1 (n:Int)=(((aH n 0 lo:Nat):Int),((aH n n hi:Nat):Int)):=by
 have Z:¬ ((1:Int)<0):=by omega
 unfold ŵ;simp only [Z,Ē];refine Prod.ext ?_ ?_
 ·cases lo with
  |none=>rfl
  |some v=>exact Ao v n 0
 ·cases hi with
  |none=>rfl
  |some v=>exact Ao v n n
def Fn (i j:Nat):ō (i:Int) (j:Int) 1=j-i:=by
 unfold ō;have Z:(1:Int) > 0:=by omega
 simp only [Z,ē,Int.ediv_one]
 split<;>omega
def zj (p:IsPart v o) (h:Q o s):Ô (á prog w) A (Builtin.Slice.slicePartIndex v) Q E s:=by
 cases p with
 |none=>exact slicePart_none h
 |int i t=>exact slicePart_int h
def yY {lo hi:Option Int} {n:Nat} {Q:Int×Int×Nat->Ã->Prop} (hs:s.heap.IsSliceOf sl vl vu .none) (pl:IsPart vl lo) (pu:IsPart vu hi)
 (h:Q (((aH n 0 lo:Nat):Int),1,aH n n hi-aH n 0 lo) s):Ô (á prog w) A (SF (.ref sl) (pure (n:Int))) Q E s:=by
 obtain ⟨os,Z,X,Y⟩:=id hs;unfold SF Builtin.Slice.sliceFields;refine À (À (Ī Z Y (x:=vl) rfl (À (Ī Z Y (x:=vu) rfl (À (Ī Z Y (x:=.none) rfl (Â ?_)))))));refine À (slicePart_none ?_)
 show Ô _ _ (if ((1:Int)==0)=true then _ else _) _ _ s
 rw [õ (by decide)];refine À (zj pl (À (zj pu (À (Â ?_)))))
 show Ô _ _ (match ŵ lo hi 1 (n:Int) with | (lo,hi)=>pure (lo,(1:Int),ō lo hi 1)) _ _ s
 rw [Fm lo hi n];show Ô _ _ (pure (((aH n 0 lo:Nat):Int),(1:Int),ō ((aH n 0 lo:Nat):Int) ((aH n n hi:Nat):Int) 1)) _ _ s;rw [Fn];exact Â h
def Hb (xs:Array Ä) (i k:Nat):((ć k).filterMap fun (m:Nat)=>xs[((i:Int)+(m:Int)*1).toNat]?).toArray=((xs.toList.drop i).take k).toArray:=by
 have e:(fun (m:Nat)=>xs[((i:Int)+(m:Int)*1).toNat]?)=fun m=>xs[i+m]?:=by
  funext m;have:((i:Int)+(m:Int)*1).toNat=i+m:=by omega
  rw [this]
 rw [e];have:=pick_run xs i k;rw [List.filterMap_map] at this;have e2:((fun x=>xs[x]?) ∘ fun x=>i+x)=fun m=>xs[i+m]?:=rfl;rw [e2] at this;rw [this]
def Eg {lo hi:Option Int} {Q:Ä->Ã->Prop} (ht:IsTup s.heap t items) (hs:s.heap.IsSliceOf sl vl vu .none) (pl:IsPart vl lo) (pu:IsPart vu hi)
 (hw:¬ (aH items.size 0 lo=0/\aH items.size items.size hi=items.size))
 (h:Q (.ref s.heap.objs.size) { s with heap:=s.heap.push { cls:=.type "tuple",data:=.seq ((items.toList.drop (aH items.size 0 lo)).take (aH items.size items.size hi-aH items.size 0 lo)).toArray } })
 (hsz:items.size<=Ö):Ô (á prog w) A (getItem (.ref t) (.ref sl)) Q E s:=by
 have Z:sizeOk (.seq ((items.toList.drop (aH items.size 0 lo)).take (aH items.size items.size hi-aH items.size 0 lo)).toArray):=by
  show ((items.toList.drop (aH items.size 0 lo)).take (aH items.size items.size hi-aH items.size 0 lo)).toArray.size<=Ö;rw [Ð,ż,List.length_drop,ă];omega
 have U:aH items.size items.size hi<=items.size:=Kr _ _ (S0 _) hi;obtain ⟨os,Y,X,T⟩:=id hs;have W:s.TypeIs (.ref sl) "slice":=⟨os,Y,X⟩;unfold getItem
 try with_reducible refine ą ?_
 first|refine À (Â ?_)|skip
 refine À (wpAny_sequenceKey ht.typeIs (by decide) ?_);refine À (ü (name:=Ħ "__getitem__") ht.typeIs Ċ
  (Ā Ċ ht.typeIs entry_tuple_getitem ?_ (args_tuple_getitem _ _)))
 show Ô _ _ (Ł (.ref t) >>= _) _ _ s;refine À (tupleItemsOf_ ht ?_);refine À (ι W ?_);rw [é (by decide)];refine À (yY hs pl pu ?_);have V:¬ ((((aH items.size 0 lo:Nat):Int)==0&&(1:Int)==1&&(aH items.size items.size hi-aH items.size 0 lo)==items.size)=true):=by
  intro q;rw [Í,Í] at q;have S:((aH items.size 0 lo:Nat):Int)=0:=eq_of_beq q.1.1;have R:aH items.size items.size hi-aH items.size 0 lo=items.size:=eq_of_beq q.2;exact hw ⟨by omega,by omega⟩
 show Ô _ _ (if (((aH items.size 0 lo:Nat):Int)==0&&(1:Int)==1&&(aH items.size items.size hi-aH items.size 0 lo)==items.size)=true then _ else _) _ _ s
 rw [õ V,Hb]
 first
  |exact À (m:=Ĕ _) (ì (Â ⟨_,rfl,Â h⟩) Z)
  |exact À (m:=Ĕ _) (ì (À (Â (Â ⟨_,rfl,Â h⟩))) Z)
  |exact À (À (m:=Ĕ _) (ì (Â (Â ⟨_,rfl,Â h⟩)) Z))
  |exact À (À (m:=Ĕ _) (ì (Â ⟨_,rfl,Â h⟩) Z))
end
end HT
namespace L2
open PySem PySem.Spec PyProof.Rows
abbrev TO:=St->Hp->(Option Int->Hp->Prop)->Prop
def PO (X:Cx) (e:Option Ě) (t:TO):Prop :=
 ∀(Z:List (Ò×Obj)) (s:Ã) (σ:St) (H:Hp) (Q:Option Int->Hp->Prop),Inv X Z σ H s->t σ H Q ->
  Ô (á X.prog X.w) X.A (evalPart e X.env) (fun u W=>∃o Y,Inv X Z σ Y W/\IsPart u o/\Q o Y) X.xe s
def IH:TO:=fun _ H Q=>Q none H
def L6 (t:TE):TO:=fun σ H Q=>t σ H fun x Z=>∃i,x=.int i/\Q (some i) Z
def intsAre_of:∀{us:List Ä},Vals (ns.map V.int) us->RV us ns:=by
 induction ns with
 |nil=>intro us r;rw [μ] at r;cases r;exact .nil
 |cons n ns ih =>
  intro us r;rw [ç] at r
  cases r with
  |cons Z Y =>
   obtain ⟨t,e⟩:=Z;subst e;exact .cons n t (ih Y)
section
variable {X:Cx} {e:Ě} {te:TE} {lo hi:Option Ě} {tl th:TO} {pos p2:Pos}
def II:PO X none IH:=by
 intro Z s σ H Q I h;rw [evalPart_none];exact Â ⟨none,H,I,.none,h⟩
def IJ (h:PE X e te):PO X (some e) (L6 te):=by
 intro Z s σ H Q I hw;rw [evalPart_some];refine aE (h Z s σ H _ I hw) fun u T ⟨x,Y,W,V,U⟩=>?_;obtain ⟨i,rfl,q⟩:=U;obtain ⟨t,rfl⟩:=V;exact ⟨some i,Y,W,.int i t,q⟩
def pM (X:Cx) (r:V->Option Int->Option Int->Hp->VK->Prop):Prop :=
 ∀(Z:List (Ò×Obj)) (s:Ã) (σ:St) (H:Hp) (x:V) (v Y W:Ä) (lo hi:Option Int) (U:Ò) (Q:VK),Inv X Z σ H s->RelV x v->s.heap.IsSliceOf U Y W .none->IsPart Y lo->IsPart W hi->r x lo hi H Q ->
  ∃T id,typeLookup (.type T) "__getitem__"=pure (some (.builtin id))/\s.TypeIs v T/\Ô (á X.prog X.w) X.A (getItem v (.ref U)) (EP X Z σ Q) X.xe s
def OH (r:V->Option Int->Option Int->Hp->VK->Prop) (te:TE) (tl th:TO):TE:=fun σ H Q=>te σ H fun x Z=>tl σ Z fun l Y=>th σ Y fun u X=>r x l u X Q
def Hc (hr:pM X r) (he:PE X e te) (hl:PO X lo tl) (hu:PO X hi th):PE X (.Subscript e (.Slice lo hi none p2) pos) (OH r te tl th):=by
 intro Y s σ H Q I h;refine Subscript_ (aE (he Y s σ H _ I h) fun v S ⟨x,R,P,O,N⟩=>?_);refine wpAny_Slice (aE (hl Y S σ R _ P N) fun W M ⟨l,L,K,J,G⟩=>aE (hu Y M σ L _ K G) fun V Z ⟨u,U,F,pu,E⟩=>?_);rw [evalPart_none];refine Â ?_
 have D:Inv X Y σ U { Z with heap:=Z.heap.push { cls:=.type "slice",data:=.fields #[W,V,.none] } }:=F.kept (t':=Z.toks) fun b y q=>Á _ q
 obtain ⟨T,id,C,B,z⟩:=hr Y { Z with heap:=Z.heap.push { cls:=.type "slice",data:=.fields #[W,V,.none] } } σ U x v W V l u Z.heap.objs.size Q D O (Heap.IsSliceOf.new ..) J pu E
 show Ô (á X.prog X.w) X.A (subscriptTail e (.Slice lo hi none p2) v (.ref Z.heap.objs.size)) (EP X Y σ Q) X.xe { Z with heap:=Z.heap.push { cls:=.type "slice",data:=.fields #[W,V,.none] } }
 exact tail_any (ops:=[.ref Z.heap.objs.size,v]) B C z (by with_unfolding_all rfl)
noncomputable def ie (xs:List V) (lo hi:Option Int):List V:=(xs.drop (HT.aH xs.length 0 lo)).take (HT.aH xs.length xs.length hi-HT.aH xs.length 0 lo)
def zg (xs:List V) (lo hi:Option Int):(ie xs lo hi).length<=xs.length:=by
 unfold ie;rw [ż,List.length_drop];omega
def Ny (K:ĉ):V->Option Int->Option Int->Hp->VK->Prop:=fun x lo hi H Q=>∃a Z,x=.ref a/\aT K H a Z /\
 ¬ (HT.aH Z.length 0 lo=0/\HT.aH Z.length Z.length hi=Z.length)/\∀p,H p=none->Q (.ref p) (upd H p (.tup (ie Z lo hi)))
def Bb:pM X (Ny X.K):=by
 intro R s σ H x v P O lo hi N Q I U hs T pu h;obtain ⟨a,Y,rfl,S,hw,q⟩:=h;cases U;obtain ⟨its,r,W,V⟩:=I.tuple S;have Z:its.toArray.size=Y.length:=by rw [Ð];exact r.length.symm
 refine ⟨"tuple",_,Ċ.lookup,W.typeIs,?_⟩;refine HT.Eg W hs T pu (by rw [Z];exact hw) ?_ (by rw [Z];exact V);rw [Z];refine ⟨.ref s.heap.objs.size,_,I.laid (t':=s.toks) (o:=.tup (ie Y lo hi)) (fun b M q=>Á _ q) (S0 _) ?_,rfl,q _ (I.au.fresh (S0 _))⟩;exact ⟨â (zg Y lo hi) V,_,(r.drop (HT.aH Y.length 0 lo)).take (HT.aH Y.length Y.length hi-HT.aH Y.length 0 lo),IsTup.new _ _⟩
def L7 (K:ĉ):R2:=fun x y H Q=>∃a b Y Z,x=.ref a/\y=.ref b/\aT K H a Y/\aT K H b Z/\Y≠[]/\Y.length+Z.length<=Ö /\
 (Z=[]->Q (.ref a) H)/\(Z≠[]->∀p,H p=none->Q (.ref p) (upd H p (.tup (Y++Z))))
def Vals.uM (r:Vals xs us):us=[]↔xs=[]:=by
 cases r with
 |nil=>simp
 |cons _ _=>simp
def IK:aX X (Ĳ .Add) (L7 X.K):=by
 intro J s σ H x y v u Q I V U h;obtain ⟨a,b,T,S,rfl,rfl,R,P,O,W,N,M⟩:=h;cases V;cases U;obtain ⟨its,Y,L,_⟩:=I.tuple R;obtain ⟨G,Z,p2,_⟩:=I.tuple P;refine HT.IG L p2 (fun z=>O (Y.uM.mp z)) (fun z=>⟨.ref a,H,I,rfl,N (Z.uM.mp z)⟩) (fun z=>?_) (by rw [<- Y.length,<- Z.length];exact W);refine ⟨.ref s.heap.objs.size,_,I.laid (t':=s.toks) (o:=.tup (T++S)) (fun b F q=>Á _ q) (S0 _) ?_,rfl,M (fun w=>z (Z.uM.mpr w)) _ (I.au.fresh (S0 _))⟩;exact ⟨by rw [ð];exact W,_,Y.append Z,IsTup.new _ _⟩
end
noncomputable def ef (n:Nat) (i:Int):Option Nat:=if 0<=i then (if i<n then some i.toNat else none) else if -(n:Int)<=i then some (i+n).toNat else none
def cL {α:Type} (xs:List α) (i:Int):Option α:=(ef xs.length i).bind fun j=>xs[j]?
def Ap (h:ef n i=some j):seqIndex? i n=some j/\j<n/\-(n:Int)<=i/\i<n:=by
 unfold ef at h;by_cases Y:0<=i
 ·rw [é Y] at h
  by_cases Z:i<n
  ·rw [é Z] at h
   have e:i.toNat=j:=S7 h;exact ⟨by rw [seqIndex_of Y Z,e],by omega,by omega,Z⟩
  ·rw [õ Z] at h;cases h
 ·rw [õ Y] at h
  by_cases Z:-(n:Int)<=i
  ·rw [é Z] at h
   have e:(i+n).toNat=j:=S7 h;exact ⟨by rw [seqIndex_neg (by omega) Z,e],by omega,Z,by omega⟩
  ·rw [õ Z] at h;cases h
def uN {α:Type} {xs:List α} {i:Int} {v:α} (h:cL xs i=some v):∃j,seqIndex? i xs.length=some j/\xs[j]?=some v/\j<xs.length/\-(xs.length:Int)<=i/\i<xs.length:=by
 unfold cL at h
 cases e:ef xs.length i with
 |none=>rw [e] at h;cases h
 |some j =>
  rw [e] at h;obtain ⟨Z,Y,X,W⟩:=Ap e;exact ⟨j,Z,h,Y,X,W⟩
def Aq {α:Type} {xs:List α} {j:Nat} {v:α} (h:xs[j]?=some v):cL xs (j:Int)=some v:=by
 have Z:j<xs.length:=(Å.mp h).1;have e:ef xs.length (j:Int)=some j:=by
  unfold ef;rw [é (by omega),é (by omega)];simp
 unfold cL;rw [e];exact h
def Ar (b:Ě):Prop:=∀o i,subscripted b false o i=operate [o,i] (getItem o i)
def pN (X:Cx) (r:R2):Prop :=
 ∀(value slice:Ě) (Z:List (Ò×Obj)) (s:Ã) (σ:St) (H:Hp) (x y:V) (v u:Ä) (Q:VK),Inv X Z σ H s->RelV x v->RelV y u->r x y H Q ->
  subscripted slice false v u=operate [v,u] (getItem v u)->Ô (á X.prog X.w) X.A (subscriptTail value slice v u) (EP X Z σ Q) X.xe s
def xD (X:Cx) (id:String) (r:V->List V->Hp->VK->Prop):Prop :=
 ∀(Z:List (Ò×Obj)) (s:Ã) (σ:St) (H:Hp) (x:V) (Y:List V) (v:Ä) (W:List Ä) (Q:VK),Inv X Z σ H s->RelV x v->Vals Y W->r x Y H Q ->
  Ô (á X.prog X.w) X.A (call (.builtin id) (v::W)) (EP X Z σ Q) X.xe s
section
variable {X:Cx} {a b:Ě} {ta tb:TE} {pos:Pos}
def L8 (hr:pN X r) (ha:PE X a ta) (hb:PE X b tb) (hs:Ar b):PE X (.Subscript a b pos) (pL r ta tb):=by
 intro Z s σ H Q I h;exact Subscript_ (wG ha hb I h fun v u Y x y W V U T q=>hr a b Z Y σ W x y v u Q V U T q (hs _ _))
def Nz (K:ĉ):R2:=fun x y H Q=>∃p Z i v,x=.ref p/\y=.int i/\aR K H p Z/\cL Z i=some v/\Q v H
def NA (K:ĉ):R2:=fun x y H Q=>∃p Z i v,x=.ref p/\y=.int i/\aT K H p Z/\cL Z i=some v/\Q v H
def NB:R2:=fun x y H Q=>∃z i c,x=.str z/\y=.int i/\z.length<=Ö/\cL z.cps.toList i=some c/\Q (.str ⟨#[c]⟩) H
def As:pN X (Nz X.K):=by
 intro value slice V s σ H x y v u Q I S R h hs;obtain ⟨p,E,i,z,rfl,rfl,P,O,q⟩:=h;cases S;obtain ⟨t,rfl⟩:=R;obtain ⟨its,r,Y,D⟩:=I.list P;obtain ⟨j,Z,N,C,M,L⟩:=uN O;obtain ⟨w,U,J⟩:=r.get N;have G:=r.length;have B:=kX;have fin:EP X V σ Q w s:=⟨z,H,I,J,q⟩;by_cases T:0<=i
 ·have W:i.toNat=j:=by
   rw [seqIndex_of T L] at Z;exact S7 Z
  exact item_listR Y.isList T (by omega) (by rw [W];simpa using U) fin hs
 ·have W:(i+(its.toArray.size:Int)).toNat=j:=by
   rw [seqIndex_neg (by omega) M] at Z;rw [Ð,<- G];exact S7 Z
  exact subscriptTail_builtinR (x:=w) Y.isList.typeIs slot_list_getitem.lookup
   (wpAny_getItem_list_neg (Q:=fun r F=>r=w/\EP X V σ Q r F) Y.isList (by omega) (by rw [Ð]<;>omega) (by omega) (by rw [W];simpa using U) ⟨rfl,fin⟩) hs
def Ks:pN X (NA X.K):=by
 intro value slice Z s σ H x y v u Q I W V h hs;obtain ⟨p,L,i,z,rfl,rfl,U,T,q⟩:=h;cases W;obtain ⟨t,rfl⟩:=V;obtain ⟨its,r,Y,J⟩:=I.tuple U;obtain ⟨j,S,R,G,F,E⟩:=uN T;obtain ⟨w,P,O⟩:=r.get R;have N:=r.length;have D:=kX;have fin:EP X Z σ Q w s:=⟨z,H,I,O,q⟩;exact subscriptTail_builtinR (x:=w) Y.typeIs slot_tuple_getitem.lookup
  (getItem_tuple (j:=j) (Q:=fun r M=>r=w/\EP X Z σ Q r M) Y (by omega) (by omega) (by rw [Ð,<- N];exact S) (by simpa using P) ⟨rfl,fin⟩) hs
def Kt:pN X NB:=by
 intro value slice P s σ H x y v u Q I Y W h hs;obtain ⟨z,i,c,rfl,rfl,O,V,q⟩:=h;obtain ⟨t,rfl⟩:=Y;obtain ⟨N,rfl⟩:=W;obtain ⟨j,Z,U,M,T,S⟩:=uN V;have R:z.cps.toList.length=z.length:=by simp [Str.length]
 rw [R] at Z T S;have L:=kX;exact tail_any (typeIs_str s z t) slot_str_getitem.lookup (getItem_str (c:=c) (by
  have e1:decide (i < -(2 ^ 63:Int))=false:=ë (by omega);have e2:decide (i ≥ 2 ^ 63)=false:=ë (by omega);rw [e1,e2,Bool.or_false]) (by rw [Z];simpa using U) ⟨.str ⟨#[c]⟩,H,I.tok _,⟨_,rfl⟩,q⟩) hs
def Fo (its:List Ä) (n j:Nat) (u:Ä):Ğ (·.setIfInBounds j u) { cls:=.type "list",data:=.seq its.toArray n }={ cls:=.type "list",data:=.seq (its.set j u).toArray n }:=by
 simp [Ğ]
theorem Inv.lst {π:List (Ò×Obj)} {σ:St} {H:Hp} {s:Ã} {p:Ò} {xs:List V} (I:Inv X π σ H s) (h:H p=some (.lst xs)) :
  ∃(its:List Ä) (n:Nat),Vals xs its/\s.heap.get? p=some { cls:=.type "list",data:=.seq its.toArray n }/\xs.length<=Ö:=by
 obtain ⟨z,its,n,r,e⟩:=I.au p _ h;exact ⟨its,n,r,e,z⟩
def Inv.Ku {π:List (Ò×Obj)} {σ:St} {H:Hp} {s:Ã} {p:Ò} {xs ys:List V} {its its':List Ä} {n n':Nat} {f:Obj->Obj} (I:Inv X π σ H s) (h:H p=some (.lst xs))
  (ho:s.heap.get? p=some { cls:=.type "list",data:=.seq its.toArray n }) (hf:f { cls:=.type "list",data:=.seq its.toArray n }={ cls:=.type "list",data:=.seq its'.toArray n' }) (r:Vals ys its') (hz:ys.length<=Ö) (t:Nat) :
  Inv X π σ (upd H p (.lst ys)) { s with heap:=s.heap.update p f,toks:=t }:=by
 have e:(s.heap.update p f).get? p=some { cls:=.type "list",data:=.seq its'.toArray n' }:=by
  rw [î f ho (by rw [hf]<;>rfl),hf]
 refine I.write (x:=p) (e:=p) (by rw [h];trivial) (.inl rfl) (fun b u Z q=>(å _ _ (ş Z)).trans q) ⟨_,e⟩ ?_;exact ⟨hz,its',n',r,e⟩
def L9:V->V->V->Hp->(Hp->Prop)->Prop:=fun o i v H Q=>∃p Z k j,o=.ref p/\i=.int k/\H p=some (.lst Z)/\ef Z.length k=some j/\Q (upd H p (.lst (Z.set j v)))
def set_list:CF X L9:=by
 intro N s σ H o i v E D u Q I M L K h;obtain ⟨p,J,k,j,rfl,rfl,T,G,q⟩:=h;cases M;obtain ⟨t,rfl⟩:=L;obtain ⟨its,n,r,Y,F⟩:=I.lst T;obtain ⟨Z,C,S,R⟩:=Ap G;have V:=r.length;have B:=kX
 have P:Inv X N σ (upd H p (.lst (J.set j v))) { s with heap:=s.heap.update p (Ğ (·.setIfInBounds j u)) } :=
  I.Ku T Y (Fo its n j u) (r.set K j) (by rw [ô];exact F) s.toks
 by_cases O:0<=k
 ·have U:k.toNat=j:=by
   rw [seqIndex_of O R] at Z;exact S7 Z
  exact PySem.W.ki_setAt Y O (by omega) (by rw [Ð,<- V];exact R) (by rw [U];exact ⟨_,P,q⟩)
 ·have U:(k+(its.toArray.size:Int)).toNat=j:=by
   rw [seqIndex_neg (by omega) S] at Z;rw [Ð,<- V];exact S7 Z
  exact PySem.W.ki_setBack Y (by omega) (by rw [Ð,<- V];exact S) (by omega) (by rw [U];exact ⟨_,P,q⟩)
def EG (lo hi:Option Int) (n:Nat):(RW lo hi none n).1=((HT.aH n 0 lo:Nat):Int)/\(RW lo hi none n).2.1=((HT.aH n n hi:Nat):Int)/\(RW lo hi none n).2.2=1:=by
 refine ⟨?_,?_,rfl⟩
 ·cases lo with
  |none=>simp [RW,HT.aH]
  |some i =>
   simp only [RW,HT.aH,Option.getD_none,show (1:Int) > 0 by decide,ē];by_cases h:i<0
   ·simp only [h,ē]<;>omega
   ·simp only [h,Ē]<;>omega
 ·cases hi with
  |none=>simp [RW,HT.aH]
  |some i =>
   simp only [RW,HT.aH,Option.getD_none,show (1:Int) > 0 by decide,ē];by_cases h:i<0
   ·simp only [h,ē]<;>omega
   ·simp only [h,Ē]<;>omega
def Er (its:List Ä) (lo hi:Option Int):slicePick its.toArray lo hi none=((its.drop (HT.aH its.length 0 lo)).take (HT.aH its.length its.length hi-HT.aH its.length 0 lo)).toArray:=by
 obtain ⟨Z,Y,X⟩:=EG lo hi its.toArray.size;unfold slicePick;rw [Z,Y,X]
 simp only [sliceRange_one,pick_run,Ð]<;>rfl
def NC (K:ĉ):V->Option Int->Option Int->Hp->VK->Prop:=fun x lo hi H Q=>∃a Z,x=.ref a/\aR K H a Z/\∀p,H p=none->Q (.ref p) (upd H p (.lst (ie Z lo hi)))
def IL:pM X (NC X.K):=by
 intro R s σ H x v P O lo hi N Q I V hs U pu h;obtain ⟨a,Z,rfl,T,q⟩:=h;cases V;obtain ⟨its,r,W,S⟩:=I.list T;have Y:=r.length;refine ⟨"list",_,slot_list_getitem.lookup,W.isList.typeIs,?_⟩
 refine wpAny_getItem_list_slice W.isList hs U pu .none (by simp) ?_ (by rw [Ð]<;>omega)
 rw [Er,<- Y];refine ⟨.ref s.heap.objs.size,_,I.laid (t':=s.toks) (o:=.lst (ie Z lo hi)) (fun b M q=>Á _ q) (S0 _) ?_,rfl,q _ (I.au.fresh (S0 _))⟩;exact ⟨â (zg Z lo hi) S,_,0,(r.drop (HT.aH Z.length 0 lo)).take (HT.aH Z.length Z.length hi-HT.aH Z.length 0 lo),Ç _ rfl⟩
def tG:bK X (.builtin "len") (fun xs H Q=>∃p ys,xs=[.ref p]/\(aR X.K H p ys\/aT X.K H p ys)/\Q (.int ys.length) H):=by
 intro T s σ H xs S Q I r h;obtain ⟨p,ys,rfl,hq,q⟩:=h;obtain ⟨u,rfl,V⟩:=vals1 r;cases V;have R:=kX
 rcases hq with hq|hq
 ·obtain ⟨its,Y,W,U⟩:=I.list hq
  have Z:=Y.length
  exact Calls.call_len_list W.isList (by simp only [Ð]<;>omega) ⟨.int ys.length,H,I.tok _,⟨s.toks+1,by rw [Ð,Z]⟩,q⟩
 ·obtain ⟨its,Y,W,U⟩:=I.tuple hq
  have Z:=Y.length
  exact len_tuple W (by simp only [Ð]<;>omega) ⟨.int ys.length,H,I.tok _,⟨s.toks+1,by rw [Ð,Z]⟩,q⟩
def EH:bK X (.builtin "len") (fun xs H Q=>∃z,xs=[.str z]/\z.length<=Ö/\Q (.int z.length) H):=by
 intro Z s σ H xs Y Q I r h;obtain ⟨z,rfl,W,q⟩:=h;obtain ⟨u,rfl,t,rfl⟩:=vals1 r;have V:=kX;exact len_str (by omega) ⟨.int z.length,H,I.tok _,⟨_,rfl⟩,q⟩
def y6:bK X (.type "list") (fun xs H Q=>∃p ys,xs=[.ref p]/\(aR X.K H p ys\/aT X.K H p ys)/\∀l,H l=none->Q (.ref l) (upd H l (.lst ys))):=by
 intro M s σ H xs J Q I r h;obtain ⟨p,ys,rfl,hq,q⟩:=h;obtain ⟨u,rfl,L⟩:=vals1 r;cases L;have fin:∀(its:List Ä),Vals ys its->ys.length<=Ö->∀(Z:ħ) (Y:Nat),(∀b N,s.heap.get? b=some N->Z.get? b=some N) ->
   Z.get? s.heap.objs.size=some { cls:=.type "list",dict:=none,data:=.seq its.toArray Y,slots:=#[] }->EP X M σ Q (.ref s.heap.objs.size) { s with heap:=Z }:=fun its W V Z Y U e =>
  ⟨.ref s.heap.objs.size,_,I.laid (t':=s.toks) U (S0 _) (show ck X.prog X.w _ Z _ (.lst ys) from ⟨V,its,Y,W,e⟩),rfl,q _ (I.au.fresh (S0 _))⟩
 rcases hq with hq|hq
 ·obtain ⟨its,W,S,V⟩:=I.list hq
  have T:=W.length;obtain ⟨o,R,P,n,O⟩:=S.isList
  exact call_list_seq p (.inl rfl) R P O (fun Z Y U e=>fin its W V Z Y U e) (by simp only [Ð]<;>omega)
 ·obtain ⟨its,W,S,V⟩:=I.tuple hq
  have T:=W.length;obtain ⟨o,R,P,n,O⟩:=S
  exact call_list_seq p (.inr rfl) R P O (fun Z Y U e=>fin its W V Z Y U e) (by simp only [Ð]<;>omega)
def yZ:bK X (.type "tuple") (fun xs H Q=>∃p ys,xs=[.ref p]/\((aR X.K H p ys/\∀l,H l=none->Q (.ref l) (upd H l (.tup ys)))\/(aT X.K H p ys/\Q (.ref p) H))):=by
 intro U s σ H xs M Q I r h;obtain ⟨p,ys,rfl,h⟩:=h;obtain ⟨u,rfl,P⟩:=vals1 r;cases P
 rcases h with ⟨Y,q⟩ | ⟨Y,q⟩
 ·obtain ⟨its,W,V,T⟩:=I.list Y
  have S:=W.length
  refine call_tuple_list V.isList (fun Z O=>?_) (by simp only [Ð]<;>omega)
  have R:Inv X U σ H { s with heap:=Z }:=I.kept (t':=s.toks) O
  have N:Inv X U σ (upd H Z.objs.size (.tup ys)) { s with heap:=Z.push { cls:=.type "tuple",data:=.seq its.toArray } } :=
   R.laid (t':=s.toks) (fun b o e=>Á _ e) (S0 _) (show ck X.prog X.w _ _ _ (.tup ys) from ⟨T,its,W,IsTup.new _ _⟩)
  exact ⟨.ref Z.objs.size,_,N,rfl,q _ (R.au.fresh (S0 _))⟩
 ·obtain ⟨its,W,V,T⟩:=I.tuple Y
  exact call_tuple_same V ⟨.ref p,H,I,rfl,q⟩
def Du (K:ĉ) (T:String) (x:V) (H:Hp):Prop:=match x with
 | .str _=>T="str"
 | .int _=>T="int"
 | .ref p=>(T="list"/\∃Y,aR K H p Y)\/(T="tuple"/\∃o,K.lookup p=some o/\o.cls=.type "tuple"/\o.dict=none) \/
   (T="dict"/\((∃Z,H p=some (.dK Z))\/∃Z,H p=some (.dT Z)))\/(T="set"/\∃S n,H p=some (.set S n))
 |_=>False
def Kv {π:List (Ò×Obj)} {σ:St} {H:Hp} {s:Ã} {T:String} {x:V} {v:Ä} (I:Inv X π σ H s) (r:RelV x v) (ty:Du X.K T x H) :
  s.TypeIs v T/\∀a,v=.ref a->∃ob,s.heap.get? a=some ob/\ob.dict=none:=by
 cases x with
 |str z =>
  obtain ⟨t,rfl⟩:=r;cases (show T="str" from ty)
  exact ⟨typeIs_str s z t,fun _ e=>nomatch e⟩
 |int i =>
  obtain ⟨t,rfl⟩:=r;cases (show T="int" from ty)
  exact ⟨typeIs_int s i t,fun _ e=>nomatch e⟩
 |ref p =>
  cases r
  rcases ty with ⟨rfl,P,U⟩ | ⟨rfl,o,Z,R,Y⟩ | ⟨rfl,Z⟩ | ⟨rfl,S,n,Z⟩
  ·obtain ⟨its,_,W,_⟩:=I.list U
   refine ⟨W.isList.typeIs,fun a e=>?_⟩;cases e;obtain ⟨o,n,e,c,Y,_⟩:=W;exact ⟨o,e,Y⟩
  ·refine ⟨⟨o,I.fK p o Z,R⟩,fun a e=>?_⟩
   cases e;exact ⟨o,I.fK _ o Z,Y⟩
  ·have z:∃o,s.heap.get? p=some o/\o.ExactDict:=by
    rcases Z with ⟨Q,Z⟩ | ⟨Q,Z⟩
    ·obtain ⟨_,_,_,_,o,_,_,e,ex,_⟩:=I.au p _ Z
     exact ⟨o,e,ex⟩
    ·obtain ⟨_,_,_,_,o,_,_,e,ex,_⟩:=I.au p _ Z
     exact ⟨o,e,ex⟩
   obtain ⟨o,e,ex⟩:=z;refine ⟨⟨o,e,ex.1⟩,fun a e2=>?_⟩;cases e2;exact ⟨o,e,ex.2.1⟩
  ·obtain ⟨o,_,_,_,e,ex,_⟩:=I.au p _ Z
   refine ⟨⟨o,e,ex.1⟩,fun a e2=>?_⟩;cases e2;exact ⟨o,e,ex.2.1⟩
 |_=>exact Č ty
def OI (K:ĉ) (T:String) (r:V->List V->Hp->VK->Prop) (to:TE) (t:TA):TE:=fun σ H Q=>to σ H fun x Z=>Du K T x Z/\t σ Z fun Y X=>r x Y X Q
variable {o e:Ě} {es:List Ě} {to:TE} {t:TA} {name:Str} {apos aY:Pos} {T id:String} {r:V->List V->Hp->VK->Prop}
def vX (pa:PlainAttrs T) (slot:Slot T name id) (OJ:typeOf (.builtin id)=pure (.type "method_descriptor")) (hm:xD X id r) (ho:PE X o to) (ha:PA X (e::es) t)
  (lq:RH o name X.env (ĺ o X.env)=ĺ o X.env:=by rfl)
  (lM:((Ġ aY (Æ (e::es) X.env)).all (fun x=>!x.1)&&(backToKw aY (RX [] X.env)).all (fun x=>x.1.isSome)
   && decide ((e::es).length+([]:List Se).length+(if ([]:List Se).isEmpty then 0 else 1)<30))=true:=by rfl)
  (lr:(apos.endLine==aY.line)=true:=by rfl) (hs:Æ (e::es) X.env=(false,ĺ e X.env)::Æ es X.env:=by rfl) (gW:(Ġ aY (Æ es X.env)).any (·.1)=false:=by rfl) :
  PE X (.Call (.Attribute o name apos) (e::es) [] aY) (OI X.K T r to t):=by
 intro Z s σ H Q I h;refine wpAny_Call_method_late lq lM lr rfl (aE (ho Z s σ H _ I h) fun v U ⟨x,S,Y,W,ty,R⟩=>?_);obtain ⟨P,O⟩:=Kv Y W ty;refine ⟨T,id,pa,slot,OJ,P,O,?_⟩;have V:=ha aY Z U σ S _ Y R;rw [hs] at V |-
 refine Calls.callWith_builtin (by show (false||(Ġ aY (Æ es X.env)).any (·.1))=false;rw [gW]<;>rfl) (Calls.evalArgs_plain ?_)
 exact aE V fun N M ⟨L,J,G,F,E⟩=>hm Z M σ J x L v N Q G W F E
end
def OK (X:Cx) (id:String) (r:V->List V->Hp->VK->Prop):Prop :=
 ∀(Z:List (Ò×Obj)) (s:Ã) (σ:St) (H:Hp) (x:V) (Y:List V) (v:Ä) (W:List Ä) (Q:VK),Inv X Z σ H s->RelV x v->Vals Y W->r x Y H Q ->
  Ô (á X.prog X.w) X.A (call (.builtin id) (v::W)) (EP X Z σ Q) X.xe s
def Vals.one:∀{x:V} {us:List Ä},Vals [x] us->∃u,us=[u]/\RelV x u
 |_,_,.cons r .nil=>⟨_,rfl,r⟩
theorem Vals.rep (h:Vals xs us):∀k:Nat,Vals (Ñ k xs).flatten (Ñ k us).flatten
 |0=>.nil
 |k+1=>by
  rw [İ,İ,Œ,Œ];exact Vals.append h (Vals.rep h k)
theorem foldl_rep (its:List Ä):∀(k:Nat) (acc:List Ä),
  List.foldl (fun x1 x2=>x1++x2) acc.toArray (Ñ k its.toArray)=(acc++(Ñ k its).flatten).toArray
 |0,acc=>by simp
 |k+1,acc=>by
  have e:acc.toArray++its.toArray=(acc++its).toArray:=by simp
  have e2:(acc++its)++(Ñ k its).flatten=acc++(Ñ (k+1) its).flatten:=by
   rw [İ,Œ,ŭ]
  rw [<- e2,<- foldl_rep its k (acc++its),<- e,İ,List.foldl_cons]
section
variable {X:Cx} {π:List (Ò×Obj)} {σ:St} {H:Hp} {s:Ã} {l b:Ò} {xs ys zs:List V}
def Inv.ND {its its':List Ä} {n:Nat} {f:Array Ä->Array Ä} {t':Nat} (I:Inv X π σ H s) (hH:H l=some (.lst xs))
  (e:s.heap.get? l=some { cls:=.type "list",data:=.seq its.toArray n }) (hf:f its.toArray=its'.toArray) (hv:Vals ys its') (hz:ys.length<=Ö) :
  Inv X π σ (upd H l (.lst ys)) { s with heap:=s.heap.update l (Ğ f),toks:=t' }:=by
 have q:=PySem.IsL.update e f;rw [hf] at q;refine I.write (x:=l) (e:=l) (by rw [hH];exact trivial) (.inl rfl) (fun W u Z Y=>(å s.heap (Ğ f) (ş Z)).trans Y) ⟨_,q⟩ ?_;exact ⟨hz,its',_,hv,q⟩
def Inv.CK (I:Inv X π σ H s) (hv:Vals ys its) (hz:ys.length<=Ö) :
  Inv X π σ (upd H s.heap.objs.size (.lst ys)) { s with heap:=s.heap.push { cls:=.type "list",data:=.seq its.toArray },toks:=t' } :=
 I.laid (fun _ _ q=>Á _ q) (S0 _) ⟨hz,its,0,hv,Ç _ rfl⟩
theorem Inv.fresh (I:Inv X π σ H s):H s.heap.objs.size=none:=I.au.fresh (S0 _)
def Inv.si (I:Inv X π σ H s) (hH:H l=some (.lst xs)):xs.length<=Ö/\∃(its:List Ä) (n:Nat),Vals xs its/\xs.length=its.length/\s.heap.get? l=some { cls:=.type "list",data:=.seq its.toArray n }:=by
 obtain ⟨z,its,n,r,e⟩:=I.au l _ hH;exact ⟨z,its,n,r,r.length,e⟩
def Hd (h:n<=Ö):ν n=false:=by
 unfold ν;exact ë (by omega)
end
section
variable {X:Cx}
def IM:V->List V->Hp->VK->Prop:=fun x Y H Q=>∃l Z y,x=.ref l/\Y=[y]/\H l=some (.lst Z)/\Z.length<Ö/\Q .ao (upd H l (.lst (Z++[y])))
def F7:OK X "list.append" IM:=by
 intro U s σ H x T v S Q I Y W h;obtain ⟨l,R,y,rfl,rfl,Z,P,q⟩:=h;cases Y;obtain ⟨u,rfl,V⟩:=W.one;obtain ⟨z,its,n,r,O,e⟩:=I.si Z;refine call_meets F.slot_list_append ⟨_,e,rfl⟩ F.entry_list_append (F.args_list_append_2 _ _) (PySem.list_append l its.toArray n u (by rw [Ð];omega)) ⟨e,?_⟩;refine ⟨.ao,_,I.ND (its':=its++[u]) Z e (by simp) (r.append (.cons V .nil)) ?_,rfl,q⟩;rw [ð,List.length_singleton];omega
def NF:R2:=fun x y H Q=>∃l b Z zs,x=.ref l/\y=.ref b/\H l=some (.lst Z)/\H b=some (.lst zs)/\Z.length+zs.length<=Ö/\∀p,H p=none->Q (.ref p) (upd H p (.lst (Z++zs)))
def Kw:aX X (Ĳ .Add) NF:=by
 intro R s σ H x y v u Q I Y W h;obtain ⟨l,b,O,zs,rfl,rfl,V,U,N,q⟩:=h;cases Y;cases W;obtain ⟨z,its,n,r,M,e⟩:=I.si V;obtain ⟨L,Z,K,T,J,e2⟩:=I.si U;refine PySem.P.add_list e e2 ?_ (by rw [Ð,Ð];omega);have S:its.toArray++Z.toArray=(its++Z).toArray:=by simp
 rw [S];exact ⟨.ref _,_,I.CK (t':=s.toks) (r.append T) (by rw [ð];omega),rfl,q _ I.fresh⟩
def NG:R2:=fun x y H Q=>∃l k Z,x=.ref l/\y=.int k/\H l=some (.lst Z)/\-(2 ^ 63)<=k/\k<2 ^ 63/\Z.length*k.toNat<=Ö /\
 ∀p,H p=none->Q (.ref p) (upd H p (.lst (Ñ k.toNat Z).flatten))
def len_rep {α:Type} (xs:List α) (k:Nat):(Ñ k xs).flatten.length=k*xs.length:=by
 induction k with
 |zero=>simp
 |succ k ih=>rw [İ,Œ,ð,ih,Nat.succ_mul,Nat.add_comm]
def Kx:aX X (Ĳ .Mult) NG:=by
 intro D s σ H x y v u Q I S R h;obtain ⟨l,k,C,rfl,rfl,P,O,N,V,q⟩:=h;cases S;obtain ⟨t,rfl⟩:=R;obtain ⟨z,its,n,r,M,e⟩:=I.si P;have Z:its.toArray.size*k.toNat<=Ö:=by rw [Ð,<- M];exact V
 have L:¬ its.toArray.size*k.toNat > (2 ^ 63-1) / 8:=by
  have:(Ö:Nat)<=(2 ^ 63-1) / 8:=by decide
  omega
 have K:¬ (!Builtin.List.listFitsIndex k)=true:=by
  rw [fitsIndex_both O N];exact Ï
 have J:¬ ν (its.toArray.size*k.toNat)=true:=by
  rw [Hd Z];exact Ï
 have G:List.foldl (fun Y W=>Y++W) #[] (Ñ (if its.toArray.isEmpty=true then 0 else k.toNat) its.toArray)=(Ñ k.toNat its).flatten.toArray:=by
  have f0:∀m:Nat,List.foldl (fun Y W=>Y++W) #[] (Ñ m its.toArray)=(Ñ m its).flatten.toArray:=fun m=>by
   have:=foldl_rep its m [];rw [œ] at this;exact this
  rw [f0]
  cases its with
  |nil=>simp
  |cons a B=>rw [õ (by simp)]
 refine wpAny_binaryOp_repeat_ref (T:="list") (U:="int") (by decide) ⟨_,e,rfl⟩ (fun E=>typeIs_int E k t) noFill_list_mul F.fills_int_mul Sw repeat_list F.slot_int_index.lookup
  (call_meets Sw (typeIs_int s k t) F.entry_int_rmul (F.args_int_rmul_2 _ _) (int___rmul___int_list k t l its.toArray n)
   ⟨e,rfl,⟨_,e,rfl⟩,call_meets F.slot_list_mul ⟨_,e,rfl⟩ F.entry_list_mul (F.args_list_mul_2 _ _) (AutoListH.list___mul___list_int_3 l its.toArray n k t K L J) ⟨e,?_⟩⟩)
 rw [G];exact ⟨.ref _,_,I.CK (t':=s.toks) (r.rep k.toNat) (by rw [len_rep,Nat.mul_comm];exact V),rfl,q _ I.fresh⟩
end
section
variable {prog:Û} {w:ú} {A:ã} {E:Ä->Ã->Prop} {s:Ã}
set_option maxRecDepth 100000 in
end
section
variable {X:Cx}
end
end L2
namespace Dv
open PySem PySem.W PySem.Calls PyProof.Rows
def El:∀(ns:List Int) (vs:List Ä),WellAll P h vs (ns.map WData.int)->RV vs ns:=by
 intro ns
 induction ns with
 |nil =>
  intro vs w;rw [μ] at w;cases w;exact .nil
 |cons n ns ih =>
  intro vs w;rw [ç] at w
  cases w with
  |cons a b =>
   cases a;exact .cons _ _ (ih _ b)
def F8 {l:OpenLaw} {n:Nat} (hn:l.most=some n) {P:Params} {h:ħ} {args:List WData} {vals:List Ä}
  (sj:l.row.toRowW.claim.pre args=true) (xE:WellAll P h vals args) :
  ∃a vs ns,vals=[ű a]/\args=[WData.list (ns.map WData.int)]/\h.get? a=some { cls:=.type "list",data:=.seq vs.toArray }/\RV vs ns/\ns.length<=n:=by
 have V:WShape.hasAll [] args [.list .int]=true:=(pre_splitW sj).1;have W:l.pre.holds [] { args:=args }=true:=(pre_splitW sj).2;obtain ⟨d,r,rfl,U,T⟩:=hasAllW_cons V;obtain rfl:=hasAllW_nil T;obtain ⟨L,rfl,S⟩:=hasW_list U;obtain ⟨ns,rfl⟩:=items_int S;have Z:ns.length<=n:=by
  unfold OpenLaw.pre at W;have Y:(WTm.not (.lt (.lit (.int (n:Int))) (.len (.arg 0)))).holds [] { args:=[.list (ns.map .int)] }=true:=by
   have Y:=(holds_andW W).1;rw [hn] at Y;exact Y
  have X:=condW_of Y (w_not (w_lt w_lit (w_len_list (w_arg rfl))));rw [Ë] at X;refine Sg fun q=>?_;have R:(n:Int)<((ns.length:Nat):Int):=by omega
  first
   |(rw [à R] at X;exact absurd X (by decide))
   |(simp at X;omega)
 cases xE with
 |cons Q O =>
  cases O
  cases Q with
  |list N M=>exact ⟨_,_,ns,rfl,rfl,N,El ns _ M,Z⟩
def F9 (l:OpenLaw) (args:List WData):l.row.toRowW.claim.post args (.bool true) args=true :=
 postW_of (r:=l.row.toRowW) (X:=(true==true))
  (show WShape.has [] (.bool true) .bool=true by first|rfl|decide|simp [WShape.has,WShape.arms,WShape.armsAll])
  (show (WTm.eq .res (.lit (.bool true))).value [] { args:=args,res:=some (.bool true),after:=args }=some (.bool (true==true)) from w_eq_bool (w_res rfl) w_lit) rfl
def EX {l:OpenLaw} {n:Nat} {q:Û} {loose:List Str} {XP:(Str->Option Ä)->ħ->Prop} {YP:ú->ħ->Prop} {d:DefRec}
  (hn:l.most=some n) (pP:d.params.defaults=[])
  (call:∀(w:ú) (bQ aS:Ã) (mg mb:Str->Option Ä) (fa:Ò) (o:Obj) (pm cd doc:Ä) (a:Ò) (vs:List Ä) (ns:List Int),
   Ground q loose [] XP w bQ mg mb aS.heap->YP w aS.heap ->
   aS.heap.get? fa=some o->o.data=.func (docDef d.name d.params d.body d.scope pm cd doc)->aS.heap.CodeRec cd d.name->mg d.name=some (.ref fa) ->
   aS.heap.get? a=some { cls:=.type "list",data:=.seq vs.toArray }->RV vs ns->ns.length<=n->aS.gens=#[] ->
   ť (á l.prog w) callerA (.call (.ref fa) ⟨[.ref a],[]⟩) (fun r s'=>r=.ok (.ret (.bool true))/\OldK aS.heap s'.heap/\s'.os=aS.os/\SO s'.gens) aS) :
  WalkO q loose XP YP l.row.toRowW d [] (fun f vs=>PySem.call f vs):=by
 intro w bQ aS mg mb G Y fa o pm cd doc W kV V U T X S R args vals as Q I H P F;obtain rfl:W=.none:=Dflts.none X pP;obtain rfl:kV=.none:=Dflts.noKw X;obtain ⟨a,vs,ns,rfl,rfl,O,hints,Z⟩:=F8 hn Q P;refine enter_call (Ŗ (call w bQ aS mg mb fa o pm cd doc a vs ns G Y V (fd_plain U) T S O hints Z R) fun r s' N=>?_);obtain ⟨rfl,M,L,K⟩:=N
 exact ⟨.inl ⟨.bool true,.bool true,[],rfl,fun _=>rfl,.bool true,F9 l _,fun _=>⟨List.Pairwise.nil,fun _ J=>(nomatch J)⟩⟩,M,L,K⟩
section
variable {prog:Û} {w:ú} {A:ã} {E:Ä->Ã->Prop} {s:Ã} {K:ĉ}
noncomputable def ledger (h:ħ) (L d:Ò):List (Ò×Obj):=(ć h.objs.size).filterMap fun a=>if a=L\/a=d then none else (h.get? a).map fun o=>(a,o)
end
end Dv
namespace L2
open PySem PySem.Spec PyProof.Rows
theorem zE:∀{vs:List Ä} {ns:List Int},RV vs ns->Vals (ns.map V.int) vs
 |_,_,.nil=>.nil
 |_,_,.cons n t h=>.cons ⟨t,rfl⟩ (zE h)
noncomputable abbrev Rg {K:ĉ} {h:ħ} (_:K.In h):ĉ:=K
noncomputable def kR (s:SH):SM:=match s with
 | .FunctionDef _ a _ _ _ _ _ _ _ _=>a
 |_=>{ posonlyargs:=[],args:=[],vararg:=none,kwonlyargs:=[],kw_defaults:=[],kwarg:=none,defaults:=[] }
noncomputable def fB (s:SH):List SH:=match s with
 | .FunctionDef _ _ b _ _ _ _ _ _ _=>b
 |_=>[]
noncomputable def bN (s:SH):ε:=match s with
 | .FunctionDef _ _ _ _ _ _ sc _ _ _=>sc
 |_=>{ kind:=.function,names:=[],isGenerator:=false,isCoroutine:=false }
abbrev cg:fZ:=fun _ _ _ _ _ _=>False
abbrev E0:XK:=fun _ _ _=>False
def Mb:Passes cg X E0:=fun _ _ _ _ _ _ _ h=>h.elim
structure l9 (K:ĉ) (x qual:Str) (st:SH) (f:Ò) (fd:č):Prop where
 ex:∃(oc:Ä) (od:Option Ò) (kV doc pm:Ä) (an:Option Ò) (aG ct:Ä) (f6:Array (Option Ä)),
  fd=Ļ x qual (kR st) (fB st) (bN st) .none kV doc pm an aG ct/\K.lookup f=some ⟨oc,od,.func fd,f6⟩/\Ŵ K aG qual=true
 kp:Ĩ K (.ref f)=true
section
variable {P:Û} {w:ú} {K:ĉ} {mg:Str->Option Ä} {base:ħ}
def l9.ok {x qual:Str} {st:SH} {f:Ò} {fd:č} {N ps:List Str} {k:Nat} {sp:Sp} (F:l9 K x qual st f fd) (S:kQ N ps (bN st)) (len:∀vs H Q E,sp vs H Q E->vs.length=ps.length)
  (hU:∀(aG:Ä) (A:ã) (outer:List Env) (s:Ã) (H:Hp) (vs:List V) (Q:VK) (E:XK),bp k (A.deeper (SS qual (bN st) s.heap.objs.size f aG))->sp vs H Q E ->
   ∃t,bV (fc cg P w K mg base N qual (bN st) f aG A outer s H E).jG (fB st) t/\t { nx:=fun _ H'=>Q .ao H',rt:=Q } (start N vs) H):bT P w K mg base cg (k+1) f fd ps sp:=by
 obtain ⟨W,U,kV,doc,pm,an,aG,T,R,rfl,lk,Z⟩:=F.ex;refine vW lk Z S len fun A outer s H vs Q E Y X=>?_;obtain ⟨t,h,q⟩:=hU aG A outer s H vs Q E Y X;exact ⟨t,h.jG,q⟩
def l9.binds {x qual:Str} {st:SH} {f:Ò} {fd:č} {ps:List Str} (F:l9 K x qual st f fd)
  (h:∀(kV doc pm:Ä) (an:Option Ò) (aG ct:Ä) (us:List Ä),us.length=ps.length->bindArgs (Ļ x qual (kR st) (fB st) (bN st) .none kV doc pm an aG ct) ⟨us,[]⟩=pure (ps.zip us)):Binds K fd ps []:=by
 obtain ⟨Z,Y,kV,doc,pm,an,aG,ct,X,rfl,lk,W⟩:=F.ex;exact .all (h kV doc pm an aG ct)
def Bc {x qual:Str} {st:SH} {f:Ò} {oc:Ä} {od an:Option Ò} {f6:Array (Option Ä)} {kV doc pm aG ct:Ä} (l:K.lookup f=some ⟨oc,od,.func (Ļ x qual (kR st) (fB st) (bN st) .none kV doc pm an aG ct),f6⟩)
  (c:Ŵ K aG qual=true) (k:Ĩ K (.ref f)=true):l9 K x qual st f (Ļ x qual (kR st) (fB st) (bN st) .none kV doc pm an aG ct):=⟨⟨oc,od,kV,doc,pm,an,aG,ct,f6,rfl,l,c⟩,k⟩
end
section
variable {X:Cx}
end
def ig (H H':Hp):Prop:=∀b o,H b=some o->H' b=some o
def ig.refl (H:Hp):ig H H:=fun _ _ h=>h
def Fp (J:Nat->Ã->Prop)
 (turn:∀n s,J n s->Ô (á P w) A (ţ iw) (fun r s1=>match r with
   |none=>R (.ok .next) s1
   |some v=>Ô (á P w) A (υ tg iw v) (fun _ s2=>Ô (á P w) A (assign tg ce v) (fun _ s3 =>
     Ô (á P w) A (forIn tests true fun c r=>if r=true then do let ok <- isTrue c ce (ĺ c ce);pure (ī ok) else pure (ī r)) (fun ok s4 =>
      if ok=true then Ô (á P w) A (ĺ el ce) (fun y s5=>Ô (á P w) A (call (.builtin "list.append") [av,y]) (fun _ s6=>∃m,m<n/\J m s6) (fun _ _=>False) s5) (fun _ _=>False) s4
      else ∃m,m<n/\J m s4) (fun _ _=>False) s3) (fun _ _=>False) s2) (fun _ _=>False) s1) (fun _ _=>False) s)
 (n:Nat) (h:J n s):ť (á P w) A (.compLoop (.ListComp el [⟨tg,src,tests,0⟩] sc ps) 0 iw av ce) R s:=by
 refine codeAny_loop rfl J (fun n s X=>?_) n h
 show Ô _ A ((compTurn (.ListComp el [⟨tg,src,tests,0⟩] sc ps) 0 iw av ce).onRaise (fun x=>do noteFrame x ce;theTreesLotGoes x)) _ _ s
 refine wpAny_noted ?_;rw [compTurn_list];refine À (wpAny_standAt (À (ģ (turn n s X) (fun r s1 Z=>?_) fun _ _ z=>z.elim)))
 cases r with
 |none=>exact Â Z
 |some v =>
  refine À (ģ Z (fun _ s2 W=>?_) fun _ _ z=>z.elim);refine À (ģ W (fun _ s3 V=>À (ģ V (fun ok s4 Y=>?_) fun _ _ z=>z.elim)) fun _ _ z=>z.elim)
  cases ok with
  |false=>exact Â ⟨rfl,Y⟩
  |true =>
   exact À (À (ģ Y (fun y s5 U=>À (ģ U (fun _ s6 T=>Â (Â ⟨rfl,T⟩)) fun _ _ z=>z.elim)) fun _ _ z=>z.elim))
theorem uh (env:Env):∀(l:List (Str×ŗ)) (acc:List (Str×Ò)),(∀n,(n,ä)∈l->∃c,env.cells.lookup n=some c) ->
  ∃cl,(forIn l acc (fun (p:Str×ŗ) (cs:List (Str×Ò))=>(do
   if (p.2==ä)=true then do let c <- cellOf env p.1;pure (ī ((p.1,c)::cs)) else pure (ī cs):Sem (ForInStep (List (Str×Ò))))))=pure cl /\
   ∀n c,cl.lookup n=some c↔(((n,ä)∈l/\env.cells.lookup n=some c)\/((n,ä)∉l/\acc.lookup n=some c))
 | [],acc,_=>⟨acc,rfl,fun n c=>by simp⟩
 |(x,k)::r,acc,h=>by
  rw [RJ]
  cases Y:(k==ä) with
  |false =>
   have U:k≠.free:=by intro e;rw [e] at Y;cases Y
   obtain ⟨cl,e,q⟩:=uh env r acc fun n X=>h n (Õ _ X);refine ⟨cl,?_,fun n c=>?_⟩
   ·simp only [Î,Ē]
    exact e
   ·rw [q n c]
    have:(n,ä)∈(x,k)::r↔(n,ä)∈r:=by
     constructor
     ·intro Z
      rcases Ù.mp Z with z|z
      ·injection z with _ T
       exact absurd T.symm U
      ·exact z
     ·exact Õ _
    rw [this]
  |true =>
   have S:k=.free:=by cases k<;>first|rfl|cases Y
   subst S;obtain ⟨R,W⟩:=h x Ø;obtain ⟨cl,e,q⟩:=uh env r ((x,R)::acc) fun n X=>h n (Õ _ X);refine ⟨cl,?_,fun n c=>?_⟩
   ·simp only [ē,cellOf,W]
    exact e
   ·rw [q n c]
    by_cases V:n=x
    ·subst V
     constructor
     ·rintro (⟨_,z⟩ | ⟨_,z⟩)
      ·exact .inl ⟨Ø,z⟩
      ·rw [ď,Ž] at z
       exact .inl ⟨Ø,W.trans z⟩
     ·rintro (⟨_,z⟩ | ⟨z,_⟩)
      ·by_cases Z:(n,ä)∈r
       ·exact .inl ⟨Z,z⟩
       ·refine .inr ⟨Z,?_⟩
        rw [ď,Ž];exact W.symm.trans z
      ·exact absurd Ø z
    ·have:(n,ä)∈(x,ä)::r↔(n,ä)∈r:=by
      constructor
      ·intro Z
       rcases Ù.mp Z with z|z
       ·injection z with Q _
        exact absurd Q V
       ·exact z
      ·exact Õ _
     rw [this,ď,beq_false_of_ne V]
def Ky (h:∀n,(n,ä)∈sc.names->∃c,env.cells.lookup n=some c) :
  ∃cl,closureFor sc env=pure cl/\∀n c,cl.lookup n=some c↔((n,ä)∈sc.names/\env.cells.lookup n=some c):=by
 obtain ⟨cl,e,q⟩:=uh env sc.names [] h;refine ⟨cl,?_,fun n c=>?_⟩
 ·unfold closureFor
  exact (ķ (fun z:Sem (List (Str×Ò))=>z >>= fun r=>pure r) e)
 ·rw [q n c]
  simp
theorem zT (f:Str->ŗ->ŗ) (x:Str):∀l:List (Str×ŗ),(l.map fun p=>(p.1,f p.1 p.2)).lookup x=(l.lookup x).map (f x)
 | []=>rfl
 |(n,k)::r=>by
  rw [ç,ď,ď]
  cases h:x==n with
  |true =>
   have e:x=n:=by simpa using h
   subst e;rfl
  |false=>exact zT f x r
def y7 (sc:ε) (env:Env) (x:Str):(relabel sc env).names.lookup x=(sc.names.lookup x).map fun k=>if (k==ä&&env.scope.kind==.function&&env.kindOf x==some .cell)=true then NameKind.cell else k:=by
 rw [<- zT (fun x k=>if (k==ä&&env.scope.kind==.function&&env.kindOf x==some .cell)=true then NameKind.cell else k)]
 show List.lookup x (sc.names.map _)=_;congr 1;apply List.map_congr_left;rintro ⟨n,k⟩ _;dsimp only
 split<;>rfl
abbrev OM (X:Cx) (N:List Str) (sc:ε) (cl:List (Str×Ò)) (C:Ò) (s:Ã) (H:Hp) (ex:List Ò) (pn:List (Ò×Obj)):Cx where
 prog:=X.prog
 w:=X.w
 K:=X.K
 mg:=X.mg
 base:=X.base
 A:=X.A
 N:=N
 bQ:=s
 iQ:=H
 env:=compEnvC sc cl C X.env
 outer:=X.stack
 stack:=X.stack
 ex:=ex
 fn:=fun _=>false
 calm:=X.calm
 pn:=pn
 xe:=fun _ _=>False
structure QZ (X:Cx) (sc:ε) (N:List Str) (nt:Nat) (cap:List Nat):Prop where
 kind:sc.kind=.function
 ve:∀x∈sc.names,x.2≠.cell
 names:∀x∈sc.names,x.2=.local->sc.names.lookup x.1=some .local
 frees:∀x∈sc.names,x.2=.free->sc.names.lookup x.1=some .free/\(X.env.scope.names.lookup x.1=some .cell\/X.env.scope.names.lookup x.1=some .free)
 len:N.length=nt+cap.length
 CL:∀(k:Nat) j,cap[k]?=some j->∃x,X.N[j]?=some x/\N[nt+k]?=some x/\(x,ä)∈sc.names
def oi (nt:Nat) (cap:List Nat) (σ:St):St:=Ñ nt none++cap.map fun j=>(σ[j]?).getD none
def PF (X:Cx) (tests:List Ě) (t:TT):Prop :=
 ∀(Z:List (Ò×Obj)) (s:Ã) (σ:St) (H:Hp) (Q:Bool->Hp->Prop),Inv X Z σ H s->t σ H Q ->
  Ô (á X.prog X.w) X.A (forIn tests true fun c r=>if r=true then do let ok <- isTrue c X.env (ĺ c X.env);pure (ī ok) else pure (ī r)) (TP X Z σ Q) X.xe s
def NK:TT:=fun _ H Q=>Q true H
def Kz:PF X [] NK:=fun _ _ _ H _ I h=>wpAny_tests_nil ⟨H,I,h⟩
def KC (h:PT X c t):PF X [c] t:=fun Z s σ H Q I hw=>wpAny_tests_one (h Z s σ H Q I hw)
def pR (g:TG) (nt:Nat):Prop:=∀(x:V) (o Z:St) (H:Hp) (R:St->Hp->Prop),o.length=nt->g x (o++Z) H R->g x (o++Z) H fun Y W=>(∃X:St,X.length=nt/\Y=X++Z)/\R Y W
def lu (cap:List Nat) (σ:St):St:=cap.map fun j=>(σ[j]?).getD none
def Dx (mk:Ò->List V->HO) (iy:List V->Prop) (J:It) (nt:Nat) (aB:St) (g:TG) (tf:TT) (te:TE) (H:Hp) (Q:VK):Prop:=∃W:Nat->Nat->List V->Hp->Prop,(∃m,W 0 m [] H) /\
 ∀i m Z Y,W i m Z Y->(J.stop i Y/\iy Z/\∀D,Y D=none->Q (.ref D) (upd Y D (mk D Z))) \/
  (J.go i Y/\iy Z/\∃N:List V->Hp->Prop,(∀X U,N X U->∃T,T < m/\W (i+1) T X U) /\
   ∀o x S,o.length=nt->J.pH i Y x S->g x (o++aB) S fun R O=>tf R O fun b P=>if b=true then te R P fun v M=>N (Z++[v]) M else N Z P)
def CW (J:It) (nt:Nat) (aB:St) (g:TG) (tf:TT) (te:TE) (H:Hp) (Q:VK):Prop:=Dx (fun _ Z=>.lst Z) (fun Z=>Z.length<=Ö) J nt aB g tf te H Q
def lA (wi:TI) (nt:Nat) (cap:List Nat) (g:TG) (tf:TT) (te:TE):TE:=fun σ H Q=>wi σ H fun J Z=>CW J nt (lu cap σ) g tf te Z Q
section
variable {fs ex:List Ò} {H H':Hp} {h h1 h2:ħ} {P:Û} {w:ú}
def Un.adopt {D:Ò} {o:HO} (u:Un fs ex H H' h h1) (hp:h.objs.size<=D) (hn:H' D=none):Un fs ex H (upd H' D o) h h1 where
 keep:=u.keep
 slot:=u.slot
 free:=fun b Y q n X=>by rw [aJ (Ý (È (É q) hp))];exact u.free b Y q n X
 there:=u.there
 cT:=fun b Z q=>by rw [aJ (bX (u.cT b Z q) hn)];exact u.cT b Z q
 cH:=fun b Y Z q=>by rw [aJ (bX (u.cH b Y Z q) hn)];exact u.cH b Y Z q
 cU:=fun b W q=>by
  obtain ⟨more,e⟩:=u.cU b W q;exact ⟨more,by rw [aJ (bX e hn)];exact e⟩
def Un.but {C:Ò} (u:Un fs ex H H' h h1) (hp:h.objs.size<=C) (sb:Ĭ C h1 h2):Un fs ex H H' h h2:=by
 have ne:∀b Z,h.get? b=some Z->b≠C:=fun b Z q=>Ý (È (É q) hp);refine ⟨fun b Z q n X Y=>(sb.2 b (ne b Z q)).trans (u.keep b Z q n X Y),fun b Z q n X Y=>?_,u.free,fun b Z q Y=>?_,u.cT,u.cH,u.cU⟩
 ·obtain ⟨W,e⟩:=u.slot b Z q n X Y
  exact ⟨W,(sb.2 b (ne b Z q)).trans e⟩
 ·obtain ⟨V,e⟩:=u.there b Z q Y
  exact ⟨V,(sb.2 b (ne b Z q)).trans e⟩
def bC.but (x:bC P w H h1) (hn:H C=none) (sb:Ĭ C h1 h2):bC P w H h2:=fun a o e =>
 (x a o e).cD (fun b u Z q=>(sb.2 b (by
  rintro rfl
  rcases Z with z|z
  ·subst z;rw [hn] at e;cases e
  ·rw [hn] at z;cases z)).trans q) (fun _ q=>q) fun _ _ q=>q
def bC.adopt (x:bC P w H h) (hn:H D=none) (new:ck P w (upd H D o) h D o):bC P w (upd H D o) h:=fun b u e=>by
 by_cases Z:b=D
 ·subst Z;rw [bS] at e;cases e;exact new
 ·rw [aJ Z] at e
  exact (x b u e).cD (fun c v _ q=>q) (fun c q=>by rw [aJ (bX q hn)];exact q) fun c Y q=>by rw [aJ (bX q hn)];exact q
end
section
variable {X:Cx} {sc:ε} {N:List Str} {nt:Nat} {cap:List Nat} {cl:List (Str×Ò)} {s:Ã} {h1:ħ} {H:Hp} {σ:St} {π:List (Ò×Obj)} {fp:List Ò} {C:Ò} {t':Nat}
end
section
variable {X:Cx}
end
inductive Kn where
 |ao|bl|int|str|tup|lst|bo
 deriving DecidableEq
def kC (K:ĉ) (H:Hp):V->Kn->Prop
 | .ao,.ao=>True
 | .bl _,.bl=>True
 | .int _,.int=>True
 | .str _,.str=>True
 | .ref a,.tup=>∃Z,aT K H a Z
 | .ref a,.lst=>∃Z,aR K H a Z
 | .ref a,.bo=>∃Y,H a=some (.dK Y)
 |_,_=>False
noncomputable def mZ:Kn->String->Bool
 | .int,"int"=>true
 | .bl,"int"=>true
 | .bl,"bool"=>true
 | .str,"str"=>true
 | .tup,"tuple"=>true
 | .lst,"list"=>true
 |_,_=>false
section
variable {X:Cx}
def Inv.mG {π:List (Ò×Obj)} {σ:St} {H:Hp} {s:Ã} {a:Ò} {xs:List V} (I:Inv X π σ H s) (h:aT X.K H a xs):∃o,s.heap.get? a=some o/\o.cls=.type "tuple":=by
 obtain ⟨its,r,⟨o,e,c,_⟩,_⟩:=I.tuple h;exact ⟨o,e,c⟩
def Inv.mH {π:List (Ò×Obj)} {σ:St} {H:Hp} {s:Ã} {a:Ò} {xs:List V} (I:Inv X π σ H s) (h:aR X.K H a xs):∃o,s.heap.get? a=some o/\o.cls=.type "list":=by
 obtain ⟨its,r,⟨o,n,e,c,_⟩,_⟩:=I.list h;exact ⟨o,e,c⟩
def Inv.mI {π:List (Ò×Obj)} {σ:St} {H:Hp} {s:Ã} {a:Ò} {ay:List (Key×V)} (I:Inv X π σ H s) (h:H a=some (.dK ay)):∃o,s.heap.get? a=some o/\o.cls=.type "dict":=by
 obtain ⟨_,_,W,_,p⟩:=(show ck X.prog X.w H s.heap a (.dK ay) from I.au a _ h);obtain ⟨o,U,T,Z,Y,_⟩:=p;exact ⟨o,Z,Y.1⟩
def EI:bK X (.builtin "isinstance") (fun xs H Q=>∃x k,xs=[x,.ty "int"]/\kC X.K H x k/\Q (.bl (mZ k "int")) H):=by
 intro T s σ H xs S Q I r h;obtain ⟨x,k,rfl,Z,q⟩:=h;obtain ⟨u,c,rfl,Y,rc⟩:=vals2 r;cases rc
 cases k with
 |ao =>
  cases x with
  |ao =>
   cases Y;exact IsiPair.NoneType_int ⟨.bl false,H,I.tok _,rfl,q⟩
  |_=>exact Z.elim
 |bl =>
  cases x with
  |bl b =>
   cases Y;exact IsiPair.bool_int ⟨.bl true,H,I,rfl,q⟩
  |_=>exact Z.elim
 |int =>
  cases x with
  |int i =>
   obtain ⟨t,rfl⟩:=Y;exact IsiPair.int_int ⟨.bl true,H,I,rfl,q⟩
  |_=>exact Z.elim
 |str =>
  cases x with
  |str y =>
   obtain ⟨t,rfl⟩:=Y;exact IsiPair.str_int ⟨.bl false,H,I.tok _,rfl,q⟩
  |_=>exact Z.elim
 |tup =>
  cases x with
  |ref a =>
   cases Y;obtain ⟨z,W⟩:=Z;obtain ⟨o,V,U⟩:=I.mG W;exact IsiPair.tuple_int V U ⟨.bl false,H,I.tok _,rfl,q⟩
  |_=>exact Z.elim
 |lst =>
  cases x with
  |ref a =>
   cases Y;obtain ⟨z,W⟩:=Z;obtain ⟨o,V,U⟩:=I.mH W;exact IsiPair.list_int V U ⟨.bl false,H,I.tok _,rfl,q⟩
  |_=>exact Z.elim
 |bo =>
  cases x with
  |ref a =>
   cases Y;obtain ⟨z,W⟩:=Z;obtain ⟨o,V,U⟩:=I.mI W;exact IsiPair.dict_int V U ⟨.bl false,H,I.tok _,rfl,q⟩
  |_=>exact Z.elim
def Es:bK X (.builtin "isinstance") (fun xs H Q=>∃x k,xs=[x,.ty "bool"]/\kC X.K H x k/\Q (.bl (mZ k "bool")) H):=by
 intro T s σ H xs S Q I r h;obtain ⟨x,k,rfl,Z,q⟩:=h;obtain ⟨u,c,rfl,Y,rc⟩:=vals2 r;cases rc
 cases k with
 |ao =>
  cases x with
  |ao =>
   cases Y;exact IsiPair.NoneType_bool ⟨.bl false,H,I.tok _,rfl,q⟩
  |_=>exact Z.elim
 |bl =>
  cases x with
  |bl b =>
   cases Y;exact IsiPair.bool_bool ⟨.bl true,H,I,rfl,q⟩
  |_=>exact Z.elim
 |int =>
  cases x with
  |int i =>
   obtain ⟨t,rfl⟩:=Y;exact IsiPair.int_bool ⟨.bl false,H,I.tok _,rfl,q⟩
  |_=>exact Z.elim
 |str =>
  cases x with
  |str y =>
   obtain ⟨t,rfl⟩:=Y;exact IsiPair.str_bool ⟨.bl false,H,I.tok _,rfl,q⟩
  |_=>exact Z.elim
 |tup =>
  cases x with
  |ref a =>
   cases Y;obtain ⟨z,W⟩:=Z;obtain ⟨o,V,U⟩:=I.mG W;exact IsiPair.tuple_bool V U ⟨.bl false,H,I.tok _,rfl,q⟩
  |_=>exact Z.elim
 |lst =>
  cases x with
  |ref a =>
   cases Y;obtain ⟨z,W⟩:=Z;obtain ⟨o,V,U⟩:=I.mH W;exact IsiPair.list_bool V U ⟨.bl false,H,I.tok _,rfl,q⟩
  |_=>exact Z.elim
 |bo =>
  cases x with
  |ref a =>
   cases Y;obtain ⟨z,W⟩:=Z;obtain ⟨o,V,U⟩:=I.mI W;exact IsiPair.dict_bool V U ⟨.bl false,H,I.tok _,rfl,q⟩
  |_=>exact Z.elim
def EJ:bK X (.builtin "isinstance") (fun xs H Q=>∃x k,xs=[x,.ty "str"]/\kC X.K H x k/\Q (.bl (mZ k "str")) H):=by
 intro T s σ H xs S Q I r h;obtain ⟨x,k,rfl,Z,q⟩:=h;obtain ⟨u,c,rfl,Y,rc⟩:=vals2 r;cases rc
 cases k with
 |ao =>
  cases x with
  |ao =>
   cases Y;exact IsiPair.NoneType_str ⟨.bl false,H,I.tok _,rfl,q⟩
  |_=>exact Z.elim
 |bl =>
  cases x with
  |bl b =>
   cases Y;exact IsiPair.bool_str ⟨.bl false,H,I.tok _,rfl,q⟩
  |_=>exact Z.elim
 |int =>
  cases x with
  |int i =>
   obtain ⟨t,rfl⟩:=Y;exact IsiPair.int_str ⟨.bl false,H,I.tok _,rfl,q⟩
  |_=>exact Z.elim
 |str =>
  cases x with
  |str y =>
   obtain ⟨t,rfl⟩:=Y;exact IsiPair.str_str ⟨.bl true,H,I,rfl,q⟩
  |_=>exact Z.elim
 |tup =>
  cases x with
  |ref a =>
   cases Y;obtain ⟨z,W⟩:=Z;obtain ⟨o,V,U⟩:=I.mG W;exact IsiPair.tuple_str V U ⟨.bl false,H,I.tok _,rfl,q⟩
  |_=>exact Z.elim
 |lst =>
  cases x with
  |ref a =>
   cases Y;obtain ⟨z,W⟩:=Z;obtain ⟨o,V,U⟩:=I.mH W;exact IsiPair.list_str V U ⟨.bl false,H,I.tok _,rfl,q⟩
  |_=>exact Z.elim
 |bo =>
  cases x with
  |ref a =>
   cases Y;obtain ⟨z,W⟩:=Z;obtain ⟨o,V,U⟩:=I.mI W;exact IsiPair.dict_str V U ⟨.bl false,H,I.tok _,rfl,q⟩
  |_=>exact Z.elim
def Em:bK X (.builtin "isinstance") (fun xs H Q=>∃x k,xs=[x,.ty "tuple"]/\kC X.K H x k/\Q (.bl (mZ k "tuple")) H):=by
 intro T s σ H xs S Q I r h;obtain ⟨x,k,rfl,Z,q⟩:=h;obtain ⟨u,c,rfl,Y,rc⟩:=vals2 r;cases rc
 cases k with
 |ao =>
  cases x with
  |ao =>
   cases Y;exact IsiPair.NoneType_tuple ⟨.bl false,H,I.tok _,rfl,q⟩
  |_=>exact Z.elim
 |bl =>
  cases x with
  |bl b =>
   cases Y;exact IsiPair.bool_tuple ⟨.bl false,H,I.tok _,rfl,q⟩
  |_=>exact Z.elim
 |int =>
  cases x with
  |int i =>
   obtain ⟨t,rfl⟩:=Y;exact IsiPair.int_tuple ⟨.bl false,H,I.tok _,rfl,q⟩
  |_=>exact Z.elim
 |str =>
  cases x with
  |str y =>
   obtain ⟨t,rfl⟩:=Y;exact IsiPair.str_tuple ⟨.bl false,H,I.tok _,rfl,q⟩
  |_=>exact Z.elim
 |tup =>
  cases x with
  |ref a =>
   cases Y;obtain ⟨z,W⟩:=Z;obtain ⟨o,V,U⟩:=I.mG W;exact IsiPair.tuple_tuple V U ⟨.bl true,H,I,rfl,q⟩
  |_=>exact Z.elim
 |lst =>
  cases x with
  |ref a =>
   cases Y;obtain ⟨z,W⟩:=Z;obtain ⟨o,V,U⟩:=I.mH W;exact IsiPair.list_tuple V U ⟨.bl false,H,I.tok _,rfl,q⟩
  |_=>exact Z.elim
 |bo =>
  cases x with
  |ref a =>
   cases Y;obtain ⟨z,W⟩:=Z;obtain ⟨o,V,U⟩:=I.mI W;exact IsiPair.dict_tuple V U ⟨.bl false,H,I.tok _,rfl,q⟩
  |_=>exact Z.elim
def Et:bK X (.builtin "isinstance") (fun xs H Q=>∃x k,xs=[x,.ty "list"]/\kC X.K H x k/\Q (.bl (mZ k "list")) H):=by
 intro T s σ H xs S Q I r h;obtain ⟨x,k,rfl,Z,q⟩:=h;obtain ⟨u,c,rfl,Y,rc⟩:=vals2 r;cases rc
 cases k with
 |ao =>
  cases x with
  |ao =>
   cases Y;exact IsiPair.NoneType_list ⟨.bl false,H,I.tok _,rfl,q⟩
  |_=>exact Z.elim
 |bl =>
  cases x with
  |bl b =>
   cases Y;exact IsiPair.bool_list ⟨.bl false,H,I.tok _,rfl,q⟩
  |_=>exact Z.elim
 |int =>
  cases x with
  |int i =>
   obtain ⟨t,rfl⟩:=Y;exact IsiPair.int_list ⟨.bl false,H,I.tok _,rfl,q⟩
  |_=>exact Z.elim
 |str =>
  cases x with
  |str y =>
   obtain ⟨t,rfl⟩:=Y;exact IsiPair.str_list ⟨.bl false,H,I.tok _,rfl,q⟩
  |_=>exact Z.elim
 |tup =>
  cases x with
  |ref a =>
   cases Y;obtain ⟨z,W⟩:=Z;obtain ⟨o,V,U⟩:=I.mG W;exact IsiPair.tuple_list V U ⟨.bl false,H,I.tok _,rfl,q⟩
  |_=>exact Z.elim
 |lst =>
  cases x with
  |ref a =>
   cases Y;obtain ⟨z,W⟩:=Z;obtain ⟨o,V,U⟩:=I.mH W;exact IsiPair.list_list V U ⟨.bl true,H,I,rfl,q⟩
  |_=>exact Z.elim
 |bo =>
  cases x with
  |ref a =>
   cases Y;obtain ⟨z,W⟩:=Z;obtain ⟨o,V,U⟩:=I.mI W;exact IsiPair.dict_list V U ⟨.bl false,H,I.tok _,rfl,q⟩
  |_=>exact Z.elim
end
def mP (p:Ò) (Ts:List String):ħ->Prop:=fun h=>h.get? p=some { cls:=.type "tuple",data:=.seq (Ts.map Ŭ).toArray }
theorem Au:∀{Ts:List String} {us:List Ä},Vals (Ts.map V.ty) us->us=Ts.map Ŭ
 | [],_,.nil=>rfl
 |_::r,_,.cons h t=>by
  cases h;rw [Au t];rfl
def KD (t:TA):TE:=fun σ H Q=>t σ H fun Z Y=>∃X:List String,Z=X.map V.ty/\Z.length<=Ö/\∀p,Y p=none->Q (.ref p) (upd Y p (.ext (mP p X)))
section
variable {X:Cx} {es:List Ě} {t:TA} {pos:Pos}
def He {x1} (h:PA X es t):PE X (.Tuple es x1 pos) (KD t):=by
 intro V s σ H Q I U;refine wpAny_Tuple_spliced (aE (h pos V s σ H _ I U) fun P Z ⟨O,Y,W,r,T,e,z,q⟩=>⟨by rw [<- r.length];exact z,?_⟩);subst e;have S:=Au r;subst S;have R:Y Z.heap.objs.size=none:=W.au.fresh (S0 _);refine ⟨.ref Z.heap.objs.size,upd Y Z.heap.objs.size (.ext (mP Z.heap.objs.size T)),W.laid (t':=Z.toks) (fun b u e=>Á _ e) (S0 _) ?_,rfl,q _ R⟩;refine ⟨Ç _ rfl,⟨_,Ç _ rfl⟩,fun N M e k=>k _ e⟩
def KG {K:ĉ} {π:List (Ò×Obj)} {σ:St} {H:Hp} {s:Ã} {x:V} {u:Ä} {k:Kn} (I:Inv X π σ H s) (hk:kC X.K H x k) (r:RelV x u) :
  ∃Tx vs,AnswersAll (fun s=>s.TypeIs u Tx) u [.type "tuple",.type "list"] vs/\s.TypeIs u Tx/\vs.any id=(decide (k=.tup)||decide (k=.lst)):=by
 cases k with
 |ao =>
  cases x with
  |ao=>cases r;exact ⟨"NoneType",[false,false],.cons (.of_false_none (by decide +kernel) ń F.sub_NoneType_tuple) (.cons (.of_false_none (by decide +kernel) Ŕ F.sub_NoneType_list) .nil),rfl,rfl⟩
  |_=>exact hk.elim
 |bl =>
  cases x with
  |bl b=>cases r;exact ⟨"bool",[false,false],.cons (.of_false_bool (by decide +kernel) ń F.sub_bool_tuple) (.cons (.of_false_bool (by decide +kernel) Ŕ F.sub_bool_list) .nil),rfl,rfl⟩
  |_=>exact hk.elim
 |int =>
  cases x with
  |int b=>obtain ⟨t,rfl⟩:=r;exact ⟨"int",[false,false],.cons (.of_false_int (by decide +kernel) ń F.sub_int_tuple) (.cons (.of_false_int (by decide +kernel) Ŕ F.sub_int_list) .nil),rfl,rfl⟩
  |_=>exact hk.elim
 |str =>
  cases x with
  |str b=>obtain ⟨t,rfl⟩:=r;exact ⟨"str",[false,false],.cons (.of_false_str (by decide +kernel) ń F.sub_str_tuple) (.cons (.of_false_str (by decide +kernel) Ŕ F.sub_str_list) .nil),rfl,rfl⟩
  |_=>exact hk.elim
 |tup =>
  cases x with
  |ref a =>
   cases r;obtain ⟨z,Z⟩:=hk;exact ⟨"tuple",[true,false],.cons (.of_true ń F.sub_tuple_tuple) (.cons (.of_false_tuple (by decide +kernel) Ŕ F.sub_tuple_list) .nil),I.mG Z,rfl⟩
  |_=>exact hk.elim
 |lst =>
  cases x with
  |ref a =>
   cases r;obtain ⟨z,Z⟩:=hk;exact ⟨"list",[false,true],.cons (.of_false_list (by decide +kernel) ń F.sub_list_tuple) (.cons (.of_true Ŕ F.sub_list_list) .nil),I.mH Z,rfl⟩
  |_=>exact hk.elim
 |bo =>
  cases x with
  |ref a =>
   cases r;obtain ⟨z,Z⟩:=hk;exact ⟨"dict",[false,false],.cons (.of_false_dict (by decide +kernel) ń F.sub_dict_tuple) (.cons (.of_false_dict (by decide +kernel) Ŕ F.sub_dict_list) .nil),I.mI Z,rfl⟩
  |_=>exact hk.elim
def zU {bs:List Bool} (r:Vals (bs.map V.bl) its):TruthOf X.prog X.w A (fun i v=>its.toArray[i]?=some v) (fun i=>bs.getD i false):=by
 intro i v s Q E T S;have Z:its[i]?=some v:=by simpa using T
 have hi:i<its.length:=(Å.mp Z).1;have Y:i<bs.length:=by
  have e:=r.length;rw [Ë] at e;omega
 have R:(bs.map V.bl)[i]?=some (.bl (bs[i])):=by rw [è,Ì Y];rfl
 obtain ⟨u,W,P⟩:=Vals.get r R;rw [Z] at W;cases W;cases P;have e:bs.getD i false=bs[i]:=by simp [Ś,Ì Y]
 have U:Q (bs.getD i false) s:=S;rw [e] at U;exact Ĥ U
def range_all (bs:List Bool):(ć bs.length).all (fun i=>bs.getD i false)=bs.all id:=by
 rw [ő,ĭ,ĭ];constructor
 ·intro h b Z
  obtain ⟨i,hi,e⟩:=η Z;have:=h i (Ĺ.mpr hi);simpa [Ś,Ì hi,e] using this
 ·intro h i hi
  have hi:=Ĺ.mp hi;have:=h _ (Sh hi);simpa [Ś,Ì hi] using this
def range_any (bs:List Bool):(ć bs.length).any (fun i=>bs.getD i false)=bs.any id:=by
 rw [ő,Si,Si];constructor
 ·rintro ⟨i,hi,h⟩
  have hi:=Ĺ.mp hi;exact ⟨bs[i],Sh hi,by simpa [Ś,Ì hi] using h⟩
 ·rintro ⟨b,Z,h⟩
  obtain ⟨i,hi,e⟩:=η Z;exact ⟨i,Ĺ.mpr hi,by simpa [Ś,Ì hi,e] using h⟩
def Hf (hc:X.calm=true):bK X (.builtin "all") (fun xs H Q=>∃(p:Ò) (bs:List Bool),xs=[.ref p]/\aR X.K H p (bs.map V.bl)/\Q (.bl (bs.all id)) H):=by
 intro O s σ H xs N Q I r h;obtain ⟨p,bs,rfl,W,q⟩:=h;obtain ⟨u,rfl,U⟩:=vals1 r;cases U;obtain ⟨its,Y,Z,M⟩:=I.list W;have T:its.toArray.size=bs.length:=by
  have e:=Y.length;rw [Ë] at e;simpa using e.symm
 have S:X.A.in1.handled=none:=I.ok.hd hc;refine call_all_walk (Ő Z.isList ?_);have old:p≠s.heap.objs.size:=Ý (by obtain ⟨o,n,e,_⟩:=Z;exact É e);refine ⟨s.heap.objs.size,[s.heap.objs.size,p],[s.heap.objs.size],its.toArray.size,_,_,fun i=>bs.getD i false,rfl,Walks.list S s.heap.objs.size p old its.toArray,⟨⟨_,Ç _ rfl,rfl,rfl⟩,Z.isList.at fun o e=>Á _ e⟩,zU Y,fun L R P=>?_⟩;rw [T,range_all];exact ⟨.bl _,H,I.kept (t':=R) fun b o e=>P b o (by simpa using Ý (É e)) (Á _ e),rfl,q⟩
def Hg (hc:X.calm=true):bK X (.builtin "any") (fun xs H Q=>∃(p:Ò) (bs:List Bool),xs=[.ref p]/\aR X.K H p (bs.map V.bl)/\Q (.bl (bs.any id)) H):=by
 intro O s σ H xs N Q I r h;obtain ⟨p,bs,rfl,W,q⟩:=h;obtain ⟨u,rfl,U⟩:=vals1 r;cases U;obtain ⟨its,Y,Z,M⟩:=I.list W;have T:its.toArray.size=bs.length:=by
  have e:=Y.length;rw [Ë] at e;simpa using e.symm
 have S:X.A.in1.handled=none:=I.ok.hd hc;refine call_any_walk (Ő Z.isList ?_);have old:p≠s.heap.objs.size:=Ý (by obtain ⟨o,n,e,_⟩:=Z;exact É e);refine ⟨s.heap.objs.size,[s.heap.objs.size,p],[s.heap.objs.size],its.toArray.size,_,_,fun i=>bs.getD i false,rfl,Walks.list S s.heap.objs.size p old its.toArray,⟨⟨_,Ç _ rfl,rfl,rfl⟩,Z.isList.at fun o e=>Á _ e⟩,zU Y,fun L R P=>?_⟩;rw [T,range_any];exact ⟨.bl _,H,I.kept (t':=R) fun b o e=>P b o (by simpa using Ý (É e)) (Á _ e),rfl,q⟩
end
def oU:Key->RS
 | .inl i=>.int i
 | .inr x=>.str x
mutual
def DV (K:ĉ) (Z:Ò->Prop) (H:Hp):RS->V->Prop
 | .none,v=>v=.ao
 | .bool b,v=>v=.bl b
 | .int i,v=>v=.int i
 | .str x,v=>v=.str x
 | .tuple X,v=>∃a Y,v=.ref a/\aT K H a Y/\ak K Z H X Y
 | .list X,v=>∃a Y,v=.ref a/\¬ Z a/\H a=some (.lst Y)/\ak K Z H X Y
 | .dict U,v=>∃a W,v=.ref a/\¬ Z a/\H a=some (.dK W)/\∃l:List (Key×Int),W=l.map (fun p=>(p.1,V.int p.2))/\U=l.map fun p=>(oU p.1,PyData.int p.2)
def ak (K:ĉ) (Z:Ò->Prop) (H:Hp):List RS->List V->Prop
 | [],Y=>Y=[]
 |d::X,Y=>∃v r,Y=v::r/\DV K Z H d v/\ak K Z H X r
end
structure CN (K:ĉ) (Z:Ò->Prop) (H H':Hp):Prop where
 tup:∀b xs,aT K H b xs->aT K H' b xs
 lst:∀b xs,¬ Z b->H b=some (.lst xs)->H' b=some (.lst xs)
 bo:∀b es,¬ Z b->H b=some (.dK es)->H' b=some (.dK es)
mutual
theorem DV.cD {K:ĉ} {Z:Ò->Prop} {H H':Hp} (S:CN K Z H H'):∀{d:RS} {v:V},DV K Z H d v->DV K Z H' d v
 | .none,_,h=>h
 | .bool _,_,h=>h
 | .int _,_,h=>h
 | .str _,_,h=>h
 | .tuple T,v,h=>by
  simp only [DV] at h |-;obtain ⟨a,Y,e,X,r⟩:=h;exact ⟨a,Y,e,S.tup a Y X,ak.cD S r⟩
 | .list T,v,h=>by
  simp only [DV] at h |-;obtain ⟨a,Y,e,W,X,r⟩:=h;exact ⟨a,Y,e,W,S.lst a Y W X,ak.cD S r⟩
 | .dict R,v,h=>by
  simp only [DV] at h |-;obtain ⟨a,U,e,W,X,r⟩:=h;exact ⟨a,U,e,W,S.bo a U W X,r⟩
theorem ak.cD {K:ĉ} {Z:Ò->Prop} {H H':Hp} (S:CN K Z H H'):∀{ds:List RS} {vs:List V},ak K Z H ds vs->ak K Z H' ds vs
 | [],_,h=>h
 |d::ds,vs,h=>by
  simp only [ak] at h |-;obtain ⟨v,r,e,Y,X⟩:=h;exact ⟨v,r,e,DV.cD S Y,ak.cD S X⟩
end
mutual
theorem DV.more {K:ĉ} {Z:Ò->Prop} {H:Hp} {p:Ò} (hp:H p=none):∀{d:RS} {v:V},DV K Z H d v->DV K (fun a=>Z a\/a=p) H d v
 | .none,_,h=>h
 | .bool _,_,h=>h
 | .int _,_,h=>h
 | .str _,_,h=>h
 | .tuple U,v,h=>by
  simp only [DV] at h |-;obtain ⟨a,X,e,Y,r⟩:=h;exact ⟨a,X,e,Y,ak.more hp r⟩
 | .list U,v,h=>by
  simp only [DV] at h |-;obtain ⟨a,X,e,W,Y,r⟩:=h;exact ⟨a,X,e,(fun z=>z.elim W fun e=>by subst e;rw [hp] at Y;cases Y),Y,ak.more hp r⟩
 | .dict S,v,h=>by
  simp only [DV] at h |-;obtain ⟨a,T,e,W,Y,r⟩:=h;exact ⟨a,T,e,(fun z=>z.elim W fun e=>by subst e;rw [hp] at Y;cases Y),Y,r⟩
theorem ak.more {K:ĉ} {Z:Ò->Prop} {H:Hp} {p:Ò} (hp:H p=none):∀{ds:List RS} {vs:List V},ak K Z H ds vs->ak K (fun a=>Z a\/a=p) H ds vs
 | [],_,h=>h
 |d::ds,vs,h=>by
  simp only [ak] at h |-;obtain ⟨v,r,e,Y,X⟩:=h;exact ⟨v,r,e,DV.more hp Y,ak.more hp X⟩
end
mutual
theorem DV.less {K:ĉ} {Z Z':Ò->Prop} {H:Hp} (gK:∀a,Z' a->Z a):∀{d:RS} {v:V},DV K Z H d v->DV K Z' H d v
 | .none,_,h=>h
 | .bool _,_,h=>h
 | .int _,_,h=>h
 | .str _,_,h=>h
 | .tuple U,v,h=>by
  simp only [DV] at h |-;obtain ⟨a,X,e,Y,r⟩:=h;exact ⟨a,X,e,Y,ak.less gK r⟩
 | .list U,v,h=>by
  simp only [DV] at h |-;obtain ⟨a,X,e,W,Y,r⟩:=h;exact ⟨a,X,e,fun z=>W (gK _ z),Y,ak.less gK r⟩
 | .dict S,v,h=>by
  simp only [DV] at h |-;obtain ⟨a,T,e,W,Y,r⟩:=h;exact ⟨a,T,e,fun z=>W (gK _ z),Y,r⟩
theorem ak.less {K:ĉ} {Z Z':Ò->Prop} {H:Hp} (gK:∀a,Z' a->Z a):∀{ds:List RS} {vs:List V},ak K Z H ds vs->ak K Z' H ds vs
 | [],_,h=>h
 |d::ds,vs,h=>by
  simp only [ak] at h |-;obtain ⟨v,r,e,Y,X⟩:=h;exact ⟨v,r,e,DV.less gK Y,ak.less gK X⟩
end
section
variable {X:Cx} {π:List (Ò×Obj)} {σ:St} {H:Hp} {s:Ã} {Z:Ò->Prop}
theorem tK:∀{l:List (Key×Int)} {vs:List (Key×Ä)} {es:List DictEntry},KV (l.map fun p=>(p.1,V.int p.2)) vs->Pairs (qO P w) es vs ->
  ReadsAll h (es.map (·.key)) ((l.map fun p=>(oU p.1,PyData.int p.2)).map (·.1)) []/\ReadsAll h (es.map (·.val)) ((l.map fun p=>(oU p.1,PyData.int p.2)).map (·.2)) []
 | [],_,_,.nil,.nil=>⟨.nil,.nil⟩
 |(k,i)::l,_,_,.cons (b:=q) r t,.cons (e:=e) U T S=>by
  obtain ⟨a1,a2⟩:=tK (h:=h) t S;obtain ⟨Z,X,Y⟩:=r;have Z:k=q.1:=Z;have Y:q.2=Sv i X:=Y;refine ⟨?_,?_⟩
  ·have W:vO q.1 e.key=true:=U
   rw [<- Z] at W;have:Reads h e.key (oU k) []:=by
    rcases iI W with ⟨j,u,e1,e2⟩ | ⟨x,u,e1,e2⟩
    ·rw [e1,e2];exact .int j u
    ·rw [e1,e2];exact .str x u
   exact ReadsAll.cons (as:=[]) (bs:=[]) this a1
  ·have:Reads h e.val (.int i) []:=by rw [T,Y];exact .int i X
   exact ReadsAll.cons (as:=[]) (bs:=[]) this a2
mutual
theorem DV.reads (I:Inv X π σ H s):∀{d:RS} {v:V} {u:Ä},DV X.K Z H d v->RelV v u->∃as,Reads s.heap u d as
 | .none,v,u,h,r=>by
  have e:v=.ao:=h;subst e;cases r;exact ⟨[],.none⟩
 | .bool b,v,u,h,r=>by
  have e:v=.bl b:=h;subst e;cases r;exact ⟨[],.bool b⟩
 | .int i,v,u,h,r=>by
  have e:v=.int i:=h;subst e;obtain ⟨t,rfl⟩:=r;exact ⟨[],.int i t⟩
 | .str x,v,u,h,r=>by
  have e:v=.str x:=h;subst e;obtain ⟨t,rfl⟩:=r;exact ⟨[],.str x t⟩
 | .tuple R,v,u,h,r=>by
  simp only [DV] at h;obtain ⟨a,Q,e,Y,W⟩:=h;subst e;cases r;obtain ⟨its,U,⟨o,e,c,n,T⟩,_⟩:=I.tuple Y;obtain ⟨as,S⟩:=ak.reads I W U;exact ⟨as,.tuple e c T (by simpa using S)⟩
 | .list R,v,u,h,r=>by
  simp only [DV] at h;obtain ⟨a,Q,e,_,Y,W⟩:=h;subst e;cases r;obtain ⟨its,U,⟨o,n,e,c,_,T⟩,_⟩:=I.list (aR.of Y);obtain ⟨as,S⟩:=ak.reads I W U;exact ⟨a::as,.list e c T (by simpa using S)⟩
 | .dict L,v,u,h,r=>by
  simp only [DV] at h;obtain ⟨a,J,e,_,Y,l,e1,e2⟩:=h;subst e e1 e2;cases r;obtain ⟨_,_,G,P,o,F,E,g1,g2,g3,_,O,_⟩:=(show ck X.prog X.w H s.heap a (.dK _) from I.au a _ Y);obtain ⟨N,M⟩:=tK (h:=s.heap) P O;exact ⟨a::[]++[],.dict g1 g2.1 g3 N M⟩
theorem ak.reads (I:Inv X π σ H s):∀{ds:List RS} {vs:List V} {us:List Ä},ak X.K Z H ds vs->Vals vs us->∃as,ReadsAll s.heap us ds as
 | [],vs,us,h,r=>by
  have e:vs=[]:=h;subst e;cases r;exact ⟨[],.nil⟩
 |d::ds,vs,us,h,r=>by
  obtain ⟨v,S,e,Y,W⟩:=h;subst e
  cases r with
  |cons U T =>
   obtain ⟨as,a1⟩:=DV.reads I Y U;obtain ⟨bs,a2⟩:=ak.reads I W T;exact ⟨as++bs,.cons a1 a2⟩
end
def CO (K:ĉ) (neg:Bool):R2:=fun x y H Q=>∃(d e:RS) (Z:Ò->Prop),DV K Z H d x/\DV K Z H e y/\d.canLay0=true/\e.canLay0=true/\min d.depth e.depth<=100/\Q (.bl (if neg then !PyData.eqv d e else Đ d e)) H
def KH (hr:bp k X.A):aX X (Ć .Eq) (CO X.K false):=by
 intro O s σ H x y v u Q I Y W h;obtain ⟨d,e,Z,V,U,T,S,N,q⟩:=h;obtain ⟨as,R⟩:=V.reads I Y;obtain ⟨bs,P⟩:=U.reads I W;exact SeqAt.eqOverData _ _ _ _ _ _ _ _ _ _ _ _ R P T S (by have:=hr.un;omega) ⟨.bl _,H,I,rfl,q⟩
def KI (hr:bp k X.A):aX X (Ć .NotEq) (CO X.K true):=by
 intro O s σ H x y v u Q I Y W h;obtain ⟨d,e,Z,V,U,T,S,N,q⟩:=h;obtain ⟨as,R⟩:=V.reads I Y;obtain ⟨bs,P⟩:=U.reads I W;exact SeqAt.neOverData _ _ _ _ _ _ _ _ _ _ _ _ R P T S (by have:=hr.un;omega) ⟨.bl _,H,I,rfl,q⟩
end
end L2
namespace HT
open PySem PySem.Spec PyProof.Rows
section
variable {prog:Û} {w:ú} {A:ã} {E:Ä->Ã->Prop} {s:Ã}
def zF (ht:IsTup s.heap t items) (h:Q true s):Ô (á prog w) A (Ű (.ref t)) Q E s:=by
 unfold Ű;exact À (ι ht.typeIs (Â h))
def En {lo hi:Option Int} {Q:Ä->Ã->Prop} (ht:IsTup s.heap t items) (hs:s.heap.IsSliceOf sl vl vu .none) (pl:IsPart vl lo) (pu:IsPart vu hi)
 (hw:aH items.size 0 lo=0/\aH items.size items.size hi=items.size) (h:Q (.ref t) s):Ô (á prog w) A (getItem (.ref t) (.ref sl)) Q E s:=by
 obtain ⟨os,Z,Y,U⟩:=id hs;have X:s.TypeIs (.ref sl) "slice":=⟨os,Z,Y⟩;unfold getItem
 try with_reducible refine ą ?_
 first|refine À (Â ?_)|skip
 refine À (wpAny_sequenceKey ht.typeIs (by decide) ?_);refine À (ü (name:=Ħ "__getitem__") ht.typeIs Ċ
  (Ā Ċ ht.typeIs entry_tuple_getitem ?_ (args_tuple_getitem _ _)))
 show Ô _ _ (Ł (.ref t) >>= _) _ _ s;refine À (tupleItemsOf_ ht ?_);refine À (ι X ?_);rw [é (by decide)];refine À (yY hs pl pu ?_);obtain ⟨W,V⟩:=hw
 show Ô _ _ (if (((aH items.size 0 lo:Nat):Int)==0&&(1:Int)==1&&(aH items.size items.size hi-aH items.size 0 lo)==items.size)=true then _ else _) _ _ s
 rw [W,V,é (by simp)]
 first
  |exact À (zF ht (by simp only [ē];exact À (ŝ (Â ⟨_,rfl,Â h⟩))))
  |exact À (zF ht (by simp only [ē];exact À (ŝ (À (Â (Â ⟨_,rfl,Â h⟩))))))
end
end HT
namespace L2
open PySem PySem.Spec PyProof.Rows
def ig.ON {K:ĉ} {H H':Hp} {a:Ò} {xs:List V} (e:ig H H') (h:aT K H a xs):aT K H' a xs:=by
 rcases h with (h | ⟨o,h⟩)|h
 ·exact .inl (.inl (e _ _ h))
 ·exact .inl (.inr ⟨o,e _ _ h⟩)
 ·exact .inr h
theorem ig.upd (hn:H p=none):ig H (upd H p o):=fun b u e=>by rw [aJ (bX e hn)];exact e
def kl (K:ĉ) (H:Hp) (ys:List V) (Q:VK):Prop:=∀a Z,ig H Z->aT K Z a ys->Q (.ref a) Z
def kl.here {K:ĉ} {H:Hp} {ys:List V} {Q:VK} {a:Ò} (h:kl K H ys Q) (hs:aT K H a ys):Q (.ref a) H:=h a H (ig.refl H) hs
def kl.new {K:ĉ} {H:Hp} {ys:List V} {Q:VK} {p:Ò} (h:kl K H ys Q) (hn:H p=none):Q (.ref p) (L2.upd H p (.tup ys)):=h p _ (ig.upd hn) (aT.of bS)
section
variable {X:Cx} {e:Ě} {te:TE} {pos p2 p3 p4:Pos}
def Hh {lo hi:Option Int} (h:HT.aH xs.length 0 lo=0/\HT.aH xs.length xs.length hi=xs.length):ie xs lo hi=xs:=by
 unfold ie;rw [h.1,h.2];simp
def NL (K:ĉ):V->Option Int->Option Int->Hp->VK->Prop:=fun x lo hi H Q=>∃a Z,x=.ref a/\aT K H a Z/\kl K H (ie Z lo hi) Q
def IP:pM X (NL X.K):=by
 intro S s σ H x v R P lo hi O Q I V hs U pu h;obtain ⟨a,Z,rfl,W,q⟩:=h;by_cases hw:HT.aH Z.length 0 lo=0/\HT.aH Z.length Z.length hi=Z.length
 ·cases V
  obtain ⟨its,r,T,M⟩:=I.tuple W;have Y:its.toArray.size=Z.length:=by rw [Ð];exact r.length.symm
  rw [Hh hw] at q;exact ⟨"tuple",_,Ċ.lookup,T.typeIs,HT.En T hs U pu (by rw [Y];exact hw) ⟨.ref a,H,I,rfl,q.here W⟩⟩
 ·exact Bb S s σ H _ v R P lo hi O Q I V hs U pu ⟨a,Z,rfl,W,hw,fun p N=>q.new N⟩
def Mc (K:ĉ):R2:=fun x y H Q=>∃a b Z Y,x=.ref a/\y=.ref b/\aT K H a Z/\aT K H b Y/\Z.length+Y.length<=Ö/\kl K H (Z++Y) Q
def IQ:aX X (Ĳ .Add) (Mc X.K):=by
 intro M s σ H x y v u Q I W V h;obtain ⟨a,b,U,L,rfl,rfl,Z,Y,J,q⟩:=h;by_cases T:U=[]
 ·subst T
  cases W;cases V;obtain ⟨its,G,F,_⟩:=I.tuple Z;obtain ⟨E,t,p2,_⟩:=I.tuple Y;cases G;obtain ⟨⟨cls,D,data,C⟩,S,R,n,P⟩:=id F;obtain ⟨⟨r,B,data2,A⟩,O,N,z,hd2⟩:=id p2;simp only at R P N hd2;subst R P N hd2;exact concat_meets ⟨_,S,rfl⟩ ⟨_,O,rfl⟩ noFill_tuple_add seq_tuple_add RR RG (θ _ _)
   (tuple_addW0 a b _ E.toArray n z D B C A (by simp)) ⟨S,O,⟨.ref b,H,I,rfl,q.here Y⟩⟩
 ·refine IK M s σ H _ _ v u Q I W V ⟨a,b,U,L,rfl,rfl,Z,Y,T,J,fun e=>?_,fun _ p w=>q.new w⟩
  subst e;rw [ĩ] at q;exact q.here Z
end
end L2
namespace HZ
open PySem PySem.Spec PyProof.Rows
structure iz (P:Û) (w:ú) (A:ã) (i l:Ò) (tn:Nat->ħ->Prop) (val:Nat->Option Ä):Prop where
 keep:∀k h h',tn k h->(∀o,h.get? i=some o->h'.get? i=some o)->(∀o,h.get? l=some o->h'.get? l=some o)->tn k h'
 item:∀k (s:Ã) (Q:Ä->Ã->Prop) (E:Ä->Ã->Prop) x,tn k s.heap->val k=some x->(∀h',tn (k+1) h'->Ĭ i s.heap h'->Q x { s with heap:=h' })->Ô (á P w) A (ó (.ref i)) Q E s
 stop:∀k (s:Ã) (Q:Ä->Ã->Prop) (E:Ä->Ã->Prop),tn k s.heap->val k=none->(∀h' e,RY i s.heap h'->(∃o,h'.get? e=some o/\o.cls=.type "StopIteration")->E (.ref e) { s with heap:=h' })->Ô (á P w) A (ó (.ref i)) Q E s
 obj:∀k h,tn k h->∃o,h.get? i=some o/\∀v,o.data≠.cell v
section
variable {P:Û} {w:ú} {A:ã} {E:Ä->Ã->Prop} {s:Ã}
def Fq (g:s.heap.IsTupleIter it t k) (gt:s.heap.IsTuple t its) (gx:its[k]?=some x)
 (q:∀h',h'.IsTupleIter it t (k+1)->Ĭ it s.heap h'->Q x { s with heap:=h' }):Ô (á P w) A (ó (.ref it)) Q E s:=by
 obtain ⟨o,go,Y,Z⟩:=id g;obtain ⟨ol,X,_,nl,W⟩:=gt;unfold ó;refine À (ü (name:=Ħ "__next__") g.typeIs ł
  (Ā ł g.typeIs F.entry_tuple_iterator_next ?_ (F.args_tuple_iterator_next_1 _)))
 show Ô _ _ (field (.ref it) 0 >>= _) _ _ _;refine À (Ī go Z (x:=.ref t) rfl ?_)
 show Ô _ _ (if (ű t==Value.none)=true then _ else _) _ _ _
 rw [õ (fun z:(ű t==Value.none)=true=>Ï z)];show Ô _ _ (field (.ref it) 1 >>= _) _ _ _;refine À (Ī go Z (x:=.int k 0) rfl ?_);show Ô _ _ (Sx (.ref t) >>= _) _ _ _;refine À (ý X W ?_);simp only [ĥ,gx];refine À (Ş go Z (by simp) (Â ⟨x,rfl,Â (q _ ?_ (Ď ..))⟩));exact ⟨_,î _ go (ĵ (ā Z _)),(RZ ..).trans Y,by rw [ā Z];simp [Ų]⟩
def Eo (gh:A.handled=none) (g:s.heap.IsTupleIter it t k) (gt:s.heap.IsTuple t its) (gx:its[k]?=none)
 (q:∀h' e,RY it s.heap h'->(∃o,h'.get? e=some o/\o.cls=.type "StopIteration")->E (.ref e) { s with heap:=h' }):Ô (á P w) A (ó (.ref it)) Q E s:=by
 obtain ⟨o,go,W,Z⟩:=id g;obtain ⟨ol,Y,_,nl,X⟩:=gt;unfold ó;refine À (ü (name:=Ħ "__next__") g.typeIs ł
  (Ā ł g.typeIs F.entry_tuple_iterator_next ?_ (F.args_tuple_iterator_next_1 _)))
 show Ô _ _ (field (.ref it) 0 >>= _) _ _ _;refine À (Ī go Z (x:=.ref t) rfl ?_)
 show Ô _ _ (if (ű t==Value.none)=true then _ else _) _ _ _
 rw [õ (fun z:(ű t==Value.none)=true=>Ï z)];show Ô _ _ (field (.ref it) 1 >>= _) _ _ _;refine À (Ī go Z (x:=.int k 0) rfl ?_);show Ô _ _ (Sx (.ref t) >>= _) _ _ _;refine À (ý Y X ?_);simp only [ĥ,gx];refine À (ŝ (À (Ş go Z (by simp) ?_)));show Ô _ _ (newExc (.type "StopIteration") [] >>= _) _ _ (_:Ã);refine À ?_;simp only [newExc,newTuple];refine À (ì ?_ (by size_fits))
 refine À (m:=firstArgMember _ _) (R0 (a:=Value.none) (by first|rfl | (unfold firstArgMember;rfl)) ?_)
 refine ì ?_ (by size_fits);simp only [raiseNew];refine À (wpAny_handled ?_)
 first|rw [gh]|rw [show A.in1.handled=none from gh]
 refine À (Â (wpAny_throw ?_));exact q _ _ (((Ď ..).extBut.push _).push _) ⟨_,Ç _ rfl,rfl⟩
def IS (gh:A.handled=none) (i l:Ò) (its:Array Ä):iz P w A i l (fun k h=>h.IsTupleIter i l k/\h.IsTuple l its) (fun k=>its[k]?) where
 keep:=fun k h Y Z U T=>⟨Z.1.at U,by obtain ⟨o,e,r⟩:=Z.2;exact ⟨o,T o e,r⟩⟩
 item:=fun k s Q E x Z e q=>Fq Z.1 Z.2 e fun Y g X=>by
  by_cases W:l=i
  ·exfalso
   subst W;obtain ⟨o,e1,S,_⟩:=Z.1;obtain ⟨R,e2,V,_⟩:=Z.2;rw [e1] at e2;cases e2;rw [S] at V;simp at V
  ·obtain ⟨o,e2,r⟩:=Z.2
   exact q Y ⟨g,o,(X.2 l W).trans e2,r⟩ X
 stop:=fun k s Q E Z e q=>Eo gh Z.1 Z.2 e q
 obj:=fun k h Z=>by
  obtain ⟨o,e,_,d⟩:=Z.1;exact ⟨o,e,fun v z=>by rw [d] at z;cases z⟩
def IT (gh:A.handled=none) (i l:Ò) (its:Array Ä):iz P w A i l (fun k h=>h.IsListIter i l k/\h.IsList l its) (fun k=>its[k]?) where
 keep:=fun k h Y Z U T=>⟨Z.1.at U,Z.2.at T⟩
 item:=fun k s Q E x Z e q=>wpAny_nextOf_list_item Z.1 Z.2 e fun Y g X=>by
  by_cases W:l=i
  ·exfalso
   subst W;obtain ⟨o,e1,S,_⟩:=Z.1;obtain ⟨R,e2,V,_⟩:=Z.2;rw [e1] at e2;cases e2;rw [S] at V;simp at V
  ·exact q Y ⟨g,Z.2.at fun o e2=>(X.2 l W).trans e2⟩ X
 stop:=fun k s Q E Z e q=>wpAny_nextOf_list_end gh Z.1 Z.2 e q
 obj:=fun k h Z=>by
  obtain ⟨o,e,_,d⟩:=Z.1;exact ⟨o,e,fun v z=>by rw [d] at z;cases z⟩
structure Apart (z ti to j1 j2 m1 m2:Ò):Prop where
 a1:ti≠z
 a2:to≠z
 a3:j1≠z
 a4:j2≠z
 a5:ti≠to
 a6:ti≠j1
 a7:ti≠j2
 a8:to≠j1
 a9:to≠j2
 b0:j1≠j2
 b1:m1≠z
 b2:m1≠to
 b3:m1≠j1
 b4:m1≠j2
 b5:m2≠z
 b6:m2≠to
 b7:m2≠j1
 b8:m2≠j2
def Hi {t1 t2:Nat->ħ->Prop} {v1 v2:Nat->Option Ä} {k:Nat} {Q:Ä->Ã->Prop} (D:Apart z ti to j1 j2 m1 m2) (S1:iz P w A j1 m1 t1 v1) (S2:iz P w A j2 m2 t2 v2)
 (gz:IsZip s.heap z ti to .none) (gi:Ŷ s.heap ti (.ref j1) (.ref j2)) (go:Ŷ s.heap to a b) (h1:t1 k s.heap) (h2:t2 k s.heap) (hx:v1 k=some x) (hy:v2 k=some y)
 (q:∀h',IsZip h' z ti to (Ų s.heap.objs.size)->Ŷ h' to x y->t1 (k+1) h'->t2 (k+1) h'->Ŷ h' s.heap.objs.size x y->h'.objs.size=s.heap.objs.size+1 ->
 (∀c o,c≠z->c≠to->c≠j1->c≠j2->s.heap.get? c=some o->h'.get? c=some o)->Q (.ref s.heap.objs.size) { s with heap:=h' }) :
  Ô (á P w) A (š.«zip.__next__» ⟨[.ref z],[]⟩) (fun fin s'=>∃v,fin=.done (.ret v)/\Q v s') E s:=by
 show Ô _ _ (field (.ref z) 2 >>= _) _ _ (_:Ã);refine À (Ī gz rfl (x:=.bool false) rfl ?_);show Ô _ _ (field (.ref z) 3 >>= _) _ _ (_:Ã);refine À (Ī gz rfl (x:=.ref ti) rfl ?_);refine À (ý gi rfl ?_);show Ô _ _ (Ģ (.ref z) >>= _) _ _ (_:Ã);refine À ?_;unfold Ģ;refine À (Ī gz rfl (x:=.none) rfl (Â ?_));simp only [ē];refine À (ŝ ?_);refine À (Ī gz rfl (x:=.ref to) rfl ?_);refine À (ň gz (by simp) fun p N Y=>?_)
 replace N:IsZip p z ti to .ellipsis:=N
 refine À ?_;simp only [List.zipIdx_cons,List.zipIdx_nil,RJ,List.forIn_nil];refine À (À (wpAny_onRaise ?_));show Ô _ _ (ó (.ref j1) >>= _) _ _ (_:Ã);refine À (S1.item k _ _ _ x (S1.keep k _ _ h1 (fun o e=>Y.extBut _ _ D.a3 e) (fun o e=>Y.extBut _ _ D.b1 e)) hx fun n m V=>Â ?_);have G:Ŷ n to a b:=V.extBut _ _ D.a8 (Y.extBut _ _ D.a2 go);refine À (ý G rfl ?_);refine À (wpAny_updateSeq_pair G fun l M X=>?_)
 replace M:Ŷ l to x b:=M
 refine À (Ŏ (Â ?_));refine À (À (wpAny_onRaise ?_));show Ô _ _ (ó (.ref j2) >>= _) _ _ (_:Ã);refine À (S2.item k _ _ _ y (S2.keep k _ _ h2 (fun o e=>X.extBut _ _ D.a9.symm (V.extBut _ _ D.b0.symm (Y.extBut _ _ D.a4 e))) (fun o e=>X.extBut _ _ D.b6 (V.extBut _ _ D.b7 (Y.extBut _ _ D.b5 e)))) hy fun j i U=>Â ?_);have F:Ŷ j to x b:=U.extBut _ _ D.a9 M;refine À (ý F rfl ?_);refine À (wpAny_updateSeq_pair F fun Z S s5=>?_)
 replace S:Ŷ Z to x y:=S
 refine À (Ŏ (Â (Â ?_)));refine À (ý S rfl ?_);refine À (wpAny_newTuple ?_);have C:Z.objs.size=s.heap.objs.size:=by rw [s5.1,U.1,X.1,V.1,Y.1]
 have B:IsZip Z z ti to .ellipsis:=s5.extBut _ _ D.a2.symm (U.extBut _ _ D.a4.symm (X.extBut _ _ D.a2.symm (V.extBut _ _ D.a3.symm N)));have h:∀c o,c≠z->c≠to->c≠j1->c≠j2->s.heap.get? c=some o->Z.get? c=some o:=fun c o W R L K e=>s5.extBut _ _ R (U.extBut _ _ K (X.extBut _ _ R (V.extBut _ _ L (Y.extBut _ _ W e))));have g:t1 (k+1) Z:=S1.keep _ _ _ m (fun o e=>s5.extBut _ _ D.a8.symm (U.extBut _ _ D.b0 (X.extBut _ _ D.a8.symm e))) (fun o e=>s5.extBut _ _ D.b2 (U.extBut _ _ D.b4 (X.extBut _ _ D.b2 e)));have f:t2 (k+1) Z:=S2.keep _ _ _ i (fun o e=>s5.extBut _ _ D.a9.symm e) (fun o e=>s5.extBut _ _ D.b6 e);have u:z<Z.objs.size:=É B;show Ô _ _ (ŷ (.ref z) (.ref Z.objs.size) >>= _) _ _ (_:Ã);refine À ?_;unfold ŷ;have d:IsZip (Z.push { cls:=.type "tuple",data:=.seq #[x,y] }) z ti to .ellipsis:=Á _ B;refine À (ň d (by simp) fun p7 J I=>?_)
 replace J:IsZip p7 z ti to (Ų Z.objs.size):=J
 refine ň J (by simp) fun T O H=>?_
 replace O:IsZip T z ti to (Ų Z.objs.size):=O
 have up:∀c o,c≠z->Z.get? c=some o->T.get? c=some o:=fun c o W e=>H.extBut _ _ W (I.extBut _ _ W (Á _ e));have t:Ŷ T Z.objs.size x y:=H.extBut _ _ (Ĵ u) (I.extBut _ _ (Ĵ u) (Ç _ rfl));have r:T.objs.size=Z.objs.size+1:=by rw [H.1,I.1,ö]
 rw [C] at O t r;refine Â ⟨_,rfl,?_⟩;show Q (.ref Z.objs.size) _;rw [C];exact q T O (up _ _ D.a2 S) (S1.keep _ _ _ g (fun o e=>up _ o D.a3 e) (fun o e=>up _ o D.b1 e)) (S2.keep _ _ _ f (fun o e=>up _ o D.a4 e) (fun o e=>up _ o D.b5 e)) t r fun c o W R L K e=>up c o W (h c o W R L K e)
def IU (D:Apart z ti to j1 j2 m1 m2) (S1:iz P w A j1 m1 t1 v1) (S2:iz P w A j2 m2 t2 v2)
 (gz:IsZip s.heap z ti to .none) (gi:Ŷ s.heap ti (.ref j1) (.ref j2)) (go:Ŷ s.heap to a b) (h1:t1 k s.heap) (h2:t2 k s.heap) (wL:v1 k=none\/v2 k=none)
 (q:∀h' e,(∀c o,c≠z->c≠to->c≠j1->c≠j2->s.heap.get? c=some o->h'.get? c=some o)->(∃o,h'.get? e=some o/\o.cls=.type "StopIteration")->E (.ref e) { s with heap:=h' }) :
  Ô (á P w) A (š.«zip.__next__» ⟨[.ref z],[]⟩) Q E s:=by
 show Ô _ _ (field (.ref z) 2 >>= _) _ _ (_:Ã);refine À (Ī gz rfl (x:=.bool false) rfl ?_);show Ô _ _ (field (.ref z) 3 >>= _) _ _ (_:Ã);refine À (Ī gz rfl (x:=.ref ti) rfl ?_);refine À (ý gi rfl ?_);show Ô _ _ (Ģ (.ref z) >>= _) _ _ (_:Ã);refine À ?_;unfold Ģ;refine À (Ī gz rfl (x:=.none) rfl (Â ?_));simp only [ē];refine À (ŝ ?_);refine À (Ī gz rfl (x:=.ref to) rfl ?_);refine À (ň gz (by simp) fun N V Y=>?_)
 replace V:IsZip N z ti to .ellipsis:=V
 refine À ?_;simp only [List.zipIdx_cons,List.zipIdx_nil,RJ,List.forIn_nil];refine À (À (wpAny_onRaise ?_));show Ô _ _ (ó (.ref j1) >>= _) _ _ (_:Ã);have M:t1 k N:=S1.keep k _ _ h1 (fun o e=>Y.extBut _ _ D.a3 e) (fun o e=>Y.extBut _ _ D.b1 e)
 cases U:v1 k with
 |none =>
  refine À (S1.stop k _ _ _ M U fun T e Z S=>?_);obtain ⟨R,g1,g2⟩:=S;have L:IsZip T z ti to .ellipsis:=Z _ _ D.a3.symm V;have ne:e≠z:=fun u=>by subst u;rw [L] at g1;cases g1;simp at g2
  refine ň L (by simp) fun K _ X=>q K e (fun c o W _ O _ u=>X.extBut _ _ W (Z _ _ O (Y.extBut _ _ W u))) ⟨R,X.extBut _ _ ne g1,g2⟩
 |some x =>
  have G:v2 k=none:=by
   rcases wL with h|h
   ·rw [U] at h;cases h
   ·exact h
  refine À (S1.item k _ _ _ x M U fun T v Z=>Â ?_);have J:Ŷ T to a b:=Z.extBut _ _ D.a8 (Y.extBut _ _ D.a2 go);refine À (ý J rfl ?_);refine À (wpAny_updateSeq_pair J fun K t X=>?_);refine À (Ŏ (Â ?_));refine À (À (wpAny_onRaise ?_));show Ô _ _ (ó (.ref j2) >>= _) _ _ (_:Ã);refine À (S2.stop k _ _ _ (S2.keep k _ _ h2 (fun o e=>X.extBut _ _ D.a9.symm (Z.extBut _ _ D.b0.symm (Y.extBut _ _ D.a4 e))) (fun o e=>X.extBut _ _ D.b6 (Z.extBut _ _ D.b7 (Y.extBut _ _ D.b5 e)))) G fun F e I S=>?_);obtain ⟨R,g1,g2⟩:=S;have H:IsZip F z ti to .ellipsis:=I _ _ D.a4.symm (X.extBut _ _ D.a2.symm (Z.extBut _ _ D.a3.symm V));have ne:e≠z:=fun u=>by subst u;rw [H] at g1;cases g1;simp at g2
  refine ň H (by simp) fun C _ s5=>q C e (fun c o W B O y u=>s5.extBut _ _ W (I _ _ y (X.extBut _ _ B (Z.extBut _ _ O (Y.extBut _ _ W u))))) ⟨R,s5.extBut _ _ ne g1,g2⟩
def next_item (D:Apart z ti to j1 j2 m1 m2) (S1:iz P w A.in1 j1 m1 t1 v1) (S2:iz P w A.in1 j2 m2 t2 v2)
 (gz:IsZip s.heap z ti to .none) (gi:Ŷ s.heap ti (.ref j1) (.ref j2)) (go:Ŷ s.heap to a b) (h1:t1 k s.heap) (h2:t2 k s.heap) (hx:v1 k=some x) (hy:v2 k=some y)
 (q:∀h',IsZip h' z ti to (Ų s.heap.objs.size)->Ŷ h' to x y->t1 (k+1) h'->t2 (k+1) h'->Ŷ h' s.heap.objs.size x y->h'.objs.size=s.heap.objs.size+1 ->
 (∀c o,c≠z->c≠to->c≠j1->c≠j2->s.heap.get? c=some o->h'.get? c=some o)->Q (some (.ref s.heap.objs.size)) { s with heap:=h' }):Ô (á P w) A (ţ (.ref z)) Q E s:=by
 have Z:s.TypeIs (.ref z) "zip":=⟨_,gz,rfl⟩;unfold ţ;exact À (Ř (ü (name:=Ħ "__next__") Z Sy
  (Ā Sy Z F.entry_zip_next (Hi D S1 S2 gz gi go h1 h2 hx hy fun h' a1 a2 Y X W V U=>Â (q h' a1 a2 Y X W V U)) (F.args_zip_next_1 _))))
def next_end (D:Apart z ti to j1 j2 m1 m2) (S1:iz P w A.in1 j1 m1 t1 v1) (S2:iz P w A.in1 j2 m2 t2 v2)
 (gz:IsZip s.heap z ti to .none) (gi:Ŷ s.heap ti (.ref j1) (.ref j2)) (go:Ŷ s.heap to a b) (h1:t1 k s.heap) (h2:t2 k s.heap) (wL:v1 k=none\/v2 k=none)
 (q:∀h',(∀c o,c≠z->c≠to->c≠j1->c≠j2->s.heap.get? c=some o->h'.get? c=some o)->Q none { s with heap:=h' }):Ô (á P w) A (ţ (.ref z)) Q E s:=by
 have Z:s.TypeIs (.ref z) "zip":=⟨_,gz,rfl⟩;unfold ţ;refine À (Ř (ü (name:=Ħ "__next__") Z Sy
  (Ā Sy Z F.entry_zip_next (IU D S1 S2 gz gi go h1 h2 wL fun h' e Y X=>?_) (F.args_zip_next_1 _))))
 obtain ⟨o,W,V⟩:=X;exact À (Sj (T:="StopIteration") (b:=true) ⟨o,W,V⟩ isSubtype_stop (Â (q _ Y)))
end
end HZ
namespace L2
open PySem PySem.Spec PyProof.Rows
def KJ {X:Cx} {π:List (Ò×Obj)} {σ:St} {H:Hp} {s:Ã} {a b:Ò} {xs:List V} (I:Inv X π σ H s) (h:aT X.K H a xs) (f:bR X π H b):a≠b:=by
 rintro rfl;obtain ⟨f0,_,_,Y,_⟩:=f
 rcases h with (h | ⟨o,h⟩) | ⟨o,its,n,W,_⟩
 ·rw [f0] at h;cases h
 ·rw [f0] at h;cases h
 ·have Z:=I.mod.iu a o W
  rcases Y with z|z
  ·exact I.ok.ju a o Z z
  ·exact absurd (È (É Z) (â I.ok.fJ z)) (ò _)
def KL {X:Cx} {π:List (Ò×Obj)} {σ:St} {H:Hp} {s:Ã} {a b:Ò} {xs:List V} (I:Inv X π σ H s) (h:aR X.K H a xs) (f:bR X π H b):a≠b:=by
 rintro rfl;obtain ⟨f0,_,_,Y,_⟩:=f
 rcases h with (h | ⟨o,h⟩) | ⟨o,its,n,W,_⟩
 ·rw [f0] at h;cases h
 ·rw [f0] at h;cases h
 ·have Z:=I.mod.iu a o W
  rcases Y with z|z
  ·exact I.ok.ju a o Z z
  ·exact absurd (È (É Z) (â I.ok.fJ z)) (ò _)
def Inv.zG {X:Cx} {π:List (Ò×Obj)} {σ:St} {H:Hp} {s:Ã} {h':ħ} {t':Nat} {ch:List Ò} (I:Inv X π σ H s) (k:∀b o,b∉ch->s.heap.get? b=some o->h'.get? b=some o) (hf:∀b∈ch,bR X π H b) :
  Inv X π σ H { s with heap:=h',toks:=t' }:=by
 have Y:∀b u,H b=some u->b∉ch:=fun b u e z=>by rw [(hf b z).1] at e;cases e
 refine I.step (g':=s.gens) (d':=s.drawn) (ch:=ch) (fun b W=>?_) (fun b o _ _ Z e _=>k b o Z e) (fun b o _ _ Z e _=>⟨o.slots,k b o Z e⟩) (fun _ _ _ _ n=>n) (fun b o Z e=>⟨o,k b o Z e⟩) (fun _ _ e=>e) (fun _ _ _ e=>e)
  (fun b P e=>⟨#[],by rw [e];simp⟩) (fun m V=>?_) (fun b u e=>?_) I.bare
 ·obtain ⟨_,f1,_,U,f4,T⟩:=hf b W
  exact ⟨U,f1,f4,T⟩
 ·obtain ⟨o,S,R,Q,r⟩:=V
  exact ⟨o,S,R,k _ o (fun z=>(hf _ z).2.1 rfl) Q,r⟩
 ·refine (I.au b u e).cD (fun c v Z q=>k c v ?_ q) (fun _ q=>q) fun _ _ q=>q
  rcases Z with z|z
  ·rw [z];exact Y b u e
  ·exact Y c _ z
def Inv.Ga {X:Cx} {π:List (Ò×Obj)} {σ:St} {H:Hp} {s:Ã} {h':ħ} {t':Nat} {ch:List Ò} {p:Ò} {u:HO} (I:Inv X π σ H s) (k:∀b o,b∉ch->s.heap.get? b=some o->h'.get? b=some o) (hf:∀b∈ch,bR X π H b)
  (hp:s.heap.objs.size<=p) (new:ck X.prog X.w (upd H p u) h' p u):Inv X π σ (upd H p u) { s with heap:=h',toks:=t' }:=by
 have Y:H p=none:=I.au.fresh hp;have au:bC X.prog X.w (upd H p u) h':=(I.zG (t':=t') k hf).au.adopt Y new;refine I.step (g':=s.gens) (d':=s.drawn) (ch:=ch) (fun b W=>?_) (fun b o _ _ Z e _=>k b o Z e) (fun b o _ _ Z e _=>⟨o.slots,k b o Z e⟩) (fun b o _ e n=>?_) (fun b o Z e=>⟨o,k b o Z e⟩) (fun c P e=>by rw [aJ (bX e Y)];exact e) (fun c o v e=>by rw [aJ (bX e Y)];exact e)
  (fun c O e=>⟨#[],by rw [aJ (bX e Y),e];simp⟩) (fun m V=>?_) au I.bare
 ·obtain ⟨_,f1,_,U,f4,T⟩:=hf b W
  exact ⟨U,f1,f4,T⟩
 ·rw [aJ (Ý (È (É e) hp))]
  exact n
 ·obtain ⟨o,S,R,Q,r⟩:=V
  exact ⟨o,S,R,k _ o (fun z=>(hf _ z).2.1 rfl) Q,r⟩
@[reducible] def gb:Bool->ĉ->Hp->Ò->List V->Prop
 |true=>aT
 |false=>aR
@[reducible] def iA:Bool->ħ->Ò->Array Ä->Prop
 |true=>Heap.IsTuple
 |false=>Heap.IsList
@[reducible] def jJ:Bool->ħ->Ò->Ò->Nat->Prop
 |true=>Heap.IsTupleIter
 |false=>Heap.IsListIter
def Inv.m6 {X:Cx} {π:List (Ò×Obj)} {σ:St} {H:Hp} {s:Ã} {a:Ò} {xs:List V} (I:Inv X π σ H s):∀{k},gb k X.K H a xs->∃its,Vals xs its/\iA k s.heap a its.toArray
 |true,h=>by obtain ⟨i,r,p,_⟩:=I.tuple h;exact ⟨i,r,p⟩
 |false,h=>by obtain ⟨i,r,p,_⟩:=I.list h;exact ⟨i,r,p.isList⟩
def Inv.zV {X:Cx} {π:List (Ò×Obj)} {σ:St} {H:Hp} {s:Ã} {a:Ò} {xs ys:List V} (I:Inv X π σ H s):∀{k},gb k X.K H a xs->gb k X.K H a ys->xs=ys
 |true,h,g=>I.zy h g
 |false,h,g=>I.zQ h g
def q0 {X:Cx} {π:List (Ò×Obj)} {σ:St} {H:Hp} {s:Ã} {a b:Ò} {xs:List V} (I:Inv X π σ H s):∀{k},gb k X.K H a xs->bR X π H b->a≠b
 |true,h,f=>KJ I h f
 |false,h,f=>KL I h f
def sm (gh:A.handled=none) (i l:Ò) (its:Array Ä):∀k,HZ.iz P w A i l (fun n h=>jJ k h i l n/\iA k h l its) (fun n=>its[n]?)
 |true=>HZ.IS gh i l its
 |false=>HZ.IT gh i l its
def ra (k:∀o,h.get? i=some o->h'.get? i=some o):∀{b},jJ b h i l n->jJ b h' i l n
 |true,x=>x.at k
 |false,x=>x.at k
def qR:∀{b},jJ b h i l n->∃o,h.get? i=some o/\∀v,o.data≠.cell v
 |true,x=>by obtain ⟨o,e,_,d⟩:=x;exact ⟨o,e,fun v q=>by rw [d] at q;cases q⟩
 |false,x=>by obtain ⟨o,e,_,d⟩:=x;exact ⟨o,e,fun v q=>by rw [d] at q;cases q⟩
def oV (k l:Bool) (K:ĉ) (a b:Ò):It :=
 ⟨fun i H=>∃Z Y x y,gb k K H a Z/\gb l K H b Y/\Z[i]?=some x/\Y[i]?=some y,fun i H v X=>∃p x y,H p=none/\v=.ref p/\X=upd H p (.tup [x,y])/\∀Z Y,gb k K H a Z->gb l K H b Y->Z[i]?=some x/\Y[i]?=some y,
  fun i H=>∃Z Y,gb k K H a Z/\gb l K H b Y/\(Z.length<=i\/Y.length<=i)⟩
abbrev NM:=oV true true
abbrev NN:=oV false false
structure Md (it:Nat->ħ->Prop) (xI:Nat->ħ->Prop) (z ti to j1 j2:Ò) (i:Nat) (h:ħ):Prop where
 z:IsZip h z ti to .none
 ti:Ŷ h ti (.ref j1) (.ref j2)
 to:∃u v,Ŷ h to u v
 h1:it i h
 h2:xI i h
structure CP (z ti to j1 j2:Ò):Prop where
 a1:ti≠z
 a2:to≠z
 a3:j1≠z
 a4:j2≠z
 a5:ti≠to
 a6:ti≠j1
 a7:ti≠j2
 a8:to≠j1
 a9:to≠j2
 b0:j1≠j2
def Gb {k1 k2:Bool} {P:Û} {w:ú} {K:ĉ} {elts:List Ě} {kk:Nat} {pos:Pos} (a b z ti to j1 j2:Ò) (F:CP z ti to j1 j2) :
  Turn P w K (.Tuple elts kk pos) (oV k1 k2 K a b) [z,ti,to,j1,j2] z (Md (fun i h=>jJ k1 h j1 a i) (fun i h=>jJ k2 h j2 b i) z ti to j1 j2) where
 mem:=by simp
 obj:=fun i h Z c S=>by
  have M:c=z\/c=ti\/c=to\/c=j1\/c=j2:=by simpa using S
  rcases M with rfl|rfl|rfl|rfl|rfl
  ·exact ⟨_,Z.z,fun v q=>nomatch q⟩
  ·exact ⟨_,Z.ti,fun v q=>nomatch q⟩
  ·obtain ⟨u,v,q⟩:=Z.to;exact ⟨_,q,fun v q=>nomatch q⟩
  ·exact qR Z.h1
  ·exact qR Z.h2
 keep:=fun i h l Z k=>⟨k z (by simp) _ Z.z,k ti (by simp) _ Z.ti,by obtain ⟨u,v,q⟩:=Z.to;exact ⟨u,v,k to (by simp) _ q⟩,ra (fun o e=>k j1 (by simp) o e) Z.h1,ra (fun o e=>k j2 (by simp) o e) Z.h2⟩
 item:=by
  intro X L hw J S i j s σ H E I Y Z G;subst L hw J;obtain ⟨f,d,x,y,V,U,ex,g⟩:=G;obtain ⟨C,B,t⟩:=I.m6 V;obtain ⟨r,p,n⟩:=I.m6 U;obtain ⟨u,eu,ru⟩:=B.get ex;obtain ⟨v,ev,rv⟩:=p.get g;have ne:∀c∈[z,ti,to,j1,j2],a≠c/\b≠c:=fun c W=>⟨q0 I V (Y c W),q0 I U (Y c W)⟩;have D:HZ.Apart z ti to j1 j2 a b:=⟨F.a1,F.a2,F.a3,F.a4,F.a5,F.a6,F.a7,F.a8,F.a9,F.b0,(ne z (by simp)).1,(ne to (by simp)).1,(ne j1 (by simp)).1,(ne j2 (by simp)).1,(ne z (by simp)).2,(ne to (by simp)).2,(ne j1 (by simp)).2,(ne j2 (by simp)).2⟩;obtain ⟨w1,w2,O⟩:=Z.to;have R:X.A.in1.handled=none:=I.ok.hd S;refine HZ.next_item D (sm R j1 a C.toArray k1) (sm R j2 b r.toArray k2) Z.z Z.ti O ⟨Z.h1,t⟩ ⟨Z.h2,n⟩ (by simpa using eu) (by simpa using ev) fun l c1 c2 c3 c4 c5 c6 N=>⟨_,rfl,?_⟩;refine wpAny_letOwnedTupleGo_zip c1 fun h2 d1 T=>?_;have hn:H s.heap.objs.size=none:=I.au.fresh (S0 _);have OR:z<s.heap.objs.size:=É Z.z;have oW:IsTup h2 s.heap.objs.size #[u,v]:=⟨_,T.extBut _ _ (Ĵ OR) c5,rfl,_,rfl⟩
  have I2:Inv X j σ (upd H s.heap.objs.size (.tup [x,y])) { s with heap:=h2,toks:=s.toks }:=I.Ga (ch:=[z,ti,to,j1,j2]) (fun c o m e=>by
   have q:c≠z/\c≠ti/\c≠to/\c≠j1/\c≠j2:=by simpa using m
   exact T.extBut c o q.1 (N c o q.1 q.2.2.1 q.2.2.2.1 q.2.2.2.2 e)) Y (S0 _) ⟨by show 2<=Ö;decide,[u,v],.cons ru (.cons rv .nil),oW⟩
  refine ⟨.ref s.heap.objs.size,_,I2,rfl,⟨_,x,y,hn,rfl,rfl,fun sP sQ q1 q2=>?_⟩,?_,fun c W=>?_⟩
  ·rw [I.zV q1 V,I.zV q2 U];exact ⟨ex,g⟩
  ·refine ⟨d1,T.extBut _ _ F.a1 (N _ _ F.a1 F.a5 F.a6 F.a7 Z.ti),⟨_,_,T.extBut _ _ F.a2 c2⟩,ra (fun o e=>T.extBut _ _ F.a3 e) c3.1,ra (fun o e=>T.extBut _ _ F.a4 e) c4.1⟩
  ·rw [aJ]
   ·exact (Y c W).1
   ·intro e
    obtain ⟨o,eo⟩:∃o,s.heap.get? c=some o:=by
     have M:c=z\/c=ti\/c=to\/c=j1\/c=j2:=by simpa using W
     rcases M with q|q|q|q|q
     ·rw [q];exact ⟨_,Z.z⟩
     ·rw [q];exact ⟨_,Z.ti⟩
     ·rw [q];exact ⟨_,O⟩
     ·rw [q];obtain ⟨o,e,_⟩:=qR Z.h1;exact ⟨o,e⟩
     ·rw [q];obtain ⟨o,e,_⟩:=qR Z.h2;exact ⟨o,e⟩
    exact absurd (É eo) (by rw [e];exact ò _)
 done:=by
  intro X L hw J S i j s σ H E I Y Z G;subst L hw J;obtain ⟨f,d,V,U,hle⟩:=G;obtain ⟨C,B,t⟩:=I.m6 V;obtain ⟨r,p,n⟩:=I.m6 U;have ne:∀c∈[z,ti,to,j1,j2],a≠c/\b≠c:=fun c W=>⟨q0 I V (Y c W),q0 I U (Y c W)⟩;have D:HZ.Apart z ti to j1 j2 a b:=⟨F.a1,F.a2,F.a3,F.a4,F.a5,F.a6,F.a7,F.a8,F.a9,F.b0,(ne z (by simp)).1,(ne to (by simp)).1,(ne j1 (by simp)).1,(ne j2 (by simp)).1,(ne z (by simp)).2,(ne to (by simp)).2,(ne j1 (by simp)).2,(ne j2 (by simp)).2⟩;obtain ⟨w1,w2,O⟩:=Z.to;have R:X.A.in1.handled=none:=I.ok.hd S;have l1:=B.length;have l2:=p.length;refine HZ.next_end D (sm R j1 a C.toArray k1) (sm R j2 b r.toArray k2) Z.z Z.ti O ⟨Z.h1,t⟩ ⟨Z.h2,n⟩ ?_ fun l N=>⟨rfl,I.zG (t':=s.toks) (ch:=[z,ti,to,j1,j2]) (fun c o m e=>by
   have q:c≠z/\c≠ti/\c≠to/\c≠j1/\c≠j2:=by simpa using m
   exact N c o q.1 q.2.2.1 q.2.2.2.1 q.2.2.2.2 e) Y⟩
  rcases hle with q|q
  ·left;simp;omega
  ·right;simp;omega
 self:=fun A i s Q E Z h=>wpAny_pyIter_zip Z.z h
end L2
namespace HZ
open PySem PySem.Spec PyProof.Rows L2
@[reducible] noncomputable def pT:Bool->String
 |true=>"tuple_iterator"
 |false=>"list_iterator"
abbrev y1 (k:Bool) (h:ħ) (m1:Ò):ħ:=h.push { cls:=.type (pT k),data:=.fields #[.ref m1,.int 0 0] }
abbrev y2 (k l:Bool) (h:ħ) (m1 m2:Ò):ħ:=(y1 k h m1).push { cls:=.type (pT l),data:=.fields #[.ref m2,.int 0 0] }
abbrev y3 (k l:Bool) (h:ħ) (m1 m2:Ò):ħ:=(y2 k l h m1 m2).push { cls:=.type "tuple",data:=.seq #[.ref h.objs.size,.ref (y1 k h m1).objs.size] }
abbrev y4 (k l:Bool) (h:ħ) (m1 m2:Ò):ħ:=(y3 k l h m1 m2).push { cls:=.type "tuple",data:=.seq #[.none,.none] }
abbrev y5 (k l:Bool) (h:ħ) (m1 m2:Ò):ħ:=(y4 k l h m1 m2).push { cls:=.type "zip",data:=.fields #[.none,.bool false,.bool false,.ref (y2 k l h m1 m2).objs.size,.ref (y3 k l h m1 m2).objs.size] }
def BS:∀{k},iA k s.heap m xs->Q (.ref s.heap.objs.size) { s with heap:=s.heap.push { cls:=.type (pT k),data:=.fields #[.ref m,.int 0 0] } }->Ô (á P w) A (pyIter (.ref m)) Q E s
 |true,h,q=>wpAny_pyIter_tuple h q
 |false,h,q=>Ő h q
def Hj (o:Obj):∀{k},iA k h m xs->iA k (h.push o) m xs
 |true,x=>Heap.IsTuple.push x o
 |false,x=>Heap.IsList.push x o
def IV (k l:Bool) (m1 m2:Ò) (xs ys:Array Ä) :
  Meets (š.«zip.__new__» ⟨[.type "zip",.ref m1,.ref m2],[]⟩) (fun _ R s=>iA k s.heap m1 xs/\iA l s.heap m2 ys/\R (.ok (.ret (.ref (y4 k l s.heap m1 m2).objs.size))) { s with heap:=y5 k l s.heap m1 m2 }) :=
 .of_wp fun prog w A R s h=>by
  obtain ⟨Z,g,d,Y,os⟩:=s;obtain ⟨X,W,h⟩:=h;have U:=sub_zip;have V:iA k (Shared.heap ⟨Z,g,d,Y,os⟩) m1 xs:=X;have L2:iA l (Shared.heap ⟨Z.push { cls:=.type (pT k),data:=.fields #[.ref m1,.int 0 0] },g,d,Y,os⟩) m2 ys:=Hj _ W
  wp_walk using BS V,BS L2
  exact ⟨_,rfl,h⟩
section
variable {P:Û} {w:ú} {A:ã} {E:Ä->Ã->Prop} {s:Ã}
def Av:∀{k},h.get? i=some { cls:=.type (pT k),data:=.fields #[.ref m,.int 0 0] }->jJ k h i m 0
 |true,e=>⟨_,e,rfl,rfl⟩
 |false,e=>⟨_,e,rfl,rfl⟩
def Ge (h1:iA k s.heap m1 xs) (h2:iA l s.heap m2 ys)
 (h:∀h',IsZip h' (s.heap.objs.size+4) (s.heap.objs.size+2) (s.heap.objs.size+3) .none->Ŷ h' (s.heap.objs.size+2) (.ref s.heap.objs.size) (.ref (s.heap.objs.size+1)) ->
   Ŷ h' (s.heap.objs.size+3) .none .none->jJ k h' s.heap.objs.size m1 0->jJ l h' (s.heap.objs.size+1) m2 0->h'.objs.size=s.heap.objs.size+5 ->
 (∀c o,s.heap.get? c=some o->h'.get? c=some o)->Q (.ref (s.heap.objs.size+4)) { s with heap:=h' }):Ô (á P w) A (call (.type "zip") [.ref m1,.ref m2]) Q E s:=by
 refine callType_new F.called_zip (by decide) (F.typeCall_zip_2 _ _) (F.newCall_zip_2 _ _) (fun obj=>F.args_object_init_3 obj _ _) F.entry_zip_new (IV k l m1 m2 xs ys) ⟨h1,h2,?_⟩;have e1:(y1 k s.heap m1).objs.size=s.heap.objs.size+1:=ö ..;have e2:(y2 k l s.heap m1 m2).objs.size=s.heap.objs.size+2:=by rw [ö,e1]
 have Z:(y3 k l s.heap m1 m2).objs.size=s.heap.objs.size+3:=by rw [ö,e2]
 have Y:(y4 k l s.heap m1 m2).objs.size=s.heap.objs.size+4:=by rw [ö,Z]
 have V:(y5 k l s.heap m1 m2).objs.size=s.heap.objs.size+5:=by rw [ö,Y]
 have X:(y5 k l s.heap m1 m2).get? (y4 k l s.heap m1 m2).objs.size=some _:=Ç _ rfl;have W:(y5 k l s.heap m1 m2).get? (y3 k l s.heap m1 m2).objs.size=some _:=Á _ (Ç _ rfl);have g3:(y5 k l s.heap m1 m2).get? (y2 k l s.heap m1 m2).objs.size=some _:=Á _ (Á _ (Ç _ rfl));have g2:(y5 k l s.heap m1 m2).get? (y1 k s.heap m1).objs.size=some _:=Á _ (Á _ (Á _ (Ç _ rfl)));have g1:(y5 k l s.heap m1 m2).get? s.heap.objs.size=some _:=Á _ (Á _ (Á _ (Á _ (Ç _ rfl))));show _/\_;rw [e2,Z,Y] at X;rw [e1,e2] at g3;rw [Z] at W;rw [e1] at g2;rw [Y];exact ⟨⟨_,X,rfl⟩,h _ X g3 W (Av g1) (Av g2) V fun c o q=>Á _ (Á _ (Á _ (Á _ (Á _ q))))⟩
end
end HZ
namespace L2
open PySem PySem.Spec PyProof.Rows
def Hk (n:Nat):CP (n+4) (n+2) (n+3) n (n+1):=by constructor<;>(show (_:Nat)≠_)<;>omega
section
variable {X:Cx} {elts:List Ě} {kk:Nat} {tp:Pos}
def vY (k l:Bool) (K:ĉ) (ta:TA):TI:=fun σ H R=>ta σ H fun Y Z=>∃a b X W,Y=[.ref a,.ref b]/\gb k K Z a X/\gb l K Z b W/\R (oV k l K a b) Z
noncomputable abbrev Me:=vY true true
noncomputable abbrev Mf:=vY false false
def Gf:ê "zip"=some (.type "zip"):=by decide +kernel
def KN {π:List (Ò×Obj)} {σ:St} {H:Hp} {s:Ã} (I:Inv X π σ H s):∀b∈[s.heap.objs.size+4,s.heap.objs.size+2,s.heap.objs.size+3,s.heap.objs.size,s.heap.objs.size+1],bR X π H b:=fun b Y=>by
 have Z:s.heap.objs.size<=b:=by
  have q:b=s.heap.objs.size+4\/b=s.heap.objs.size+2\/b=s.heap.objs.size+3\/b=s.heap.objs.size\/b=s.heap.objs.size+1:=by simpa using Y
  omega
 exact I.kh Z (I.au.fresh Z)
def Aw {k l:Bool} {a b:Ě} {ta:TA} {p pos:Pos} (hg:Gl X "zip") (hm:X.mg "zip"=none) (ha:PA X [a,b] ta) (hs:Æ [a,b] X.env=[(false,ĺ a X.env),(false,ĺ b X.env)]:=by rfl) (dE:Æ [b] X.env=[(false,ĺ b X.env)]:=by rfl) :
  PI X (.Tuple elts kk tp) (.Call (.Name "zip" p) [a,b] [] pos) (vY k l X.K ta):=by
 intro V s σ H R I h;refine Call_ (kW I hg hm Gf (Ť (aE (ha pos V s σ H _ I h) fun z Z ⟨y,U,Y,T,S⟩=>?_) (by rw [hs,dE]) (by rw [dE];rfl)));obtain ⟨a,b,xs,ys,e,Q,P,q⟩:=S;subst e;obtain ⟨u,v,rfl,O,N⟩:=vals2 T;cases O;cases N;obtain ⟨M,_,L⟩:=Y.m6 Q;obtain ⟨J,_,G⟩:=Y.m6 P;refine HZ.Ge (xs:=M.toArray) (ys:=J.toArray) L G fun F W E D C B x A=>?_
 refine wpAny_pyIter_zip (s:={ Z with heap:=F }) W ?_
 exact ⟨_,[Z.heap.objs.size+4,Z.heap.objs.size+2,Z.heap.objs.size+3,Z.heap.objs.size,Z.heap.objs.size+1],_,_,U,rfl,Y.kept (t':=Z.toks) A,Gb a b _ _ _ _ _ (Hk _),⟨W,E,⟨_,_,D⟩,C,B⟩,KN Y,q⟩
def uO {a b:Ě} {ta:TA} {p pos:Pos} (hg:Gl X "zip") (hm:X.mg "zip"=none) (ha:PA X [a,b] ta) (hs:Æ [a,b] X.env=[(false,ĺ a X.env),(false,ĺ b X.env)]:=by rfl) (dE:Æ [b] X.env=[(false,ĺ b X.env)]:=by rfl) :
  PI X (.Tuple elts kk tp) (.Call (.Name "zip" p) [a,b] [] pos) (Me X.K ta):=Aw hg hm ha hs dE
def IW {a b:Ě} {ta:TA} {p pos:Pos} (hg:Gl X "zip") (hm:X.mg "zip"=none) (ha:PA X [a,b] ta) (hs:Æ [a,b] X.env=[(false,ĺ a X.env),(false,ĺ b X.env)]:=by rfl) (dE:Æ [b] X.env=[(false,ĺ b X.env)]:=by rfl) :
  PI X (.Tuple elts kk tp) (.Call (.Name "zip" p) [a,b] [] pos) (Mf X.K ta):=Aw hg hm ha hs dE
end
end L2
namespace PySem
section
variable {P:Û} {w:ú} {A:ã} {E:Ä->Ã->Prop} {s:Ã}
end
end PySem
namespace L2
open PySem PySem.Spec PyProof.Rows
def map_getD (ns:List Int):(ć ns.length).map (fun i=>ns.getD i 0)=ns:=by
 apply R1;intro i;rw [è];by_cases h:i<ns.length
 ·rw [Sz h,Ì h]
  simp [Ś,Ì h]
 ·rw [ĕ (by simpa using h),ĕ (by omega)]
  rfl
section
variable {X:Cx}
end
section
variable {κ:Type} [DecidableEq κ]
end
section
variable {P:Û} {w:ú} {H:Hp} {h:ħ} {a:Ò}
end
section
variable {X:Cx} {π:List (Ò×Obj)} {σ:St} {H:Hp} {s:Ã} {a:Ò} {y v:V} {u r:Ä} {o:Option V} {A:ã} {E:Ä->Ã->Prop}
end
section
variable {X:Cx} {π:List (Ò×Obj)} {σ:St} {H:Hp} {s:Ã} {a:Ò} {ay:List (Key×V)} {k:Key} {u:Ä} {A:ã} {E:Ä->Ã->Prop}
end
section
variable {X:Cx} {o i e value:Ě} {pos pos' lJ:Pos} {td ty tv:TE}
end
section
variable {X:Cx} {pos:Pos}
end
structure M1 (X:Cx) (o:Ě) (m:Str) (apos:Pos) (e:Ě) (aY:Pos):Prop where
 base:RH o m X.env (ĺ o X.env)=ĺ o X.env
 xJ:((Ġ aY (Æ [e] X.env)).all (fun x=>!x.1)&&(backToKw aY (RX [] X.env)).all (fun x=>x.1.isSome)
  && decide (([e]:List Ě).length+([]:List Se).length+(if ([]:List Se).isEmpty then 0 else 1)<30))=true
 line:(apos.endLine==aY.line)=true
 trees:Ġ aY (Æ [e] X.env)=[(false,ĺ e X.env)]
structure M2 (X:Cx) (o:Ě) (m:Str) (apos:Pos) (e f:Ě) (aY:Pos):Prop where
 base:RH o m X.env (ĺ o X.env)=ĺ o X.env
 xJ:((Ġ aY (Æ [e,f] X.env)).all (fun x=>!x.1)&&(backToKw aY (RX [] X.env)).all (fun x=>x.1.isSome)
  && decide (([e,f]:List Ě).length+([]:List Se).length+(if ([]:List Se).isEmpty then 0 else 1)<30))=true
 line:(apos.endLine==aY.line)=true
 trees:Ġ aY (Æ [e,f] X.env)=[(false,ĺ e X.env),(false,ĺ f X.env)]
section
variable {X:Cx} {π:List (Ò×Obj)} {σ:St} {H:Hp} {s:Ã} {a:Ò} {y d:V} {u r:Ä} {o:Option V} {A:ã} {E:Ä->Ã->Prop}
end
section
variable {X:Cx} {o e f:Ě} {apos aY:Pos} {td ty tx:TE}
end
section
variable {X:Cx} {π:List (Ò×Obj)} {σ:St} {H:Hp} {s:Ã} {a:Ò} {ay:List (Key×V)} {A:ã} {E:Ä->Ã->Prop}
end
section
variable {X:Cx} {π:List (Ò×Obj)} {σ:St} {H:Hp} {s:Ã} {a:Ò} {y:V} {u:Ä} {A:ã} {E:Ä->Ã->Prop}
end
section
variable {K:ĉ} {aB:St} {H:Hp} {tf:TT} {te:TE} {Q:VK}
end
end L2
namespace TS
open PySem
abbrev ij (l:List Nat):Prop:=l.Pairwise (· < ·)
def Hl (xs:Array Nat) (k d:Nat):xs.getD k d=xs.toList.getD k d:=by
 cases xs with
 |mk l =>
  by_cases h:k<l.length
  ·simp [Array.getD,Ś,h]
  ·simp [Array.getD,Ś,h]
def qS (h:ij l) (DD:a<b) (hb:b<l.length):l.getD a 0<l.getD b 0:=by
 have:=List.pairwise_iff_getElem.mp h a b (by omega) hb DD;simpa [Ś,Ì hb,Ì (show a<l.length by omega)] using this
def Hm (l:List Nat) (hk:k<l.length) (d e:Nat):l.getD k d=l.getD k e:=by
 simp [Ś,Ì hk]
theorem uP (xs:Array Nat) (j:Nat) (hr:ij xs.toList):∀(fuel lo hi:Nat),hi-lo<=fuel->lo<=hi->hi<=xs.toList.length->(∀k,k<lo->xs.toList.getD k 0<j)->(∀k,hi<=k->k<xs.toList.length->j<=xs.toList.getD k 0) ->
  R3 xs j fuel lo hi<=xs.toList.length/\(∀k,k<R3 xs j fuel lo hi->xs.toList.getD k 0<j)/\(∀k,R3 xs j fuel lo hi<=k->k<xs.toList.length->j<=xs.toList.getD k 0)
 |0,lo,hi,S,R,Z,Y,X=>by
  have e:lo=hi:=by omega
  subst e;exact ⟨Z,Y,X⟩
 |fuel+1,lo,hi,S,R,Z,Y,X=>by
  unfold R3;by_cases U:lo<hi
  ·rw [é U]
   dsimp only;have T:(lo+hi) / 2<xs.toList.length:=by omega
   rw [Hl,Hm _ T j 0];by_cases W:xs.toList.getD ((lo+hi) / 2) 0<j
   ·rw [é W]
    refine uP xs j hr fuel _ _ (by omega) (by omega) Z (fun k Q=>?_) X;by_cases V:k=(lo+hi) / 2
    ·rw [V];exact W
    ·exact Nat.lt_trans (qS hr (by omega) T) W
   ·rw [õ W]
    refine uP xs j hr fuel _ _ (by omega) (by omega) (by omega) Y (fun k Q V=>?_);by_cases P:k=(lo+hi) / 2
    ·rw [P];omega
    ·have:=qS hr (show (lo+hi) / 2<k by omega) V
     omega
  ·rw [õ U]
   have e:lo=hi:=by omega
   subst e;exact ⟨Z,Y,X⟩
def zk (xs:Array Nat) (j:Nat) (hr:ij xs.toList):þ xs j<=xs.toList.length/\(∀k,k<þ xs j->xs.toList.getD k 0<j)/\(∀k,þ xs j<=k->k<xs.toList.length->j<=xs.toList.getD k 0):=by
 unfold þ;exact uP xs j hr xs.size 0 xs.size (by omega) (ċ _) (by simp) (fun k Z=>by omega) (fun k Z Y=>by simp at Y;omega)
def EY {l:List Nat} {p j:Nat} (h:∀k,k<p->l.getD k 0<j):∀x∈l.take p,x<j:=by
 intro x Y;obtain ⟨k,X,e⟩:=η Y;have Z:k<p/\k<l.length:=by rw [ż] at X;omega
 have:=h k Z.1;rw [List.getElem_take] at e;rw [<- e];simpa [Ś,Ì Z.2] using this
def EZ {l:List Nat} {p j:Nat} (h:∀k,p<=k->k<l.length->j<=l.getD k 0):∀x∈l.drop p,j<=x:=by
 intro x Y;obtain ⟨k,X,e⟩:=η Y;have Z:p+k<l.length:=by rw [List.length_drop] at X;omega
 have:=h (p+k) (by omega) Z;rw [List.getElem_drop] at e;rw [<- e];simpa [Ś,Ì Z] using this
def Hn {xs:Array Nat} {j:Nat} (hr:ij xs.toList) (hn:xs[þ xs j]?≠some j):ij (SetTable.insertAt xs (þ xs j) j).toList:=by
 obtain ⟨T,V,U⟩:=zk xs j hr;rw [SetTable.toList_insertAt];have a1:=EY V;have a2:∀x∈xs.toList.drop (þ xs j),j<x:=by
  intro x hx;have Y:=EZ U;have X:ij (xs.toList.drop (þ xs j)):=Sb (List.drop_sublist _ _) hr
  cases Z:xs.toList.drop (þ xs j) with
  |nil=>rw [Z] at hx;cases hx
  |cons y r =>
   rw [Z] at X hx Y;have hy:j≠y:=by
    intro e;apply hn;have:(xs.toList.drop (þ xs j))[0]?=some y:=by rw [Z];rfl
    rw [List.getElem?_drop] at this;have e2:xs.toList[þ xs j]?=some y:=by simpa using this
    rw [<- Ŋ,e2,e]
   have W:j<y:=Nat.lt_of_le_of_ne (Y y Ø) hy
   rcases Ù.mp hx with e|hx
   ·rw [e];exact W
   ·exact Nat.lt_trans W ((Ĉ.mp X).1 x hx)
 first
  |(refine List.pairwise_append.mpr ⟨Sb (List.take_sublist _ _) hr,Ĉ.mpr ⟨a2,Sb (List.drop_sublist _ _) hr⟩,fun x hx y hy=>?_⟩
    rcases Ù.mp hy with e|hy
    ·rw [e];exact a1 x hx
    ·exact Nat.lt_trans (a1 x hx) (a2 y hy))
  |trace_state
theorem uQ (t:SetTable) (h:Int):∀(fuel:Nat) (p:SetTable.Probe) (j:Nat) (dm:Option Nat),(∀d,p.dummy=some d->t.slot d=.dummy)->SN t (fun _=>h+1) h fuel p=some (.empty j dm)->t.slot j=.empty/\∀d,dm=some d->t.slot d=.dummy
 |0,p,j,dm,Y,e=>by simp [SN] at e
 |fuel+1,p,j,dm,Y,e=>by
  unfold SN at e
  cases hs:t.slot p.j with
  |empty =>
   rw [hs] at e;simp at e;rw [<- e.1,<- e.2];exact ⟨hs,Y⟩
  |dummy =>
   rw [hs] at e;refine uQ t h fuel _ j dm (fun d Z=>?_) e;unfold SetTable.advance at Z;split at Z
   ·simp at Z;rw [<- Z];exact hs
   ·simp at Z;rw [<- Z];exact hs
  |live i =>
   rw [hs] at e;have X:(h+1==h)=false:=by simp;omega
   simp only [X,Î,Ē] at e;refine uQ t h fuel _ j dm (fun d Z=>?_) e;unfold SetTable.advance at Z;split at Z
   ·exact Y d Z
   ·exact Y d Z
def zH {t:SetTable} {j:Nat} (h:t.slot j=.empty\/t.slot j=.dummy):t.place[þ t.place j]?≠some j:=by
 intro e;have:t.slot j=.live (þ t.place j):=by
  unfold SetTable.slot;simp [e]
 rw [this] at h
 rcases h with h|h<;>cases h
def Gg {t:SetTable} {h:Int} {j:Nat} {b:Bool} (e:t.freeSlot h=some (j,b)):t.place[þ t.place j]?≠some j:=by
 unfold SetTable.freeSlot SetTable.probe at e;split at e
 ·rename_i Y Z X
  have k:=uQ t h _ _ Y Z (fun d W=>by simp [SetTable.probeStart] at W) X;simp at e;rw [<- e.1]
  cases Z with
  |none=>exact zH (.inl k.1)
  |some d=>exact zH (.inr (k.2 d rfl))
 ·cases e
structure fE (led:Bool) (t:SetTable):Prop where
 led:t.led=led
 rise:t.plain=true->ij t.place.toList
def qw (h:fE led t) (n:Nat):fE led (t.standIn n):=⟨h.led,fun z=>by simp [SetTable.standIn] at z⟩
def Fs {led:Bool} {t:SetTable} (h:fE led t) (es:Array (Int×Ä)) (hs:Int) (x:Ä):fE led (layNew t es hs x).2.1:=by
 unfold layNew;split
 ·rename_i slot Y e
  dsimp only;unfold SetTable.orStandIn;have Z:fE led (t.put slot).1:=⟨h.led,fun z=>Hn (h.rise z) (Gg e)⟩;split
  ·exact Z
  ·exact qw Z _
 ·exact qw h _
def Ho {mask finger moves:Nat} {led plain:Bool} {hs:Array Int} {o:Array Nat} (e:SetTable.laid mask finger moves led plain hs=some (t,o)):fE led t/\t.plain=plain:=by
 unfold SetTable.laid at e
 cases X:SetTable.layClean mask hs with
 |none=>rw [X] at e;simp at e
 |some owner =>
  rw [X] at e;simp at e;obtain ⟨e1,e2⟩:=e;subst e1;refine ⟨⟨rfl,fun _=>?_⟩,rfl⟩;show ij (List.toArray _).toList;simp only [List.map_filterMap];refine List.pairwise_filterMap.mpr ?_;refine List.Pairwise.imp (R:=(· < ·)) ?_ (List.pairwise_lt_range);intro a b U x Z y Y
  cases W:(owner[a]?.getD none) with
  |none=>rw [W] at Z;simp at Z
  |some q =>
   cases V:(owner[b]?.getD none) with
   |none=>rw [V] at Y;simp at Y
   |some r =>
    rw [W] at Z;rw [V] at Y;simp at Z Y;omega
def Gh (h:fE led t) (es:Array (Int×Ä)) (n:Nat):fE led (relayAll t es n).2.1:=by
 unfold relayAll;split
 ·rename_i Z o e
  dsimp only;split
  ·unfold SetTable.relaid at e
   have k:=Ho e;exact ⟨k.1.led.trans h.led,k.1.rise⟩
  ·exact qw h _
 ·exact qw h _
def Gi (led:Bool):fE led (.fresh 0 0 led):=⟨rfl,fun _=>List.Pairwise.nil⟩
open PySem.Spec PyProof.Rows
section
variable {P:Û} {w:ú} {A:ã} {E:Ä->Ã->Prop} {s:Ã} {led:Bool}
def dU (P:Û) (w:ú) (led:Bool) (h:ħ) (a:Ò) (S:Int->Bool) (n:Nat):Prop :=
 ∃o Z Y t,h.get? a=some o/\o.ExactSet/\o.data=.set Z Y t/\ElemsOf (ŀ P w) Z.toList/\(∀k,S k=true↔∃e∈Z.toList,(ŀ P w).is k e.2=true)/\Z.size<Ÿ/\t.fits Z.size=true/\Z.size=n/\fE led t
def dU.at (x:dU P w led h a S n) (k:∀o,h.get? a=some o->h'.get? a=some o):dU P w led h' a S n:=by
 obtain ⟨o,Z,Y,t,X,r⟩:=x;exact ⟨o,Z,Y,t,k o X,r⟩
def dU.congr (x:dU P w led h a S n) (e:∀k,S k=S' k) (en:n=n'):dU P w led h a S' n':=by
 obtain rfl:S=S':=funext e;subst en;exact x
def uR {a:Ò} {u:Obj} {es fk:Array (Int×Ä)} {ep:Nat} {t t':SetTable} {h:ħ} (hu:h.get? a=some u) (hx:u.ExactSet) (hd:u.data=.set es ep t) {S:Int->Bool}
  (c1:ElemsOf (ŀ P w) fk.toList) (c2:∀k,S k=true↔∃e∈fk.toList,(ŀ P w).is k e.2=true) (c3:fk.size<Ÿ) (c4:t'.fits fk.size=true) (c5:fE led t') :
  (h.update a (Obj.putSet fk t')).get? a=some { u with data:=.set fk (ep+1) t' }/\dU P w led (h.update a (Obj.putSet fk t')) a S fk.size:=by
 have g:=(SetOf_store (knd:=ŀ P w) hu hx hd c1 c2 c3 c4).1;exact ⟨g,_,fk,ep+1,t',g,hx,rfl,c1,c2,c3,c4,rfl,c5⟩
def IY {a:Ò} {S:Int->Bool} {n:Nat} {k:Int} {tk:Tok} {Q:Bool->Ã->Prop} (hS:dU P w led s.heap a S n) (Mg:n+1<Ÿ)
  (h:∀h',Ĭ a s.heap h'->dU P w led h' a (fun j=>S j||decide (j=k)) (if S k then n else n+1)->Q (!S k) { s with heap:=h' }) :
  Ô (á P w) A (setAddHashed a (.int k tk) ((ŀ P w).hash k)) Q E s:=by
 obtain ⟨u,W,d,t,R,H,O,G,F,m,B,y,i⟩:=hS;have ky:(ŀ P w).is k (.int k tk)=true:=intKind_is _ _ _ _;have sc:(Sv k tk).scannable=true:=rfl;have Rh:W.size+1<Ÿ:=by rw [y];exact Mg
 unfold setAddHashed setAddHashedIn;refine ą ?_;refine À (ŕ R O B ?_);dsimp only;rw [byScan_of sc m G,é rfl];unfold setAddByScan;refine À (À (ŝ ?_));refine À (wpAny_setScan_of ky R O B G ?_)
 cases g:W.toList.findIdx? (fun e=>(ŀ P w).is k e.2) with
 |some j =>
  dsimp only;obtain ⟨c,pj,_⟩:=List.findIdx?_eq_some_iff_getElem.mp g;have K:S k=true:=(F k).mpr ⟨W.toList[j],Sh c,pj⟩;have q:=h s.heap (Heap.SameBut.refl a s.heap) ⟨u,W,d,t,R,H,O,G,fun j'=>by
   rw [Bool.or_eq_true,ß,<- F j'];exact ⟨fun z=>z.elim id fun e=>by rw [e];exact K,SU⟩,m,B,by rw [K];exact y,i⟩
  rw [K] at q;exact Â (Â q)
 |none =>
  dsimp only;have K:S k=false:=by
   rw [<- Sm,F k];rintro ⟨e,X,pe⟩;have z:=List.findIdx?_eq_none_iff.mp g e X;rw [pe] at z;cases z
  have way:∀(b:Bool) {x:Ã} {v:Unit->Ã->Prop},v () x->Ô (á P w) A (match b with|true=>rule "set.scan.the-table-gave-way"|false=>pure ()) v E x :=
   fun b x v q=>by cases b<;>first|exact Â q|exact ŝ q
  have pm:=layNew_perm t W ((ŀ P w).hash k) (.int k tk);have r:=layNew_fits t W ((ŀ P w).hash k) (.int k tk);have D:=Fs i W ((ŀ P w).hash k) (.int k tk);generalize layNew t W ((ŀ P w).hash k) (.int k tk)=L at pm r D |-;obtain ⟨Z,t1,QX,Q5⟩:=L;dsimp only at pm r D |-;rw [Array.toList_push] at pm;have p:ElemsOf (ŀ P w) Z.toList:=(G.push ky sc).perm pm;have o:∀j,(S j||decide (j=k))=true↔∃e∈Z.toList,(ŀ P w).is j e.2=true:=mem_push_iff ky F pm;have z1:Z.size=n+1:=by
   have l:=pm.length_eq;rw [ð,ă,ă,y] at l;exact l
  have V:Z.size<Ÿ:=by omega
  refine À (way _ ?_);obtain ⟨g1,f⟩:=uR (S:=fun j=>S j||decide (j=k)) R H O p o V r D;have C:=Ď s.heap a (Obj.putSet Z t1)
  have fin:∀h',Ĭ a s.heap h'->dU P w led h' a (fun j=>S j||decide (j=k)) Z.size->Q true { s with heap:=h' }:=fun h' sb T=>by
   have q:=h h' sb;rw [K] at q;rw [z1] at T;exact q T
  have Y:=relayAll_perm t1 Z (R9 Z.size);have N:=relayAll_fits t1 Z (R9 Z.size);have M:=Gh D Z (R9 Z.size);have hv:hashByValue 8 (Sv k tk)=pure true:=rfl;split
  ·refine À ?_
   rw [hv];refine Â ?_;simp only [ē];refine À (R4 R O ?_ (Ů V));split
   ·generalize relayAll t1 Z (R9 Z.size)=L2 at Y N M |-
    obtain ⟨J,t2,Mh⟩:=L2;dsimp only at Y N M |-;have U:J.size=Z.size:=by
     have l:=Y.length_eq;rwa [ă,ă] at l
    have f2:∀j,(S j||decide (j=k))=true↔∃e∈J.toList,(ŀ P w).is j e.2=true:=fun j=>(o j).trans ⟨fun ⟨e,X,q⟩=>⟨e,Y.mem_iff.mpr X,q⟩,fun ⟨e,X,q⟩=>⟨e,Y.mem_iff.mp X,q⟩⟩;refine À (way _ ?_);refine À (R4 g1 rfl ?_ (Ů (by rw [U];exact V)));obtain ⟨g2,I⟩:=uR (S:=fun j=>S j||decide (j=k)) (led:=led) g1 H rfl (p.perm Y) f2 (by rw [U];exact V) N M;rw [U] at I;exact Â (Â (fin _ (C.trans (Ď _ a _)) I))
   ·exact Â (Â (fin _ C f))
  ·refine À (Â ?_)
   simp only [ē];refine À (R4 R O ?_ (Ů V));split
   ·generalize relayAll t1 Z (R9 Z.size)=L2 at Y N M |-
    obtain ⟨J,t2,Mh⟩:=L2;dsimp only at Y N M |-;have U:J.size=Z.size:=by
     have l:=Y.length_eq;rwa [ă,ă] at l
    have f2:∀j,(S j||decide (j=k))=true↔∃e∈J.toList,(ŀ P w).is j e.2=true:=fun j=>(o j).trans ⟨fun ⟨e,X,q⟩=>⟨e,Y.mem_iff.mpr X,q⟩,fun ⟨e,X,q⟩=>⟨e,Y.mem_iff.mp X,q⟩⟩;refine À (way _ ?_);refine À (R4 g1 rfl ?_ (Ů (by rw [U];exact V)));obtain ⟨g2,I⟩:=uR (S:=fun j=>S j||decide (j=k)) (led:=led) g1 H rfl (p.perm Y) f2 (by rw [U];exact V) N M;rw [U] at I;exact Â (Â (fin _ (C.trans (Ď _ a _)) I))
   ·exact Â (Â (fin _ C f))
end
def Ep:entryFor table "set.__iter__"=some š.«frozenset.__iter__»:=entryFor_alias (id':="frozenset.__iter__") (by kernel_rfl) rfl (by decide +kernel) (by kernel_rfl)
def gO:Slot "set_iterator" "__next__" "set_iterator.__next__" :=
 .of (owner:="set_iterator") (n:="__next__") (by rw [typeLookup_type,builtinLookup_eq_fast];kernel_rfl) (by decide +kernel) (by decide +kernel) (by decide +kernel)
  (by first|exact .inl (by decide +kernel)|exact .inr (by decide +kernel)) (by rw [isSubtype_type];kernel_rfl)
def qt:entryFor table "set_iterator.__next__"=some š.«set_iterator.__next__»:=entryFor_of_tree (by kernel_rfl)
def qu (a:Ä):argsOk "set_iterator.__next__" ⟨[a],[]⟩:=by unfold argsOk;kernel_rfl
def y8:Slot "set_iterator" "__iter__" "set_iterator.__iter__" :=
 .of (owner:="set_iterator") (n:="__iter__") (by rw [typeLookup_type,builtinLookup_eq_fast];kernel_rfl) (by decide +kernel) (by decide +kernel) (by decide +kernel)
  (by first|exact .inl (by decide +kernel)|exact .inr (by decide +kernel)) (by rw [isSubtype_type];kernel_rfl)
def fT (h:ħ) (I a:Ò) (first:Ä) (i n ep:Nat):Prop:=∃o,h.get? I=some o/\o.cls=.type "set_iterator"/\o.data=.fields #[first,.int i 0,.ref a,.int n 0,.int ep 0]
section
variable {P:Û} {w:ú} {A:ã} {E:Ä->Ã->Prop} {s:Ã}
def Ax {slot i n ep nx:Nat} {es:Array (Int×Ä)} {Q:Option Ä->Ã->Prop} (hit:fT s.heap I a (.int slot 0) i n ep)
 (hu:s.heap.get? a=some u) (hd:u.data=.set es ep t) (hf:t.fits es.size=true) (hn:es.size=n)
 (hs:∀(A':ã) (Q':Option (Ä×Nat)->Ã->Prop) (E':Ä->Ã->Prop),Q' (some (x,nx)) s->Ô (á P w) A' (setNext a slot i ep) Q' E' s)
 (hQ:∀h',fT h' I a (.int nx 0) (i+1) n ep->Ĭ I s.heap h'->Q (some x) { s with heap:=h' }):Ô (á P w) A (ţ (.ref I)) Q E s:=by
 obtain ⟨o,Y,X,Z⟩:=id hit;have W:s.TypeIs (.ref I) "set_iterator":=⟨o,Y,X⟩;unfold ţ;refine À (Ř (ü (name:=Ħ "__next__") W gO
  (Ā gO W qt ?_ (qu _))))
 unfold š.«set_iterator.__next__» slotArgs;simp only [ž,ğ,Î,↓reduceIte,bind_assoc,Ė,đ];refine À (Â ?_);refine À (wpAny_fieldsOf Y Z ?_);dsimp only;refine À (ř hu hd hf ?_);rw [hn];simp only [đ,Î,↓reduceIte,ĥ];refine À (hs _ _ _ ?_);dsimp only;refine À (Ş Y Z (by simp) ?_);refine À (Ş (î _ Y (ĵ (ā Z _))) (ā Z _) (by simp) ?_);refine Â ⟨x,rfl,Â (hQ _ ⟨_,î _ (î _ Y (ĵ (ā Z _))) (ĵ (ā (ā Z _) _)),(RZ ..).trans ((RZ ..).trans X),?_⟩ ((Ď ..).trans (Ď ..)))⟩;rw [ā (ā Z _)];simp [Ų]
def Ft (hm:m≠0) (h:Q (w.draws src (s.drawn.get src) % m) { s with drawn:=s.drawn.bump src }):Ô (á P w) A (choose src m) Q E s:=fun Z p Y=>by
 unfold choose;rw [Sem.wp_choose];exact ⟨hm,h⟩
def zI (hh:A.handled=none) (ho:s.heap.get? I=some o) (cF:o.data=.fields vs) (h2:2<vs.size)
 (hQ:∀h',RY I s.heap h'->Q none { s with heap:=h' }) :
  Ô (á P w) A.in1 (setField (.ref I) 2 .none >>= fun _=>newExc (.type "StopIteration") [] >>= fun e=>(raiseNew e:Sem Fin)) (fun fin s'=>∃v,fin=Fin.done (Flow.ret v)/\Ô (á P w) A (pure (some v)) Q E s')
   (fun e s'=>Ô (á P w) A (isInstance e (Ŭ "StopIteration") >>= fun b=>if b=true then pure none else throw e) Q E s') s:=by
 refine À (Ş ho cF h2 ?_);refine À ?_;simp only [newExc,newTuple];refine À (ì ?_ (by size_fits))
 refine À (m:=firstArgMember _ _) (R0 (a:=Value.none) (by first|rfl | (simp only [firstArgMember];rfl)) ?_)
 refine ì ?_ (by size_fits);simp only [raiseNew];refine À (wpAny_handled ?_)
 first|rw [show A.in1.handled=none from hh]|rw [hh]
 refine À (Â (wpAny_throw ?_));refine À (Sj (T:="StopIteration") (b:=true) ⟨_,Ç _ rfl,rfl⟩ isSubtype_stop ?_);exact Â (hQ _ (((Ď ..).extBut.push _).push _))
def Bd {slot i n ep:Nat} {es:Array (Int×Ä)} {Q:Option Ä->Ã->Prop} (hh:A.handled=none) (hit:fT s.heap I a (.int slot 0) i n ep)
 (hu:s.heap.get? a=some u) (hd:u.data=.set es ep t) (hf:t.fits es.size=true) (hn:es.size=n)
 (hs:∀(A':ã) (Q':Option (Ä×Nat)->Ã->Prop) (E':Ä->Ã->Prop),Q' none s->Ô (á P w) A' (setNext a slot i ep) Q' E' s)
 (hQ:∀h',RY I s.heap h'->Q none { s with heap:=h' }):Ô (á P w) A (ţ (.ref I)) Q E s:=by
 obtain ⟨o,Z,W,Y⟩:=id hit;have X:s.TypeIs (.ref I) "set_iterator":=⟨o,Z,W⟩;unfold ţ;refine À (Ř (ü (name:=Ħ "__next__") X gO
  (Ā gO X qt ?_ (qu _))))
 unfold š.«set_iterator.__next__» slotArgs;simp only [ž,ğ,Î,↓reduceIte,bind_assoc,Ė,đ];refine À (Â ?_);refine À (wpAny_fieldsOf Z Y ?_);dsimp only;refine À (ř hu hd hf ?_);rw [hn];simp only [đ,Î,↓reduceIte,ĥ];refine À (hs _ _ _ ?_);dsimp only;exact zI hh Z Y (by simp) hQ
def Hq {i n ep pl:Nat} {es:Array (Int×Ä)} {x:Int×Ä} {Q:Option Ä->Ã->Prop} (hit:fT s.heap I a (.ref tp) i n ep)
 (hu:s.heap.get? a=some u) (hd:u.data=.set es ep t) (hf:t.fits es.size=true) (hn:es.size=n) (pV:s.heap.IsTuple tp places) (aZ:places[i]?=some (.int pl tk)) (hx:es[pl]?=some x)
 (hQ:∀h',fT h' I a (.ref tp) (i+1) n ep->Ĭ I s.heap h'->Q (some x.2) { s with heap:=h' }):Ô (á P w) A (ţ (.ref I)) Q E s:=by
 obtain ⟨o,Z,X,Y⟩:=id hit;obtain ⟨op,V,T,np,U⟩:=pV;have W:s.TypeIs (.ref I) "set_iterator":=⟨o,Z,X⟩;unfold ţ;refine À (Ř (ü (name:=Ħ "__next__") W gO
  (Ā gO W qt ?_ (qu _))))
 unfold š.«set_iterator.__next__» slotArgs;simp only [ž,ğ,Î,↓reduceIte,bind_assoc,Ė,đ];refine À (Â ?_);refine À (wpAny_fieldsOf Z Y ?_);dsimp only;refine À (ř hu hd hf ?_);rw [hn];simp only [đ,Î,↓reduceIte,ĥ];refine À (ý V U ?_);dsimp only;rw [aZ];dsimp only;unfold setNextDrawn;refine À (À (ŕ hu hd hf ?_));dsimp only;simp only [đ,Î,↓reduceIte,ĥ];rw [hx];dsimp only;refine Â ?_;refine À (Ş Z Y (by simp) ?_);refine Â ⟨x.2,rfl,Â (hQ _ ⟨_,î _ Z (ĵ (ā Y _)),(RZ ..).trans X,?_⟩ (Ď ..))⟩;rw [ā Y];simp [Ų]
def IZ (hh:A.handled=none) (hit:fT s.heap I a (.ref tp) i n ep)
 (hu:s.heap.get? a=some u) (hd:u.data=.set es ep t) (hf:t.fits es.size=true) (hn:es.size=n) (pV:s.heap.IsTuple tp places) (aZ:places[i]?=none)
 (hQ:∀h',RY I s.heap h'->Q none { s with heap:=h' }):Ô (á P w) A (ţ (.ref I)) Q E s:=by
 obtain ⟨o,Z,W,Y⟩:=id hit;obtain ⟨op,V,T,np,U⟩:=pV;have X:s.TypeIs (.ref I) "set_iterator":=⟨o,Z,W⟩;unfold ţ;refine À (Ř (ü (name:=Ħ "__next__") X gO
  (Ā gO X qt ?_ (qu _))))
 unfold š.«set_iterator.__next__» slotArgs;simp only [ž,ğ,Î,↓reduceIte,bind_assoc,Ė,đ];refine À (Â ?_);refine À (wpAny_fieldsOf Z Y ?_);dsimp only;refine À (ř hu hd hf ?_);rw [hn];simp only [đ,Î,↓reduceIte,ĥ];refine À (ý V U ?_);dsimp only;rw [aZ];dsimp only;refine À (Ş Z Y (by simp) ?_)
 exact zI (s:={ s with heap:=_ }) hh (î _ Z (ĵ (ā Y _))) (ā Y _) (by simp) fun h' e=>hQ h' (Heap.ExtBut.trans (Ď ..).extBut e)
end
def Eu:entryFor table "set_iterator.__iter__"=some š.«dict_keyiterator.__iter__»:=entryFor_alias (id':="dict_keyiterator.__iter__") (by kernel_rfl) rfl (by decide +kernel) (by kernel_rfl)
def EK (a:Ä):argsOk "set_iterator.__iter__" ⟨[a],[]⟩:=by unfold argsOk;kernel_rfl
section
variable {P:Û} {w:ú} {A:ã} {E:Ä->Ã->Prop} {s:Ã}
def uT (hit:fT s.heap I a f i n ep) (h:Q (.ref I) s):Ô (á P w) A (pyIter (.ref I)) Q E s:=by
 obtain ⟨o,Y,X,W⟩:=id hit;have Z:s.TypeIs (.ref I) "set_iterator":=⟨o,Y,X⟩;refine wpAny_pyIter_slot Z y8 (Ā y8 Z Eu ?_ (EK _));show Ô _ _ (ret (.ref I)) _ _ s;exact Â ⟨_,rfl,"set_iterator",_,Z,gO.lookup,h⟩
def fT.at (x:fT h I a f i n ep) (k:∀o,h.get? I=some o->h'.get? I=some o):fT h' I a f i n ep:=by
 obtain ⟨o,Z,r⟩:=x;exact ⟨o,k o Z,r⟩
def zJ (fq:w.params.followText "set-order"=true) (hu:s.heap.get? a=some u) (hd:u.data=.set es ep t) (hf:t.fits es.size=true)
 (h:Q' (((ś (w.params.setOrder a ep) es)[i]?).map fun e=>(e.2,slot)) s):Ô (á P w) A (setNext a slot i ep) Q' E s:=by
 unfold setNext;refine À (ŕ hu hd hf ?_);dsimp only;unfold setsByText;refine À (À (Ŝ (Â ?_)))
 show Ô _ _ (if w.params.followText "set-order"=true then _ else _) _ _ _
 rw [é fq];simp only [đ,Î,↓reduceIte];unfold setWalk;refine À (À (ŕ hu hd hf ?_));dsimp only;unfold setsByText;refine À (À (Ŝ (Â ?_)))
 show Ô _ _ (if w.params.followText "set-order"=true then _ else _) _ _ _
 rw [é fq];refine À (Ŝ (Â ?_));exact Â h
def qH (hr:ij xs.toList) (hi:i<=xs.toList.length) (h1:∀k,k<i->xs.toList.getD k 0<slot) (h2:∀k,i<=k->k<xs.toList.length->slot<=xs.toList.getD k 0):þ xs slot=i:=by
 obtain ⟨V,a1,a2⟩:=zk xs slot hr;by_cases Z:þ xs slot<i
 ·have Y:=a2 _ (S0 _) (by omega)
  have X:=h1 _ Z;omega
 ·by_cases W:i<þ xs slot
  ·have Y:=a1 i W
   have X:=h2 i (S0 _) (by omega);omega
  ·omega
def zl (fq:w.params.followText "set-order"=false) (hu:s.heap.get? a=some u) (hd:u.data=.set es ep t) (hf:t.fits es.size=true)
 (hl:t.led=true) (hp:t.plain=true\/es.size<=1) (hb:þ t.place slot=i)
 (h:Q' (match es[i]?,t.place[i]? with|some (_,x),some j=>some (x,j+1) | _,_=>none) s):Ô (á P w) A (setNext a slot i ep) Q' E s:=by
 unfold setNext;refine À (ŕ hu hd hf ?_);dsimp only;unfold setsByText;refine À (À (Ŝ (Â ?_)))
 show Ô _ _ (if w.params.followText "set-order"=true then _ else _) _ _ _
 rw [õ (by rw [fq];decide)];split
 ·rename_i Y
  have Z:(!t.plain&&decide (es.size > 1))=true:=Y
  rcases hp with hp|hp
  ·rw [hp] at Z;cases Z
  ·simp at Z;omega
 ·refine À ?_
  show Ô _ _ (if (!t.led&&!es.isEmpty)=true then _ else _) _ _ _
  rw [hl];simp only [ğ,SI,Î,↓reduceIte];refine Â ?_;rw [hb];exact Â h
def tN (sb:Ĭ I s.heap h'):Moved [I] (fun a b=>b=a) s { s with heap:=h' }:=⟨fun b o Z e=>by rw [sb.2 b (fun z=>Z (by simp [z]))];exact e,rfl,rfl,rfl,S0 _⟩
def tV (sb:RY I s.heap h'):Moved [I] (fun a b=>b=a) s { s with heap:=h' }:=⟨fun b o Z e=>sb b o (fun z=>Z (by simp [z])) e,rfl,rfl,rfl,S0 _⟩
end
def Fu (hh:A.handled=none) (cw:a≠I) (fq:w.params.followText "set-order"=true) (hd:u.data=.set es ep t) (hf:t.fits es.size=true) (hsz:(ś (w.params.setOrder a ep) es).size=es.size) :
  WalksS P w A I [I,a] [I] (fun a b=>b=a) es.size (fun i v=>((ś (w.params.setOrder a ep) es).map (·.2))[i]?=some v) (fun i s=>fT s.heap I a (.int 0 0) i es.size ep/\s.heap.get? a=some u) where
 sub:=fun b W=>by simp at W;simp [W]
 grefl:=fun _=>rfl
 gtrans:=fun _ _ _ T S=>S.trans T
 frame:=fun i s V L Z _ U=>⟨Z.1.at fun o e=>U I (by simp) o e,U a (by simp) _ Z.2⟩
 item:=fun i s Q E hi Z Y=>by
  have R:i<(ś (w.params.setOrder a ep) es).size:=by rw [hsz];exact hi
  have ex:(ś (w.params.setOrder a ep) es)[i]?=some (ś (w.params.setOrder a ep) es)[i]:=by simp [R]
  refine Ax (nx:=0) (x:=(ś (w.params.setOrder a ep) es)[i].2) (slot:=0) Z.1 Z.2 hd hf rfl (fun O N M q=>zJ fq Z.2 hd hf (by rw [ex];exact q)) fun V it X=>?_;exact Y _ _ (by simp [ex]) ⟨it,by rw [X.2 a cw];exact Z.2⟩ (tN X)
 done:=fun s Q E Z Y=>by
  refine Bd (slot:=0) hh Z.1 Z.2 hd hf rfl (fun O N M q=>zJ fq Z.2 hd hf (by
   rw [show (ś (w.params.setOrder a ep) es)[es.size]?=none by simp [hsz]];exact q)) fun V X=>Y _ (tV X)
 self:=fun i s Q E Z Y=>uT Z.1 Y
def E1 (hh:A.handled=none) (cw:a≠I) (fq:w.params.followText "set-order"=false) (hd:u.data=.set es ep t) (hf:t.fits es.size=true) (hl:t.led=true) (hp:t.plain=true\/es.size<=1) (hr:ij t.place.toList) :
  WalksS P w A I [I,a] [I] (fun a b=>b=a) es.size (fun i v=>(es.map (·.2))[i]?=some v) (fun i s=>∃slot:Nat,fT s.heap I a (.int slot 0) i es.size ep/\s.heap.get? a=some u/\i<=es.size/\(∀k,k<i->t.place.toList.getD k 0<slot)/\∀k,i<=k->k<t.place.toList.length->slot<=t.place.toList.getD k 0) where
 sub:=fun b N=>by simp at N;simp [N]
 grefl:=fun _=>rfl
 gtrans:=fun _ _ _ L K=>K.trans L
 frame:=fun i s M B Y _ V=>by
  obtain ⟨slot,X,Z,T⟩:=Y;exact ⟨slot,X.at fun o e=>V I (by simp) o e,V a (by simp) _ Z,T⟩
 item:=fun i s Q E hi Y W=>by
  obtain ⟨slot,X,Z,T,S,R⟩:=Y;have J:t.place.toList.length=es.size:=by
   simp only [SetTable.fits,Í,beq_iff_eq,ß] at hf;simpa using hf.1
  have O:i<t.place.toList.length:=by omega
  have e1:es[i]?=some es[i]:=by simp [hi]
  have e2:t.place[i]?=some (t.place.toList.getD i 0):=by
   rw [<- Ŋ,Ì O];simp [Ś,Ì O]
  refine Ax (nx:=t.place.toList.getD i 0+1) (x:=es[i].2) (slot:=slot) X Z hd hf rfl (fun H G F q=>zl fq Z hd hf hl hp (qH hr (by omega) S R) (by rw [e1,e2];exact q)) fun M it U=>?_;refine W _ _ (by simp [e1]) ⟨_,it,by rw [U.2 a cw];exact Z,hi,fun k V=>?_,fun k V D=>?_⟩ (tN U)
  ·by_cases C:k=i
   ·rw [C];omega
   ·have:=qS hr (show k<i by omega) O
    omega
  ·have:=qS hr (show i<k by omega) D
   omega
 done:=fun s Q E Y W=>by
  obtain ⟨slot,X,Z,T,S,R⟩:=Y;have J:t.place.toList.length=es.size:=by
   simp only [SetTable.fits,Í,beq_iff_eq,ß] at hf;simpa using hf.1
  refine Bd (slot:=slot) hh X Z hd hf rfl (fun H G F q=>zl fq Z hd hf hl hp (qH hr (by omega) S R) (by
   rw [show es[es.size]?=none by simp];exact q)) fun M U=>W _ (tV U)
 self:=fun i s Q E Y W=>by
  obtain ⟨slot,X,_⟩:=Y;exact uT X W
def E2 (hh:A.handled=none) (cw:a≠I) (OW:tp≠I) (hd:u.data=.set es ep t) (hf:t.fits es.size=true) (pl:List Nat) (aZ:pl.length=es.size) (xN:∀x∈pl,x<es.size) :
  WalksS P w A I [I,a,tp] [I] (fun a b=>b=a) es.size (fun i v=>(pl.map fun k=>(es.getD k (0,Value.none)).2)[i]?=some v) (fun i s=>fT s.heap I a (.ref tp) i es.size ep/\s.heap.get? a=some u/\s.heap.IsTuple tp (pl.map fun (k:Nat)=>Ų k).toArray) where
 sub:=fun b U=>by simp at U;simp [U]
 grefl:=fun _=>rfl
 gtrans:=fun _ _ _ R O=>O.trans R
 frame:=fun i s T tk Z _ Y=>⟨Z.1.at fun o e=>Y I (by simp) o e,Y a (by simp) _ Z.2.1,let ⟨o,V,r⟩:=Z.2.2;⟨o,Y tp (by simp) o V,r⟩⟩
 item:=fun i s Q E hi Z X=>by
  have S:i<pl.length:=by omega
  have e1:pl[i]?=some pl[i]:=Ì S;have Y:=xN _ (Sh S);refine Hq (pl:=pl[i]) (x:=es.getD pl[i] (0,Value.none)) (tk:=0) Z.1 Z.2.1 hd hf rfl Z.2.2 (by simp [e1,Ų]) (by simp [Y,Array.getD]) fun T it W=>?_
  refine X _ _ (by simp [e1]) ⟨it,by rw [W.2 a cw];exact Z.2.1,let ⟨o,V,r⟩:=Z.2.2;⟨o,by rw [W.2 tp OW];exact V,r⟩⟩ (tN W)
 done:=fun s Q E Z X=>IZ hh Z.1 Z.2.1 hd hf rfl Z.2.2 (by simp [aZ]) fun T W=>X _ (tV W)
 self:=fun i s Q E Z X=>uT Z.1 X
noncomputable def cK (w:ú):Bool:=!(w.params.followText "set-order")
section
variable {P:Û} {w:ú} {A:ã} {E:Ä->Ã->Prop} {s:Ã}
def Hr (a:Ä)
 (hq:Q₁ (.ref s.heap.objs.size) { s with heap:=s.heap.push { cls:=.type "set",dict:=none,data:=.set #[] 0 (.fresh 0 0 (cK w)) } }) :
  ť (á P w) A (.call (.builtin "set.__new__") ⟨[.type "set",a],[]⟩) (wants Q₁ E) s:=by
 refine codeAny_of_tree ?_;show Ô _ A.in1 (Sn "set.__new__" ⟨[.type "set",a],[]⟩ >>= fun _=>again (.builtin "set.__new__" ⟨[.type "set",a],[]⟩)) _ _ s;refine À ?_;refine R0 (F.newCall_set_1 a) ?_;refine Â ⟨Ę F.plain_set_new _,Ą F.entry_set_new ?_⟩;rw [í F.plain_set_new _];unfold š.«set.__new__» Builtin.Frozenset.newClass;have ss:=sub_set_self;obtain ⟨Z,Y,X,W,V⟩:=s;dsimp only
 wp_walk
 refine Ŝ (Â ?_);dsimp only;simp only [newObj];refine À (wpAny_alloc ?_);exact Â (Â hq)
end
section
variable {P:Û} {w:ú} {A:ã} {R:Result->Ã->Prop} {I:Ò} {fp wr:List Ò} {G:Array GenState->Array GenState->Prop} {n:Nat} {Pv:Nat->Ä->Prop} {St:Nat->Ã->Prop} {led:Bool}
def Hs (val:Nat->Int) {i n:Nat} (h:i<=n):(Ŀ val i).length<=(Ŀ val n).length:=by
 induction h with
 |refl=>exact S0 _
 |step _ ih =>
  refine â ih ?_;rw [firstMet_succ,step_length]
  split<;>omega
def Ht (W:WalksS P w A.in1 I fp wr G n Pv St) (S:Ò) (pW:S∉fp)
  (val:Nat->Int) (NP:∀i v,Pv i v->∃t,v=.int (val i) t) (hb:(Ŀ val n).length+1<Ÿ) :
  ∀(k i:Nat) (s:Ã),n-i=k->i<=n->St i s ->
   dU P w led s.heap S (fun j=>(Ŀ val i).any (·==j)) (Ŀ val i).length ->
   (∀s',Moved (S::wr) G s s'->dU P w led s'.heap S (fun j=>(Ŀ val n).any (·==j)) (Ŀ val n).length->R (.ok (.ret .none)) s') ->
   ť (á P w) A (.builtin "set.update.loop" ⟨[.ref S,.ref I],[]⟩) R s:=by
 have nw:S∉wr:=fun z=>pW (W.sub _ z);have sw:∀b∈wr,b∈S::wr:=fun b z=>Õ _ z;intro k
 induction k with
 |zero =>
  intro i s U hi Z T Y;obtain rfl:i=n:=by omega
  refine Ą F.entry_set_update_loop ?_;rw [í RK _];show Ô _ A.in1 (ţ (.ref I) >>= _) _ _ s;refine À (W.done s _ _ Z fun s' m=>?_);show Ô _ A.in1 (ret Value.none) _ _ s';exact Â (Y s' (m.mono sw) (T.at fun o e=>m.heap S o nw e))
 |succ k ih =>
  intro i s U hi Z T Y;have lt:i<n:=by omega
  refine Ą F.entry_set_update_loop ?_;rw [í RK _];show Ô _ A.in1 (ţ (.ref I) >>= _) _ _ s;refine À (W.item i s _ _ lt Z fun v s' Q O m=>?_);obtain ⟨t,rfl⟩:=NP i v Q;have N:=T.at (h':=s'.heap) fun o e=>m.heap S o nw e;show Ô _ A.in1 (RT [Sv (val i) t] (setAdd S (.int (val i) t)) >>= _) _ _ s';refine À (ą ?_);unfold setAdd;refine ą ?_;refine À ((ŀ P w).pyHash (k:=val i) (intKind_is _ _ _ _) ?_);have room:(Ŀ val i).length+1<Ÿ:=by have:=Hs val hi;omega
  refine IY (s:={ s' with toks:=s'.toks+1 }) N room fun h' V M=>?_
  have L:dU P w led h' S (fun j=>(Ŀ val (i+1)).any (·==j)) (Ŀ val (i+1)).length:=M.congr (fun j=>by rw [firstMet_succ,step_any]) (by rw [firstMet_succ,step_length]);refine Â ⟨Ę RK _,ih (i+1) _ (by omega) lt (W.frame _ s' _ _ O (ŧ _) fun b X o e=>?_) L fun K J H=>?_⟩
  ·rw [V.2 b fun z:b=S=>pW (z ▸ X)];exact e
  ·refine Y K (Moved.trans W.gtrans ((m.mono sw).then_heap (ŧ _) fun b o X e=>?_) J) H
   rw [V.2 b fun z:b=S=>X (by rw [z];exact Ø)];exact e
end
section
variable {P:Û} {w:ú} {A:ã} {E:Ä->Ã->Prop} {s:Ã}
def Fv   
 (hh:A.handled=none) (hl:s.heap.IsTuple l its) (hi:RV its.toList ns) (hb:(Ŀ (fun i=>ns.getD i 0) its.size).length+1<Ÿ)
 (h:∀(h':ħ) (tk:Nat),dU P w (cK w) h' s.heap.objs.size (fun k'=>(Ŀ (fun i=>ns.getD i 0) its.size).any (·==k')) (Ŀ (fun i=>ns.getD i 0) its.size).length ->
 (∀b o,b<s.heap.objs.size->s.heap.get? b=some o->h'.get? b=some o)->Q (.ref s.heap.objs.size) { s with heap:=h',toks:=tk }) :
  Ô (á P w) A (call (.type "set") [.ref l]) Q E s:=by
 obtain ⟨c,tl,ur⟩:=Ũ.mro;have um:=Ũ.made;have ub:=Ũ.sub;refine Su (codeAny_of_tree ?_);show Ô _ _ (callAny (.type "set") _) _ _ _;refine Â ⟨Code.quiet_builtin _ (by decide +kernel),Ą F.entry_type_call ?_⟩;rw [Around.under_plain (weight_type_call_type "set" [.ref l] []) rfl];have h1:=Ũ.notType;have h2:=Ũ.canCreate;have Rj:=F.typeCall_set_1 (.ref l)
 repeat (any_goals (first|assumption|wp_step))
 refine Ŗ (Hr (.ref l) (E:=E) (Q₁:=fun obj V=>obj=.ref s.heap.objs.size/\V={ s with heap:=s.heap.push { cls:=.type "set",dict:=none,data:=.set #[] 0 (.fresh 0 0 (cK w)) } }) ⟨rfl,rfl⟩) fun r V Y=>?_
 cases r with
 |error e=>exact Y
 |ok M =>
  cases M with
  |ret obj =>
   obtain ⟨rfl,rfl⟩:=Y;have v:(s.heap.push { cls:=.type "set",dict:=none,data:=.set #[] 0 (.fresh 0 0 (cK w)) }).get? s.heap.objs.size=some { cls:=.type "set",dict:=none,data:=.set #[] 0 (.fresh 0 0 (cK w)) }:=Ç _ rfl
   have L:Shared.TypeIs { s with heap:=s.heap.push { cls:=.type "set",dict:=none,data:=.set #[] 0 (.fresh 0 0 (cK w)) } } (.ref s.heap.objs.size) "set":=⟨_,v,rfl⟩
   have vl:=Ũ.init.lookup;have vb:=Ũ.init.bind (.ref s.heap.objs.size)
   repeat (any_goals (first|assumption|wp_step))
   refine Ŗ (codeAny_call_builtin (R:=wants (fun r U=>r=.none/\∃h' tk,U={ s with heap:=h',toks:=tk } /\
     dU P w (cK w) h' s.heap.objs.size (fun k'=>(Ŀ (fun i=>ns.getD i 0) its.size).any (·==k')) (Ŀ (fun i=>ns.getD i 0) its.size).length /\
     (∀b o,b<s.heap.objs.size->s.heap.get? b=some o->h'.get? b=some o)) E) Ũ.init.plain F.entry_set_init (check_set_init_1 L ?_)) fun K U X=>?_
   ·obtain ⟨ol,T,S,nn,O⟩:=hl
    obtain ⟨oc,J,oa,I⟩:=ol;simp only at S O;subst S;subst O;have H:(s.heap.push { cls:=.type "set",dict:=none,data:=.set #[] 0 (.fresh 0 0 (cK w)) }).get? l=some { cls:=.type "tuple",dict:=J,data:=.seq its nn,slots:=I }:=Á _ T;have u1:=F.sub_tuple_set;have u2:=F.sub_tuple_frozenset;have cw:(Ŭ "tuple"==Ŭ "dict")=false:=by decide
    have ul:(s.heap.push { cls:=.type "set",dict:=none,data:=.set #[] 0 (.fresh 0 0 (cK w)) }).IsTuple l its:=⟨_,H,rfl,nn,rfl⟩;unfold š.«set.__init__» noKeywords Builtin.Frozenset.updateFrom;generalize G:pyIter=PI
    wp_walk
    subst G;refine wpAny_pyIter_tuple ul ?_;refine À (wpAny_runValue ?_);have N:l<s.heap.objs.size:=É T;have D:A.in1.in1.in1.handled=none:=by simp [hh]
    have C:l≠(s.heap.push { cls:=.type "set",dict:=none,data:=.set #[] 0 (.fresh 0 0 (cK w)) }).objs.size:=by
     rw [ö];exact Ý (ÿ N)
    have B:s.heap.objs.size∉[(s.heap.push { cls:=.type "set",dict:=none,data:=.set #[] 0 (.fresh 0 0 (cK w)) }).objs.size,l]:=by
     rw [ö];simp only [Ù,Ă,ė,or_false,not_or];exact ⟨Ý (Ņ _),Ĵ N⟩
    have z:∀(i:Nat) (v:Ä),its[i]?=some v->∃t,v=.int ((fun i=>ns.getD i 0) i) t:=fun i v y =>
     IntsAre.int_at hi i v (by rw [Ŋ];exact y)
    refine Ht (led:=cK w) ((Walks.tuple D _ l C its).toS) s.heap.objs.size
     B (fun i=>ns.getD i 0) z hb (its.size-0) 0 _ (by omega) (ċ _)
     ⟨⟨_,Ç _ rfl,rfl,rfl⟩,(ul.push _)⟩ ?v0 ?vR
    case v0 =>
     have x:((s.heap.push { cls:=.type "set",dict:=none,data:=.set #[] 0 (.fresh 0 0 (cK w)) }).push { cls:=.type "tuple_iterator",data:=.fields #[.ref l,.int 0 0] }).get? s.heap.objs.size
       = some { cls:=.type "set",dict:=none,data:=.set #[] 0 (.fresh 0 0 (cK w)) }:=Á _ v
     exact ⟨_,#[],0,_,x,⟨rfl,rfl,rfl⟩,rfl,fun e u=>by simp at u,fun k=>by simp [firstMet_zero],by unfold Ÿ;simp,by rfl,rfl,Gi _⟩
    case vR =>
     intro q Z W;obtain ⟨h',p,n,m,j⟩:=q;have g:p=s.gens:=Z.gens;have f:n=s.drawn:=Z.drawn;have d:j=s.os:=Z.os;subst g;subst f;subst d;show Ô _ _ _ _ _ _;refine Â ?_;show Ô _ _ (ret Value.none) _ _ _;refine Â ⟨rfl,h',m,rfl,W,fun b o hb e=>?_⟩;have v1:b≠s.heap.objs.size:=Ý hb;have v2:b≠(s.heap.push { cls:=.type "set",dict:=none,data:=.set #[] 0 (.fresh 0 0 (cK w)) }).objs.size:=by
      rw [ö];exact Ý (ÿ hb)
     exact Z.heap b o (by simp only [Ù,Ă,ė,or_false,not_or];exact ⟨v1,v2⟩) (Á _ (Á _ e))
   ·cases K with
    |error e=>exact X
    |ok a =>
     cases a with
     |ret r =>
      obtain ⟨rfl,h',tk,rfl,W,vk⟩:=X
      repeat (any_goals (first|assumption|wp_step))
      exact h _ _ W vk
     |_=>exact X.elim
  |_=>exact Y.elim
end
theorem tO {α:Type}:∀{l:List α} {i:Nat} {x:α},l[i]?=some x->(x::l.eraseIdx i).Perm l
 | [],i,x,h=>by simp at h
 |y::l,0,x,h=>by
  have:y=x:=by simpa using h
  subst this;exact List.Perm.refl _
 |y::l,i+1,x,h=>by
  have ih:=tO (l:=l) (i:=i) (x:=x) (by simpa using h);rw [List.eraseIdx_cons_succ];exact (List.Perm.swap y x _).trans (List.Perm.cons y ih)
theorem Ay {α:Type} (next:Nat->Nat):∀(fuel k:Nat) (left:List α) (out:Array α),left.length=fuel->(pickOrder.go next fuel k left out).toList.Perm (out.toList++left)
 |0,k,left,out,h=>by
  have:left=[]:=RL.mp h;subst this;unfold pickOrder.go;simp
 |fuel+1,k,left,out,h=>by
  unfold pickOrder.go
  have Z:next k % left.length<left.length:=Nat.mod_lt _ (by omega)
  rw [Ì Z];dsimp only;have Y:=tO (Ì Z)
  have ih:=Ay next fuel (k+1) (left.eraseIdx (next k % left.length)) (out.push left[next k % left.length]) (by rw [List.length_eraseIdx_of_lt Z];omega)
  refine ih.trans ?_;rw [Array.toList_push,ŭ];exact List.Perm.append_left _ Y
def zK {α:Type} (next:Nat->Nat) (xs:Array α):(ś next xs).toList.Perm xs.toList:=by
 unfold ś
 have:=Ay next xs.size 0 xs.toList #[] (by simp)
 simpa using this
section
variable {P:Û} {w:ú} {A:ã} {E:Ä->Ã->Prop}
def Fx {α:Type} (n:Nat):∀(xs:List α) (s:Ã) (Q:List α->Ã->Prop),xs.length=n->(∀ys d,ys.Perm xs->Q ys { s with drawn:=d })->Ô (á P w) A (drawOrder n xs) Q E s:=by
 induction n with
 |zero =>
  intro xs s Q h Z;have:xs=[]:=RL.mp h;subst this;unfold drawOrder;exact Â (Z [] s.drawn (List.Perm.refl _))
 |succ n ih =>
  intro xs s Q h Z
  cases xs with
  |nil=>simp at h
  |cons x xs =>
   unfold drawOrder;refine À (Ft (by simp) ?_);have Y:w.draws .order (s.drawn.get .order) % (x::xs).length<(x::xs).length:=Nat.mod_lt _ (by simp);rw [Ì Y];dsimp only;refine À (ih _ _ _ (by rw [List.length_eraseIdx_of_lt Y];omega) fun ys d X=>?_);refine Â (Z _ d ?_);exact (List.Perm.cons _ X).trans (tO (Ì Y))
def Hu {s:Ã} {a:Ò} {u:Obj} {es:Array (Int×Ä)} {ep:Nat} {t:SetTable} {Q:Ä->Ã->Prop} (hu:s.heap.get? a=some u) (hx:u.ExactSet) (hd:u.data=.set es ep t) (hf:t.fits es.size=true) (ht:fE (cK w) t)
  (hsz:es.size<=Ö)
  (hQ:∀(h':ħ) (d':Drawn) (I:Ò) (fp:List Ò) (St:Nat->Ã->Prop) (order:List Ä),(∀b o,s.heap.get? b=some o->h'.get? b=some o)->(∀b∈fp,b<h'.objs.size)->(∀b∈fp,b=a\/s.heap.objs.size<=b)->I∈fp->s.heap.objs.size<=I->order.Perm (es.toList.map (·.2)) ->
   (∀A':ã,A'.handled=none->WalksS P w A' I fp [I] (fun a b=>b=a) es.size (fun i v=>order[i]?=some v) St)->St 0 { s with heap:=h',drawn:=d' }->Q (.ref I) { s with heap:=h',drawn:=d' }) :
  Ô (á P w) A (pyIter (.ref a)) Q E s:=by
 have O:s.TypeIs (.ref a) "set":=⟨u,hu,hx.1⟩;have X:a<s.heap.objs.size:=É hu;refine wpAny_pyIter_slot O F.slot_set_iter (Ā F.slot_set_iter O Ep ?_ (F.args_set_iter_1 _));unfold š.«frozenset.__iter__» Builtin.Frozenset.slot0 slotArgs;simp only [ž,ğ,Î,↓reduceIte,bind_assoc,Ė,đ];unfold Builtin.Frozenset.addrOf Builtin.Frozenset.sizeOf;refine À (Â ?_)
 try dsimp only
 refine À (Â ?_);refine À (À (ř hu hd hf (Â ?_)));unfold setDrawn;refine À (À (ŕ hu hd hf ?_));dsimp only;unfold setsByText;refine À (À (Ŝ (Â ?_)));refine Â ?_
 show Ô _ _ (if (!(w.params.followText "set-order")&&(!t.plain&&decide (es.size > 1)))=true then _ else _) _ _ _
 have H:∀(W:Obj) b o,s.heap.get? b=some o->(s.heap.push W).get? b=some o:=fun W b o e=>Á _ e;by_cases V:(!w.params.followText "set-order"&&(!t.plain&&decide (es.size > 1)))=true
 ·rw [é V]
  refine À (Fx _ _ _ _ (by simp) fun U d hp=>?_);refine À ?_;simp only [newTuple];refine ì ?_ (by have:=hp.length_eq;rw [R5] at this;show (List.toArray _).size<=Ö;rw [Ð,Ë,this];exact hsz);have M:∀x∈U,x<es.size:=fun x hx=>by simpa using hp.mem_iff.mp hx
  have R:U.length=es.size:=by simpa using hp.length_eq
  refine À (wpAny_setEpoch_of (Á _ hu) hd hf ?_);refine À (ì ?_);refine Â ⟨_,rfl,"set_iterator",_,⟨_,Ç _ rfl,rfl⟩,gO.lookup,?_⟩;have Y:(s.heap.push { cls:=.type "tuple",data:=.seq (U.map fun (i:Nat)=>Ų i).toArray }).objs.size=s.heap.objs.size+1:=by simp [ö]
  refine hQ _ d _ [_,a,s.heap.objs.size] _ (U.map fun k=>(es.getD k (0,Value.none)).2) (fun b o e=>Á _ (Á _ e)) ?_ ?_ (by simp) (by rw [Y];exact ŧ _) ?_ (fun A' T=>E2 (u:=u) (t:=t) (ep:=ep) T (I:=_) (a:=a) (tp:=s.heap.objs.size) (by rw [Y];exact Ý (ÿ X)) (by rw [Y];exact Ý (Ņ _)) hd hf U R M) ⟨⟨_,Ç _ rfl,rfl,rfl⟩,Á _ (Á _ hu),⟨_,Á _ (Ç _ rfl),rfl,_,rfl⟩⟩
  ·intro b Z
   simp only [Ù,ė,or_false] at Z;rw [ö]
   rcases Z with e|e|e
   ·rw [e];exact Ņ _
   ·rw [e,Y];exact ÿ (ÿ X)
   ·rw [e,Y];exact ÿ (Ņ _)
  ·intro b Z
   simp only [Ù,ė,or_false] at Z
   rcases Z with e|e|e
   ·right;rw [e,Y];exact ŧ _
   ·exact .inl e
   ·right;rw [e];exact S0 _
  ·refine (List.Perm.map _ hp).trans ?_
   have:(ć es.size).map (fun k=>(es.getD k (0,Value.none)).2)=es.toList.map (·.2):=by
    apply R1;intro i;rw [è,è];by_cases hi:i<es.size
    ·rw [Sz hi,Ŋ]
     simp [Array.getD,hi]
    ·rw [ĕ (by simpa using hi),ĕ (by simpa using hi)]
     rfl
   rw [this]
 ·rw [õ V]
  refine À (Â ?_);refine À (wpAny_setEpoch_of hu hd hf ?_);refine À (ì ?_);refine Â ⟨_,rfl,"set_iterator",_,⟨_,Ç _ rfl,rfl⟩,gO.lookup,?_⟩;have aj:∀(W:Obj),∀b∈[s.heap.objs.size,a],b<(s.heap.push W).objs.size:=fun W b Z=>by
   simp only [Ù,ė,or_false] at Z;rw [ö]
   rcases Z with e|e
   ·rw [e];exact Ņ _
   ·rw [e];exact ÿ X
  have N:∀b∈[s.heap.objs.size,a],b=a\/s.heap.objs.size<=b:=fun b Z=>by
   simp only [Ù,ė,or_false] at Z
   rcases Z with e|e
   ·right;rw [e];exact S0 _
   ·exact .inl e
  cases S:w.params.followText "set-order" with
  |true =>
   have L:(ś (w.params.setOrder a ep) es).size=es.size:=by
    have:=(zK (w.params.setOrder a ep) es).length_eq;simpa using this
   have hw:∀A':ã,A'.handled=none->WalksS P w A' s.heap.objs.size [s.heap.objs.size,a] [s.heap.objs.size] (fun a b=>b=a) es.size (fun i v=>((ś (w.params.setOrder a ep) es).toList.map (·.2))[i]?=some v) _:=fun A' T=>by
    have:=Fu (P:=P) (u:=u) (t:=t) T (I:=s.heap.objs.size) (a:=a) (Ý X) S hd hf L;simpa using this
   exact hQ _ s.drawn _ [_,a] _ ((ś (w.params.setOrder a ep) es).toList.map (·.2)) (fun b o e=>Á _ e) (aj _) N (by simp) (S0 _) (List.Perm.map _ (zK _ _)) hw ⟨⟨_,Ç _ rfl,rfl,rfl⟩,Á _ hu⟩
  |false =>
   have hp:t.plain=true\/es.size<=1:=by
    rw [S] at V;simp at V
    cases K:t.plain with
    |true=>exact .inl rfl
    |false=>exact .inr (V K)
   have R:t.led=true:=by rw [ht.led];unfold cK;rw [S];rfl
   have J:ij t.place.toList:=by
    rcases hp with hp|hp
    ·exact ht.rise hp
    ·simp only [SetTable.fits,Í,beq_iff_eq,ß] at hf
     have hle:t.place.toList.length<=1:=by simp [hf.1];exact hp
     match t.place.toList,hle with
     | [],_=>exact List.Pairwise.nil
     | [x],_=>exact List.pairwise_singleton _ _
   have hw:∀A':ã,A'.handled=none->WalksS P w A' s.heap.objs.size [s.heap.objs.size,a] [s.heap.objs.size] (fun a b=>b=a) es.size (fun i v=>(es.toList.map (·.2))[i]?=some v) _:=fun A' T=>by
    have:=E1 (P:=P) (u:=u) (t:=t) (ep:=ep) T (I:=s.heap.objs.size) (a:=a) (Ý X) S hd hf R hp J;simpa using this
   exact hQ _ s.drawn _ [_,a] _ (es.toList.map (·.2)) (fun b o e=>Á _ e) (aj _) N (by simp) (S0 _) (List.Perm.refl _) hw ⟨0,⟨_,Ç _ rfl,rfl,rfl⟩,Á _ hu,ċ _,fun k G=>by omega,fun k _ _=>ċ _⟩
end
section
variable {P:Û} {w:ú} {A:ã} {E:Ä->Ã->Prop} {s:Ã}
def split_len:splitId "set.__len__"=some ("set","__len__"):=by decide +kernel
def ints_of (h:ElemsOf (ŀ P w) es) (hp:vs.Perm (es.map (·.2))):∃ns,RV vs ns:=by
 have Z:∀v∈vs,∃k t,v=.int k t:=fun v Z=>by
  obtain ⟨e,W,rfl⟩:=ξ.mp (hp.mem_iff.mp Z);obtain ⟨⟨k,X,_⟩,_⟩:=h e W
  cases Y:e.2 with
  |int i t=>exact ⟨i,t,rfl⟩
  |_=>rw [Y] at X;simp [ŀ,Value.isInt] at X
 clear hp
 induction vs with
 |nil=>exact ⟨[],.nil⟩
 |cons v vs ih =>
  obtain ⟨k,t,rfl⟩:=Z v Ø;obtain ⟨ns,V⟩:=ih fun x Y=>Z x (Õ _ Y);exact ⟨k::ns,.cons k t V⟩
def Be {α:Type} {c:Bool} {x y:Sem α} {Q:α->Ã->Prop} (hc:c=true) (h:Ô (á P w) A x Q E s):Ô (á P w) A (if c=true then x else y) Q E s:=by
 rw [é hc];exact h
def E3 {a:Ò} {u:Obj} {es:Array (Int×Ä)} {ep:Nat} {t:SetTable} {Q:List Ä->Ã->Prop} (hh:A.handled=none) (hu:s.heap.get? a=some u) (hx:u.ExactSet) (hd:u.data=.set es ep t) (hf:t.fits es.size=true) (ht:fE (cK w) t) (hsz:es.size<Ÿ)
  (hQ:∀(h':ħ) (d':Drawn) (tk:Nat) (vs:List Ä),s.heap.objs.size<=h'.objs.size->(∀b o,s.heap.get? b=some o->h'.get? b=some o)->vs.Perm (es.toList.map (·.2))->Q vs { s with heap:=h',drawn:=d',toks:=tk }):Ô (á P w) A (collect (.ref a)) Q E s:=by
 have O:es.size<=Ö:=Ů hsz;have N:a<s.heap.objs.size:=É hu;unfold collect;refine À (wpAny_runValue (Ą F.entry_proto_collect ?_));rw [í F.plain_proto_collect _];show Ô _ A.in1 (newList [] >>= fun l=>again (.builtin "list.__iadd__" ⟨[l,.ref a],[]⟩)) _ _ s;refine À (ì ?_);refine Â ⟨Ę F.plain_list_iadd _,Ą F.entry_list_iadd ?_⟩;rw [í F.plain_list_iadd _];show Ô _ A.in1 (ũ (.ref s.heap.objs.size) (.ref a) (.ref s.heap.objs.size)) _ _ _
 generalize U:({ s with heap:=s.heap.push { cls:=.type "list",data:=.seq ([]:List Ä).toArray } }:Ã)=Y
 have M:Y.heap.objs.size=s.heap.objs.size+1:=by rw [<- U];simp [ö]
 have r:∀b o,s.heap.get? b=some o->Y.heap.get? b=some o:=fun b o e=>by rw [<- U];exact Á _ e
 have T:Y.heap.get? a=some u:=by rw [<- U];exact Á _ hu
 have p:Y.TypeIs (.ref a) "set":=⟨u,T,hx.1⟩;have n:Y.heap.get? s.heap.objs.size=some { cls:=.type "list",data:=.seq ([]:List Ä).toArray }:=by rw [<- U];exact Ç _ rfl
 unfold ũ;refine À (ι p ?_);have k:Builtin.List.listSameRef (.ref s.heap.objs.size) (.ref a)=false:=by
  simp [Builtin.List.listSameRef];exact Ĵ N
 have i:(Ŭ "set"==Ŭ "list")=false:=by decide
 have h:(Ŭ "set"==Ŭ "tuple")=false:=by decide
 simp only [k,i,h,Bool.or_false,Î,Ē];refine À (Hu T hx hd hf ht O fun h' d' I g St order S k2 f k3 L K W d=>?_)
 have R:Shared.TypeIs { Y with heap:=h',drawn:=d' } (.ref a) "set":=⟨u,S _ _ T,hx.1⟩
 have J:=S _ _ n;refine À (ą ?_);unfold Builtin.List.listLengthHint;refine À (SA R F.slot_set_len.lookup ?_);dsimp only;rw [split_len];dsimp only;refine À (Sj R sub_set_self ?_);rw [õ (by decide)];refine Be (by decide +kernel) ?_;refine À (ι R ?_);dsimp only;refine Â ?_;refine Be (by decide +kernel) ?_
 ··refine À (ŝ ?_)
   refine À ?_;show Ô _ A.in1 (updateSeq s.heap.objs.size (·.push .none) >>= fun _=>updateSeq s.heap.objs.size (·.pop)) _ _ _;refine À (Ľ J rfl ?_);have H:=î (Ğ (·.push Value.none)) J rfl;refine Ľ H rfl ?_;have O3:=î (Ğ (·.pop)) H rfl;have G:s.heap.objs.size∉g:=fun hm=>by
    rcases f _ hm with e|e
    ·exact Ĵ N e
    ·rw [M] at e;exact Nat.not_succ_le_self _ e
   have D:∀b o,b≠s.heap.objs.size->h'.get? b=some o->((h'.update s.heap.objs.size (Ğ (·.push Value.none))).update s.heap.objs.size (Ğ (·.pop))).get? b=some o :=
    fun b o X e=>(å _ _ (ş X)).trans ((å _ _ (ş X)).trans e)
   refine Â ⟨Ę F.plain_extend_loop _,codeAny_extend_loopS (W A.in1 (by simp [hh])) O _ G _ es.size 0 _ _ _ rfl (ċ _) ((W A.in1 (by simp [hh])).frame 0 ({ Y with heap:=h',drawn:=d' }:Ã) _ Y.toks d (S0 _) fun b X o e=>D b o (fun z=>G (z ▸ X)) e) O3 (ItemsOf.nil _) fun C Z c m B y=>?_⟩
   show Ô _ A (load s.heap.objs.size >>= _) _ _ C;refine À (wpAny_load B ?_);refine Â ?_;have O4:order.length=es.size:=by simpa using K.length_eq
   have NS:Z.toList=order:=by
    apply R1;intro j;by_cases x:j<Z.size
    ·have e1:Z[j]?=some Z[j]:=by simp [x]
     rw [Ŋ,e1,y.2 j _ e1]
    ·rw [ĕ (by simpa using x),ĕ (by rw [O4,<- y.1];omega)]
   obtain ⟨h2,g2,v,t2,o2⟩:=C;have eg:g2=Y.gens:=m.gens;have ed:v=d':=m.drawn;have eo:o2=Y.os:=m.os;subst eg ed eo;have q:=hQ h2 v t2 Z.toList (Nat.le_of_lt (É B)) (fun b o e=>m.heap b o (fun X=>by
    simp only [Ù,ė,or_false] at X;have V:=É e
    rcases X with z|z
    ·rw [z] at V;exact ò _ V
    ·rw [M] at L;rw [z] at V;exact ò _ (È V (Nat.le_of_succ_le L))) (D b o (fun z=>by
     have V:=É e;rw [z] at V;exact ò _ V) (S b o (r b o e)))) (by rw [NS];exact K)
   rw [<- U];exact q
end
section
variable {P:Û} {w:ú} {A:ã} {E:Ä->Ã->Prop} {s:Ã}
def Fy (hh:A.handled=none) (hu:s.heap.get? a=some u) (hx:u.ExactSet) (hd:u.data=.set es ep t) (hf:t.fits es.size=true) (ht:fE (cK w) t) (xR:ElemsOf (ŀ P w) es.toList) (Rk:es.size<64)
 (h:∀(h':ħ) (d':Drawn) (tk:Nat) (p:Ò) (vs:List Ä) (ns:List Int) (out:List Ä) (ms:List Int) (e:Nat),(∀b o,s.heap.get? b=some o->h'.get? b=some o)->s.heap.objs.size<=p->vs.Perm (es.toList.map (·.2))->RV vs ns->h'.get? p=some { cls:=.type "list",data:=.seq out.toArray e }->RV out ms->ms.Perm ns->ms.Pairwise (·<=·)->Q (.ref p) { s with heap:=h',drawn:=d',toks:=tk }) :
  Ô (á P w) A (call (.builtin "sorted") [.ref a]) Q E s:=by
 refine Calls.call_function_entry kind_sorted plain_sorted entry_sorted (args_sorted1 _) ?_;unfold š.«sorted»;refine À (m:=checkCount "sorted" 1 1 _) (Â ?_);refine À (E3 (by simp [hh]) hu hx hd hf ht (by unfold Ÿ;omega) fun h' d' tk vs U T Z=>?_);obtain ⟨ns,X⟩:=ints_of xR Z;have S:vs.length<64:=by have:=Z.length_eq;simp at this;omega
 refine À (wpAny_newList ?_);have Y:(h'.push (seqObj "list" vs.toArray 0)).get? h'.objs.size=some (seqObj "list" vs.toArray 0):=Ç _ rfl;refine À (ą (Ā slot_list_sort ⟨_,Y,rfl⟩ entry_list_sort (list_sort_tree Y X S fun out ms a1 a2 R=>⟨_,rfl,?_⟩) (args_list_sort _)));obtain ⟨e,O⟩:=sortedHeap_at (out:=out) Y;refine Â ⟨_,rfl,h _ d' tk h'.objs.size vs ns out.toList ms e (fun b o N=>?_) ?_ Z X (by simpa [seqObj] using O) a1 a2 R⟩
 ·have W:=T b o N
  have V:=É W;rw [sortedHeap_old (Ý V) (by rw [size_push'];exact ÿ V)];exact Á _ W
 ·exact U
end
end TS
namespace L2
open PySem PySem.Spec PyProof.Rows
def iR (P:Û) (w:ú) (p:Ò) (ns:List Int):ħ->Prop:=fun h=>∃(S:Int->Bool) (n:Nat),TS.dU P w (TS.cK w) h p S n/\(∀k,S k=true↔k∈ns)/\n<=ns.length/\n=(ns.foldl step_dedup []).length
section
variable {X:Cx}
def n9 (l:List Int) (k:Int):(l.any (·==k))=true↔k∈l:=by
 rw [Si];exact ⟨fun ⟨x,Z,Y⟩=>by rw [<- beq_iff_eq.mp Y];exact Z,fun h=>⟨k,h,by simp⟩⟩
def Ja (hm:m=ns.length) (hS:TS.dU X.prog X.w (TS.cK X.w) h p (fun k'=>(Ŀ (fun i=>ns.getD i 0) m).any (·==k')) (Ŀ (fun i=>ns.getD i 0) m).length):iR X.prog X.w p ns h:=by
 subst hm;refine ⟨_,_,hS,fun k=>?_,firstMet_length_le _ _,?_⟩
 ·rw [firstMet_any,map_getD]
  exact n9 ns k
 ·unfold Ŀ
  rw [map_getD]
def Jb (hx:iR X.prog X.w p ns h):ck X.prog X.w (upd H p (.ext (iR X.prog X.w p ns))) h p (.ext (iR X.prog X.w p ns)):=by
 refine ⟨hx,?_,fun Y W q k=>?_⟩
 ·obtain ⟨_,_,⟨o,_,_,_,Z,_⟩,_⟩:=hx
  exact ⟨o,Z⟩
 ·obtain ⟨S,n,T,r⟩:=q
  exact ⟨S,n,T.at k,r⟩
def Fz (hc:X.calm=true):bK X (.type "set") (fun xs H Q=>∃(a:Ò) (ns:List Int),xs=[.ref a]/\aT X.K H a (ns.map V.int)/\ns.length<4000/\∀p,H p=none->Q (.ref p) (upd H p (.ext (iR X.prog X.w p ns)))):=by
 intro P s σ H xs O Q I r h;obtain ⟨a,ns,rfl,W,N,q⟩:=h;obtain ⟨u,rfl,U⟩:=vals1 r;cases U;obtain ⟨its,Z,p,_⟩:=I.tuple W;have Y:its.toArray.size=ns.length:=by
  have e:=Z.length;rw [Ë] at e;simpa using e.symm
 refine TS.Fv (its:=its.toArray) (ns:=ns) (I.ok.hd hc) p (by simpa using intsAre_of Z) (by rw [Y];have:=firstMet_length_le (fun i=>ns.getD i 0) ns.length;show _ + 1<4096;omega) fun M T S R=>?_;exact ⟨.ref _,_,I.laid (t':=T) (fun b o e=>R b o (É e) e) (S0 _) (Jb (Ja Y S)),rfl,q _ (I.au.fresh (S0 _))⟩
theorem y9:∀{out:List Ä} {ms:List Int},RV out ms->Vals (ms.map V.int) out
 |_,_,.nil=>.nil
 |_,_,.cons n t h=>.cons ⟨t,rfl⟩ (y9 h)
theorem tL:∀(ns acc:List Int),acc.Nodup->(ns.foldl step_dedup acc).Nodup
 | [],acc,h=>h
 |n::ns,acc,h=>by
  refine tL ns _ ?_;unfold step_dedup;split
  ·exact h
  ·rename_i Z
   rw [Sm] at Z;refine List.nodup_append.mpr ⟨h,by simp,fun a Y b X=>?_⟩;have:b=n:=by simpa using X
   subst this;intro e;subst e;rw [(n9 acc a).mpr Y] at Z;cases Z
theorem zW:∀{vs:List Ä} {ns:List Int},RV vs ns->∀k,k∈ns↔∃t,Sv k t∈vs
 |_,_,.nil,k=>by simp
 |_,_,.cons n t h,k=>by
  rw [Ù,zW h k];constructor
  ·rintro (e | ⟨Z,h'⟩)
   ·subst e;exact ⟨t,Ø⟩
   ·exact ⟨Z,Õ _ h'⟩
  ·rintro ⟨Z,h'⟩
   rcases Ù.mp h' with e|h'
   ·injection e with e _;exact .inl e
   ·exact .inr ⟨Z,h'⟩
theorem sub_len:∀{m l:List Int},m.Nodup->(∀k,k∈m->k∈l)->m.length<=l.length
 | [],l,_,_=>ċ _
 |x::m,l,h,Z=>by
  obtain ⟨W,V⟩:=Ŧ.mp h;have Y:=Z x Ø;have ih:=sub_len (m:=m) (l:=l.erase x) V fun k X=>(List.mem_erase_of_ne (fun (e:k=x)=>W (by rw [<- e];exact X))).mpr (Z k (Õ _ X));rw [List.length_erase_of_mem Y] at ih;have:=List.length_pos_of_mem Y;rw [ø];omega
theorem za:∀{l m:List Int},m.Nodup->(∀k,k∈m↔k∈l)->l.length<=m.length->l.Nodup
 | [],m,_,_,_=>List.nodup_nil
 |a::r,m,Z,Y,X=>by
  have W:a∉r:=fun h=>by
   have:=sub_len Z fun k V=>(Ù.mp ((Y k).mp V)).elim (fun e=>e ▸ h) id;rw [ø] at X;omega
  have U:a∈m:=(Y a).mpr Ø;refine Ŧ.mpr ⟨W,za (m:=m.erase a) (Z.erase a) (fun k=>?_) ?_⟩
  ·rw [Z.mem_erase_iff,Y k,Ù]
   constructor
   ·rintro ⟨T,h2|h2⟩
    ·exact absurd h2 T
    ·exact h2
   ·intro h
    exact ⟨fun e=>W (e ▸ h),.inr h⟩
  ·rw [List.length_erase_of_mem U]
   rw [ø] at X;omega
def zL (ns:List Int) (k:Int):k∈ns.foldl step_dedup []↔k∈ns:=by
 have:=firstMet_any (fun i=>ns.getD i 0) ns.length k;unfold Ŀ at this;rw [map_getD] at this;rw [<- n9,<- n9,this]
def EL (hc:X.calm=true):bK X (.builtin "sorted") (fun xs H Q=>∃(p:Ò) (ns:List Int),xs=[.ref p]/\H p=some (.ext (iR X.prog X.w p ns))/\(ns.foldl step_dedup []).length<64 /\
  ∀(l:Ò) (ms:List Int),H l=none->ms.Pairwise (· < ·)->(∀k,k∈ms↔k∈ns)->Q (.ref l) (upd H l (.lst (ms.map V.int)))):=by
 intro π s σ H xs us Q I r h;obtain ⟨p,ns,rfl,K,hl,q⟩:=h;obtain ⟨v,rfl,G⟩:=vals1 r;cases G;obtain ⟨⟨S,n,⟨u,es,ep,t,F,E,hd,D,C,P,B,A,z⟩,y,Rl,m⟩,_⟩:=I.au p _ K;refine TS.Fy (I.ok.hd hc) F E hd B z D (by omega) fun j g O l vs ks out ms e f N Y W d c U k8=>?_;have M:∀k,k∈ms↔k∈ns:=fun k=>by
  rw [U.mem_iff,zW W k,<- y k,C k];constructor
  ·rintro ⟨t',xT⟩
   obtain ⟨x,T,Z⟩:=ξ.mp (Y.mem_iff.mp xT);exact ⟨x,T,by rw [Z];exact intKind_is _ _ _ _⟩
  ·rintro ⟨x,T,Z⟩
   obtain ⟨i,t',L⟩:∃i t',x.2=.int i t':=by
    cases hv:x.2 with
    |int i t'=>exact ⟨i,t',rfl⟩
    |_=>rw [hv] at Z;simp [ŀ,Value.isInt] at Z
   have O6:k=i:=(ŀ X.prog X.w).inj (.int i t') k i (by rw [<- L];exact Z) (intKind_is _ _ _ _);subst O6;exact ⟨t',Y.mem_iff.mpr (ξ.mpr ⟨x,T,L⟩)⟩
 have NU:ms.Nodup:=by
  have DK:=tL ns [] List.nodup_nil;refine za DK (fun k=>?_) ?_
  ·rw [M k,zL]
  ·rw [<- m,<- A]
   have e1:=U.length_eq;have e2:=W.length;have R:=Y.length_eq;simp at R;omega
 have ba:ms.Pairwise (· < ·):=by
  have:=List.pairwise_and_iff.mpr ⟨k8,NU⟩;exact this.imp fun ⟨a,b⟩=>by omega
 have J:=I.laid (t':=O) (a:=l) (o:=.lst (ms.map V.int)) f N ⟨by
  rw [Ë,RU];have e1:=U.length_eq;have e2:=W.length;have R:=Y.length_eq;simp at R;omega,out,e,y9 c,d⟩
 exact ⟨.ref l,_,J.rN (s':={ s with heap:=j,drawn:=g,toks:=O }) (ch:=[]) rfl Un.refl J.au J.bare (fun b P=>by cases P),rfl,q l ms (I.au.fresh N) ba M⟩
end
section
variable {X:Cx}
end
mutual
noncomputable def sT:RS->Bool
 | .tuple Z=>so Z
 | .list _=>false
 |_=>true
noncomputable def so:List RS->Bool
 | []=>true
 |d::Z=>sT d&&so Z
end
section
variable {X:Cx} {π:List (Ò×Obj)} {σ:St} {H:Hp} {s:Ã} {Z:Ò->Prop}
mutual
theorem DV.rf (I:Inv X π σ H s):∀{d:RS} {v:V} {u:Ä},DV X.K Z H d v->RelV v u->sT d=true->∃as,Reads s.heap u d as/\Sr∉as
 | .none,v,u,h,r,_=>by
  have e:v=.ao:=h;subst e;cases r;exact ⟨[],.none,by simp⟩
 | .bool b,v,u,h,r,_=>by
  have e:v=.bl b:=h;subst e;cases r;exact ⟨[],.bool b,by simp⟩
 | .int i,v,u,h,r,_=>by
  have e:v=.int i:=h;subst e;obtain ⟨t,rfl⟩:=r;exact ⟨[],.int i t,by simp⟩
 | .str x,v,u,h,r,_=>by
  have e:v=.str x:=h;subst e;obtain ⟨t,rfl⟩:=r;exact ⟨[],.str x t,by simp⟩
 | .tuple U,v,u,h,r,Y=>by
  simp only [DV] at h;obtain ⟨a,G,e,W,T⟩:=h;subst e;cases r;obtain ⟨its,S,⟨o,e,c,n,R⟩,_⟩:=I.tuple W;obtain ⟨as,Q,hs⟩:=ak.rf I T S (by simpa only [sT] using Y);exact ⟨as,.tuple e c R (by simpa using Q),hs⟩
 | .list U,v,u,h,r,Y=>by
  simp only [sT] at Y;cases Y
 | .dict F,v,u,h,r,_=>by
  simp only [DV] at h;obtain ⟨a,E,e,_,W,l,e1,e2⟩:=h;subst e e1 e2;cases r;obtain ⟨_,P,D,O,o,C,B,g1,g2,g3,_,N,_⟩:=(show ck X.prog X.w H s.heap a (.dK _) from I.au a _ W);obtain ⟨M,L⟩:=tK (h:=s.heap) O N;refine ⟨a::[]++[],.dict g1 g2.1 g3 M L,fun J=>?_⟩;have e:Sr=a:=by simpa using J
  subst e;simp at P
theorem ak.rf (I:Inv X π σ H s):∀{ds:List RS} {vs:List V} {us:List Ä},ak X.K Z H ds vs->Vals vs us->so ds=true->∃as,ReadsAll s.heap us ds as/\Sr∉as
 | [],vs,us,h,r,_=>by
  have e:vs=[]:=h;subst e;cases r;exact ⟨[],.nil,by simp⟩
 |d::ds,vs,us,h,r,Y=>by
  obtain ⟨v,O,e,W,U⟩:=h;subst e;simp only [so,Í] at Y
  cases r with
  |cons T S =>
   obtain ⟨as,a1,R⟩:=DV.rf I W T Y.1;obtain ⟨bs,a2,Q⟩:=ak.rf I U S Y.2;refine ⟨as++bs,.cons a1 a2,fun P=>?_⟩
   rcases û.mp P with z|z
   ·exact R z
   ·exact Q z
end
end
section
variable {X:Cx}
end
end L2
namespace HZ
open PySem PySem.Spec PyProof.Rows
open AutoSeq1 (wpAny_loadPart')
section
variable {P:Û} {w:ú} {A:ã} {E:Ä->Ã->Prop} {s:Ã}
end
end HZ
namespace L2
open PySem PySem.Spec PyProof.Rows
section
variable {X:Cx} {elts:List Ě} {kk:Nat} {tp:Pos}
end
section
variable {K:ĉ} {aB:St} {H:Hp} {tf:TT} {te:TE} {Q:VK}
end
end L2
namespace HZ
open PySem PySem.Spec PyProof.Rows
def Ej:fillsNumberSlot (.type "tuple") "mul"=pure false:=by
 first|rfl | (unfold fillsNumberSlot;kernel_rfl)|kernel_rfl
def EM:seqRepeat? (.type "tuple")=pure (some (.builtin "tuple.__mul__")):=by
 first|rfl|kernel_rfl
def FA (a:Int) (t:Tok) (l:Ò) (items:Array Ä) (n:Nat) (d:Option Ò) (sl:Array (Option Ä)) :
  Meets (š.«int.__rmul__» ⟨[.int a t,.ref l],[]⟩) (fun _ R s=>s.heap.get? l=some { cls:=.type "tuple",dict:=d,data:=.seq items n,slots:=sl }/\R (.ok (.ret Value.notImplemented)) s) :=
 .of_wp fun prog w A R s h=>by
  obtain ⟨Z,Y,X,W,V⟩:=s;obtain ⟨U,h⟩:=h;wp_walk;exact ⟨_,rfl,h⟩
section
variable {P:Û} {w:ú} {A:ã} {E:Ä->Ã->Prop} {s:Ã}
def Jc (ht:IsTup s.heap t vs.toArray) (hv:vs≠[]) (hk:1<=k) (hz:vs.length*k.toNat<=Ö)
 (h1:k=1->Q (.ref t) s) (h2:k≠1->Q (.ref s.heap.objs.size) { s with heap:=s.heap.push { cls:=.type "tuple",data:=.seq (Ñ k.toNat vs).flatten.toArray } }) :
  Ô (á P w) A (Ĳ .Mult (.ref t) (.int k tk)) Q E s:=by
 obtain ⟨⟨cls,V,data,S⟩,Z,Y,n,X⟩:=id ht;simp only at Y X;subst Y X;have K:k<=16777216:=by
  have R:1<=vs.length:=by
   cases vs with
   |nil=>exact absurd rfl hv
   |cons a r=>simp
  have J:vs.length*k.toNat<=16777216:=by rw [<- RU];exact hz
  have:1*k.toNat<=vs.length*k.toNat:=Nat.mul_le_mul_right _ R;omega
 refine wpAny_binaryOp_repeat_ref (T:="tuple") (U:="int") (by decide) ⟨_,Z,rfl⟩ (fun O=>typeIs_int O k tk) Ej F.fills_int_mul Sw EM F.slot_int_index.lookup
  (call_meets Sw (typeIs_int s k tk) F.entry_int_rmul (F.args_int_rmul_2 _ _) (FA k tk t vs.toArray n V S) ⟨Z,rfl,⟨_,Z,rfl⟩,?_⟩)
 refine Ā F.slot_tuple_mul ⟨_,Z,rfl⟩ F.entry_tuple_mul ?_ (F.args_tuple_mul_2 _ _);show Ô _ _ (asIndex (.int k tk) >>= _) _ _ _;refine À ?_
 refine R0 (a:=k) (by first|rfl | (unfold asIndex;rfl)) ?_
 dsimp only;rw [õ (by simp;omega)];unfold Ł;refine À (À (ý Z rfl ?_));refine Â ?_;have ne:vs.toArray.isEmpty=false:=by
  cases vs with
  |nil=>exact absurd rfl hv
  |cons a r=>simp
 by_cases h:k=1
 ·rw [é (by rw [h];simp)]
  unfold Ű;refine À (À (ι (T:="tuple") ⟨_,Z,rfl⟩ (Â ?_)));rw [é (by decide)];exact À (ŝ (Â ⟨_,rfl,h1 h⟩))
 ·rw [õ (by rw [ne];simp [h])]
  rw [õ (by rw [ne];simp;omega)];have W:(vs.toArray.size:Int)*k=((vs.length*k.toNat:Nat):Int):=by
   rw [Ð,Int.natCast_mul];congr 1;omega
  have N:vs.length*k.toNat<=16777216:=by rw [<- RU];exact hz
  rw [õ (by rw [W];omega)];rw [õ (by
   unfold Builtin.Tuple.tupleTooMany;rw [W,RU,ß];generalize vs.length*k.toNat=q at N;omega)]
  unfold Ĕ;have e:List.foldl (fun M L=>M++L) #[] (Ñ k.toNat vs.toArray)=(Ñ k.toNat vs).flatten.toArray:=by
   have:=L2.foldl_rep vs k.toNat [];rw [œ] at this;exact this
  rw [e];refine À (ì ?_ (by
   show (List.toArray _).size<=Ö;rw [Ð,L2.len_rep,Nat.mul_comm];exact hz))
  exact Â ⟨_,rfl,h2 h⟩
end
end HZ
namespace L2
open PySem PySem.Spec PyProof.Rows
section
variable {X:Cx}
def Mj (K:ĉ):R2:=fun x y H Q=>∃a Z k,x=.ref a/\y=.int k/\aT K H a Z/\Z≠[]/\1<=k/\Z.length*k.toNat<=Ö/\kl K H (Ñ k.toNat Z).flatten Q
def Jd:aX X (Ĳ .Mult) (Mj X.K):=by
 intro P s σ H x y v u Q I V U h;obtain ⟨a,Z,k,rfl,rfl,hs,T,S,W,q⟩:=h;cases V;obtain ⟨t,rfl⟩:=U;obtain ⟨its,r,p,z⟩:=I.tuple hs;have Y:=r.length;refine HZ.Jc p (fun e=>T (by rw [e] at Y;exact RL.mp Y)) S (by rw [<- Y];exact W) (fun e=>?_) (fun _=>?_)
 ·have e1:(Ñ k.toNat Z).flatten=Z:=by rw [e];simp
  rw [e1] at q;exact ⟨.ref a,H,I,rfl,q.here hs⟩
 ·have R:(Ñ k.toNat Z).flatten.length<=Ö:=by rw [len_rep,Nat.mul_comm];exact W
  exact ⟨.ref _,_,I.laid (t':=s.toks) (o:=.tup (Ñ k.toNat Z).flatten) (fun b o e=>Á _ e) (S0 _) ⟨R,_,r.rep k.toNat,⟨_,Ç _ rfl,rfl,_,rfl⟩⟩,rfl,q.new (I.au.fresh (S0 _))⟩
end
end L2
namespace HZ
open PySem PySem.Spec PyProof.Rows
section
variable {P:Û} {w:ú} {A:ã} {E:Ä->Ã->Prop} {s:Ã}
end
end HZ
namespace L2
open PySem PySem.Spec PyProof.Rows
section
variable {X:Cx} {tg:Ě}
def E4:bK X (.type "range") (fun xs H Q=>∃j:Int,xs=[.int j]/\∀p,H p=none->Q (.ref p) (upd H p (.cb 0 j))):=by
 intro Y s σ H xs W Q I r h;obtain ⟨j,rfl,q⟩:=h;obtain ⟨u,rfl,Z⟩:=vals1 r;obtain ⟨t,rfl⟩:=Z;exact call_range_1 ⟨.ref _,_,I.laid (o:=.cb 0 j) (t':=s.toks+1+1) (fun b o e=>Á _ e) (S0 _) ⟨_,_,_,Ç _ rfl⟩,rfl,q _ (I.au.fresh (S0 _))⟩
end
end L2
namespace HZ
open PySem PySem.Spec PyProof.Rows
section
variable {P:Û} {w:ú} {A:ã} {R:Result->Ã->Prop} {I:Ò} {fp wr:List Ò} {n:Nat} {Pv:Nat->Ä->Prop} {St:Nat->ħ->Prop} {kw:List (Str×Ä)}
end
section
variable {P:Û} {w:ú} {A:ã} {E:Ä->Ã->Prop} {s:Ã}
end
end HZ
namespace L2
open PySem PySem.Spec PyProof.Rows
section
variable {X:Cx} {p pos kp:Pos} {e d:Ě} {ta tk:TA}
end
end L2
namespace DI
open PySem L2
set_option genInjectivity true in
inductive D where
 |ao|bl (b:Bool)|int (i:Int)|str (x:Str)|tup (ds:List D)|lst (ds:List D)|bo (ay:List (Key×Int))|ax (k:Nat)|ty (n:String)|bh (ns:List Int)|exc (c:Str)|bE (a:Ò) (vs:List V) (ds:List D)
set_option genInjectivity true in
inductive Cell where
 |dead|lst (ds:List D)|dK (ay:List (Key×D))|dT (ay:List (D×Int))|tb (x:Str)
noncomputable abbrev aa:=List Cell
noncomputable abbrev Env:=List (Option D)
structure aM where
 c:Str
 many:Option D
abbrev Res (α:Type):=Option (Except aM α×aa)
abbrev SV (α:Type):=Env->aa->Res α
abbrev ok {α:Type} (a:α) (s:aa):Res α:=some (.ok a,s)
def aj {α β:Type} (r:Res α) (k:α->aa->Res β):Res β:=match r with
 |some (.ok a,s)=>k a s
 |some (.error x,s)=>some (.error x,s)
 |none=>none
@[simp] theorem eV {α β:Type} {a:α} {s:aa} {k:α->aa->Res β}:aj (some (.ok a,s)) k=k a s:=rfl
structure Wd where
 ρ:List Ò
 aq:aa
 H:Hp
def Wd.Z (w:Wd) (a:Ò):Prop:=∃(k:Nat) (c:Cell),w.ρ[k]?=some a/\w.aq[k]?=some c/\c≠.dead
def LstAt (w:Wd) (a:Ò) (xs:List V):Prop:=¬ w.Z a/\w.H a=some (.lst xs)
def LstAt.sq (h:LstAt w a xs):aR K w.H a xs:=aR.of h.2
def ox (K:ĉ) (w:Wd) (a:Ò) (xs:List V):Prop:=(¬ w.Z a/\Rd w.H a (.lst xs)) \/
 ∃(o:Obj) (its:Array Ä) (n:Nat),K.lookup a=some o/\o.cls=.type "list"/\o.dict=none/\o.data=.seq its n/\its.size<=Ö/\Vals xs its.toList
def ox.sq (h:ox K w a xs):aR K w.H a xs:=by
 rcases h with ⟨_,h⟩|h
 ·exact .inl h
 ·exact .inr h
mutual
def DV (K:ĉ) (w:Wd):D->V->Prop
 | .ao,v=>v=.ao
 | .bl b,v=>v=.bl b
 | .int i,v=>v=.int i
 | .str x,v=>v=.str x
 | .tup Y,v=>∃a X,v=.ref a/\aT K w.H a X/\ak K w Y X
 | .lst Y,v=>∃a X,v=.ref a/\LstAt w a X/\ak K w Y X
 | .bo W,v=>∃a,v=.ref a/\¬ w.Z a/\w.H a=some (.dK (W.map fun p=>(p.1,V.int p.2)))
 | .ax k,v=>∃a,w.ρ[k]?=some a/\v=.ref a
 | .ty n,v=>v=.ty n
 | .bh U,v=>∃a,v=.ref a/\ox K w a (U.map V.int)
 | .exc c,v=>∃a o C,v=.ref a/\(¬ w.Z a/\w.H a=some (.aN o (.own a)))/\o.cls=.ref C/\ï K Ó c=some (some (.ref C))
 | .bE a T Y,v=>v=.ref a/\ak K w Y T
def ak (K:ĉ) (w:Wd):List D->List V->Prop
 | [],Z=>Z=[]
 |d::Y,Z=>∃v r,Z=v::r/\DV K w d v/\ak K w Y r
end
structure Fw (K:ĉ) (w w':Wd):Prop where
 xV:∀(k:Nat) a,w.ρ[k]?=some a->w'.ρ[k]?=some a
 tup:∀a xs,aT K w.H a xs->aT K w'.H a xs
 lst:∀a xs,¬ w.Z a->w.H a=some (.lst xs)->¬ w'.Z a/\w'.H a=some (.lst xs)
 aN:∀a o u,¬ w.Z a->w.H a=some (.aN o u)->¬ w'.Z a/\w'.H a=some (.aN o u)
 bo:∀a es,¬ w.Z a->w.H a=some (.dK es)->¬ w'.Z a/\w'.H a=some (.dK es)
def Fw.BV (S:Fw K w w') (h:LstAt w a xs):LstAt w' a xs:=S.lst a xs h.1 h.2
def Fw.Ml (S:Fw K w w') (h:ox K w a xs):ox K w' a xs:=by
 rcases h with ⟨Y,Z | ⟨o,Z⟩⟩|h
 ·have q:=S.lst a xs Y Z
  exact .inl ⟨q.1,.inl q.2⟩
 ·have q:=S.aN a o _ Y Z
  exact .inl ⟨q.1,.inr ⟨o,q.2⟩⟩
 ·exact .inr h
mutual
theorem DV.fw (S:Fw K w w'):∀{d:D} {v:V},DV K w d v->DV K w' d v
 | .ao,_,h=>h
 | .bl _,_,h=>h
 | .int _,_,h=>h
 | .str _,_,h=>h
 | .tup X,v,h=>by
  simp only [DV] at h |-;obtain ⟨a,Y,e,Z,r⟩:=h;exact ⟨a,Y,e,S.tup a Y Z,ak.fw S r⟩
 | .lst X,v,h=>by
  simp only [DV] at h |-;obtain ⟨a,Y,e,Z,r⟩:=h;exact ⟨a,Y,e,S.BV Z,ak.fw S r⟩
 | .bo R,v,h=>by
  simp only [DV] at h |-;obtain ⟨a,e,W,Z⟩:=h;obtain ⟨U,T⟩:=S.bo a _ W Z;exact ⟨a,e,U,T⟩
 | .ax k,v,h=>by
  simp only [DV] at h |-;obtain ⟨a,e,e2⟩:=h;exact ⟨a,S.xV k a e,e2⟩
 | .ty _,_,h=>h
 | .bh Q,v,h=>by
  simp only [DV] at h |-;obtain ⟨a,e,Z⟩:=h;exact ⟨a,e,S.Ml Z⟩
 | .exc c,v,h=>by
  simp only [DV] at h |-;obtain ⟨a,o,C,e,Z,r⟩:=h;exact ⟨a,o,C,e,S.aN a o _ Z.1 Z.2,r⟩
 | .bE a P X,v,h=>by
  simp only [DV] at h |-;exact ⟨h.1,ak.fw S h.2⟩
theorem ak.fw (S:Fw K w w'):∀{ds:List D} {vs:List V},ak K w ds vs->ak K w' ds vs
 | [],_,h=>h
 |d::ds,vs,h=>by
  simp only [ak] at h |-;obtain ⟨v,r,e,Z,Y⟩:=h;exact ⟨v,r,e,DV.fw S Z,ak.fw S Y⟩
end
structure Le (K:ĉ) (w w':Wd):Prop where
 dv:∀d v,DV K w d v->DV K w' d v
 lst:∀a xs,LstAt w a xs->LstAt w' a xs
 tup:∀a xs,aT K w.H a xs->aT K w'.H a xs
 aN:∀a o u,¬ w.Z a->w.H a=some (.aN o u)->¬ w'.Z a/\w'.H a=some (.aN o u)
noncomputable instance {K:ĉ} {w w':Wd}:CoeFun (Le K w w') (fun _=>∀d v,DV K w d v->DV K w' d v):=⟨Le.dv⟩
def Le.refl (w:Wd):Le K w w:=⟨fun _ _ h=>h,fun _ _ h=>h,fun _ _ h=>h,fun _ _ _ h g=>⟨h,g⟩⟩
def Le.trans (h:Le K a b) (g:Le K b c):Le K a c:=⟨fun d v x=>g.dv d v (h.dv d v x),fun p Z x=>g.lst p Z (h.lst p Z x),fun p Z x=>g.tup p Z (h.tup p Z x),fun p o u z x=>let q:=h.aN p o u z x;g.aN p o u q.1 q.2⟩
def Fw.le (S:Fw K w w'):Le K w w':=⟨fun _ _ h=>h.fw S,fun _ _ h=>S.BV h,S.tup,S.aN⟩
theorem Le.all (h:Le K w w'):∀{ds:List D} {vs:List V},ak K w ds vs->ak K w' ds vs
 | [],_,x=>x
 |d::ds,vs,x=>by
  simp only [ak] at x |-;obtain ⟨v,r,e,Z,Y⟩:=x;exact ⟨v,r,e,h d v Z,Le.all h Y⟩
theorem ak.length:∀{ds:List D} {vs:List V},ak K w ds vs->ds.length=vs.length
 | [],vs,h=>by
  have e:vs=[]:=h;subst e;rfl
 |d::ds,vs,h=>by
  obtain ⟨v,r,e,_,Z⟩:=h;subst e;simp [ak.length Z]
theorem ak.get:∀{ds:List D} {vs:List V},ak K w ds vs->∀(i:Nat) v,vs[i]?=some v->∃d,ds[i]?=some d/\DV K w d v
 | [],vs,h,i,v,e=>by
  have Z:vs=[]:=h;subst Z;simp at e
 |d::ds,vs,h,i,v,e=>by
  obtain ⟨u,r,Z,Y,X⟩:=h;subst Z
  cases i with
  |zero =>
   have:u=v:=by simpa using e
   subst this;exact ⟨d,rfl,Y⟩
  |succ i=>exact ak.get X i v (by simpa using e)
theorem ak.get':∀{ds:List D} {vs:List V},ak K w ds vs->∀(i:Nat) d,ds[i]?=some d->∃v,vs[i]?=some v/\DV K w d v
 | [],vs,h,i,d,e=>by simp at e
 |d::ds,vs,h,i,Z,e=>by
  obtain ⟨u,r,Y,X,W⟩:=h;subst Y
  cases i with
  |zero =>
   have:d=Z:=by simpa using e
   subst this;exact ⟨u,rfl,X⟩
  |succ i=>exact ak.get' W i Z (by simpa using e)
theorem ak.append:∀{ds es:List D} {vs ws:List V},ak K w ds vs->ak K w es ws->ak K w (ds++es) (vs++ws)
 | [],es,vs,ws,h,Z=>by
  have e:vs=[]:=h;subst e;exact Z
 |d::ds,es,vs,ws,h,Z=>by
  obtain ⟨v,r,e,Y,X⟩:=h;subst e;exact ⟨v,r++ws,rfl,Y,ak.append X Z⟩
theorem ak.take:∀{ds:List D} {vs:List V} (n:Nat),ak K w ds vs->ak K w (ds.take n) (vs.take n)
 | [],vs,n,h=>by
  have e:vs=[]:=h;subst e;simp [ak]
 |d::ds,vs,0,h=>by simp [ak]
 |d::ds,vs,n+1,h=>by
  obtain ⟨v,r,e,Z,Y⟩:=h;subst e;exact ⟨v,r.take n,rfl,Z,ak.take n Y⟩
theorem ak.drop:∀{ds:List D} {vs:List V} (n:Nat),ak K w ds vs->ak K w (ds.drop n) (vs.drop n)
 | [],vs,n,h=>by
  have e:vs=[]:=h;subst e;simp [ak]
 |d::ds,vs,0,h=>h
 |d::ds,vs,n+1,h=>by
  obtain ⟨v,r,e,Y,Z⟩:=h;subst e;exact ak.drop n Z
theorem ak.reverse:∀{ds:List D} {vs:List V},ak K w ds vs->ak K w ds.reverse vs.reverse
 | [],vs,h=>by
  have e:vs=[]:=h;subst e;simp [ak]
 |d::ds,vs,h=>by
  obtain ⟨v,r,e,Z,Y⟩:=h;subst e;rw [List.reverse_cons,List.reverse_cons];exact ak.append (ak.reverse Y) ⟨v,[],rfl,Z,rfl⟩
theorem ak.set (hd:DV K w d v):∀{ds:List D} {vs:List V} (i:Nat),ak K w ds vs->ak K w (ds.set i d) (vs.set i v)
 | [],vs,i,h=>by
  have e:vs=[]:=h;subst e;simp [ak]
 |d'::ds,vs,0,h=>by
  obtain ⟨u,r,e,Y,Z⟩:=h;subst e;exact ⟨v,r,rfl,hd,Z⟩
 |d'::ds,vs,i+1,h=>by
  obtain ⟨u,r,e,Y,Z⟩:=h;subst e;exact ⟨u,r.set i v,rfl,Y,ak.set hd i Z⟩
def ak.one (h:DV K w d v):ak K w [d] [v]:=⟨v,[],rfl,h,rfl⟩
def ak.two (h:DV K w d v) (h':DV K w d' v'):ak K w [d,d'] [v,v']:=⟨v,_,rfl,h,ak.one h'⟩
theorem ak.ints:∀(ns:List Int),ak K w (ns.map D.int) (ns.map V.int)
 | []=>rfl
 |n::ns=>⟨.int n,_,rfl,rfl,ak.ints ns⟩
theorem ak.zX:∀{ns:List Int} {vs:List V},ak K w (ns.map D.int) vs->vs=ns.map V.int
 | [],_,h=>h
 |n::ns,vs,h=>by
  obtain ⟨v,r,e,Z,Y⟩:=h;have e1:v=.int n:=Z;rw [e,e1,ak.zX Y];rfl
theorem ak.og:∀{bs:List Bool} {vs:List V},ak K w (bs.map D.bl) vs->vs=bs.map V.bl
 | [],_,h=>h
 |n::X,vs,h=>by
  obtain ⟨v,r,e,Z,Y⟩:=h;have e1:v=.bl n:=Z;rw [e,e1,ak.og Y];rfl
def DX (a:Ò) (es:List (Int×Ò)) (h:ħ):Prop:=(a==Sr)=false/\∃(o:Obj) (Z:Array DictEntry) (Y:Nat),h.get? a=some o/\o.ExactDict/\o.data=.dict Z Y/\Z.toList=es.map fun p=>(⟨p.1,.ref p.2,.bool true⟩:DictEntry)
def Mm (w:Wd) (q:Str) (cv:Ä):Prop:=∃Y X W t,cv=.ref Y/\(¬ w.Z Y/\w.H Y=some (.aN X (.own Y)))/\X.data=.fields W/\W[1]?=some (.str q t)
def NW (K:ĉ) (w:Wd) (a:Ò) (x:Str):Prop:=∃c Z,SQ K x=some (c,a)/\w.H a=some (.cu Z)/\PySem.TriplesOk Z.toList/\∀pos Y,PySem.codeAmong pos Z.toList=some Y->Mm w (x++".<locals>."++"<lambda>") Y
def mJ (K:ĉ) (w:Wd) (a:Ò):Cell->Prop
 | .dead=>True
 | .lst W=>∃X,w.H a=some (.lst X)/\ak K w W X
 | .dK Z=>∃Y:List (Key×V),w.H a=some (.dK Y)/\Y.map (·.1)=Z.map (·.1)/\ak K w (Z.map (·.2)) (Y.map (·.2))
 | .dT Z=>∃as:List Ò,w.H a=some (.ext (DX a ((Z.map (·.2)).zip as)))/\ak K w (Z.map (·.1)) (as.map V.ref)/\(Z.map (·.1)).Nodup
 | .tb x=>NW K w a x
structure aA (K:ĉ) (w:Wd):Prop where
 len:w.ρ.length=w.aq.length
 nd:w.ρ.Nodup
 there:∀(k:Nat) a,w.ρ[k]?=some a->w.H a≠none
 cell:∀(k:Nat) a c,w.ρ[k]?=some a->w.aq[k]?=some c->mJ K w a c
theorem mJ.le (h:mJ K w a c) (le:Le K w w') (e:c≠.dead->w'.H a=w.H a):mJ K w' a c:=by
 cases c with
 |dead=>trivial
 |lst J =>
  obtain ⟨T,Z,Y⟩:=h;exact ⟨T,(e (by intro z;cases z)).trans Z,le.all Y⟩
 |dK S =>
  obtain ⟨R,Z,Y,X⟩:=h;exact ⟨R,(e (by intro z;cases z)).trans Z,Y,le.all X⟩
 |dT S =>
  obtain ⟨as,Z,Y,X⟩:=h;exact ⟨as,(e (by intro z;cases z)).trans Z,le.all Y,X⟩
 |tb x =>
  obtain ⟨c,Q,Z,Y,X,P⟩:=h
  exact ⟨c,Q,Z,(e (by intro z;cases z)).trans Y,X,fun pos O q=>let ⟨W,V,N,t,M,U,L⟩:=P pos O q;⟨W,V,N,t,M,le.aN W V _ U.1 U.2,L⟩⟩
section
variable {K:ĉ} {w:Wd}
def Wd.grow (w:Wd) (p:Ò) (o:HO):Wd:={ w with H:=upd w.H p o }
def Rd.grow (hp:H p=none) (h:Rd H a u):Rd (upd H p o) a u:=by
 rcases h with h | ⟨Z,h⟩
 ·exact .inl (by rw [aJ (bX h hp)];exact h)
 ·exact .inr ⟨Z,by rw [aJ (bX h hp)];exact h⟩
theorem aT.grow (hp:H p=none) (h:aT K H a xs):aT K (upd H p o) a xs:=by
 rcases h with h|h
 ·exact .inl (Rd.grow hp h)
 ·exact .inr h
theorem Fw.grow (hp:w.H p=none):Fw K w (w.grow p o) where
 xV:=fun _ _ e=>e
 tup:=fun a Y h=>aT.grow hp h
 lst:=fun a Y Z h=>⟨Z,by show upd w.H p o a=_;rw [aJ (bX h hp)];exact h⟩
 aN:=fun a X Y Z h=>⟨Z,by show upd w.H p o a=_;rw [aJ (bX h hp)];exact h⟩
 bo:=fun a W Z h=>⟨Z,by show upd w.H p o a=_;rw [aJ (bX h hp)];exact h⟩
theorem aA.grow (S:aA K w) (hp:w.H p=none):aA K (w.grow p o) where
 len:=S.len
 nd:=S.nd
 there:=fun k a e=>by
  have h:=S.there k a e;show upd w.H p o a≠none;unfold upd;split
  ·intro z;cases z
  ·exact h
 cell:=fun k a c e1 e2=>(S.cell k a c e1 e2).le (Fw.grow hp).le fun _=>by
  have h:=S.there k a e1;show upd w.H p o a=w.H a;rw [aJ];intro z;rw [z] at h;exact h hp
def Wd.cell (w:Wd) (p:Ò) (o:HO) (c:Cell):Wd:=⟨w.ρ++[p],w.aq++[c],upd w.H p o⟩
def Wd.vf (S:aA K w) (h:(w.cell p o c).Z a):w.Z a\/a=p:=by
 obtain ⟨k,Y,e1,e2,V⟩:=h;have e1:(w.ρ++[p])[k]?=some a:=e1;have e2:(w.aq++[c])[k]?=some Y:=e2;by_cases X:k<w.ρ.length
 ·rw [Ú X] at e1
  rw [Ú (by rw [<- S.len];exact X)] at e2;exact .inl ⟨k,Y,e1,e2,V⟩
 ·rw [ù (by omega)] at e1
  right
  cases W:k-w.ρ.length with
  |zero=>rw [W] at e1;exact (S7 e1).symm
  |succ j=>rw [W] at e1;cases e1
theorem Fw.cell (S:aA K w) (hp:w.H p=none):Fw K w (w.cell p o c) where
 xV:=fun k a e=>by
  show (w.ρ++[p])[k]?=some a;rw [Ú (Å.mp e).1];exact e
 tup:=fun a Y h=>aT.grow hp h
 lst:=fun a Y Z h=>⟨fun z=>(Wd.vf S z).elim Z (fun e=>by (subst e;rw [hp] at h;cases h)),by show upd w.H p o a=_;rw [aJ (bX h hp)];exact h⟩
 aN:=fun a X Y Z h=>⟨fun z=>(Wd.vf S z).elim Z (fun e=>by (subst e;rw [hp] at h;cases h)),by show upd w.H p o a=_;rw [aJ (bX h hp)];exact h⟩
 bo:=fun a W Z h=>⟨fun z=>(Wd.vf S z).elim Z (fun e=>by (subst e;rw [hp] at h;cases h)),by show upd w.H p o a=_;rw [aJ (bX h hp)];exact h⟩
def aA.BW (S:aA K w) (hp:w.H p=none) (hc:mJ K (w.cell p o c) p c):aA K (w.cell p o c) where
 len:=by show (w.ρ++[p]).length=(w.aq++[c]).length;simp [S.len]
 nd:=by
  show (w.ρ++[p]).Nodup;rw [List.nodup_append];refine ⟨S.nd,by simp,fun a W b V=>?_⟩;obtain ⟨k,e⟩:=List.getElem?_of_mem W;have h:=S.there k a e;have U:b=p:=by simpa using V
  rw [U];intro z;rw [z] at h;exact h hp
 there:=fun k a e=>by
  have e:(w.ρ++[p])[k]?=some a:=e;show upd w.H p o a≠none;unfold upd;split
  ·intro z;cases z
  ·rename_i T
   by_cases Y:k<w.ρ.length
   ·rw [Ú Y] at e
    exact S.there k a e
   ·rw [ù (by omega)] at e
    cases Z:k-w.ρ.length with
    |zero=>rw [Z] at e;exact absurd (S7 e).symm T
    |succ j=>rw [Z] at e;cases e
 cell:=fun k a X e1 e2=>by
  have e1:(w.ρ++[p])[k]?=some a:=e1;have e2:(w.aq++[c])[k]?=some X:=e2;by_cases Y:k<w.ρ.length
  ·rw [Ú Y] at e1
   rw [Ú (by rw [<- S.len];exact Y)] at e2;refine (S.cell k a X e1 e2).le (Fw.cell S hp).le fun _=>?_;have h:=S.there k a e1;show upd w.H p o a=w.H a;rw [aJ];intro z;rw [z] at h;exact h hp
  ·rw [ù (by omega)] at e1
   rw [ù (by rw [<- S.len];omega)] at e2;rw [<- S.len] at e2
   cases Z:k-w.ρ.length with
   |zero =>
    rw [Z] at e1 e2;have e1:p=a:=S7 e1;have e2:c=X:=S7 e2;subst e1 e2;exact hc
   |succ j=>rw [Z] at e1;cases e1
def Wd.same (w:Wd) (H':Hp):Wd:={ w with H:=H' }
theorem Fw.same (e:ig w.H H'):Fw K w (w.same H') :=
 ⟨fun _ _ e=>e,fun a Y h=>e.ON h,fun a Y Z h=>⟨Z,e _ _ h⟩,fun a o Y Z h=>⟨Z,e _ _ h⟩,fun a X Z h=>⟨Z,e _ _ h⟩⟩
theorem aA.same (S:aA K w) (e:ig w.H H'):aA K (w.same H') where
 len:=S.len
 nd:=S.nd
 there:=fun k a q=>by
  have h:=S.there k a q;show H' a≠none
  cases Z:w.H a with
  |none=>exact absurd Z h
  |some o=>rw [e _ _ Z];intro z;cases z
 cell:=fun k a c e1 e2=>(S.cell k a c e1 e2).le (Fw.same e).le fun _=>by
  have h:=S.there k a e1;show H' a=w.H a
  cases Z:w.H a with
  |none=>exact absurd Z h
  |some o=>exact e _ _ Z
def Wd.put (w:Wd) (k:Nat) (a:Ò) (o:HO) (c:Cell):Wd:=⟨w.ρ,w.aq.set k c,upd w.H a o⟩
def zb {α:Type} {l:List α} (nd:l.Nodup) {i j:Nat} {a:α} (h1:l[i]?=some a) (h2:l[j]?=some a):i=j:=by
 exact (List.getElem?_inj (Å.mp h1).1 nd).mp (h1.trans h2.symm)
def Wd.vZ (h0:w.ρ[k]?=some a) (h1:w.aq[k]?=some c0) (h2:c0≠.dead) (h:(w.put k a o c).Z b):w.Z b:=by
 obtain ⟨j,Y,e1,e2,W⟩:=h;have e1:w.ρ[j]?=some b:=e1;have e2:(w.aq.set k c)[j]?=some Y:=e2;by_cases X:k=j
 ·subst X
  exact ⟨k,c0,e1,h1,h2⟩
 ·rw [Ü X] at e2
  exact ⟨j,Y,e1,e2,W⟩
theorem Fw.put (S:aA K w) (h0:w.ρ[k]?=some a) (h1:w.aq[k]?=some c0) (h2:c0≠.dead):Fw K w (w.put k a o c):=by
 have W:w.Z a:=⟨k,c0,h0,h1,h2⟩;have T:∀X,¬ Rd w.H a (.tup X):=fun X h=>by
  have q:=S.cell k a c0 h0 h1
  cases c0 with
  |dead=>exact h2 rfl
  |lst Q=>obtain ⟨V,e,_⟩:=q;rcases h with h | ⟨_,h⟩<;>(rw [e] at h;cases h)
  |dK R=>obtain ⟨V,e,_⟩:=q;rcases h with h | ⟨_,h⟩<;>(rw [e] at h;cases h)
  |dT R=>obtain ⟨V,e,_⟩:=q;rcases h with h | ⟨_,h⟩<;>(rw [e] at h;cases h)
  |tb x=>obtain ⟨_,V,_,e,_⟩:=q;rcases h with h | ⟨_,h⟩<;>(rw [e] at h;cases h)
 refine ⟨fun _ _ e=>e,fun b X h=>?_,fun b X Y h=>⟨fun z=>Y (Wd.vZ h0 h1 h2 z),?_⟩,fun b U X Y h=>⟨fun z=>Y (Wd.vZ h0 h1 h2 z),?_⟩,fun b P Y h=>⟨fun z=>Y (Wd.vZ h0 h1 h2 z),?_⟩⟩
 ·rcases h with h|h
  ·have ne:b≠a:=fun e=>by subst e;exact T X h
   refine .inl ?_
   rcases h with h | ⟨U,h⟩
   ·exact .inl (by show upd w.H a o b=_;rw [aJ ne];exact h)
   ·exact .inr ⟨U,by show upd w.H a o b=_;rw [aJ ne];exact h⟩
  ·exact .inr h
 ·have ne:b≠a:=fun e=>by subst e;exact Y W
  show upd w.H a o b=_;rw [aJ ne];exact h
 ·have ne:b≠a:=fun e=>by subst e;exact Y W
  show upd w.H a o b=_;rw [aJ ne];exact h
 ·have ne:b≠a:=fun e=>by subst e;exact Y W
  show upd w.H a o b=_;rw [aJ ne];exact h
def aA.wN {k:Nat} {a:Ò} {o:HO} {c c0:Cell} (S:aA K w) (h0:w.ρ[k]?=some a) (h1:w.aq[k]?=some c0) (h2:c0≠.dead) (hc:mJ K (w.put k a o c) a c):aA K (w.put k a o c) where
 len:=by show w.ρ.length=(w.aq.set k c).length;rw [ô];exact S.len
 nd:=S.nd
 there:=fun j b e=>by
  show upd w.H a o b≠none;unfold upd;split
  ·intro z;cases z
  ·exact S.there j b e
 cell:=fun j b Z e1 e2=>by
  have e1:w.ρ[j]?=some b:=e1;have e2:(w.aq.set k c)[j]?=some Z:=e2;by_cases Y:k=j
  ·subst Y
   rw [h0] at e1;have e1:a=b:=S7 e1;rw [Þ (Å.mp h1).1] at e2;have e2:c=Z:=S7 e2;subst e1 e2;exact hc
  ·rw [Ü Y] at e2
   refine (S.cell j b Z e1 e2).le (Fw.put S h0 h1 h2).le fun _=>?_;show upd w.H a o b=w.H b;rw [aJ];intro z;subst z;exact Y (zb S.nd h0 e1)
noncomputable def Wd.freeze (w:Wd) (k:Nat):Wd:={ w with aq:=w.aq.set k .dead }
def Wd.ui (h:(w.freeze k).Z b):w.Z b:=by
 obtain ⟨j,Y,e1,e2,X⟩:=h;have e2:(w.aq.set k .dead)[j]?=some Y:=e2;by_cases W:k=j
 ·subst W
  have V:=(Å.mp e2).1;rw [ô] at V;rw [Þ V] at e2;exact absurd (S7 e2).symm X
 ·rw [Ü W] at e2
  exact ⟨j,Y,e1,e2,X⟩
theorem Fw.freeze:Fw K w (w.freeze k) :=
 ⟨fun _ _ e=>e,fun _ _ h=>h,fun _ _ Z h=>⟨fun z=>Z (Wd.ui z),h⟩,fun _ _ _ Z h=>⟨fun z=>Z (Wd.ui z),h⟩,fun _ _ Z h=>⟨fun z=>Z (Wd.ui z),h⟩⟩
theorem aA.freeze (S:aA K w):aA K (w.freeze k) where
 len:=by show w.ρ.length=(w.aq.set k .dead).length;rw [ô];exact S.len
 nd:=S.nd
 there:=S.there
 cell:=fun j b Z e1 e2=>by
  have e2:(w.aq.set k .dead)[j]?=some Z:=e2;by_cases Y:k=j
  ·subst Y
   have X:=(Å.mp e2).1;rw [ô] at X;rw [Þ X] at e2;rw [<- S7 e2];trivial
  ·rw [Ü Y] at e2
   exact (S.cell j b Z e1 e2).le Fw.freeze.le fun _=>rfl
def Wd.Gj {k:Nat} {a:Ò} (S:aA K w) (h:w.ρ[k]?=some a):¬ (w.freeze k).Z a:=by
 rintro ⟨j,X,e1,e2,W⟩;have e1:w.ρ[j]?=some a:=e1;have e2:(w.aq.set k .dead)[j]?=some X:=e2;have V:=zb S.nd h e1;subst V;have Y:=(Å.mp e2).1;rw [ô] at Y;rw [Þ Y] at e2;exact W (S7 e2).symm
end
structure bL (K:ĉ) (w:Wd) (env:Env) (σ:St):Prop where
 len:env.length=σ.length
 val:∀(i:Nat) d,env[i]?=some (some d)->∃v,σ[i]?=some (some v)/\DV K w d v
theorem bL.le (h:bL K w env σ) (le:Le K w w'):bL K w' env σ :=
 ⟨h.len,fun i d e=>by obtain ⟨v,e1,e2⟩:=h.val i d e;exact ⟨v,e1,le d v e2⟩⟩
theorem bL.set (h:bL K w env σ) (hd:DV K w d v) (i:Nat):bL K w (env.set i (some d)) (σ.set i (some v)):=by
 refine ⟨by rw [ô,ô];exact h.len,fun j X e=>?_⟩;by_cases Z:i=j
 ·subst Z
  have Y:=(Å.mp e).1;rw [ô] at Y;rw [Þ Y] at e;have e:d=X:=S7 (S7 e);subst e;exact ⟨v,by rw [Þ (by rw [<- h.len];exact Y)],hd⟩
 ·rw [Ü Z] at e
  rw [Ü Z];exact h.val j X e
def Out (K:ĉ) (Ξ:Wd->aM->Prop) (w:Wd) {α:Type} (r:Res α) (k:Wd->α->Prop):Prop:=match r with
 |none=>False
 |some (.ok a,s)=>∀Z,Le K w Z->aA K Z->Z.aq=s->k Z a
 |some (.error x,s)=>∀Z,Le K w Z->aA K Z->Z.aq=s->Ξ Z x
section
variable {K:ĉ} {Ξ:Wd->aM->Prop} {w w':Wd} {α β:Type} {r:Res α} {k k':Wd->α->Prop}
def Out.from (h:Out K Ξ w r k) (le:Le K w w'):Out K Ξ w' r k:=by
 unfold Out at h |-
 split<;>simp only at h
 ·exact fun Z Y X e2=>h Z (le.trans Y) X e2
 ·exact fun Z Y X e2=>h Z (le.trans Y) X e2
def Out.mono (h:Out K Ξ w r k) (hk:∀w2 a,Le K w w2->aA K w2->k w2 a->k' w2 a):Out K Ξ w r k':=by
 unfold Out at h |-
 split<;>simp only at h
 ·exact fun w2 Z Y e2=>hk w2 _ Z Y (h w2 Z Y e2)
 ·exact h
theorem Out.aj {q:Wd->β->Prop} (h:Out K Ξ w (DI.aj r g) q):Out K Ξ w r (fun w2 a=>Out K Ξ w2 (g a w2.aq) q):=by
 match r,h with
 |some (.ok a,s),h =>
  intro w2 Z Y e2;rw [e2];exact Out.from h Z
 |some (.error x,s),h=>exact h
def Out.done (h:Out K Ξ w (some (.ok a,w.aq)) k) (S:aA K w):k w a:=h w (Le.refl w) S rfl
end
end DI
namespace DI
open PySem L2
def tE (K:ĉ) (Ξ:Wd->aM->Prop) (f:SV D):TE:=fun σ H Q=>∃w env,w.H=H/\aA K w/\bL K w env σ/\Out K Ξ w (f env w.aq) fun Z d=>∀v,DV K Z d v->Q v Z.H
def tT (K:ĉ) (Ξ:Wd->aM->Prop) (f:SV Bool):TT:=fun σ H Q=>∃w env,w.H=H/\aA K w/\bL K w env σ/\Out K Ξ w (f env w.aq) fun Z b=>Q b Z.H
def tA (K:ĉ) (Ξ:Wd->aM->Prop) (f:SV (List D)):TA:=fun σ H Q=>∃w env,w.H=H/\aA K w/\bL K w env σ/\Out K Ξ w (f env w.aq) fun Z X=>∀Y,ak K Z X Y->Q Y Z.H
def rO (K:ĉ) (Ξ:Wd->aM->Prop) (o:D->D->aa->Res D):R2:=fun x y H Q=>∃w Z Y,w.H=H/\aA K w/\DV K w Z x/\DV K w Y y/\Out K Ξ w (o Z Y w.aq) fun X d=>∀v,DV K X d v->Q v X.H
def rU (K:ĉ) (Ξ:Wd->aM->Prop) (o:D->aa->Res D):V->Hp->VK->Prop:=fun x H Q=>∃w Z,w.H=H/\aA K w/\DV K w Z x/\Out K Ξ w (o Z w.aq) fun Y d=>∀v,DV K Y d v->Q v Y.H
def rC (K:ĉ) (Ξ:Wd->aM->Prop) (o:List D->aa->Res D):List V->Hp->VK->Prop:=fun X H Q=>∃w Z,w.H=H/\aA K w/\ak K w Z X/\Out K Ξ w (o Z w.aq) fun Y d=>∀v,DV K Y d v->Q v Y.H
def ae (i:Nat):SV D:=fun env s=>match env[i]? with
 |some (some d)=>ok d s
 |_=>none
def eC (d:D):SV D:=fun _ s=>ok d s
def e1 (o:D->aa->Res D) (f:SV D):SV D:=fun env s=>aj (f env s) fun x s=>o x s
def e2 (o:D->D->aa->Res D) (f g:SV D):SV D:=fun env s=>aj (f env s) fun x s=>aj (g env s) fun y s=>o x y s
def ai:SV (List D):=fun _ s=>ok [] s
def af (f:SV D) (g:SV (List D)):SV (List D):=fun env s=>aj (f env s) fun x s=>aj (g env s) fun Z s=>ok (x::Z) s
def eB (o:List D->aa->Res D) (f:SV (List D)):SV D:=fun env s=>aj (f env s) fun Z s=>o Z s
def fF {α:Type} (ds:List D) (r:Res α):Res α:=if ds.length<=Ö then r else none
def cV (f:SV (List D)):SV D:=fun env s=>aj (f env s) fun Z s=>fF Z (ok (.tup Z) s)
def fe (f:SV (List D)):SV D:=fun env s=>aj (f env s) fun Z s=>fF Z (ok (.lst Z) s)
def eNew (f:SV (List D)):SV D:=fun env s=>aj (f env s) fun Z s=>fF Z (ok (.ax s.length) (s++[.lst Z]))
def aN:D->aa->Res D:=fun d s=>match d with
 | .ax k=>match s[k]? with
  |some (.lst Z)=>ok (.lst Z) (s.set k .dead)
  |_=>none
 |_=>none
def sr (f:SV D):SV D:=fun env s=>aj (f env s) aN
def ff (d:D) (s:aa):Res Bool:=match d with
 | .bl b=>ok b s
 |_=>none
def bY (f:SV D):SV Bool:=fun env s=>aj (f env s) ff
def truth (d:D) (s:aa):Res Bool:=match d with
 | .ao=>ok false s
 | .bl b=>ok b s
 | .int i=>ok (i != 0) s
 | .str x=>if x.length<=Ö then ok ((x.length:Int) != 0) s else none
 | .tup Z=>ok (!Z.isEmpty) s
 | .lst Z=>ok (!Z.isEmpty) s
 | .bo Y=>ok (!Y.isEmpty) s
 | .ax k=>match s[k]? with
  |some (.lst Z)=>ok (!Z.isEmpty) s
  |some (.dK Y)=>ok (!Y.isEmpty) s
  |_=>none
 | .ty _=>none
 | .bh _=>none
 | .exc _=>none
 | .bE _ _ _=>none
def dC (f:SV D):SV Bool:=fun env s=>aj (f env s) truth
def lI (f g:SV Bool):SV Bool:=fun env s=>aj (f env s) fun b s=>if b=true then g env s else ok false s
def kA (f g:SV Bool):SV Bool:=fun env s=>aj (f env s) fun b s=>if b=true then ok true s else g env s
def ib (f:SV Bool):SV Bool:=fun env s=>aj (f env s) fun b s=>ok (!b) s
def fU (f g:SV D):SV D:=fun env s=>aj (f env s) fun x s=>aj (ff x s) fun b s=>if b=true then g env s else ok (.bl false) s
def pY (f g:SV D):SV D:=fun env s=>aj (f env s) fun x s=>aj (ff x s) fun b s=>if b=true then ok (.bl true) s else g env s
def oX (f:SV D):SV D:=fun env s=>aj (f env s) fun x s=>aj (ff x s) fun b s=>ok (.bl (!b)) s
def sU (c:SV Bool) (f g:SV D):SV D:=fun env s=>aj (c env s) fun b s=>if b=true then f env s else g env s
def pZ (o o':D->D->aa->Res D) (f g h:SV D):SV D:=fun env s=>aj (f env s) fun x s=>aj (g env s) fun y s=>aj (o x y s) fun z s=>aj (ff z s) fun b s =>
 if b=true then aj (h env s) fun u s=>o' y u s else ok (.bl false) s
section
variable {X:Cx} {Ξ:Wd->aM->Prop} {e a b c:Ě} {es rest:List Ě} {pos:Pos} {f g h:SV D} {fa:SV (List D)} {ft gt:SV Bool}
def bI {t t':TE} (h:PE X e t) (i:∀ σ H Q,t' σ H Q->t σ H Q):PE X e t':=fun Z s σ H Q I Y=>h Z s σ H Q I (i σ H Q Y)
def vh {t t':TT} (h:PT X e t) (i:∀ σ H Q,t' σ H Q->t σ H Q):PT X e t':=fun Z s σ H Q I Y=>h Z s σ H Q I (i σ H Q Y)
def Bf {t t':TT} (h:PW X e t) (i:∀ σ H Q,t' σ H Q->t σ H Q):PW X e t':=fun Z Y s σ H Q I W=>h Z Y s σ H Q I (i σ H Q W)
def Bg {t t':TA} (h:PA X es t) (i:∀ σ H Q,t' σ H Q->t σ H Q):PA X es t':=fun p Z s σ H Q I Y=>h p Z s σ H Q I (i σ H Q Y)
def jY (h:PS X st t) (i:∀D σ H,t' D σ H->t D σ H):PS X st t':=fun Z s σ H D I Y=>h Z s σ H D I (i D σ H Y)
def Az (h:bV X st t) (i:∀D σ H,t' D σ H->t D σ H):bV X st t':=fun Z s σ H D I Y=>h Z s σ H D I (i D σ H Y)
def ar {α:Type} {K:ĉ} {w:Wd} {a:α} {k:Wd->α->Prop} (S:aA K w) (h:Out K Ξ w (ok a w.aq) k):k w a:=h w (Le.refl w) S rfl
def ag (i:Nat) {x:Str} (hN:X.N[i]?=some x:=by rfl) (hv:nA X.env.scope x:=by first|exact SU rfl|exact Or.inr (SU rfl)|exact Or.inr (Or.inr rfl)) (hd:(x==("__debug__":Str))=false:=by decide)
  (cE:(x==("__classdict__":Str))=false:=by decide):PE X (.Name x pos) (tE X.K Ξ (ae i)):=bI (A6 hN hv hd cE) fun σ H Q Z=>by
 obtain ⟨w,env,Y,S,W,h⟩:=Z;unfold ae at h;split at h
 ·rename_i d V
  obtain ⟨v,e1,e2⟩:=W.val i d V;subst Y;exact ⟨v,e1,ar S h v e2⟩
 ·exact h.elim
def mQ {d:D} {v:V} (h:PE X e (tC v)) (hd:∀w,DV X.K w d v):PE X e (tE X.K Ξ (eC d)):=bI h fun σ H Q Z=>by
 obtain ⟨w,env,Y,S,W,h⟩:=Z;subst Y;exact ar S h v (hd w)
def aL {i j}:PE X (.Constant (.int i) j pos) (tE X.K Ξ (eC (.int i))):=mQ JY fun _=>rfl
def ik {b j}:PE X (.Constant (.bool b) j pos) (tE X.K Ξ (eC (.bl b))):=mQ vQ fun _=>rfl
def BX {j}:PE X (.Constant .none j pos) (tE X.K Ξ (eC .ao)):=mQ JZ fun _=>rfl
def jm {x j}:PE X (.Constant (.str x) j pos) (tE X.K Ξ (eC (.str x))):=mQ J0 fun _=>rfl
def qT (σ:St) (H:Hp) (Q:VK):tE K Ξ (e2 o f g) σ H Q->pL (rO K Ξ o) (tE K Ξ f) (tE K Ξ g) σ H Q:=by
 rintro ⟨w,env,rfl,S,Z,h⟩;exact ⟨w,env,rfl,S,Z,(Out.aj h).mono fun Y x X W V v1 U=>⟨Y,env,rfl,W,Z.le X,(Out.aj V).mono fun T y R P O v2 N=>⟨T,x,y,rfl,P,R _ _ U,N,O⟩⟩⟩
def bu (ho:aX X (Ĳ op) (rO X.K Ξ o)) (ha:PE X a (tE X.K Ξ f)) (hb:PE X b (tE X.K Ξ g)):PE X (.BinOp a op b pos) (tE X.K Ξ (e2 o f g)):=bI (LW ho ha hb) qT
def j5 (ho:aX X (Ć op) (rO X.K Ξ o)) (ha:PE X a (tE X.K Ξ f)) (hb:PE X b (tE X.K Ξ g)) (hm:RD op b=false):PE X (.Compare a [op] [b] pos) (tE X.K Ξ (e2 o f g)):=bI (IE ho ha hb hm) qT
def KO {K:ĉ} (σ:St) (H:Hp) (Q:Bool->Hp->Prop):tT K Ξ (bY f) σ H Q->rP (tE K Ξ f) σ H Q:=by
 rintro ⟨w,env,rfl,S,Y,h⟩;refine ⟨w,env,rfl,S,Y,(Out.aj h).mono fun V x U X Z v1 W=>?_⟩
 cases x with
 |bl b =>
  have e:v1=.bl b:=W;exact ⟨b,e,ar X Z⟩
 |_=>exact Z.elim
def FC (i:∀ σ H Q,t' σ H Q->t σ H Q) (σ:St) (H:Hp) (Q:Bool->Hp->Prop):rP t' σ H Q->rP t σ H Q:=fun h=>i _ _ _ h
def dA (ho:aX X (Ć op) (rO X.K Ξ o)) (ha:PE X a (tE X.K Ξ f)) (hb:PE X b (tE X.K Ξ g)) (hm:RD op b=false):PT X (.Compare a [op] [b] pos) (tT X.K Ξ (bY (e2 o f g))) :=
 vh (IF ho ha hb hm) fun σ H Q h=>FC qT σ H Q (KO σ H Q h)
def KP {K:ĉ} {o o':D->D->aa->Res D} (σ:St) (H:Hp) (Q:VK):tE K Ξ (pZ o o' f g h) σ H Q->A9 (rO K Ξ o) (rO K Ξ o') (tE K Ξ f) (tE K Ξ g) (tE K Ξ h) σ H Q:=by
 rintro ⟨w,env,rfl,S,Y,h⟩;refine ⟨w,env,rfl,S,Y,(Out.aj h).mono fun P x W O N v1 M=>⟨P,env,rfl,O,Y.le W,(Out.aj N).mono fun L y V J I v2 U=>⟨L,x,y,rfl,J,V _ _ M,U,(Out.aj I).mono fun G z T X F E C=>?_⟩⟩⟩;have R:=Out.aj F
 cases z with
 |bl b =>
  have e:E=.bl b:=C;have Z:=ar X R;refine ⟨b,e,?_⟩
  cases b with
  |true =>
   rw [é rfl] at Z |-;exact ⟨G,env,rfl,X,Y.le (W.trans (V.trans T)),(Out.aj Z).mono fun B u A v t v4 s=>⟨B,y,u,rfl,v,(T.trans A) _ _ U,s,t⟩⟩
  |false =>
   rw [õ Ï] at Z |-;exact ar X Z _ rfl
 |_=>exact R.elim
def Je (ho:aX X (Ć op) (rO X.K Ξ o)) (fj:aX X (Ć nC) (rO X.K Ξ o')) (ha:PE X a (tE X.K Ξ f)) (hb:PE X b (tE X.K Ξ g)) (hc:PE X c (tE X.K Ξ h))
 (hm:lastMarks [op,nC] [b,c]=false:=by with_unfolding_all rfl):PE X (.Compare a [op,nC] [b,c] pos) (tE X.K Ξ (pZ o o' f g h)):=bI (G9 ho fj ha hb hc hm) KP
def NX (ho:pK X (unaryOp op) (rU X.K Ξ o)) (ha:PE X a (tE X.K Ξ f)):PE X (.UnaryOp op a pos) (tE X.K Ξ (e1 o f)):=bI (LX ho ha) fun σ H Q Z=>by
 obtain ⟨w,env,Y,S,W,h⟩:=Z;subst Y;exact ⟨w,env,rfl,S,W,(Out.aj h).mono fun V x P U T v1 R=>⟨V,x,rfl,U,R,T⟩⟩
def cR:PA X [] (tA X.K Ξ ai):=Bg gU fun σ H Q Z=>by
 obtain ⟨w,env,Y,S,W,h⟩:=Z;subst Y;exact ar S h _ rfl
def bJ (ha:PE X e (tE X.K Ξ f)) (hr:PA X es (tA X.K Ξ fa)) (hs:Æ (e::es) X.env=(false,ĺ e X.env)::Æ es X.env:=by rfl):PA X (e::es) (tA X.K Ξ (af f fa)):=Bg (fz ha hr hs) fun σ H Q Y=>by
 obtain ⟨w,env,W,S,Z,h⟩:=Y;subst W;exact ⟨w,env,rfl,S,Z,(Out.aj h).mono fun V x U T R v1 P=>⟨V,env,rfl,T,Z.le U,(Out.aj R).mono fun I G O N M L J=>ar N M _ ⟨v1,L,rfl,O _ _ P,J⟩⟩⟩
def nX {α:Type} {K:ĉ} {w:Wd} {ds:List D} {r:Res α} {k:Wd->α->Prop} (h:Out K Ξ w (fF ds r) k):ds.length<=Ö/\Out K Ξ w r k:=by
 unfold fF at h;split at h
 ·exact ⟨by assumption,h⟩
 ·exact h.elim
def eY {x1} (ha:PA X es (tA X.K Ξ fa)):PE X (.Tuple es x1 pos) (tE X.K Ξ (cV fa)):=bI (Km ha) fun σ H Q V=>by
 obtain ⟨w,env,U,S,T,h⟩:=V;subst U;refine ⟨w,env,rfl,S,T,(Out.aj h).mono fun R L J P O Y W=>?_⟩;obtain ⟨N,M⟩:=nX O;refine ⟨by rw [<- W.length];exact N,fun p Z=>?_⟩;exact M (R.grow p (.tup Y)) (Fw.grow Z).le (P.grow Z) rfl (.ref p) ⟨p,Y,rfl,aT.of bS,(Fw.grow Z).le.all W⟩
def kY {K:ĉ} {w:Wd} {p:Ò} (S:aA K w) (hp:w.H p=none):¬ w.Z p:=fun ⟨k,c,e1,_,_⟩=>S.there k p e1 hp
def gB (ha:PA X es (tA X.K Ξ fa)):PE X (.List es pos) (tE X.K Ξ (fe fa)):=bI (Ba ha) fun σ H Q R=>by
 obtain ⟨w,env,P,S,O,h⟩:=R;subst P;refine ⟨w,env,rfl,S,O,(Out.aj h).mono fun W J I V N U T=>?_⟩;obtain ⟨M,L⟩:=nX N;refine ⟨by rw [<- T.length];exact M,fun p Y=>?_⟩;exact L (W.grow p (.lst U)) (Fw.grow Y).le (V.grow Y) rfl (.ref p) ⟨p,U,rfl,⟨(show ¬ W.Z p from kY V Y),bS⟩,(Fw.grow Y).le.all T⟩
def mR (ha:PA X es (tA X.K Ξ fa)):PE X (.List es pos) (tE X.K Ξ (eNew fa)):=bI (Ba ha) fun σ H Q R=>by
 obtain ⟨w,env,P,S,O,h⟩:=R;subst P;refine ⟨w,env,rfl,S,O,(Out.aj h).mono fun Z V J Y N W U=>?_⟩;obtain ⟨M,L⟩:=nX N;refine ⟨by rw [<- U.length];exact M,fun p T=>?_⟩;have le:=(Fw.cell (o:=.lst W) (c:=.lst V) Y T).le;refine L (Z.cell p (.lst W) (.lst V)) le (Y.BW T ⟨W,bS,le.all U⟩) rfl (.ref p) ⟨p,?_,rfl⟩;show (Z.ρ++[p])[Z.aq.length]?=some p;rw [<- Y.len];simp
def Mn (ha:PE X a (tE X.K Ξ f)):PE X a (tE X.K Ξ (sr f)):=bI ha fun σ H Q W=>by
 obtain ⟨w,env,V,S,U,h⟩:=W;subst V;refine ⟨w,env,rfl,S,U,(Out.aj h).mono fun T x L Y Z v1 R=>?_⟩;unfold aN at Z;split at Z
 ·rename_i k
  split at Z
  ·rename_i J P
   obtain ⟨p,e1,e2⟩:=R;obtain ⟨O,N,M⟩:=Y.cell k p _ e1 P;exact Z (T.freeze k) Fw.freeze.le Y.freeze rfl v1 ⟨p,O,e2,⟨Wd.Gj Y e1,N⟩,Fw.freeze.le.all M⟩
  ·exact Z.elim
 ·exact Z.elim
theorem oS.of {K:ĉ} {w:Wd} {d:D} {v:V} {k:Wd->Bool->Prop} (S:aA K w) (hd:DV K w d v) (h:Out K Ξ w (truth d w.aq) k):∃b,oS K v w.H b/\k w b:=by
 cases d with
 |ao=>have e:v=.ao:=hd;subst e;exact ⟨_,rfl,ar S h⟩
 |bl b=>have e:v=.bl b:=hd;subst e;exact ⟨_,rfl,ar S h⟩
 |int i=>have e:v=.int i:=hd;subst e;exact ⟨_,rfl,ar S h⟩
 |str x =>
  have e:v=.str x:=hd;subst e;unfold truth at h
  split at h<;>first|contradiction|skip
  all_goals (rename_i e;cases e)
  split at h
  ·exact ⟨_,⟨by assumption,rfl⟩,ar S h⟩
  ·exact h.elim
 |tup Y =>
  simp only [DV] at hd;obtain ⟨a,Z,rfl,X,r⟩:=hd;refine ⟨_,.inr (.inl ⟨Z,X,?_⟩),ar S h⟩;have e:=r.length
  cases Y<;>cases Z<;>first|rfl|cases e
 |lst Y =>
  simp only [DV] at hd;obtain ⟨a,Z,rfl,X,r⟩:=hd;refine ⟨_,.inl ⟨Z,X.sq,?_⟩,ar S h⟩;have e:=r.length
  cases Y<;>cases Z<;>first|rfl|cases e
 |bo W =>
  simp only [DV] at hd;obtain ⟨a,rfl,_,X⟩:=hd;refine ⟨_,.inr (.inr ⟨_,X,?_⟩),ar S h⟩
  cases W<;>rfl
 |ax j =>
  simp only [DV] at hd;obtain ⟨a,e1,rfl⟩:=hd;simp only [truth] at h;split at h
  ·rename_i Y U
   obtain ⟨Z,T,R⟩:=S.cell j a _ e1 U;refine ⟨_,.inl ⟨Z,aR.of T,?_⟩,ar S h⟩;have e:=R.length
   cases Y<;>cases Z<;>first|rfl|cases e
  ·rename_i W U
   obtain ⟨es,T,R,Q⟩:=S.cell j a _ e1 U;refine ⟨_,.inr (.inr ⟨es,T,?_⟩),ar S h⟩;have e:=ķ List.length R
   cases W<;>cases es<;>first|rfl|simp at e
  ·exact h.elim
 |ty n=>exact h.elim
 |bh P=>exact h.elim
 |exc o=>exact h.elim
 |bE o _ _=>exact h.elim
def hV (ha:PE X a (tE X.K Ξ f)) (he:∀whole,isTrue a X.env whole=(do let v <- whole;standAt a.pos;RT [v] (truthy v)):=by intro _;rfl):PT X a (tT X.K Ξ (dC f)):=vh (Ha ha he) fun σ H Q Z=>by
 obtain ⟨w,env,Y,S,W,h⟩:=Z;subst Y;exact ⟨w,env,rfl,S,W,(Out.aj h).mono fun R x P V U v1 T=>oS.of V T U⟩
def oy (ha:PT X a (tT X.K Ξ ft)):PT X (.UnaryOp .Not a pos) (tT X.K Ξ (ib ft)):=vh (J3 ha) fun σ H Q Z=>by
 obtain ⟨w,env,Y,S,W,h⟩:=Z;subst Y;exact ⟨w,env,rfl,S,W,(Out.aj h).mono fun T b R V U=>ar V U⟩
def Bh (ha:PT X a (tT X.K Ξ ft)):PW X (.BoolOp .And [a] pos) (tT X.K Ξ ft):=Iw ha
def BY (ha:PT X a (tT X.K Ξ ft)):PW X (.BoolOp .Or [a] pos) (tT X.K Ξ ft):=J1 ha
def w_and (ha:PT X a (tT X.K Ξ ft)) (hb:PW X (.BoolOp .And (b::rest) pos) (tT X.K Ξ gt)):PW X (.BoolOp .And (a::b::rest) pos) (tT X.K Ξ (lI ft gt)):=Bf (J2 ha hb) fun σ H Q V=>by
 obtain ⟨w,env,U,S,Z,h⟩:=V;subst U;refine ⟨w,env,rfl,S,Z,(Out.aj h).mono fun T b R Y W=>?_⟩
 cases b with
 |true=>exact ⟨T,env,rfl,Y,Z.le R,W⟩
 |false=>exact ar Y W
def w_or (ha:PT X a (tT X.K Ξ ft)) (hb:PW X (.BoolOp .Or (b::rest) pos) (tT X.K Ξ gt)):PW X (.BoolOp .Or (a::b::rest) pos) (tT X.K Ξ (kA ft gt)):=Bf (LN ha hb) fun σ H Q V=>by
 obtain ⟨w,env,U,S,Z,h⟩:=V;subst U;refine ⟨w,env,rfl,S,Z,(Out.aj h).mono fun T b R Y W=>?_⟩
 cases b with
 |false=>exact ⟨T,env,rfl,Y,Z.le R,W⟩
 |true=>exact ar Y W
def lB {op} (ha:PE X a (tE X.K Ξ f)):PE X (.BoolOp op [a] pos) (tE X.K Ξ f):=J4 ha
def uU {K:ĉ} {w:Wd} {d:D} {v:V} {k:Wd->Bool->Prop} (S:aA K w) (hd:DV K w d v) (h:Out K Ξ w (ff d w.aq) k):∃b,v=.bl b/\k w b:=by
 cases d with
 |bl b=>exact ⟨b,hd,ar S h⟩
 |_=>exact h.elim
def j6 (ha:PE X a (tE X.K Ξ f)) (hb:PE X (.BoolOp .And (b::rest) pos) (tE X.K Ξ g)):PE X (.BoolOp .And (a::b::rest) pos) (tE X.K Ξ (fU f g)):=bI (J5 ha hb) fun σ H Q V=>by
 obtain ⟨w,env,U,S,Y,h⟩:=V;subst U;refine ⟨w,env,rfl,S,Y,(Out.aj h).mono fun T x R Z P v1 O=>?_⟩;obtain ⟨b,e,W⟩:=uU Z O (Out.aj P);refine ⟨b,e,?_⟩
 cases b with
 |true=>exact ⟨T,env,rfl,Z,Y.le R,W⟩
 |false=>exact ar Z W _ rfl
def CS (ha:PE X a (tE X.K Ξ f)) (hb:PE X (.BoolOp .Or (b::rest) pos) (tE X.K Ξ g)):PE X (.BoolOp .Or (a::b::rest) pos) (tE X.K Ξ (pY f g)):=bI (LQ ha hb) fun σ H Q V=>by
 obtain ⟨w,env,U,S,Y,h⟩:=V;subst U;refine ⟨w,env,rfl,S,Y,(Out.aj h).mono fun T x R Z P v1 O=>?_⟩;obtain ⟨b,e,W⟩:=uU Z O (Out.aj P);refine ⟨b,e,?_⟩
 cases b with
 |false=>exact ⟨T,env,rfl,Z,Y.le R,W⟩
 |true=>exact ar Z W _ rfl
def BZ (ha:PE X a (tE X.K Ξ f)):PE X (.UnaryOp .Not a pos) (tE X.K Ξ (oX f)):=bI (J6 ha) fun σ H Q Y=>by
 obtain ⟨w,env,W,S,V,h⟩:=Y;subst W;refine ⟨w,env,rfl,S,V,(Out.aj h).mono fun P x O Z U v1 T=>?_⟩;obtain ⟨b,e,R⟩:=uU Z T (Out.aj U);exact ⟨b,e,ar Z R _ rfl⟩
def NY (hc:PT X c (tT X.K Ξ ft)) (ha:PE X a (tE X.K Ξ f)) (hb:PE X b (tE X.K Ξ g)):PE X (.IfExp c a b pos) (tE X.K Ξ (sU ft f g)):=bI (G6 hc ha hb) fun σ H Q T=>by
 obtain ⟨w,env,R,S,Z,h⟩:=T;subst R;refine ⟨w,env,rfl,S,Z,(Out.aj h).mono fun Y b W V U=>?_⟩
 cases b with
 |true=>exact ⟨Y,env,rfl,V,Z.le W,U⟩
 |false=>exact ⟨Y,env,rfl,V,Z.le W,U⟩
def Bi (σ:St) (H:Hp) (Q:VK):tE K Ξ (eB o fa) σ H Q->xB (rC K Ξ o) (tA K Ξ fa) σ H Q:=by
 rintro ⟨w,env,rfl,S,Z,h⟩;exact ⟨w,env,rfl,S,Z,(Out.aj h).mono fun Y X T W V R U=>⟨Y,X,rfl,W,U,V⟩⟩
def bx {x:Str} {p:Pos} {id:String} {o:List D->aa->Res D} (hc:bK X (.builtin id) (rC X.K Ξ o)) (hg:Gl X x) (hm:X.mg x=none) (hv:ê x=some (.builtin id)) (ha:PA X (e::es) (tA X.K Ξ fa)) (hn:x≠"__name__":=by decide) (cf:(x==("__debug__":Str))=false:=by decide)
  (he:Æ (e::es) X.env=(false,ĺ e X.env)::Æ es X.env:=by rfl) (aZ:(Ġ pos (Æ es X.env)).any (·.1)=false:=by rfl):PE X (.Call (.Name x p) (e::es) [] pos) (tE X.K Ξ (eB o fa)):=bI (qG hc hg hm hv ha hn cf he aZ) Bi
def qI {x:Str} {p:Pos} {T:String} {o:List D->aa->Res D} (hc:bK X (.type T) (rC X.K Ξ o)) (hg:Gl X x) (hm:X.mg x=none) (hv:ê x=some (.type T)) (ha:PA X (e::es) (tA X.K Ξ fa)) (hn:x≠"__name__":=by decide) (cf:(x==("__debug__":Str))=false:=by decide)
  (he:Æ (e::es) X.env=(false,ĺ e X.env)::Æ es X.env:=by rfl) (aZ:(Ġ pos (Æ es X.env)).any (·.1)=false:=by rfl):PE X (.Call (.Name x p) (e::es) [] pos) (tE X.K Ξ (eB o fa)):=bI (qA hc hg hm hv ha hn cf he aZ) Bi
end
set_option genInjectivity true in
inductive Fl where
 |nx (env:Env)|rt (d:D)|bk (env:Env)|ct (env:Env)
def su (K:ĉ) (D:Ends) (w:Wd):Fl->Prop
 | .nx env=>∀ σ,bL K w env σ->D.nx σ w.H
 | .rt d=>∀v,DV K w d v->D.rt v w.H
 | .bk env=>∀ σ,bL K w env σ->D.bk σ w.H
 | .ct env=>∀ σ,bL K w env σ->D.ct σ w.H
def tS (K:ĉ) (Ξ:Wd->aM->Prop) (f:SV Fl):TS:=fun D σ H=>∃w env,w.H=H/\aA K w/\bL K w env σ/\Out K Ξ w (f env w.aq) (su K D)
def bZ:SV Fl:=fun env s=>ok (.nx env) s
def aD (f g:SV Fl):SV Fl:=fun env s=>aj (f env s) fun fl s=>match fl with
 | .nx env=>g env s
 |fl=>ok fl s
def aW (f:SV D):SV Fl:=fun env s=>aj (f env s) fun d s=>ok (.rt d) s
def fG (f:SV D):SV Fl:=fun env s=>aj (f env s) fun _ s=>ok (.nx env) s
def bO (c:SV Bool) (f g:SV Fl):SV Fl:=fun env s=>aj (c env s) fun b s=>if b=true then f env s else g env s
def B0:SV Fl:=fun env s=>ok (.ct env) s
def bA (f:SV D) (g:D->Env->Option Env):SV Fl:=fun env s=>aj (f env s) fun d s=>match g d env with
 |some Z=>ok (.nx Z) s
 |none=>none
def gN (i:Nat):D->Env->Option Env:=fun d env=>some (env.set i (some d))
def il:List (D->Env->Option Env)->List D->Env->Option Env
 | [],[],env=>some env
 |g::Z,d::Y,env=>match g d env with
  |some X=>il Z Y X
  |none=>none
 |_,_,_=>none
def gT (gs:List (D->Env->Option Env)):D->Env->Option Env:=fun d env=>match d with
 | .tup Z=>il gs Z env
 |_=>none
def iN (g:D->Env->Option Env) (b:SV Fl):List D->SV Fl
 | [],env,s=>ok (.nx env) s
 |d::Z,env,s=>match g d env with
  |none=>none
  |some Y=>aj (b Y s) fun X s=>match X with
   | .nx e=>iN g b Z e s
   | .ct e=>iN g b Z e s
   | .bk e=>ok (.nx e) s
   | .rt d=>ok (.rt d) s
def fV (it:SV (List D)) (g:D->Env->Option Env) (b:SV Fl):SV Fl:=fun env s=>aj (it env s) fun Z s=>iN g b Z env s
def ne {α:Type} (r:Res α):Res α:=match r with
 |some (.ok a,s)=>some (.ok a,s)
 |_=>none
@[simp] theorem j7 {α:Type} {a:α} {s:aa}:ne (some (.ok a,s))=some (.ok a,s):=rfl
def eD (cap:List Nat) (env:Env):Env:=cap.map fun j=>(env[j]?).getD none
def dJ (nt:Nat) (aB:Env) (g:D->Env->Option Env) (t:SV Bool) (f:SV D):List D->aa->Res (List D)
 | [],s=>ok [] s
 |d::Z,s=>match g d (Ñ nt none++aB) with
  |none=>none
  |some env=>aj (ne (t env s)) fun b s=>if b=true then aj (ne (f env s)) fun x s=>aj (dJ nt aB g t f Z s) fun Y s=>ok (x::Y) s
   else dJ nt aB g t f Z s
def dP (nt:Nat) (cap:List Nat) (it:SV (List D)) (g:D->Env->Option Env) (t:SV Bool) (f:SV D):SV D:=fun env s =>
 aj (it env s) fun Z s=>fF Z (aj (dJ nt (eD cap env) g t f Z s) fun Y s=>ok (.lst Y) s)
def oj (nt:Nat) (cap:List Nat) (it:SV (List D)) (g:D->Env->Option Env) (t:SV Bool) (f:SV D):SV D:=fun env s =>
 aj (it env s) fun Z s=>fF Z (aj (dJ nt (eD cap env) g t f Z s) fun Y s=>ok (.ax s.length) (s++[.lst Y]))
def jK:SV Bool:=fun _ s=>ok true s
def aP (np ns:Nat) (b:SV Fl):List D->aa->Res D:=fun Z s=>if Z.length=np then aj (b (Z.map some++Ñ (ns-np) none) s) fun Y s=>match Y with
 | .rt d=>ok d s
 | .nx _=>ok .ao s
 |_=>none else none
abbrev bF:Wd->aM->Prop:=fun _ _=>False
def gg (K:ĉ) (f:List D->aa->Res D):Sp:=fun X H Q _=>∃w Z,w.H=H/\aA K w/\ak K w Z X/\Out K bF w (f Z w.aq) fun Y d=>∀v,DV K Y d v->Q v Y.H
section
variable {X:Cx} {Ξ:Wd->aM->Prop} {e a b c tg:Ě} {es rest:List Ě} {pos:Pos} {f g h:SV D} {fa:SV (List D)} {ft gt:SV Bool} {st:SH} {me wO:List SH} {fs gs:SV Fl}
def c9:bV X [] (tS X.K Ξ bZ):=Az Iy fun D σ H Z=>by
 obtain ⟨w,env,Y,S,W,h⟩:=Z;subst Y;exact ar S h σ W
def bb (h1:PS X st (tS X.K Ξ fs)) (h2:bV X me (tS X.K Ξ gs)):bV X (st::me) (tS X.K Ξ (aD fs gs)):=Az (G7 h1 h2) fun D σ H W=>by
 obtain ⟨w,env,V,S,U,h⟩:=W;subst V;refine ⟨w,env,rfl,S,U,(Out.aj h).mono fun T R P Z h1=>?_⟩
 cases R with
 |nx Y=>exact fun O Q=>⟨T,Y,rfl,Z,Q,h1⟩
 |rt d=>have q:=ar Z h1;exact q
 |bk Y=>have q:=ar Z h1;exact q
 |ct Y=>have q:=ar Z h1;exact q
def aQ (h1:PS X st (tS X.K Ξ fs)):bV X [st] (tS X.K Ξ fs):=Iz h1
def bw (he:PE X e (tE X.K Ξ f)):PS X (.Return (some e) pos) (tS X.K Ξ (aW f)):=jY (J8 he) fun D σ H Z=>by
 obtain ⟨w,env,Y,S,W,h⟩:=Z;subst Y;exact ⟨w,env,rfl,S,W,(Out.aj h).mono fun T d R V U=>ar V U⟩
def kZ (he:PE X e (tE X.K Ξ f)) (hs:swapsWith e none pos.line X.env=pure false:=by rfl):PS X (.Expr e pos) (tS X.K Ξ (fG f)):=jY (IA he hs) fun D σ H Y=>by
 obtain ⟨w,env,W,S,Z,h⟩:=Y;subst W;exact ⟨w,env,rfl,S,Z,(Out.aj h).mono fun R d V U T _ _=>ar U T σ (Z.le V)⟩
def dh (hc:PT X c (tT X.K Ξ ft)) (ha:bV X me (tS X.K Ξ fs)) (hb:bV X wO (tS X.K Ξ gs)):PS X (.If c me wO pos) (tS X.K Ξ (bO ft fs gs)):=jY (LU hc ha hb) fun D σ H T=>by
 obtain ⟨w,env,R,S,Z,h⟩:=T;subst R;refine ⟨w,env,rfl,S,Z,(Out.aj h).mono fun Y b W V U=>?_⟩
 cases b with
 |true=>exact ⟨Y,env,rfl,V,Z.le W,U⟩
 |false=>exact ⟨Y,env,rfl,V,Z.le W,U⟩
def gD (K:ĉ) (g:D->Env->Option Env):TG:=fun v σ H Q=>∃w env d Z,w.H=H/\aA K w/\bL K w env σ/\DV K w d v/\g d env=some Z/\∀ Y,bL K w Z Y->Q Y H
def O9 (K:ĉ) (g:List D->Env->Option Env):i5:=fun W σ H Q=>∃w env Z Y,w.H=H/\aA K w/\bL K w env σ/\ak K w Z W/\g Z env=some Y/\∀ X,bL K w Y X->Q X H
def KQ {t t':TG} (h:PG X e t) (i:∀v σ H Q,t' v σ H Q->t v σ H Q):PG X e t':=fun Z s σ H v u Q I r Y=>h Z s σ H v u Q I r (i v σ H Q Y)
def jj (i:Nat) {x:Str} (hN:X.N.Nodup) (hi:X.N[i]?=some x:=by rfl) (hx:Loc X.env.scope x:=by first|exact SU rfl|exact Or.inr rfl) (hf:X.fn x=true\/X.env.scope.names.lookup x=some .local:=by first|exact .inl rfl|exact .inr rfl):PG X (.Name x pos) (gD X.K (gN i)) :=
 KQ (kP hN hi hx hf) fun v σ H Q Z=>by
  obtain ⟨w,env,d,Y,T,S,W,V,U,k⟩:=Z;have e:env.set i (some d)=Y:=S7 U;subst e;exact k _ (W.set V i)
theorem zY:∀{gl:List (D->Env->Option Env)} {ds:List D} {env aF:Env},il gl ds env=some aF->ds.length=gl.length
 | [],[],_,_,_=>rfl
 |g::gl,d::ds,env,aF,h=>by
  simp only [il] at h
  cases Z:g d env with
  |none=>rw [Z] at h;cases h
  |some e1=>rw [Z] at h;simp [zY h]
 | [],_::_,_,_,h=>by cases h
 |_::_,[],_,_,h=>by cases h
def Jf {K:ĉ} {g:D->Env->Option Env} (D:Ends) (σ:St) (H:Hp):tS K Ξ (bA f g) D σ H->oR (tE K Ξ f) (gD K g) D σ H:=by
 rintro ⟨w,env,rfl,S,X,h⟩;refine ⟨w,env,rfl,S,X,(Out.aj h).mono fun V d U W Z v T=>?_⟩
 cases Y:g d env with
 |none=>rw [Y] at Z;exact Z.elim
 |some R =>
  rw [Y] at Z;exact ⟨V,env,d,R,rfl,W,X.le U,T,Y,ar W Z⟩
def Gk {K:ĉ} {te:TE} {i:Nat} (D:Ends) (σ:St) (H:Hp):oR (tE K Ξ f) (gD K (gN i)) D σ H->oR (tE K Ξ f) (lp i) D σ H:=by
 rintro ⟨w,env,rfl,S,Z,h⟩;refine ⟨w,env,rfl,S,Z,h.mono fun P d O N Y v X=>?_⟩;obtain ⟨M,W,V,U,L,J,T,R,Q,k⟩:=Y v X;have e:W.set i (some V)=U:=S7 Q;subst e;exact k _ (T.set R i)
def cA (i:Nat) {x:Str} {pos':Pos} (hN:X.N.Nodup) (he:PE X e (tE X.K Ξ f)) (hi:X.N[i]?=some x:=by rfl) (hx:Loc X.env.scope x:=by first|exact SU rfl|exact Or.inr rfl) (hs:swapsWith e (some (.Name x pos')) pos.line X.env=pure false:=by rfl) (hf:X.fn x=true\/X.env.scope.names.lookup x=some .local:=by first|exact .inl rfl|exact .inr rfl) :
  PS X (.Assign [.Name x pos'] e pos) (tS X.K Ξ (bA f (gN i))):=jY (Kb hN hi hx he hs hf) fun D σ H h=>Gk (te:=tE X.K Ξ f) D σ H (Jf D σ H h)
def nJ (K:ĉ) (w:Wd) (J:It) (ds:List D):Prop:=∀Z,Le K w Z->aA K Z->∀i,
 (∀d,ds[i]?=some d->J.go i Z.H/\∀x X,J.pH i Z.H x X->∃Y,Y.H=X/\Le K Z Y/\aA K Y/\Y.aq=Z.aq/\DV K Y d x)/\(ds.length<=i->J.stop i Z.H)
def gk (K:ĉ) (Ξ:Wd->aM->Prop) (f:SV (List D)):TI:=fun σ H R=>∃w env,w.H=H/\aA K w/\bL K w env σ/\Out K Ξ w (f env w.aq) fun Z Y=>∀J,nJ K Z J Y->R J Z.H
def vi {t t':TI} (h:PI X tg e t) (i:∀ σ H R,t' σ H R->t σ H R):PI X tg e t':=fun Z s σ H R I Y=>h Z s σ H R I (i σ H R Y)
def Jg {K:ĉ} {it:SV (List D)} {g:D->Env->Option Env} (D0:Ends) (σ:St) (H:Hp):tS K Ξ (fV it g fs) D0 σ H->CH (gk K Ξ it) (gD K g) (tS K Ξ fs) D0 σ H:=by
 rintro ⟨w,env,rfl,S,B,h⟩;refine ⟨w,env,rfl,S,B,(Out.aj h).mono fun M Y p o n J A=>?_⟩;refine ⟨fun i m L z=>m=Y.length-i/\i<=Y.length/\∃X V,X.H=z/\Le K M X/\aA K X/\bL K X V L/\Out K Ξ X (iN g fs (Y.drop i) V X.aq) (su K D0),
  ⟨Y.length,rfl,ċ _,M,env,rfl,Le.refl _,o,B.le p,n⟩,?_⟩
 rintro i m L z ⟨rfl,hi,X,V,rfl,U,I,v,W⟩;by_cases G:i<Y.length
 ·right
  obtain ⟨l,k⟩:=(A X U I i).1 _ (Ì G);rw [Ź G] at W;simp only [iN] at W
  cases F:g Y[i] V with
  |none=>rw [F] at W;exact W.elim
  |some u =>
   rw [F] at W;refine ⟨l,fun E T=>∃Z R,Z.H=T/\Le K M Z/\aA K Z/\bL K Z R E/\Out K Ξ Z (iN g fs (Y.drop (i+1)) R Z.aq) (su K D0),fun E T ⟨Z,R,q⟩=>⟨Y.length-(i+1),by omega,rfl,G,Z,R,q⟩,fun x T y=>?_⟩;obtain ⟨Z,rfl,Q,t,es,j⟩:=k x T y;refine ⟨Z,V,Y[i],u,rfl,t,v.le Q,j,F,fun E f=>⟨Z,u,rfl,t,f,?_⟩⟩;rw [<- es] at W;refine (Out.aj (W.from Q)).mono fun s c r P O=>?_
   cases c with
   |nx N=>exact fun b C=>⟨s,N,rfl,U.trans (Q.trans r),P,C,O⟩
   |ct N=>exact fun b C=>⟨s,N,rfl,U.trans (Q.trans r),P,C,O⟩
   |bk N=>have q:=ar P O;exact q
   |rt d=>have q:=ar P O;exact q
 ·left
  have e:i=Y.length:=by omega
  subst e;rw [List.drop_length] at W;exact ⟨(A X U I _).2 (S0 _),ar I W L v⟩
def jo {iter:Ě} {it:SV (List D)} {g:D->Env->Option Env} (hp:PassesOwn (á X.prog X.w) X.A X.env X.xe) (hc:X.calm=true) (hi:PI X tg iter (gk X.K Ξ it)) (hg:PG X tg (gD X.K g)) (hb:bV X me (tS X.K Ξ fs))
  (hs:∀x,į iter X.env x=pure x:=by intro _;rfl):PS X (.For tg iter me [] pos) (tS X.K Ξ (fV it g fs)):=jY (Ke hp hc hi hg hb hs) Jg
theorem Out.ne {α:Type} {K:ĉ} {w:Wd} {r:Res α} {k:Wd->α->Prop} (h:Out K Ξ w (DI.ne r) k):Out K bF w r k:=by
 match r,h with
 |some (.ok a,s),h=>exact h
def bL.block {K:ĉ} {w:Wd} {env:Env} {σ:St} (h:bL K w env σ) (nt:Nat) (cap:List Nat) (o:St) (ho:o.length=nt):bL K w (Ñ nt none++eD cap env) (o++lu cap σ):=by
 refine ⟨by simp [eD,lu,ho],fun i d e=>?_⟩;by_cases hi:i<nt
 ·rw [Ú (by simpa using hi),ĸ,é hi] at e
  cases e
 ·rw [ù (by simpa using Sg hi)] at e
  rw [ù (by omega),ho];simp only [Sa] at e;unfold eD at e;unfold lu;rw [è] at e |-
  cases Z:cap[i-nt]? with
  |none=>rw [Z] at e;cases e
  |some j =>
   rw [Z] at e;have ev:(env[j]?).getD none=some d:=S7 e;have Y:env[j]?=some (some d):=by
    cases q:env[j]? with
    |none=>rw [q] at ev;cases ev
    |some z=>rw [q] at ev;exact ķ some ev
   obtain ⟨v,e1,e2⟩:=h.val j d Y;exact ⟨v,by rw [SD,e1];rfl,e2⟩
def zM {K:ĉ} {nt:Nat} {cap:List Nat} {it:SV (List D)} {g:D->Env->Option Env} {fin:List D->aa->Res D} (σ:St) (H:Hp) (Q:VK)
  (wQ:∀(w2:Wd) (xs:List D) (vs:List V),aA K w2->ak K w2 xs vs->Out K Ξ w2 (fin xs w2.aq) (fun w' d=>∀v,DV K w' d v->Q v w'.H)->∀p,w2.H p=none->Q (.ref p) (upd w2.H p (.lst vs))) :
  tE K Ξ (fun env s=>aj (it env s) fun ds s=>fF ds (aj (dJ nt (eD cap env) g ft f ds s) fin)) σ H Q->lA (gk K Ξ it) nt cap (gD K g) (tT K bF ft) (tE K bF f) σ H Q:=by
 rintro ⟨w,env,rfl,S,B,h⟩;refine ⟨w,env,rfl,S,B,(Out.aj h).mono fun N ds j c M J A=>?_⟩;obtain ⟨hz,M⟩:=nX M;refine ⟨fun i m Z z=>m=ds.length-i/\i<=ds.length/\Z.length<=i/\∃w' X,w'.H=z/\Le K N w'/\aA K w'/\ak K w' X Z/\Out K Ξ w' (dJ nt (eD cap env) g ft f (ds.drop i) w'.aq) fun w2 xs=>∀vs,ak K w2 (X++xs) vs->∀p,w2.H p=none->Q (.ref p) (upd w2.H p (.lst vs)),
  ⟨ds.length,rfl,ċ _,ċ _,N,[],rfl,Le.refl _,c,rfl,(Out.aj M).mono fun w2 xs W P a vs O p U=>?_⟩,?_⟩
 ·exact wQ w2 xs vs P O a p U
 rintro i m Z z ⟨rfl,hi,ha,w',X,rfl,T,L,I,Y⟩;by_cases G:i<ds.length
 ·right
  obtain ⟨jL,hy⟩:=(A w' T L i).1 _ (Ì G);rw [Ź G] at Y;simp only [dJ] at Y
  cases F:g ds[i] (Ñ nt none++eD cap env) with
  |none=>rw [F] at Y;exact Y.elim
  |some E =>
   rw [F] at Y;refine ⟨jL,by omega,fun C u=>C.length<=i+1/\∃w' X,w'.H=u/\Le K N w'/\aA K w'/\ak K w' X C/\Out K Ξ w' (dJ nt (eD cap env) g ft f (ds.drop (i+1)) w'.aq) fun w2 xs=>∀vs,ak K w2 (X++xs) vs->∀p,w2.H p=none->Q (.ref p) (upd w2.H p (.lst vs)),
    fun C u ⟨xY,q⟩=>⟨ds.length-(i+1),by omega,rfl,G,xY,q⟩,fun o x H3 ho y=>?_⟩
   obtain ⟨w2,rfl,W,P,es,dv⟩:=hy x H3 y;refine ⟨w2,_,ds[i],E,rfl,P,(B.le (j.trans (T.trans W))).block nt cap o ho,dv,F,fun lW t=>?_⟩;rw [<- es] at Y;refine ⟨w2,E,rfl,P,t,(Out.aj (Y.from W)).ne.mono fun r b R n l=>?_⟩
   cases b with
   |true =>
    refine ⟨r,E,rfl,n,t.le R,(Out.aj l).ne.mono fun w4 d k S4 h4 v p0=>⟨by rw [ð];simp;omega,w4,X++[d],rfl,T.trans (W.trans (R.trans k)),S4,ak.append ((W.trans (R.trans k)).all I) (ak.one p0),(Out.aj h4).mono fun w5 xs l5 S5 h5 vs O p U=>?_⟩⟩;exact ar S5 h5 vs (by rw [ŭ] at O;exact O) p U
   |false =>
    exact ⟨by omega,r,X,rfl,T.trans (W.trans R),n,(W.trans R).all I,l⟩
 ·left
  have e:i=ds.length:=by omega
  subst e;rw [List.drop_length] at Y;refine ⟨(A w' T L _).2 (S0 _),by omega,fun p U=>ar L Y Z (by rw [ĩ];exact I) p U⟩
def Hv {K:ĉ} {nt:Nat} {cap:List Nat} {it:SV (List D)} {g:D->Env->Option Env} (σ:St) (H:Hp) (Q:VK) :
  tE K Ξ (dP nt cap it g ft f) σ H Q->lA (gk K Ξ it) nt cap (gD K g) (tT K bF ft) (tE K bF f) σ H Q :=
 zM σ H Q fun X S W V U T p Y=>T (X.grow p (.lst W)) (Fw.grow Y).le (V.grow Y) rfl (.ref p) ⟨p,W,rfl,⟨(show ¬ X.Z p from kY V Y),bS⟩,(Fw.grow Y).le.all U⟩
def Gm {K:ĉ} {nt:Nat} {cap:List Nat} {it:SV (List D)} {g:D->Env->Option Env} (σ:St) (H:Hp) (Q:VK) :
  tE K Ξ (oj nt cap it g ft f) σ H Q->lA (gk K Ξ it) nt cap (gD K g) (tT K bF ft) (tE K bF f) σ H Q :=
 zM σ H Q fun Z W Y X U T p V=>by
  have le:=(Fw.cell (o:=.lst Y) (c:=.lst W) X V).le;refine T (Z.cell p (.lst Y) (.lst W)) le (X.BW V ⟨Y,bS,le.all U⟩) rfl (.ref p) ⟨p,?_,rfl⟩;show (Z.ρ++[p])[Z.aq.length]?=some p;rw [<- X.len];simp
end
def AA {o aB:St} {v:V} {i nt:Nat} (ho:o.length=nt) (hi:i<nt):(o++aB).set i (some v)=o.set i (some v)++aB:=by
 rw [List.set_append_left _ _ (by omega)]
def Gn {i nt:Nat} (hi:i<nt):pR (lp i) nt:=by
 intro x o Y H R Z h;exact ⟨⟨o.set i (some x),by rw [ô];exact Z,AA Z hi⟩,h⟩
def oY (g:i5) (nt:Nat):Prop:=∀(Y:List V) (o Z:St) (H:Hp) (R:St->Hp->Prop),o.length=nt->g Y (o++Z) H R->g Y (o++Z) H fun X U=>(∃W:St,W.length=nt/\X=W++Z)/\R X U
def Hw:oY wD nt:=fun Y o X H R Z h=>⟨h.1,⟨o,Z,rfl⟩,h.2⟩
def Gp {i nt:Nat} {g:i5} (hi:i<nt) (hg:oY g nt):oY (vU (lp i) g) nt:=by
 rintro X o Z H R Y ⟨v,r,e,h⟩;refine ⟨v,r,e,?_⟩;have h:g r ((o++Z).set i (some v)) H R:=h;show g r ((o++Z).set i (some v)) H _;rw [AA Y hi] at h |-;exact hg r _ Z H R (by rw [ô];exact Y) h
def Hx (hg:oY g nt):pR (wF K n g) nt:=by
 rintro x o Y H R X ⟨a,Z,e,W,V,h⟩;exact ⟨a,Z,e,W,V,hg Z o Y H R X h⟩
structure Tg (K:ĉ) (g0:TG) (g:D->Env->Option Env) (nt:Nat):Prop where
 nK:pR g0 nt
 imp:∀v σ H Q,gD K g v σ H Q->g0 v σ H Q
structure sV (K:ĉ) (g0:i5) (g:List (D->Env->Option Env)) (nt:Nat):Prop where
 nK:oY g0 nt
 imp:∀v σ H Q,O9 K (il g) v σ H Q->g0 v σ H Q
def AB (i:Nat) (hi:i<nt:=by decide):Tg K (lp i) (gN i) nt:=⟨Gn hi,fun v σ H Q Z=>by
 obtain ⟨w,env,d,Y,U,S,X,W,V,k⟩:=Z;have e:env.set i (some d)=Y:=S7 V;subst e;exact k _ (X.set W i)⟩
def AD:sV K wD [] nt:=⟨Hw,fun T σ H Q X=>by
 obtain ⟨w,env,Z,W,R,S,V,U,Y,k⟩:=X
 cases Z with
 |nil =>
  have e:env=W:=S7 Y;subst e;exact ⟨U,k _ V⟩
 |cons d Z=>cases Y⟩
def qJ (i:Nat) (h:sV K g0 gl nt) (hi:i<nt:=by decide):sV K (vU (lp i) g0) (gN i::gl) nt:=⟨Gp hi h.nK,fun P σ H Q X=>by
 obtain ⟨w,env,Z,W,V,S,U,T,Y,k⟩:=X
 cases Z with
 |nil=>cases Y
 |cons d Z =>
  obtain ⟨v,r,rfl,R,dr⟩:=T;exact ⟨v,r,rfl,h.imp _ _ _ _ ⟨w,_,Z,W,V,S,U.set R i,dr,Y,k⟩⟩⟩
def Bj (h:sV K g0 gl nt) (hn:gl.length=n:=by rfl):Tg K (wF K n g0) (gT gl) nt:=⟨Hx h.nK,fun v σ H Q W=>by
 obtain ⟨w,env,d,V,U,S,T,Y,Z,k⟩:=W
 cases d with
 |tup R =>
  simp only [DV] at Y;obtain ⟨p,P,e1,O,X⟩:=Y;subst U;exact ⟨p,P,e1,O,by rw [<- X.length,zY Z];exact hn,h.imp _ _ _ _ ⟨w,env,R,V,rfl,S,T,X,Z,k⟩⟩
 |_=>cases Z⟩
section
variable {X:Cx} {Ξ:Wd->aM->Prop} {e a b c tg el src:Ě} {es rest tests:List Ě} {pos:Pos} {f g h:SV D} {fa:SV (List D)} {ft gt:SV Bool} {st:SH} {me wO:List SH} {fs gs:SV Fl}
def KR (h:PF X tests t) (i:∀ σ H Q,t' σ H Q->t σ H Q):PF X tests t':=fun Z s σ H Q I Y=>h Z s σ H Q I (i σ H Q Y)
def lC:PF X [] (tT K Ξ jK):=KR Kz fun σ H Q Z=>by
 obtain ⟨w,env,Y,S,W,h⟩:=Z;subst Y;exact ar S h
def oz (h:PT X c (tT K Ξ ft)):PF X [c] (tT K Ξ ft):=KC h
def tQ (i_:∀v σ H Q,g1 v σ H Q->g0 v σ H Q) (wm:∀R R':It->Hp->Prop,(∀J H',R J H'->R' J H')->wi σ H R->wi σ H R') (h:lA wi nt cap g1 tf te σ H Q):lA wi nt cap g0 tf te σ H Q:=by
 refine wm _ _ (fun J H' Y=>?_) h;obtain ⟨W,X,step⟩:=Y;refine ⟨W,X,fun i m Z V hw=>?_⟩
 rcases step i m Z V hw with q | ⟨U,T,N,S,P⟩
 ·exact .inl q
 ·exact .inr ⟨U,T,N,S,fun o x O M y=>i_ _ _ _ _ (P o x O M y)⟩
def zZ (R R':It->Hp->Prop) (i:∀J H',R J H'->R' J H') (h:gk K Ξ it σ H R):gk K Ξ it σ H R':=by
 obtain ⟨w,env,Z,S,Y,h⟩:=h;exact ⟨w,env,Z,S,Y,h.mono fun V U _ _ X J W=>i J _ (X J W)⟩
def di (f:SV D):SV (List D):=fun env s=>aj (f env s) fun d s=>match d with
 | .lst Z=>ok Z s
 | .tup Z=>ok Z s
 |_=>none
def Hy {K:ĉ} {w:Wd} {a:Ò} {ds:List D} (h:DV K w (.lst ds) (.ref a)):nJ K w (xu K a) ds:=fun V U T i=>by
 have X:=U _ _ h;simp only [DV] at X;obtain ⟨p,Z,e,Y,W⟩:=X;cases e;refine ⟨fun d S=>?_,fun R=>⟨Z,Y.sq,by rw [<- W.length];exact R⟩⟩;obtain ⟨v,ev,Q⟩:=W.get' i d S;exact ⟨⟨Z,v,Y.sq,ev⟩,fun x P ⟨e1,e2⟩=>⟨V,e1.symm,Le.refl _,T,rfl,by
  have q:=e2 Z Y.sq;rw [ev] at q;cases q;exact Q⟩⟩
def Jh {K:ĉ} {w:Wd} {a:Ò} {ds:List D} (h:DV K w (.tup ds) (.ref a)):nJ K w (xw K a) ds:=fun V U T i=>by
 have X:=U _ _ h;simp only [DV] at X;obtain ⟨p,Z,e,Y,W⟩:=X;cases e;refine ⟨fun d S=>?_,fun R=>⟨Z,Y,by rw [<- W.length];exact R⟩⟩;obtain ⟨v,ev,Q⟩:=W.get' i d S;exact ⟨⟨Z,v,Y,ev⟩,fun x P ⟨e1,e2⟩=>⟨V,e1.symm,Le.refl _,T,rfl,by
  have q:=e2 Z Y;rw [ev] at q;cases q;exact Q⟩⟩
def hW (hl:PE X a (tE X.K Ξ f)):PI X tg a (gk X.K Ξ (di f)):=by
 have both:PI X tg a (fun σ H R=>BP X.K (tE X.K Ξ f) σ H R\/CG X.K (tE X.K Ξ f) σ H R):=fun N s σ H R I h=>h.elim (IC hl N s σ H R I) (Kd hl N s σ H R I);refine vi both fun σ H R ⟨w,env,M,S,W,h⟩=>?_;subst M;simp only [di] at h
 cases Y:f env w.aq with
 |none=>rw [Y] at h;exact h.elim
 |some r =>
  obtain ⟨r,s⟩:=r;rw [Y] at h
  cases r with
  |error x=>exact .inl ⟨w,env,rfl,S,W,by rw [Y];exact h⟩
  |ok d =>
   rw [eV] at h
   cases d with
   |lst L =>
    refine .inl ⟨w,env,rfl,S,W,?_⟩;rw [Y];intro V U T e1 v Z;have Q:=Z;simp only [DV] at Z;obtain ⟨p,P,rfl,O,J⟩:=Z;exact ⟨p,rfl,⟨P,O.sq⟩,h V U T e1 _ (Hy Q)⟩
   |tup L =>
    refine .inr ⟨w,env,rfl,S,W,?_⟩;rw [Y];intro V U T e1 v Z;have Q:=Z;simp only [DV] at Z;obtain ⟨p,P,rfl,O,J⟩:=Z;exact ⟨p,rfl,⟨P,O⟩,h V U T e1 _ (Jh Q)⟩
   |_=>exact h.elim
noncomputable def cb (lo:Int) (n:Nat):List D:=(ć n).map fun (i:Nat)=>D.int (lo+(i:Int))
def jR:(cb lo n)[i]?=if i<n then some (.int (lo+i)) else none:=by
 unfold cb;rw [è];by_cases h:i<n
 ·rw [Sz h,é h];rfl
 ·rw [ĕ (by simp;omega),õ h];rfl
def jS:(cb lo n).length=n:=by simp [cb]
def Ji:nJ K w (sM lo n) (cb lo n):=fun X V W i=>by
 refine ⟨fun d Z=>?_,fun Y=>by rw [jS] at Y;exact Y⟩;rw [jR] at Z;split at Z
 ·cases Z
  exact ⟨by assumption,fun x U ⟨e1,e2⟩=>⟨X,e1.symm,Le.refl _,W,rfl,e2⟩⟩
 ·cases Z
noncomputable def oA (j:Int):Bool:=decide (-(2 ^ 62)<=j)&&decide (j<2 ^ 62)
def fN (fa:SV (List D)):SV (List D):=fun env s=>aj (fa env s) fun Z s=>match Z with
 | [.int j]=>if oA j=true then ok (cb 0 j.toNat) s else none
 |_=>none
def jZ (hg:Gl X "range") (hm:X.mg "range"=none) (ha:PA X [a] (tA X.K Ξ fa)) (hs:Æ [a] X.env=[(false,ĺ a X.env)]:=by rfl):PI X tg (.Call (.Name "range" p) [a] [] pos) (gk X.K Ξ (fN fa)) :=
 vi (F1 hg hm ha hs) fun σ H R W=>by
  obtain ⟨w,env,V,S,U,h⟩:=W;subst V;refine ⟨w,env,rfl,S,U,(Out.aj h).mono fun O N M T Z L Q=>?_⟩;split at Z
  ·rename_i j
   split at Z
   ·rename_i Y
    simp only [oA,Í,ß] at Y;obtain ⟨v,r,rfl,P,dr⟩:=Q;have e1:v=.int j:=P;have e2:r=[]:=dr;subst e1 e2;exact ⟨j,rfl,Y.1,Y.2,ar T Z _ Ji⟩
   ·exact Z.elim
  ·exact Z.elim
noncomputable def dX (xs ys:List D):List D:=(xs.zip ys).map fun p=>.tup [p.1,p.2]
def z0 {i:Nat} (h:(dX xs ys)[i]?=some d):∃x y,xs[i]?=some x/\ys[i]?=some y/\d=.tup [x,y]:=by
 unfold dX at h;rw [è] at h
 cases Z:(xs.zip ys)[i]? with
 |none=>rw [Z] at h;cases h
 |some p =>
  rw [Z] at h;obtain ⟨Y,X⟩:=List.getElem?_zip_eq_some.mp Z;exact ⟨p.1,p.2,Y,X,(S7 h).symm⟩
def qK:(dX xs ys).length=min xs.length ys.length:=by simp [dX]
def zN (S':aA K w') (hp:w'.H p=none) (h1:DV K w' d x) (h2:DV K w' d2 y) :
  ∃w2,w2.H=upd w'.H p (.tup [x,y])/\Le K w' w2/\aA K w2/\w2.aq=w'.aq/\DV K w2 (.tup [d,d2]) (.ref p) :=
 ⟨w'.grow p (.tup [x,y]),rfl,(Fw.grow hp).le,S'.grow hp,rfl,p,[x,y],rfl,aT.of bS,(Fw.grow hp).le.all (ak.two h1 h2)⟩
@[reducible] noncomputable def xZ:Bool->List D->D
 |true=>.tup
 |false=>.lst
def B1 {K:ĉ} {w:Wd} {a:Ò} {ds:List D}:∀{k},DV K w (xZ k ds) (.ref a)->∃xs,gb k K w.H a xs/\ak K w ds xs
 |true,h=>by
  simp only [DV] at h;obtain ⟨p,xs,e,Z,Y⟩:=h;cases e;exact ⟨xs,Z,Y⟩
 |false,h=>by
  simp only [DV] at h;obtain ⟨p,xs,e,Z,Y⟩:=h;cases e;exact ⟨xs,Z.sq,Y⟩
def Hz {k l:Bool} {K:ĉ} {w:Wd} {a b:Ò} {ds es:List D} (h:DV K w (xZ k ds) (.ref a)) (g:DV K w (xZ l es) (.ref b)):nJ K w (oV k l K a b) (dX ds es):=fun F V P i=>by
 obtain ⟨Z,Y,U⟩:=B1 (V _ _ h);obtain ⟨X,W,T⟩:=B1 (V _ _ g);refine ⟨fun d O=>?_,fun N=>⟨Z,X,Y,W,?_⟩⟩
 ·obtain ⟨x,y,e1,e2,rfl⟩:=z0 O
  obtain ⟨v,ev,M⟩:=U.get' i x e1;obtain ⟨u,S,L⟩:=T.get' i y e2;refine ⟨⟨Z,X,v,u,Y,W,ev,S⟩,fun z E ⟨r,C,y1,J,I,H,G⟩=>?_⟩;obtain ⟨R,Q⟩:=G Z X Y W;rw [ev] at R;rw [S] at Q;cases R;cases Q;subst I H;exact zN P J M L
 ·rw [qK] at N
  have:=U.length;have:=T.length;omega
def z3 {K:ĉ} {w:Wd} {a b:Ò} {ds es:List D} (h:DV K w (.tup ds) (.ref a)) (g:DV K w (.tup es) (.ref b)):nJ K w (NM K a b) (dX ds es):=Hz (k:=true) (l:=true) h g
def m7 (fa:SV (List D)):SV (List D):=fun env s=>aj (fa env s) fun Z s=>match Z with
 | [.tup Y,.tup X]=>ok (dX Y X) s
 |_=>none
def Mo {p:Pos} {elts:List Ě} {kk:Nat} {lJ:Pos} (hg:Gl X "zip") (hm:X.mg "zip"=none) (ha:PA X [a,b] (tA X.K Ξ fa)) (hs:Æ [a,b] X.env=[(false,ĺ a X.env),(false,ĺ b X.env)]:=by rfl) (dE:Æ [b] X.env=[(false,ĺ b X.env)]:=by rfl) :
  PI X (.Tuple elts kk lJ) (.Call (.Name "zip" p) [a,b] [] pos) (gk X.K Ξ (m7 fa)):=by
 refine vi (uO hg hm ha hs dE) fun σ H R U=>?_;obtain ⟨w,env,T,S,Q,h⟩:=U;subst T;refine ⟨w,env,rfl,S,Q,(Out.aj h).mono fun F E D P h C O=>?_⟩;split at h
 ·obtain ⟨v,r,rfl,Z,v2,N,rfl,Y,dr⟩:=O
  have M:N=[]:=dr;subst M;have W:=Z;have V:=Y;simp only [DV] at W V;obtain ⟨p,L,rfl,J,_⟩:=W;obtain ⟨q,I,rfl,G,_⟩:=V;exact ⟨p,q,L,I,rfl,J,G,ar P h _ (z3 Z Y)⟩
 ·exact h.elim
def aU (fn:List D->aa->Res D) (fa:SV (List D)):SV D:=fun env s=>aj (fa env s) fun Z s=>ne (fn Z s)
def rg {k:Nat} {fA:Ò} {fd:č} {kG:List Str} {fn:List D->aa->Res D} {x:Str} {p:Pos} (F:bT X.prog X.w X.K X.mg X.base cg k fA fd kG (gg X.K fn)) (hr:bp k X.A) (hg:Gl X x) (hm:X.mg x=some (.ref fA)) (hk:Ĩ X.K (.ref fA)=true) (hb:Binds X.K fd kG [])
  (ha:PA X (e::es) (tA X.K Ξ fa)) (cf:(x==("__debug__":Str))=false:=by decide) (he:Æ (e::es) X.env=(false,ĺ e X.env)::Æ es X.env:=by rfl) (aZ:(Ġ pos (Æ es X.env)).any (·.1)=false:=by rfl) :
  PE X (.Call (.Name x p) (e::es) [] pos) (tE X.K Ξ (aU fn fa)):=bI (uL F hr hg hm hk hb .nil Mb ha cf he aZ) fun σ H Q Y=>by
 obtain ⟨w,env,W,S,V,h⟩:=Y;subst W;refine ⟨w,env,rfl,S,V,(Out.aj h).mono fun Z U N T R P O=>?_⟩;show gg X.K fn (P++[]) Z.H Q E0;rw [ĩ];exact ⟨Z,U,rfl,T,O,R.ne⟩
def ak.env (h:ak K w ds vs) (n:Nat):bL K w (ds.map some++Ñ (n-ds.length) none) (vs.map some++Ñ (n-vs.length) none):=by
 have Y:=h.length;refine ⟨by simp [Y],fun i d e=>?_⟩;by_cases hi:i<ds.length
 ·rw [Ú (by simpa using hi),è] at e
  rw [Ú (by simp;omega),è]
  cases Z:ds[i]? with
  |none=>rw [Z] at e;cases e
  |some W =>
   rw [Z] at e;cases e;obtain ⟨v,ev,X⟩:=h.get' i d Z;exact ⟨v,by rw [ev];rfl,X⟩
 ·rw [ù (by simpa using Sg hi),ĸ] at e
  split at e<;>cases e
end
def B2 (F:l9 K x qual st f fd) (S:kQ N ps (bN st))
 (hb:∀(aG:Ä) (A:ã) (outer:List PySem.Env) (s:Ã) (H:Hp) (E:XK),bp k (A.deeper (ı qual (bN st) s.heap.objs.size f aG))->bV (fc cg P w K mg base N qual (bN st) f aG A outer s H E).jG (fB st) (tS K bF b)) :
  bT P w K mg base cg (k+1) f fd ps (gg K (aP ps.length N.length b)):=by
 refine F.ok S (fun W H Q E h=>?_) (fun aG A outer s H W Q E V h=>?_)
 ·obtain ⟨w,U,rfl,S,Y,h⟩:=h
  rw [<- Y.length];unfold aP at h;split at h
  ·assumption
  ·exact h.elim
 ·obtain ⟨w,U,rfl,S,Y,h⟩:=h
  refine ⟨_,hb aG A outer s w.H E V,?_⟩;unfold aP at h;split at h
  ·rename_i T
   rw [<- T] at h;refine ⟨w,_,rfl,S,Y.env N.length,(Out.aj h).mono fun O R M X Z=>?_⟩
   cases R with
   |nx env=>intro L _;exact ar X Z _ rfl
   |rt d=>have q:=ar X Z;exact q
   |bk env=>exact Z.elim
   |ct env=>exact Z.elim
  ·exact h.elim
mutual
noncomputable def py:D->RS
 | .ao=>.none
 | .bl b=>.bool b
 | .int i=>.int i
 | .str x=>.str x
 | .tup Z=>.tuple (cN Z)
 | .lst Z=>.list (cN Z)
 | .bo Y=>.dict (Y.map fun p=>(oU p.1,PyData.int p.2))
 | .ax _=>.none
 | .ty _=>.none
 | .bh _=>.none
 | .exc _=>.none
 | .bE _ _ _=>.none
noncomputable def cN:List D->List RS
 | []=>[]
 |d::Z=>py d::cN Z
end
mutual
noncomputable def plain:D->Bool
 | .ao=>true
 | .bl _=>true
 | .int _=>true
 | .str _=>true
 | .tup Z=>k9 Z
 | .lst Z=>k9 Z
 | .bo _=>true
 | .ax _=>false
 | .ty _=>false
 | .bh _=>false
 | .exc _=>false
 | .bE _ _ _=>false
noncomputable def k9:List D->Bool
 | []=>true
 |d::Z=>plain d&&k9 Z
end
mutual
noncomputable def lay:D->Bool
 | .ao=>true
 | .bl _=>true
 | .int _=>true
 | .str x=>PyData.strOk x
 | .tup Z=>b9 Z
 | .lst Z=>b9 Z
 | .bo _=>false
 | .ax _=>false
 | .ty _=>false
 | .bh _=>false
 | .exc _=>false
 | .bE _ _ _=>false
noncomputable def b9:List D->Bool
 | []=>true
 |d::Z=>lay d&&b9 Z
end
mutual
noncomputable def dep:D->Nat
 | .tup Z=>dj Z+1
 | .lst Z=>dj Z+1
 | .bo Y=>1
 | .ao=>0
 | .bl _=>0
 | .int _=>0
 | .str _=>0
 | .ax _=>0
 | .ty _=>0
 | .bh _=>0
 | .exc _=>0
 | .bE _ _ _=>0
noncomputable def dj:List D->Nat
 | []=>0
 |d::Z=>max (dep d) (dj Z)
end
mutual
noncomputable def beq:D->D->Bool
 | .ao,.ao=>true
 | .bl a,.bl b=>a==b
 | .bl a,.int j=>(if a then 1 else 0)==j
 | .int i,.bl b=>i==(if b then 1 else 0)
 | .int i,.int j=>i==j
 | .str x,.str y=>x==y
 | .tup Z,.tup Y=>gF Z Y
 | .lst Z,.lst Y=>gF Z Y
 |_,_=>false
noncomputable def gF:List D->List D->Bool
 | [],[]=>true
 |x::Z,y::Y=>beq x y&&gF Z Y
 |_,_=>false
end
mutual
theorem kL:∀(d:D),lay d=true->plain d=true
 | .ao,_=>rfl
 | .bl _,_=>rfl
 | .int _,_=>rfl
 | .str _,_=>rfl
 | .tup Z,h=>by simp only [lay,plain] at h |-;exact kK Z h
 | .lst Z,h=>by simp only [lay,plain] at h |-;exact kK Z h
 | .bo _,h=>by simp [lay] at h
 | .ax _,h=>by simp [lay] at h
 | .ty _,h=>by simp [lay] at h
 | .bh _,h=>by simp [lay] at h
 | .exc _,h=>by simp [lay] at h
 | .bE _ _ _,h=>by simp [lay] at h
theorem kK:∀(ds:List D),b9 ds=true->k9 ds=true
 | [],_=>rfl
 |d::ds,h=>by
  simp only [b9,k9,Í] at h |-;exact ⟨kL d h.1,kK ds h.2⟩
end
mutual
theorem gX:∀(d:D),lay d=true->(py d).canLay0=true/\(py d).depth=dep d
 | .ao,_=>⟨rfl,by simp [py,dep,PyData.depth]⟩
 | .bl _,_=>⟨rfl,by simp [py,dep,PyData.depth]⟩
 | .int _,_=>⟨rfl,by simp [py,dep,PyData.depth]⟩
 | .str _,h=>⟨h,by simp [py,dep,PyData.depth]⟩
 | .tup Z,h=>by
  obtain ⟨Y,X⟩:=nY Z (by simpa [lay] using h);simp only [py,dep,PyData.depth,PyData.canLay0];exact ⟨Y,by rw [X]⟩
 | .lst Z,h=>by
  obtain ⟨Y,X⟩:=nY Z (by simpa [lay] using h);simp only [py,dep,PyData.depth,PyData.canLay0];exact ⟨Y,by rw [X]⟩
 | .bo _,h=>by simp [lay] at h
 | .ax _,h=>by simp [lay] at h
 | .ty _,h=>by simp [lay] at h
 | .bh _,h=>by simp [lay] at h
 | .exc _,h=>by simp [lay] at h
 | .bE _ _ _,h=>by simp [lay] at h
theorem nY:∀(ds:List D),b9 ds=true->PyData.canLayAll0 (cN ds)=true/\SE (cN ds)=dj ds
 | [],_=>⟨rfl,rfl⟩
 |d::ds,h=>by
  simp only [b9,Í] at h;obtain ⟨a1,a2⟩:=gX d h.1;obtain ⟨Z,Y⟩:=nY ds h.2;simp only [cN,dj,PyData.canLayAll0,SE,a1,Z,a2,Y,RM,ů]
end
mutual
theorem mK:∀(d e:D),lay d=true->lay e=true->Đ (py d) (py e)=beq d e
 | .tup Z,.tup Y,h,g=>by
  simp only [py,beq,Đ];exact uj Z Y (by simpa [lay] using h) (by simpa [lay] using g)
 | .lst Z,.lst Y,h,g=>by
  simp only [py,beq,Đ];exact uj Z Y (by simpa [lay] using h) (by simpa [lay] using g)
 | .ao,e,_,g=>by cases e<;>simp_all [py,beq,Đ,lay]
 | .bl _,e,_,g=>by cases e<;>simp_all [py,beq,Đ,lay]
 | .int _,e,_,g=>by cases e<;>simp_all [py,beq,Đ,lay]
 | .str _,e,_,g=>by cases e<;>simp_all [py,beq,Đ,lay]
 | .tup _,.ao,_,_=>by simp [py,beq,Đ]
 | .tup _,.bl _,_,_=>by simp [py,beq,Đ]
 | .tup _,.int _,_,_=>by simp [py,beq,Đ]
 | .tup _,.str _,_,_=>by simp [py,beq,Đ]
 | .tup _,.lst _,_,_=>by simp [py,beq,Đ]
 | .lst _,.ao,_,_=>by simp [py,beq,Đ]
 | .lst _,.bl _,_,_=>by simp [py,beq,Đ]
 | .lst _,.int _,_,_=>by simp [py,beq,Đ]
 | .lst _,.str _,_,_=>by simp [py,beq,Đ]
 | .lst _,.tup _,_,_=>by simp [py,beq,Đ]
 | .bo _,_,h,_=>by simp [lay] at h
 | .ax _,_,h,_=>by simp [lay] at h
 | .ty _,_,h,_=>by simp [lay] at h
 | .bh _,_,h,_=>by simp [lay] at h
 | .exc _,_,h,_=>by simp [lay] at h
 | .bE _ _ _,_,h,_=>by simp [lay] at h
 |_,.bo _,_,h=>by simp [lay] at h
 |_,.ax _,_,h=>by simp [lay] at h
 |_,.ty _,_,h=>by simp [lay] at h
 |_,.bh _,_,h=>by simp [lay] at h
 |_,.exc _,_,h=>by simp [lay] at h
 |_,.bE _ _ _,_,h=>by simp [lay] at h
theorem uj:∀(ds es:List D),b9 ds=true->b9 es=true->PyData.eqvAll (cN ds) (cN es)=gF ds es
 | [],[],_,_=>rfl
 | [],_::_,_,_=>rfl
 |_::_,[],_,_=>rfl
 |d::ds,e::es,h,g=>by
  simp only [b9,Í] at h g;simp only [cN,gF,PyData.eqvAll,mK d e h.1 g.1,uj ds es h.2 g.2]
end
mutual
theorem DV.py:∀{d:D} {v:V},DV K w d v->plain d=true->L2.DV K (fun _=>False) w.H (DI.py d) v
 | .ao,_,h,_=>h
 | .bl _,_,h,_=>h
 | .int _,_,h,_=>h
 | .str _,_,h,_=>h
 | .tup X,v,h,p=>by
  simp only [DV] at h;obtain ⟨a,Y,e,Z,r⟩:=h;simp only [DI.py,L2.DV];exact ⟨a,Y,e,Z,ak.py r (by simpa [plain] using p)⟩
 | .lst X,v,h,p=>by
  simp only [DV] at h;obtain ⟨a,Y,e,Z,r⟩:=h;simp only [DI.py,L2.DV];exact ⟨a,Y,e,not_false,Z.2,ak.py r (by simpa [plain] using p)⟩
 | .bo W,v,h,p=>by
  simp only [DV] at h;obtain ⟨a,e,U,Z⟩:=h;simp only [DI.py,L2.DV];exact ⟨a,_,e,not_false,Z,W,rfl,rfl⟩
 | .ax _,_,_,p=>by simp [plain] at p
 | .ty _,_,_,p=>by simp [plain] at p
 | .bh _,_,_,p=>by simp [plain] at p
 | .exc _,_,_,p=>by simp [plain] at p
 | .bE _ _ _,_,_,p=>by simp [plain] at p
theorem ak.py:∀{ds:List D} {vs:List V},ak K w ds vs->k9 ds=true->L2.ak K (fun _=>False) w.H (DI.cN ds) vs
 | [],_,h,_=>h
 |d::ds,vs,h,p=>by
  simp only [ak] at h;obtain ⟨v,r,e,Z,Y⟩:=h;simp only [k9,Í] at p;exact ⟨v,r,e,DV.py Z p.1,ak.py Y p.2⟩
end
def res (d:D) (s:aa):D:=match d with
 | .ax k=>match s[k]? with
  |some (.lst Z)=>.lst Z
  |_=>d
 |_=>d
theorem DV.res (S:aA K w) (h:DV K w d v) (p:plain (DI.res d w.aq)=true):L2.DV K (fun _=>False) w.H (DI.py (DI.res d w.aq)) v:=by
 cases d with
 |ax k =>
  unfold DI.res at p |-;simp only at p |-
  split at p<;>rename_i Z
  ·rename_i V
   obtain ⟨a,e1,rfl⟩:=h;obtain ⟨Y,X,W⟩:=S.cell k a _ e1 Z;simp only [DI.py,L2.DV];exact ⟨a,Y,rfl,not_false,X,W.py (by simpa [plain] using p)⟩
  ·simp [plain] at p
 |_=>exact h.py p
noncomputable def jM:D->Bool
 | .str _=>true
 |_=>false
def KS (h:jM d=true):∃x,d=.str x:=by cases d<;>first|exact ⟨_,rfl⟩|cases h
def hX (x y:D):Option Bool:=if (jM x&&jM y)=true then some (beq x y) else if (lay x&&lay y&&decide (min (dep x) (dep y)<=100))=true then some (beq x y) else none
def dq (x y:D) (s:aa):Res D:=match hX (res x s) (res y s) with
 |some b=>ok (.bl b) s
 |none=>none
def dD (x y:D) (s:aa):Res D:=match hX (res x s) (res y s) with
 |some b=>ok (.bl (!b)) s
 |none=>none
def AE (S:aA K w) (hx:DV K w x v) (hy:DV K w y u) (h:hX (res x w.aq) (res y w.aq)=some b) :
  (wI v u=true/\decide (v=u)=b)\/∃(d e:RS),L2.DV K (fun _=>False) w.H d v/\L2.DV K (fun _=>False) w.H e u/\d.canLay0=true/\e.canLay0=true/\min d.depth e.depth<=100/\Đ d e=b:=by
 have str:∀{d:D} {v:V},jM (res d w.aq)=true->DV K w d v->∃x,res d w.aq=.str x/\v=.str x:=fun {d v} hs W=>by
  obtain ⟨x,e⟩:=KS hs
  cases d with
  |str y=>cases e;exact ⟨x,rfl,W⟩
  |ax k =>
   unfold res at e;simp only at e
   split at e<;>cases e
  |_=>cases e
 unfold hX at h;split at h
 ·rename_i hs
  rw [Í] at hs;obtain ⟨a,U,rfl⟩:=str hs.1 hx;obtain ⟨c,T,rfl⟩:=str hs.2 hy;rw [U,T] at h;exact .inl ⟨rfl,by rw [<- S7 h];exact uK⟩
 split at h
 ·rename_i X
  right;simp only [Í,ß] at X;obtain ⟨⟨Z,Y⟩,R⟩:=X;obtain ⟨Q,P⟩:=gX _ Z;obtain ⟨O,N⟩:=gX _ Y;exact ⟨_,_,hx.res S (kL _ Z),hy.res S (kL _ Y),Q,O,by rw [P,N];exact R,by rw [mK _ _ Z Y];exact S7 h⟩
 ·cases h
section
variable {X:Cx} {Ξ:Wd->aM->Prop}
def km (hr:bp k X.A):aX X (Ć .Eq) (rO X.K Ξ dq):=by
 rintro W s σ H x y v u Q I V U ⟨w,J,G,rfl,S,T,R,h⟩;unfold dq at h;split at h
 ·rename_i b P
  rcases AE S T R P with ⟨Z,Y⟩ | ⟨d,e,Z,Y,O,N,M,L⟩
  ·exact LY W s σ w.H x y v u Q I V U ⟨Z,by rw [Y];exact ar S h _ rfl⟩
  exact KH hr W s σ w.H x y v u Q I V U ⟨d,e,_,Z,Y,O,N,M,by simp only [Î,Ē];rw [L];exact ar S h _ rfl⟩
 ·exact h.elim
def m8 (hr:bp k X.A):aX X (Ć .NotEq) (rO X.K Ξ dD):=by
 rintro W s σ H x y v u Q I V U ⟨w,J,G,rfl,S,T,R,h⟩;unfold dD at h;split at h
 ·rename_i b P
  rcases AE S T R P with ⟨Z,Y⟩ | ⟨d,e,Z,Y,O,N,M,L⟩
  ·exact BQ W s σ w.H x y v u Q I V U ⟨Z,by rw [Y];exact ar S h _ rfl⟩
  exact KI hr W s σ w.H x y v u Q I V U ⟨d,e,_,Z,Y,O,N,M,by simp only [ē];rw [L];exact ar S h _ rfl⟩
 ·exact h.elim
end
end DI
namespace DI
open PySem L2
def bz (r:Option D) (s:aa):Res D:=match r with
 |some d=>ok d s
 |none=>none
def cY (h:Out K Ξ w (bz r w.aq) k):∃d,r=some d/\Out K Ξ w (ok d w.aq) k:=by
 unfold bz at h;split at h
 ·exact ⟨_,rfl,h⟩
 ·exact h.elim
noncomputable def fW (xs ys:List D):Bool:=decide (xs.length+ys.length<=Ö)
def iT:D->D->Option D
 | .int i,.int j=>some (.int (i+j))
 | .tup Z,.tup Y=>if fW Z Y=true then some (.tup (Z++Y)) else none
 | .lst Z,.lst Y=>if fW Z Y=true then some (.lst (Z++Y)) else none
 | .str x,.str y=>if decide (x.length+y.length<=Ö)=true then some (.str (x++y)) else none
 |_,_=>none
def br (x y:D) (s:aa):Res D:=bz (iT (res x s) (res y s)) s
noncomputable def CU:D->D->Option D
 | .int i,.int j=>some (.int (i-j))
 |_,_=>none
def lD (x y:D) (s:aa):Res D:=bz (CU x y) s
noncomputable def oB (i j:Int):Bool:=(decide (-(2 ^ 64)<i)&&decide (i<2 ^ 64))||(decide (-(2 ^ 64)<j)&&decide (j<2 ^ 64))
def wR:D->D->Option D
 | .int i,.int j=>if oB i j=true then some (.int (i*j)) else none
 | .tup Z,.int k=>if (!Z.isEmpty&&decide (1<=k)&&decide (Z.length*k.toNat<=Ö))=true then some (.tup (Ñ k.toNat Z).flatten) else none
 | .lst Z,.int k=>if (decide (-(2 ^ 63)<=k)&&decide (k<2 ^ 63)&&decide (Z.length*k.toNat<=Ö))=true then some (.lst (Ñ k.toNat Z).flatten) else none
 |_,_=>none
def dB (x y:D) (s:aa):Res D:=bz (wR x y) s
noncomputable def wU:D->D->Option D
 | .int i,.int j=>if decide (0<j)=true then some (.int (i % j)) else none
 |_,_=>none
def eZ (x y:D) (s:aa):Res D:=bz (wU x y) s
noncomputable def wV:D->D->Option D
 | .int i,.int j=>if (decide (0<j)&&decide (j<1073741824))=true then some (.int (i / j)) else none
 |_,_=>none
def lE (x y:D) (s:aa):Res D:=bz (wV x y) s
noncomputable def wW:D->D->Option D
 | .int i,.int j=>if (decide (0<=j)&&decide (j<=1000000)&&decide (i.natAbs<2 ^ 64))=true then some (.int (i ^ j.toNat)) else none
 |_,_=>none
def mS (x y:D) (s:aa):Res D:=bz (wW x y) s
noncomputable def CV:D->Option D
 | .int i=>some (.int (-i))
 |_=>none
def Mp (x:D) (s:aa):Res D:=bz (CV x) s
theorem ak.flat (h:ak K w ds vs):∀n:Nat,ak K w (Ñ n ds).flatten (Ñ n vs).flatten
 |0=>rfl
 |n+1=>by
  rw [İ,İ,Œ,Œ];exact ak.append h (ak.flat h n)
def eU (S:aA K w) (h:DV K w d v) (e:res d w.aq=.lst ds):∃a xs,v=.ref a/\w.H a=some (.lst xs)/\ak K w ds xs:=by
 unfold res at e;split at e
 ·rename_i k
  split at e
  ·rename_i V Z
   cases e;obtain ⟨a,e1,rfl⟩:=h;obtain ⟨xs,Y,X⟩:=S.cell k a _ e1 Z;exact ⟨a,xs,rfl,Y,X⟩
  ·cases e
 ·subst e
  simp only [DV] at h;obtain ⟨a,xs,e,W,r⟩:=h;exact ⟨a,xs,e,W.2,r⟩
def cz (h:res d s=e) (hl:∀ds,e≠.lst ds):d=e:=by
 unfold res at h;split at h
 ·split at h
  ·exact absurd h.symm (hl _)
  ·exact h
 ·exact h
section
variable {X:Cx} {Ξ:Wd->aM->Prop}
def oW (S:aA K w) (ah:ak K w ds vs) (h:Out K Ξ w (ok (D.tup ds) w.aq) fun w' d=>∀v,DV K w' d v->Q v w'.H):kl K w.H vs Q:=fun a Z e Y =>
 h (w.same Z) (Fw.same e).le (S.same e) rfl (.ref a) ⟨a,vs,rfl,Y,(Fw.same e).le.all ah⟩
def oZ {K:ĉ} {w:Wd} {ds:List D} {vs:List V} {Q:VK} (S:aA K w) (ah:ak K w ds vs) (h:Out K Ξ w (ok (D.lst ds) w.aq) fun w' d=>∀v,DV K w' d v->Q v w'.H):∀p,w.H p=none->Q (.ref p) (upd w.H p (.lst vs)):=fun p Y =>
 h (w.grow p (.lst vs)) (Fw.grow Y).le (S.grow Y) rfl (.ref p) ⟨p,vs,rfl,⟨(show ¬ w.Z p from kY S Y),bS⟩,(Fw.grow Y).le.all ah⟩
def KU {K:ĉ} {w:Wd} {ds:List D} {vs:List V} {Q:VK} (S:aA K w) (ah:ak K w ds vs) (h:Out K Ξ w (ok (D.tup ds) w.aq) fun w' d=>∀v,DV K w' d v->Q v w'.H):∀p,w.H p=none->Q (.ref p) (upd w.H p (.tup vs)):=fun p Z =>
 h (w.grow p (.tup vs)) (Fw.grow Z).le (S.grow Z) rfl (.ref p) ⟨p,vs,rfl,aT.of bS,(Fw.grow Z).le.all ah⟩
def de:aX X (Ĳ .Add) (rO X.K Ξ br):=by
 rintro T s σ H x y v u Q I R P ⟨w,J,G,rfl,S,Z,Y,h⟩;obtain ⟨d,e,h⟩:=cY h;unfold iT at e;split at e
 ·rename_i i j e1 e2
  rw [cz e1 (by intro _ z;cases z)] at Z;rw [cz e2 (by intro _ z;cases z)] at Y;cases e;cases Z;cases Y;exact Kf T s σ w.H _ _ v u Q I R P ⟨i,j,rfl,rfl,ar S h _ rfl⟩
 ·rename_i M L e1 e2
  rw [cz e1 (by intro _ z;cases z)] at Z;rw [cz e2 (by intro _ z;cases z)] at Y;split at e
  ·rename_i W
   cases e;simp only [DV] at Z Y;obtain ⟨a,as,rfl,O,V⟩:=Z;obtain ⟨b,bs,rfl,N,U⟩:=Y;exact IQ T s σ w.H _ _ v u Q I R P ⟨a,b,as,bs,rfl,rfl,O,N,by rw [<- V.length,<- U.length];exact ę W,oW S (V.append U) h⟩
  ·cases e
 ·rename_i M L e1 e2
  split at e
  ·rename_i W
   cases e;obtain ⟨a,as,rfl,O,V⟩:=eU S Z e1;obtain ⟨b,bs,rfl,N,U⟩:=eU S Y e2;exact Kw T s σ w.H _ _ v u Q I R P ⟨a,b,as,bs,rfl,rfl,O,N,by rw [<- V.length,<- U.length];exact ę W,oZ S (V.append U) h⟩
  ·cases e
 ·rename_i i j e1 e2
  rw [cz e1 (by intro _ z;cases z)] at Z;rw [cz e2 (by intro _ z;cases z)] at Y;split at e
  ·rename_i W
   cases e;cases Z;cases Y;exact Fj T s σ w.H _ _ v u Q I R P ⟨i,j,rfl,rfl,ę W,ar S h _ rfl⟩
  ·cases e
 ·cases e
def v5:aX X (Ĳ .Sub) (rO X.K Ξ lD):=by
 rintro Z s σ H x y v u Q I Y W ⟨w,T,R,rfl,S,V,U,h⟩;obtain ⟨d,e,h⟩:=cY h;unfold CU at e;split at e
 ·rename_i i j
  cases e;cases V;cases U;exact Kg Z s σ w.H _ _ v u Q I Y W ⟨i,j,rfl,rfl,ar S h _ rfl⟩
 ·cases e
def oC:aX X (Ĳ .Mult) (rO X.K Ξ dB):=by
 rintro V s σ H x y v u Q I U T ⟨w,M,L,rfl,S,Y,R,h⟩;obtain ⟨d,e,h⟩:=cY h;unfold wR at e;split at e
 ·rename_i i j
  split at e
  ·rename_i Z
   cases e;cases Y;cases R;refine Kh V s σ w.H _ _ v u Q I U T ⟨i,j,rfl,rfl,?_,ar S h _ rfl⟩;unfold sh;simpa [oB] using Z
  ·cases e
 ·rename_i O k
  split at e
  ·rename_i Z
   cases e;cases R;simp only [Í,ß] at Z;simp only [DV] at Y;obtain ⟨a,as,rfl,P,W⟩:=Y;have N:=W.length;refine Jd V s σ w.H _ _ v u Q I U T ⟨a,as,k,rfl,rfl,P,?_,Z.1.2,by rw [<- N];exact Z.2,oW S (W.flat _) h⟩;intro z;subst z
   cases O with
   |nil=>simp at Z
   |cons _ _=>cases N
  ·cases e
 ·rename_i O k
  split at e
  ·rename_i Z
   cases e;cases R;simp only [Í,ß] at Z;simp only [DV] at Y;obtain ⟨a,as,rfl,P,W⟩:=Y;exact Kx V s σ w.H _ _ v u Q I U T ⟨a,k,as,rfl,rfl,P.2,Z.1.1,Z.1.2,by rw [<- W.length];exact Z.2,oZ S (W.flat _) h⟩
  ·cases e
 ·cases e
def mT:aX X (Ĳ .Mod) (rO X.K Ξ eZ):=by
 rintro Z s σ H x y v u Q I Y W ⟨w,R,P,rfl,S,V,U,h⟩;obtain ⟨d,e,h⟩:=cY h;unfold wU at e;split at e
 ·rename_i i j
  split at e
  ·rename_i T
   cases e;cases V;cases U;exact Ki Z s σ w.H _ _ v u Q I Y W ⟨i,j,rfl,rfl,ę T,ar S h _ rfl⟩
  ·cases e
 ·cases e
def B3:aX X (Ĳ .FloorDiv) (rO X.K Ξ lE):=by
 rintro Y s σ H x y v u Q I W V ⟨w,R,P,rfl,S,U,T,h⟩;obtain ⟨d,e,h⟩:=cY h;unfold wV at e;split at e
 ·rename_i i j
  split at e
  ·rename_i Z
   simp only [Í,ß] at Z;cases e;cases U;cases T;exact ID Y s σ w.H _ _ v u Q I W V ⟨i,j,rfl,rfl,Z,ar S h _ rfl⟩
  ·cases e
 ·cases e
def B4:aX X (Ĳ .Pow) (rO X.K Ξ mS):=by
 rintro Y s σ H x y v u Q I W V ⟨w,R,P,rfl,S,U,T,h⟩;obtain ⟨d,e,h⟩:=cY h;unfold wW at e;split at e
 ·rename_i i j
  split at e
  ·rename_i Z
   simp only [Í,ß] at Z;cases e;cases U;cases T;exact Kj Y s σ w.H _ _ v u Q I W V ⟨i,j,rfl,rfl,⟨Z.1.1,Z.1.2,Z.2⟩,ar S h _ rfl⟩
  ·cases e
 ·cases e
def Mq:pK X (unaryOp .USub) (rU X.K Ξ Mp):=by
 rintro Z s σ H x v Q I Y ⟨w,V,rfl,S,W,h⟩;obtain ⟨d,e,h⟩:=cY h;unfold CV at e;split at e
 ·rename_i i
  cases e;cases W;exact Kk Z s σ w.H _ v Q I Y ⟨i,rfl,ar S h _ rfl⟩
 ·cases e
noncomputable def m9 (p:Int->Int->Bool):D->D->Option D
 | .int i,.int j=>some (.bl (p i j))
 |_,_=>none
def o7 (x y:D) (s:aa):Res D:=bz (m9 (fun i j=>decide (i<=j)) x y) s
def iU (x y:D) (s:aa):Res D:=bz (m9 (fun i j=>decide (j<i)) x y) s
def o8 (x y:D) (s:aa):Res D:=bz (m9 (fun i j=>decide (j<=i)) x y) s
def CY:aX X (Ć .LtE) (rO X.K Ξ o7):=by
 rintro Z s σ H x y v u Q I Y W ⟨w,T,R,rfl,S,V,U,h⟩;obtain ⟨d,e,h⟩:=cY h;unfold m9 at e;split at e
 ·rename_i i j
  cases e;cases V;cases U;exact LZ Z s σ w.H _ _ v u Q I Y W ⟨i,j,rfl,rfl,ar S h _ rfl⟩
 ·cases e
def wX:aX X (Ć .Gt) (rO X.K Ξ iU):=by
 rintro Z s σ H x y v u Q I Y W ⟨w,T,R,rfl,S,V,U,h⟩;obtain ⟨d,e,h⟩:=cY h;unfold m9 at e;split at e
 ·rename_i i j
  cases e;cases V;cases U;exact L0 Z s σ w.H _ _ v u Q I Y W ⟨i,j,rfl,rfl,ar S h _ rfl⟩
 ·cases e
def CZ:aX X (Ć .GtE) (rO X.K Ξ o8):=by
 rintro Z s σ H x y v u Q I Y W ⟨w,T,R,rfl,S,V,U,h⟩;obtain ⟨d,e,h⟩:=cY h;unfold m9 at e;split at e
 ·rename_i i j
  cases e;cases V;cases U;exact L3 Z s σ w.H _ _ v u Q I Y W ⟨i,j,rfl,rfl,ar S h _ rfl⟩
 ·cases e
def mi (d i:D) (s:aa):Option D:=match res d s,i with
 | .lst Z,.int i=>cL Z i
 | .tup Z,.int i=>cL Z i
 | .bh Y,.int i=>(cL Y i).map D.int
 | .str x,.int i=>if decide (x.length<=Ö)=true then (cL x.cps.toList i).map fun c=>.str ⟨#[c]⟩ else none
 |_,_=>none
def bj (x y:D) (s:aa):Res D:=bz (mi x y s) s
theorem ak.at (h:ak K w ds vs) (e:cL ds i=some d):∃v,cL vs i=some v/\DV K w d v:=by
 unfold cL at e |-;rw [h.length] at e
 cases hi:ef vs.length i with
 |none=>rw [hi] at e;cases e
 |some j =>
  rw [hi] at e;exact h.get' j d e
def N0:pN X (rO X.K Ξ bj):=by
 rintro value slice T s σ H x y v u Q I R P ⟨w,B,A,rfl,S,Z,O,h⟩ hs;obtain ⟨d,e,N⟩:=cY h;clear h;unfold mi at e;split at e
 ·rename_i D i e1
  cases O;obtain ⟨a,M,rfl,W,L⟩:=eU S Z e1;obtain ⟨z,J,G⟩:=L.at e;exact As value slice T s σ w.H _ _ v u Q I R P ⟨a,M,i,z,rfl,rfl,aR.of W,J,ar S N _ G⟩ hs
 ·rename_i D i e1
  cases O;rw [cz e1 (by intro _ z;cases z)] at Z;simp only [DV] at Z;obtain ⟨a,M,rfl,W,L⟩:=Z;obtain ⟨z,J,G⟩:=L.at e;exact Ks value slice T s σ w.H _ _ v u Q I R P ⟨a,M,i,z,rfl,rfl,W,J,ar S N _ G⟩ hs
 ·rename_i U i e1
  cases O;rw [cz e1 (by intro _ z;cases z)] at Z;simp only [DV] at Z;obtain ⟨a,rfl,W⟩:=Z
  cases Y:cL U i with
  |none=>rw [Y] at e;cases e
  |some n =>
   rw [Y] at e;cases e;refine As value slice T s σ w.H _ _ v u Q I R P ⟨a,U.map V.int,i,.int n,rfl,rfl,W.sq,?_,ar S N _ rfl⟩ hs;unfold cL at Y |-;rw [Ë]
   cases E:ef U.length i with
   |none=>rw [E] at Y;cases Y
   |some j =>
    rw [E] at Y;show (U.map V.int)[j]?=some (.int n);rw [è,show U[j]?=some n from Y];rfl
 ·rename_i z i e1
  cases O;rw [cz e1 (by intro _ z;cases z)] at Z;cases Z;split at e
  ·rename_i C
   cases F:cL z.cps.toList i with
   |none=>rw [F] at e;cases e
   |some c =>
    rw [F] at e;cases e;exact Kt value slice T s σ w.H _ _ v u Q I R P ⟨z,i,c,rfl,rfl,ę C,F,ar S N _ rfl⟩ hs
  ·cases e
 ·cases e
def cW (ha:PE X a (tE X.K Ξ f)) (hb:PE X b (tE X.K Ξ g)) (hs:Ar b:=by intro _ _;rfl):PE X (.Subscript a b pos) (tE X.K Ξ (e2 bj f g)):=bI (L8 N0 ha hb hs) qT
def ng (d:D) (s:aa):Option D:=match res d s with
 | .lst Z=>some (.int Z.length)
 | .tup Z=>some (.int Z.length)
 | .bh Y=>some (.int Y.length)
 | .str x=>if decide (x.length<=Ö)=true then some (.int x.length) else none
 |_=>none
def bt (ds:List D) (s:aa):Res D:=match ds with
 | [d]=>bz (ng d s) s
 |_=>none
def lb (h:ak K w [d] vs):∃v,vs=[v]/\DV K w d v:=by
 obtain ⟨v,r,rfl,Z,dr⟩:=h;have e:r=[]:=dr;subst e;exact ⟨v,rfl,Z⟩
def mL (h:ak K w [d,e] vs):∃v u,vs=[v,u]/\DV K w d v/\DV K w e u:=by
 obtain ⟨v,r,rfl,Z,h⟩:=h;obtain ⟨u,rfl,Y⟩:=lb h;exact ⟨v,u,rfl,Z,Y⟩
def df:bK X (.builtin "len") (rC X.K Ξ bt):=by
 rintro U s σ H T R Q I r ⟨w,M,rfl,S,Y,h⟩;unfold bt at h;split at h
 ·obtain ⟨v,rfl,Z⟩:=lb Y
  obtain ⟨d,e,h⟩:=cY h;unfold ng at e;split at e
  ·rename_i P e1
   cases e;obtain ⟨a,T,rfl,W,Y⟩:=eU S Z e1;exact tG U s σ w.H _ R Q I r ⟨a,T,rfl,.inl (aR.of W),by rw [<- Y.length];exact ar S h _ rfl⟩
  ·rename_i P e1
   cases e;rw [cz e1 (by intro _ z;cases z)] at Z;simp only [DV] at Z;obtain ⟨a,T,rfl,W,Y⟩:=Z;exact tG U s σ w.H _ R Q I r ⟨a,T,rfl,.inr W,by rw [<- Y.length];exact ar S h _ rfl⟩
  ·rename_i O e1
   cases e;rw [cz e1 (by intro _ z;cases z)] at Z;simp only [DV] at Z;obtain ⟨a,rfl,W⟩:=Z;exact tG U s σ w.H _ R Q I r ⟨a,O.map V.int,rfl,.inl W.sq,by rw [Ë];exact ar S h _ rfl⟩
  ·rename_i z e1
   rw [cz e1 (by intro _ z;cases z)] at Z;cases Z;split at e
   ·rename_i N
    cases e;exact EH U s σ w.H _ R Q I r ⟨z,rfl,ę N,ar S h _ rfl⟩
   ·cases e
  ·cases e
 ·exact h.elim
noncomputable def eQ:List D->Option (List Bool)
 | []=>some []
 | .bl b::Z=>(eQ Z).map fun r=>b::r
 |_::_=>none
theorem om:∀{ds:List D} {bs:List Bool},eQ ds=some bs->ds=bs.map D.bl
 | [],bs,h=>by cases h;rfl
 | .bl b::ds,bs,h=>by
  simp only [eQ] at h
  cases Z:eQ ds with
  |none=>rw [Z] at h;cases h
  |some r=>rw [Z] at h;cases h;rw [om Z];rfl
 | .ao::_,_,h=>by cases h
 | .int _::_,_,h=>by cases h
 | .str _::_,_,h=>by cases h
 | .tup _::_,_,h=>by cases h
 | .lst _::_,_,h=>by cases h
 | .bo _::_,_,h=>by cases h
 | .ax _::_,_,h=>by cases h
 | .ty _::_,_,h=>by cases h
 | .bh _::_,_,h=>by cases h
 | .exc _::_,_,h=>by cases h
 | .bE _ _ _::_,_,h=>by cases h
def AF:eQ (bs.map D.bl)=some bs:=by
 induction bs with
 |nil=>rfl
 |cons b bs ih=>simp only [ç,eQ,ih,SD]
def kn (ds:List D) (s:aa):Res D:=match ds with
 | [d]=>match res d s with
  | .lst Z=>bz ((eQ Z).map fun bs=>.bl (bs.all id)) s
  |_=>none
 |_=>none
def sx (ds:List D) (s:aa):Res D:=match ds with
 | [d]=>match res d s with
  | .lst Z=>bz ((eQ Z).map fun bs=>.bl (bs.any id)) s
  |_=>none
 |_=>none
def rR (hc:X.calm=true):bK X (.builtin "all") (rC X.K Ξ kn):=by
 rintro V s σ H U T Q I r ⟨w,O,rfl,S,Z,h⟩;unfold kn at h;split at h
 ·obtain ⟨v,rfl,R⟩:=lb Z
  split at h
  ·rename_i P e1
   obtain ⟨d,e,h⟩:=cY h
   cases Y:eQ P with
   |none=>rw [Y] at e;cases e
   |some bs =>
    rw [Y] at e;cases e;obtain ⟨a,U,rfl,W,Z⟩:=eU S R e1;rw [om Y] at Z;rw [Z.og] at W;exact Hf hc V s σ w.H _ T Q I r ⟨a,bs,rfl,aR.of W,ar S h _ rfl⟩
  ·exact h.elim
 ·exact h.elim
def Mr (hc:X.calm=true):bK X (.builtin "any") (rC X.K Ξ sx):=by
 rintro V s σ H U T Q I r ⟨w,O,rfl,S,Z,h⟩;unfold sx at h;split at h
 ·obtain ⟨v,rfl,R⟩:=lb Z
  split at h
  ·rename_i P e1
   obtain ⟨d,e,h⟩:=cY h
   cases Y:eQ P with
   |none=>rw [Y] at e;cases e
   |some bs =>
    rw [Y] at e;cases e;obtain ⟨a,U,rfl,W,Z⟩:=eU S R e1;rw [om Y] at Z;rw [Z.og] at W;exact Hg hc V s σ w.H _ T Q I r ⟨a,bs,rfl,aR.of W,ar S h _ rfl⟩
  ·exact h.elim
 ·exact h.elim
def mU (ds:List D) (s:aa):Res D:=match ds with
 | [.int i,.int j]=>ok (.int (if j > i then j else i)) s
 |_=>none
def oE (ds:List D) (s:aa):Res D:=match ds with
 | [.int i,.int j]=>ok (.int (if j<i then j else i)) s
 |_=>none
def KW (hc:X.calm=true):bK X (.builtin "max") (rC X.K Ξ mU):=by
 rintro Z s σ H T Y Q I r ⟨w,R,rfl,S,W,h⟩;unfold mU at h;split at h
 ·rename_i i j
  obtain ⟨v,u,rfl,V,U⟩:=mL W;cases V;cases U;exact F5 hc Z s σ w.H _ Y Q I r ⟨i,j,rfl,ar S h _ rfl⟩
 ·exact h.elim
def KY (hc:X.calm=true):bK X (.builtin "min") (rC X.K Ξ oE):=by
 rintro Z s σ H T Y Q I r ⟨w,R,rfl,S,W,h⟩;unfold oE at h;split at h
 ·rename_i i j
  obtain ⟨v,u,rfl,V,U⟩:=mL W;cases V;cases U;exact F6 hc Z s σ w.H _ Y Q I r ⟨i,j,rfl,ar S h _ rfl⟩
 ·exact h.elim
def jk (ds:List D) (s:aa):Res D:=match ds with
 | [d]=>match res d s with
  | .lst Z=>ok (.tup Z) s
  | .tup Z=>ok (.tup Z) s
  |_=>none
 |_=>none
def uV:bK X (.type "tuple") (rC X.K Ξ jk):=by
 rintro U s σ H Y T Q I r ⟨w,O,rfl,S,W,h⟩;unfold jk at h;split at h
 ·obtain ⟨v,rfl,Z⟩:=lb W
  split at h
  ·rename_i R e1
   obtain ⟨a,Y,rfl,V,W⟩:=eU S Z e1;exact yZ U s σ w.H _ T Q I r ⟨a,Y,rfl,.inl ⟨aR.of V,KU S W h⟩⟩
  ·rename_i R e1
   rw [cz e1 (by intro _ z;cases z)] at Z;have P:=Z;simp only [DV] at Z;obtain ⟨a,Y,rfl,V,W⟩:=Z;exact yZ U s σ w.H _ T Q I r ⟨a,Y,rfl,.inr ⟨V,ar S h _ P⟩⟩
  ·exact h.elim
 ·exact h.elim
def oF (ds:List D) (s:aa):Res D:=match ds with
 | [d]=>match res d s with
  | .lst Z=>ok (.lst Z) s
  | .tup Z=>ok (.lst Z) s
  |_=>none
 |_=>none
def KZ:bK X (.type "list") (rC X.K Ξ oF):=by
 rintro U s σ H Y T Q I r ⟨w,P,rfl,S,Z,h⟩;unfold oF at h;split at h
 ·obtain ⟨v,rfl,W⟩:=lb Z
  split at h
  ·rename_i R e1
   obtain ⟨a,Y,rfl,V,Z⟩:=eU S W e1;exact y6 U s σ w.H _ T Q I r ⟨a,Y,rfl,.inl (aR.of V),oZ S Z h⟩
  ·rename_i R e1
   rw [cz e1 (by intro _ z;cases z)] at W;simp only [DV] at W;obtain ⟨a,Y,rfl,V,Z⟩:=W;exact y6 U s σ w.H _ T Q I r ⟨a,Y,rfl,.inr V,oZ S Z h⟩
  ·exact h.elim
 ·exact h.elim
end
def lF (n:Nat) (x:D) (ds:List D):Bool:=lay x&&b9 ds&&decide (dep x<=n)
def inD (x:D) (ds:List D):Option Bool:=if lF 100 x ds=true then some (ds.any fun y=>beq y x) else none
def lG (d:D) (s:aa):Option (List D):=match res d s with
 | .lst Z=>some Z
 | .tup Z=>some Z
 |_=>none
def nh (x y:D) (s:aa):Res D:=match lG y s with
 |some Z=>bz ((inD x Z).map D.bl) s
 |none=>none
def jT (x y:D) (s:aa):Res D:=match lG y s with
 |some Z=>bz ((inD x Z).map fun b=>D.bl (!b)) s
 |none=>none
def z9 (S:aA K w) (h:DV K w d v) (e:lG d w.aq=some ds):∃a xs,v=.ref a/\(w.H a=some (.lst xs)\/aT K w.H a xs)/\ak K w ds xs:=by
 unfold lG at e;split at e
 ·rename_i X e1
  cases e;obtain ⟨a,xs,rfl,Z,Y⟩:=eU S h e1;exact ⟨a,xs,rfl,.inl Z,Y⟩
 ·rename_i X e1
  cases e;rw [cz e1 (by intro _ z;cases z)] at h;simp only [DV] at h;obtain ⟨a,xs,rfl,Z,Y⟩:=h;exact ⟨a,xs,rfl,.inr Z,Y⟩
 ·cases e
section
variable {X:Cx} {Ξ:Wd->aM->Prop} {π:List (Ò×Obj)} {σ:St} {s:Ã}
theorem vj (lx:lay x=true):∀{ds:List D},b9 ds=true->((cN ds).any fun y=>Đ y (py x))=ds.any fun y=>beq y x
 | [],_=>rfl
 |d::ds,h=>by
  simp only [b9,Í] at h;simp only [cN,List.any_cons,mK d x h.1 lx,vj lx h.2]
def Bk (h:inD x ds=some b):lay x=true/\b9 ds=true/\dep x<=100/\(ds.any fun y=>beq y x)=b:=by
 unfold inD lF at h;split at h
 ·rename_i Z
  simp only [Í,ß] at Z;exact ⟨Z.1.1,Z.1.2,Z.2,S7 h⟩
 ·cases h
def N1 (hr:bp k X.A):aX X (Ć .In) (rO X.K Ξ nh):=by
 rintro π s σ H x y v u Q I J T ⟨w,W,B,rfl,S,G,F,h⟩;unfold nh at h;split at h
 ·rename_i Z E
  obtain ⟨d,e,h⟩:=cY h
  cases V:inD W Z with
  |none=>rw [V] at e;cases e
  |some b =>
   rw [V] at e;cases e;obtain ⟨U,Y,z,D⟩:=Bk V;obtain ⟨R,C⟩:=gX _ U;obtain ⟨P,t⟩:=nY _ Y;obtain ⟨bs,O⟩:=(G.py (kL _ U)).reads I J;have N:X.A.units+1+min (SE (cN Z)) (py W).depth<cLine:=by
    have:=hr.un;rw [C];omega
   obtain ⟨a,M,rfl,ha,L⟩:=z9 S F E;have fin:EP X π σ Q (.bool ((cN Z).any fun y=>Đ y (py W))) s:=⟨.bl b,w.H,I,by rw [vj U Y,D];rfl,ar S h _ rfl⟩
   rcases ha with ha|ha
   ·obtain ⟨cs,rc⟩:=(show L2.DV X.K (fun _=>False) w.H (.list (cN Z)) (.ref a) by simp only [L2.DV];exact ⟨a,M,rfl,not_false,ha,L.py (kK _ Y)⟩).reads I T
    exact SeqAt.in_list_reads rc O P R N fin
   ·obtain ⟨cs,rc⟩:=(show L2.DV X.K (fun _=>False) w.H (.tuple (cN Z)) (.ref a) by simp only [L2.DV];exact ⟨a,M,rfl,ha,L.py (kK _ Y)⟩).reads I T
    exact SeqAt.in_tuple_reads rc O P R N fin
 ·exact h.elim
def AG (hr:bp k X.A):aX X (Ć .NotIn) (rO X.K Ξ jT):=by
 rintro π s σ H x y v u Q I J T ⟨w,W,B,rfl,S,G,F,h⟩;unfold jT at h;split at h
 ·rename_i Z E
  obtain ⟨d,e,h⟩:=cY h
  cases V:inD W Z with
  |none=>rw [V] at e;cases e
  |some b =>
   rw [V] at e;cases e;obtain ⟨U,Y,z,D⟩:=Bk V;obtain ⟨R,C⟩:=gX _ U;obtain ⟨P,t⟩:=nY _ Y;obtain ⟨bs,O⟩:=(G.py (kL _ U)).reads I J;have N:X.A.units+1+min (SE (cN Z)) (py W).depth<cLine:=by
    have:=hr.un;rw [C];omega
   obtain ⟨a,M,rfl,ha,L⟩:=z9 S F E;have fin:EP X π σ Q (.bool (!(cN Z).any fun y=>Đ y (py W))) s:=⟨.bl (!b),w.H,I,by rw [vj U Y,D];rfl,ar S h _ rfl⟩
   rcases ha with ha|ha
   ·obtain ⟨cs,rc⟩:=(show L2.DV X.K (fun _=>False) w.H (.list (cN Z)) (.ref a) by simp only [L2.DV];exact ⟨a,M,rfl,not_false,ha,L.py (kK _ Y)⟩).reads I T
    exact SeqAt.notIn_list_reads rc O P R N fin
   ·obtain ⟨cs,rc⟩:=(show L2.DV X.K (fun _=>False) w.H (.tuple (cN Z)) (.ref a) by simp only [L2.DV];exact ⟨a,M,rfl,ha,L.py (kK _ Y)⟩).reads I T
    exact SeqAt.notIn_tuple_reads rc O P R N fin
 ·exact h.elim
def tP (K:ĉ) (Ξ:Wd->aM->Prop) (f:SV (Option Int)):TO:=fun σ H Q=>∃w env,w.H=H/\aA K w/\bL K w env σ/\Out K Ξ w (f env w.aq) fun Z i=>Q i Z.H
def gp:SV (Option Int):=fun _ s=>ok none s
def fX (f:SV D):SV (Option Int):=fun env s=>aj (f env s) fun d s=>match d with
 | .int i=>ok (some i) s
 |_=>none
variable {e a b:Ě} {lo hi:Option Ě} {pos p2 p3 p4:Pos} {f g:SV D}
def Bl (h:PO X lo t) (i:∀ σ H Q,t' σ H Q->t σ H Q):PO X lo t':=fun π s σ H Q I Z=>h π s σ H Q I (i σ H Q Z)
def o9:PO X none (tP X.K Ξ gp):=Bl II fun σ H Q Z=>by
 obtain ⟨w,env,Y,S,W,h⟩:=Z;subst Y;exact ar S h
def oG (he:PE X e (tE X.K Ξ f)):PO X (some e) (tP X.K Ξ (fX f)):=Bl (IJ he) fun σ H Q Y=>by
 obtain ⟨w,env,W,S,V,h⟩:=Y;subst W;refine ⟨w,env,rfl,S,V,(Out.aj h).mono fun R d P U Z v T=>?_⟩
 cases d with
 |int i=>exact ⟨i,T,ar U Z⟩
 |_=>exact Z.elim
noncomputable def cutD (xs:List D) (lo hi:Option Int):List D:=(xs.drop (HT.aH xs.length 0 lo)).take (HT.aH xs.length xs.length hi-HT.aH xs.length 0 lo)
def lg (d:D) (lo hi:Option Int) (s:aa):Res D:=match res d s with
 | .tup Z=>ok (.tup (cutD Z lo hi)) s
 | .lst Z=>ok (.lst (cutD Z lo hi)) s
 |_=>none
def gr (f:SV D) (l h:SV (Option Int)):SV D:=fun env s=>aj (f env s) fun d s=>aj (l env s) fun lo s=>aj (h env s) fun hi s=>lg d lo hi s
def Pa (K:ĉ) (Ξ:Wd->aM->Prop):V->Option Int->Option Int->Hp->VK->Prop:=fun x lo hi H Q=>∃w Z,w.H=H/\aA K w/\DV K w Z x/\Out K Ξ w (lg Z lo hi w.aq) fun Y d=>∀v,DV K Y d v->Q v Y.H
def K0:pM X (Pa X.K Ξ):=by
 rintro π s σ H x v U T lo hi R Q I P hs O pu ⟨w,M,rfl,S,Y,h⟩;unfold lg at h;split at h
 ·rename_i N e1
  rw [cz e1 (by intro _ z;cases z)] at Y;simp only [DV] at Y;obtain ⟨a,W,rfl,V,Z⟩:=Y;refine IP π s σ w.H _ v U T lo hi R Q I P hs O pu ⟨a,W,rfl,V,oW S ?_ h⟩;unfold cutD ie;rw [Z.length];exact (Z.drop _).take _
 ·rename_i N e1
  obtain ⟨a,W,rfl,V,Z⟩:=eU S Y e1;refine IL π s σ w.H _ v U T lo hi R Q I P hs O pu ⟨a,W,rfl,aR.of V,oZ S ?_ h⟩;unfold cutD ie;rw [Z.length];exact (Z.drop _).take _
 ·exact h.elim
def pb (he:PE X e (tE X.K Ξ f)) (hl:PO X lo (tP X.K Ξ fl)) (hu:PO X hi (tP X.K Ξ fh)):PE X (.Subscript e (.Slice lo hi none p2) pos) (tE X.K Ξ (gr f fl fh)) :=
 bI (Hc K0 he hl hu) fun σ H Q V=>by
  obtain ⟨w,env,U,S,Z,h⟩:=V;subst U;exact ⟨w,env,rfl,S,Z,(Out.aj h).mono fun T d Y R P v O=>⟨T,env,rfl,R,Z.le Y,(Out.aj P).mono fun N i W M L=>⟨N,env,rfl,M,Z.le (Y.trans W),(Out.aj L).mono fun J j I G F=>⟨J,d,rfl,G,(W.trans I) _ _ O,F⟩⟩⟩⟩
def ip (d x:D) (s:aa):Res D:=match d with
 | .ax k=>match s[k]? with
  |some (.lst Z)=>if decide (Z.length<Ö)=true then ok .ao (s.set k (.lst (Z++[x]))) else none
  |_=>none
 |_=>none
def iV (d:D) (s:aa):Bool:=match d with
 | .ax k=>match s[k]? with
  |some (.lst _)=>true
  |_=>false
 |_=>false
def lO (f g:SV D):SV D:=fun env s=>aj (f env s) fun d s=>if iV d s=true then aj (g env s) fun x s=>ip d x s else none
def Jj (S:aA K w) (dv:DV K w d v) (h:iV d w.aq=true):∃k a ds xs,d=.ax k/\v=.ref a/\w.ρ[k]?=some a/\w.aq[k]?=some (.lst ds)/\w.H a=some (.lst xs)/\ak K w ds xs:=by
 unfold iV at h;split at h
 ·rename_i k
  split at h
  ·rename_i ds Z
   obtain ⟨a,e1,rfl⟩:=dv;obtain ⟨xs,Y,X⟩:=S.cell k a _ e1 Z;exact ⟨k,a,ds,xs,rfl,rfl,e1,Z,Y,X⟩
  ·cases h
 ·cases h
def K1 (S:aA K w) (dv:DV K w d v) (du:DV K w y u) (h:Out K Ξ w (ip d y w.aq) q):∃a xs,v=.ref a/\w.H a=some (.lst xs)/\xs.length<Ö/\∃w',w'.H=upd w.H a (.lst (xs++[u]))/\q w' .ao:=by
 unfold ip at h;split at h
 ·rename_i k
  split at h
  ·rename_i Z Y
   split at h
   ·rename_i V
    obtain ⟨a,e1,rfl⟩:=dv;obtain ⟨xs,U,X⟩:=S.cell k a _ e1 Y;have W:(Cell.lst Z)≠.dead:=by intro z;cases z
    have le:=(Fw.put (K:=K) (o:=.lst (xs++[u])) (c:=.lst (Z++[y])) S e1 Y W).le;refine ⟨a,xs,rfl,U,by rw [<- X.length];exact ę V,w.put k a (.lst (xs++[u])) (.lst (Z++[y])),rfl,?_⟩;exact h _ le (S.wN e1 Y W ⟨_,bS,le.all (X.append (ak.one du))⟩) rfl
   ·exact h.elim
  ·exact h.elim
 ·exact h.elim
def rS {o:Ě} {apos aY:Pos} (ho:PE X o (tE X.K Ξ f)) (ha:PE X a (tE X.K Ξ g))
  (lq:RH o "append" X.env (ĺ o X.env)=ĺ o X.env:=by rfl)
  (lM:((Ġ aY (Æ [a] X.env)).all (fun x=>!x.1)&&(backToKw aY (RX [] X.env)).all (fun x=>x.1.isSome)
   && decide (([a]:List Ě).length+([]:List Se).length+(if ([]:List Se).isEmpty then 0 else 1)<30))=true:=by rfl)
  (lr:(apos.endLine==aY.line)=true:=by rfl) (hs:Æ [a] X.env=(false,ĺ a X.env)::Æ [] X.env:=by rfl) (gW:(Ġ aY (Æ [] X.env)).any (·.1)=false:=by rfl) :
  PE X (.Call (.Attribute o "append" apos) [a] [] aY) (tE X.K Ξ (lO f g)) :=
 bI (vX RN PySem.F.slot_list_append PySem.F.type_list_append F7 ho (fz ha gU hs) lq lM lr hs gW) fun σ H Q T=>by
  obtain ⟨w,env,Z,S,W,h⟩:=T;subst Z;refine ⟨w,env,rfl,S,W,(Out.aj h).mono fun R d P V Y v U=>?_⟩;split at Y
  ·rename_i O
   obtain ⟨k,p,t,N,rfl,rfl,e1,e2,M,s⟩:=Jj V U O;refine ⟨.inl ⟨rfl,N,aR.of M⟩,R,env,rfl,V,W.le P,(Out.aj Y).mono fun r y L J I u G=>?_⟩;obtain ⟨E,D,C,B,A,q,Z,z⟩:=K1 J (L _ _ U) G I;refine ⟨E,D,u,C,rfl,B,A,?_⟩;rw [<- Z];exact z _ rfl
  ·exact Y.elim
def iq (d i x:D) (s:aa):Option aa:=match d,i with
 | .ax k,.int n=>match s[k]? with
  |some (.lst Z)=>(ef Z.length n).map fun j=>s.set k (.lst (Z.set j x))
  |_=>none
 |_,_=>none
def jw (f o i:SV D):SV Fl:=fun env s=>aj (f env s) fun x s=>aj (o env s) fun d s=>aj (i env s) fun n s=>match iq d n x s with
 |some Z=>ok (.nx env) Z
 |none=>none
def K2 (S:aA K w) (dv:DV K w d v) (dn:DV K w i n) (du:DV K w x u) (h:iq d i x w.aq=some s'):∃a xs k j,v=.ref a/\n=.int k/\w.H a=some (.lst xs)/\ef xs.length k=some j/\∃w',w'.H=upd w.H a (.lst (xs.set j u))/\w'.aq=s'/\Le K w w'/\aA K w':=by
 unfold iq at h;split at h
 ·rename_i k m
  split at h
  ·rename_i Z Y
   cases X:ef Z.length m with
   |none=>rw [X] at h;cases h
   |some j =>
    rw [X] at h;cases h;obtain ⟨a,e1,rfl⟩:=dv;obtain ⟨xs,U,W⟩:=S.cell k a _ e1 Y;have V:(Cell.lst Z)≠.dead:=by intro z;cases z
    have le:=(Fw.put (K:=K) (o:=.lst (xs.set j u)) (c:=.lst (Z.set j x)) S e1 Y V).le;exact ⟨a,xs,m,j,rfl,dn,U,by rw [<- W.length];exact X,w.put k a (.lst (xs.set j u)) (.lst (Z.set j x)),rfl,rfl,le,S.wN e1 Y V ⟨_,bS,le.all (W.set du j)⟩⟩
  ·cases h
 ·cases h
def B5 (he:PE X e (tE X.K Ξ f)) (ho:PE X o (tE X.K Ξ fo)) (hi:PE X i (tE X.K Ξ fi))
 (ha:∀v,assign (.Subscript o i ko) X.env v=(do
   let ov <- RT [v] (ĺ o X.env)
   let iv <- RT [v,ov] (ĺ i X.env)
   standAt ko
   RT [v,ov,iv] (setItem ov iv v)
   release [v,ov,iv] []):=by intro _;rfl)
 (hs:swapsWithSole [.Subscript o i ko] e pos.line X.env=pure false:=by rfl) (hw:swappedStores [.Subscript o i ko] e X.env=pure none:=by rfl)
 (h1:(Ss [.Subscript o i ko] X.env).map (·.2)=[assign (.Subscript o i ko) X.env]:=by rfl):PS X (.Assign [.Subscript o i ko] e pos) (tS X.K Ξ (jw f fo fi)) :=
 jY (Ka he (J9 ho hi set_list ha) hs hw h1) fun t σ H Q=>by
  obtain ⟨w,env,W,S,Z,h⟩:=Q;subst W;refine ⟨w,env,rfl,S,Z,(Out.aj h).mono fun P x V O h1 u N=>?_⟩;refine ⟨P,env,rfl,O,Z.le V,(Out.aj h1).mono fun M d U L J v I=>?_⟩;refine ⟨M,env,rfl,L,Z.le (V.trans U),(Out.aj J).mono fun G n T F Y m E=>?_⟩
  cases R:iq d n x G.aq with
  |none=>rw [R] at Y;exact Y.elim
  |some s =>
   rw [R] at Y;obtain ⟨a,D,k,j,e1,e2,C,B,A,W,z,le,y⟩:=K2 F (T _ _ I) E ((U.trans T) _ _ N) R;refine ⟨a,D,k,j,e1,e2,C,B,?_⟩;rw [<- W];exact Y A le y z σ (Z.le (V.trans (U.trans (T.trans le))))
end
def kd (d:D) (s:aa):Option Kn:=match res d s with
 | .ao=>some .ao
 | .bl _=>some .bl
 | .int _=>some .int
 | .str _=>some .str
 | .tup _=>some .tup
 | .lst _=>some .lst
 | .bo _=>some .bo
 |_=>none
def B6 (S:aA K w) (h:DV K w d v) (e:kd d w.aq=some k):kC K w.H v k:=by
 unfold kd at e
 split at e<;>rename_i e1<;>first | (cases e;done) | (try cases e)
 ·rw [cz e1 (by intro _ z;cases z)] at h;cases h;trivial
 ·rw [cz e1 (by intro _ z;cases z)] at h;cases h;trivial
 ·rw [cz e1 (by intro _ z;cases z)] at h;cases h;trivial
 ·rw [cz e1 (by intro _ z;cases z)] at h;cases h;trivial
 ·rw [cz e1 (by intro _ z;cases z)] at h
  simp only [DV] at h;obtain ⟨a,Y,rfl,Z,_⟩:=h;exact ⟨Y,Z⟩
 ·obtain ⟨a,Y,rfl,Z,_⟩:=eU S h e1
  exact ⟨Y,aR.of Z⟩
 ·rw [cz e1 (by intro _ z;cases z)] at h
  simp only [DV] at h;obtain ⟨a,rfl,_,Z⟩:=h;exact ⟨_,Z⟩
noncomputable def B7 (T:String):Bool:=T=="int"||T=="bool"||T=="str"||T=="tuple"||T=="list"
def cm (ds:List D) (s:aa):Res D:=match ds with
 | [d,.ty T]=>if B7 T=true then bz ((kd d s).map fun k=>.bl (mZ k T)) s else none
 |_=>none
section
variable {X:Cx} {Ξ:Wd->aM->Prop} {e a b:Ě} {es:List Ě} {pos:Pos} {f g:SV D} {fa:SV (List D)}
def iO:bK X (.builtin "isinstance") (rC X.K Ξ cm):=by
 rintro Z s σ H M Y Q I r ⟨w,L,rfl,S,R,h⟩;unfold cm at h;split at h
 ·rename_i d T
  obtain ⟨v,u,rfl,P,O⟩:=mL R;have N:u=.ty T:=O;subst N;split at h
  ·rename_i U
   obtain ⟨J,e,h⟩:=cY h
   cases V:kd d w.aq with
   |none=>rw [V] at e;cases e
   |some k =>
    rw [V] at e;cases e;have W:=B6 S P V;simp only [B7,Bool.or_eq_true,beq_iff_eq] at U
    rcases U with (((rfl|rfl)|rfl)|rfl)|rfl
    ·exact EI Z s σ w.H _ Y Q I r ⟨v,k,rfl,W,ar S h _ rfl⟩
    ·exact Es Z s σ w.H _ Y Q I r ⟨v,k,rfl,W,ar S h _ rfl⟩
    ·exact EJ Z s σ w.H _ Y Q I r ⟨v,k,rfl,W,ar S h _ rfl⟩
    ·exact Em Z s σ w.H _ Y Q I r ⟨v,k,rfl,W,ar S h _ rfl⟩
    ·exact Et Z s σ w.H _ Y Q I r ⟨v,k,rfl,W,ar S h _ rfl⟩
  ·exact h.elim
 ·exact h.elim
def iW (hv:ê x=some (.type T)) (hg:Gl X x) (hm:X.mg x=none) (hn:x≠"__name__":=by decide) (hd:(x==("__debug__":Str))=false:=by decide):PE X (.Name x pos) (tE X.K Ξ (eC (.ty T))):=mQ (v:=.ty T) (qQ hg hm hv rfl hn hd) fun _=>rfl
def C0 (g:∃t,X.mg x=some (.int i t)) (hg:Gl X x) (hd:(x==("__debug__":Str))=false:=by decide):PE X (.Name x pos) (tE X.K Ξ (eC (.int i))):=by
 obtain ⟨t,e⟩:=g;exact mQ (v:=.int i) (Aj hg e ⟨t,rfl⟩ hd) fun _=>rfl
def ni (d:D) (s:aa):Res D:=bz ((kd d s).map fun k=>.bl (decide (k=.tup)||decide (k=.lst))) s
noncomputable def lH:List D->Option (List Int)
 | []=>some []
 | .int i::Z=>(lH Z).map fun r=>i::r
 |_::_=>none
theorem Aa:∀{ds:List D} {ns:List Int},lH ds=some ns->ds=ns.map D.int
 | [],ns,h=>by cases h;rfl
 | .int b::ds,ns,h=>by
  simp only [lH] at h
  cases Z:lH ds with
  |none=>rw [Z] at h;cases h
  |some r=>rw [Z] at h;cases h;rw [Aa Z];rfl
 | .ao::_,_,h=>by cases h
 | .bl _::_,_,h=>by cases h
 | .str _::_,_,h=>by cases h
 | .tup _::_,_,h=>by cases h
 | .lst _::_,_,h=>by cases h
 | .bo _::_,_,h=>by cases h
 | .ax _::_,_,h=>by cases h
 | .ty _::_,_,h=>by cases h
 | .bh _::_,_,h=>by cases h
 | .exc _::_,_,h=>by cases h
 | .bE _ _ _::_,_,h=>by cases h
def Gq:lH (ns.map D.int)=some ns:=by
 induction ns with
 |nil=>rfl
 |cons b bs ih=>simp only [ç,lH,ih,SD]
noncomputable def iX (i:Int):List Int->List Int
 | []=>[i]
 |j::r=>if i<j then i::j::r else if i=j then j::r else j::iX i r
def dQ:List Int->List Int
 | []=>[]
 |i::r=>iX i (dQ r)
theorem uq:∀{l:List Int},k∈iX i l↔k=i\/k∈l
 | []=>by simp [iX]
 |j::r=>by
  unfold iX;split
  ·simp
  ·split
   ·rename_i h;subst h;simp
   ·rw [Ù,uq,Ù]
    constructor
    ·rintro (h|h|h)
     ·exact .inr (.inl h)
     ·exact .inl h
     ·exact .inr (.inr h)
    ·rintro (h|h|h)
     ·exact .inr (.inl h)
     ·exact .inl h
     ·exact .inr (.inr h)
theorem zh:∀{l:List Int},l.Pairwise (· < ·)->(iX i l).Pairwise (· < ·)
 | [],_=>by simp [iX]
 |j::r,h=>by
  obtain ⟨Z,Y⟩:=Ĉ.mp h;unfold iX;split
  ·rename_i X
   refine Ĉ.mpr ⟨fun k hk=>?_,h⟩
   rcases Ù.mp hk with rfl|hk
   ·exact X
   ·have:=Z k hk;omega
  ·split
   ·exact h
   ·refine Ĉ.mpr ⟨fun k hk=>?_,zh Y⟩
    rcases uq.mp hk with rfl|hk
    ·omega
    ·exact Z k hk
theorem qB:∀{l:List Int},k∈dQ l↔k∈l
 | []=>by simp [dQ]
 |i::r=>by simp [dQ,uq,qB]
theorem tH:∀(l:List Int),(dQ l).Pairwise (· < ·)
 | []=>List.Pairwise.nil
 |i::r=>zh (tH r)
theorem y0:∀{l m:List Int},l.Pairwise (· < ·)->m.Pairwise (· < ·)->(∀k,k∈l↔k∈m)->l=m
 | [],[],_,_,_=>rfl
 | [],j::m,_,_,h=>by have:=(h j).mpr Ø;cases this
 |i::l,[],_,_,h=>by have:=(h i).mp Ø;cases this
 |i::l,j::m,W,V,h=>by
  obtain ⟨Y,U⟩:=Ĉ.mp W;obtain ⟨X,T⟩:=Ĉ.mp V;have e:i=j:=by
   rcases Ù.mp ((h i).mp Ø) with e|e
   ·exact e
   ·rcases Ù.mp ((h j).mpr Ø) with e'|e'
    ·exact e'.symm
    ·have:=X i e;have:=Y j e';omega
  subst e;congr 1;refine y0 U T fun k=>?_;constructor
  ·intro Z
   rcases Ù.mp ((h k).mp (Õ _ Z)) with e|e
   ·subst e;have:=Y k Z;omega
   ·exact e
  ·intro Z
   rcases Ù.mp ((h k).mpr (Õ _ Z)) with e|e
   ·subst e;have:=X k Z;omega
   ·exact e
def Gr (l:List Int):(dQ l).length<=l.length:=by
 induction l with
 |nil=>exact S0 _
 |cons x l ih =>
  have:(dQ (x::l)).length<=(dQ l).length+1:=by
   show (iX x (dQ l)).length<=_;generalize dQ l=m
   induction m with
   |nil=>exact S0 _
   |cons y m Z =>
    unfold iX;split
    ·simp
    ·split
     ·simp
     ·simp only [ø];omega
  simp only [ø];omega
def HA (ns:List Int):(ns.foldl PyProof.Rows.step_dedup []).length<=(dQ ns).length:=sub_len (tL ns [] List.nodup_nil) fun k Z=>qB.mpr ((zL ns k).mp Z)
def nZ (d:D) (s:aa):Res D:=match d with
 | .tup Y=>match lH Y with
  |some Z=>if decide (Z.length<64)=true then ok (.lst ((dQ Z).map D.int)) s else none
  |none=>none
 |_=>none
def FD {p p2 jx:Pos} (ha:PE X a (tE X.K Ξ f)) (hc:X.calm=true) (hg:Gl X "sorted") (hm:X.mg "sorted"=none) (hv:ê "sorted"=some (.builtin "sorted")) (x9:Gl X "set") (qb:X.mg "set"=none) (Pb:ê "set"=some (.type "set"))
  (he:Æ [a] X.env=(false,ĺ a X.env)::Æ [] X.env:=by rfl) (aZ:(Ġ jx (Æ [] X.env)).any (·.1)=false:=by rfl)
  (qc:Æ [.Call (.Name "set" p2) [a] [] jx] X.env=(false,ĺ (.Call (.Name "set" p2) [a] [] jx) X.env)::Æ [] X.env:=by rfl) (wY:(Ġ pos (Æ [] X.env)).any (·.1)=false:=by rfl) :
  PE X (.Call (.Name "sorted" p) [.Call (.Name "set" p2) [a] [] jx] [] pos) (tE X.K Ξ (e1 nZ f)) :=
 bI (qG (EL hc) hg hm hv (fz (qA (Fz hc) x9 qb Pb (fz ha gU he) (by decide) (by decide) he aZ) gU qc) (by decide) (by decide) qc wY) fun σ H Q J=>by
  obtain ⟨w,env,I,S,G,h⟩:=J;subst I;refine ⟨w,env,rfl,S,G,(Out.aj h).mono fun U d B F W v P=>?_⟩;unfold nZ at W;split at W
  ·rename_i A
   split at W
   ·rename_i Y E
    split at W
    ·rename_i T
     have T:=ę T;simp only [DV] at P;obtain ⟨p,z,rfl,O,N⟩:=P;rw [Aa E] at N;rw [N.zX] at O;refine ⟨p,Y,rfl,O,by omega,fun q M=>?_⟩;refine ⟨q,Y,rfl,bS,RO (â (HA Y) (Gr Y)) T,fun l y D hs C=>?_⟩;have e:=y0 hs (tH Y) fun k=>(C k).trans qB.symm;subst e;have R:(U.grow q (.ext (iR X.prog X.w q Y))).H l=none:=D;have L:=F.grow (o:=.ext (iR X.prog X.w q Y)) M;exact W ((U.grow q (.ext (iR X.prog X.w q Y))).grow l (.lst ((dQ Y).map V.int))) ((Fw.grow M).le.trans (Fw.grow R).le) (L.grow R) rfl (.ref l) ⟨l,_,rfl,⟨(show ¬ (U.grow q (.ext (iR X.prog X.w q Y))).Z l from kY L R),bS⟩,ak.ints _⟩
    ·exact W.elim
   ·exact W.elim
  ·exact W.elim
def sy (i j:Nat) (fa:SV (List D)):SV Fl:=fun env s=>aj (fa env s) fun Z s=>match Z with
 | [x,y]=>ok (.nx ((env.set i (some x)).set j (some y))) s
 |_=>none
def K3 (i j:Nat) {x y:Str} {px py pt:Pos} {kt k2 lV} (hc:X.calm=true) (hN:X.N.Nodup) (ha:PA X [a,b] (tA X.K Ξ fa)) (hi:X.N[i]?=some x:=by rfl) (hj:X.N[j]?=some y:=by rfl) (jH:i≠j:=by decide)
  (hx:X.env.scope.names.lookup x=some .local:=by rfl) (hy:X.env.scope.names.lookup y=some .local:=by rfl)
  (hw:swappedStores [.Tuple [.Name x px,.Name y py] kt pt] (.Tuple [a,b] k2 lV) X.env=pure (some [x,y]):=by rfl)
  (hs:swapsWithSole [.Tuple [.Name x px,.Name y py] kt pt] (.Tuple [a,b] k2 lV) pos.line X.env=pure false:=by rfl) :
  PS X (.Assign [.Tuple [.Name x px,.Name y py] kt pt] (.Tuple [a,b] k2 lV) pos) (tS X.K Ξ (sy i j fa)):=jY (Kc hc hN hi hj jH hx hy ha hw hs) fun O σ H W=>by
 obtain ⟨w,env,V,S,Y,h⟩:=W;subst V;refine ⟨w,env,rfl,S,Y,(Out.aj h).mono fun M L U T Z J R=>?_⟩;split at Z
 ·obtain ⟨v,u,rfl,Q,P⟩:=mL R
  exact ⟨v,u,rfl,ar T Z _ (((Y.le U).set Q i).set P j)⟩
 ·exact Z.elim
end
end DI
namespace L2
open PySem PySem.Spec PyProof.Rows
structure DS (Y:Cx) (D:Ò) (π:List (Ò×Obj)):Prop where
 loc:D≠Y.env.locals
 fs:D∉Y.fs
 new:Y.bQ.heap.objs.size<=D
 cell:∀x c,Y.env.cells.lookup x=some c->c≠D
 pin:∀p∈Y.pn++π,p.1≠D
structure Pc (Y:Cx) (D:Ò) (nt:Nat) (aB:St) (π:List (Ò×Obj)) (o:St) (H:Hp) (s:Ã) (acc:List V):Prop where
 inv:Inv Y π (o++aB) H s
 len:o.length=nt
 lst:∃ys,s.heap.PlainList D ys/\Vals acc ys.toList
 free:H D=none
 xJ:acc.length<=Ö
section
variable {Y:Cx} {D:Ò} {nt:Nat} {aB:St}
def DS.obj (ds:DS Y D π) (B:Pc Y D nt aB π o H s acc):∃oD ys nn,s.heap.get? D=some oD/\oD={ cls:=.type "list",data:=.seq ys nn }/\Vals acc ys.toList/\Inv Y (π++[(D,oD)]) (o++aB) H s:=by
 obtain ⟨ys,⟨nn,Z⟩,X⟩:=B.lst;refine ⟨_,ys,nn,Z,rfl,X,B.inv.iJ fun p W=>?_⟩
 rcases û.mp W with z|z
 ·exact B.inv.pin p (Ê _ z)
 ·have e:p=(D,{ cls:=.type "list",data:=.seq ys nn }):=by simpa using z
  subst e;exact ⟨Z,B.free,ds.loc,ds.fs,fun v z=>by cases z⟩
end
section
variable {Y:Cx} {D:Ò} {nt:Nat} {aB:St}
end
section
variable {X:Cx}
end
end L2
namespace DI
open PySem L2
def fP:ê "isinstance"=some (.builtin "isinstance"):=by decide +kernel
def Ms:ê "int"=some (.type "int"):=by decide +kernel
def vm:ê "bool"=some (.type "bool"):=by decide +kernel
def jU:ê "tuple"=some (.type "tuple"):=by decide +kernel
def rl:ê "list"=some (.type "list"):=by decide +kernel
def Mt:ê "set"=some (.type "set"):=by decide +kernel
def rT:ê "all"=some (.builtin "all"):=by decide +kernel
def Mu:ê "any"=some (.builtin "any"):=by decide +kernel
def dg:ê "len"=some (.builtin "len"):=by decide +kernel
def v7:ê "max"=some (.builtin "max"):=by decide +kernel
def Mv:ê "min"=some (.builtin "min"):=by decide +kernel
def HB:ê "sorted"=some (.builtin "sorted"):=by decide +kernel
structure Gd (K:ĉ) (mg:Str->Option Ä) (x:Str) (st:SH) (ps:List Str) (f:Ò) (fd:č):Prop where
 mg:mg x=some (.ref f)
 fn:l9 K x x st f fd
 b:Binds K fd ps []
def Mw {P:Û} {w:ú} {K:ĉ} {mg:Str->Option Ä} {base:ħ} {k:Nat} {f:Ò} {fd:č} {ps:List Str} {g:List D->aa->Res D} (h:∀ds s,g ds s=none):bT P w K mg base cg k f fd ps (gg K g) :=
 ⟨fun Y H Q E Z=>by obtain ⟨w,ds,_,_,_,q⟩:=Z;rw [h] at q;exact q.elim,fun A outer s H args X Y Q E _ _ _ _ Z=>by obtain ⟨w,ds,_,_,_,q⟩:=Z;rw [h] at q;exact q.elim⟩
def wZ (g:D->Env->Option Env) (t:SV Bool) (act:SV (List D)) (lK:Env):List D->aa->Res (List D)
 | [],s=>ok [] s
 |d::Z,s=>match g d lK with
  |none=>none
  |some env=>aj (ne (t env s)) fun b s=>if b=true then aj (ne (act env s)) fun Y s=>aj (wZ g t act lK Z s) fun X s=>ok (Y++X) s
   else wZ g t act lK Z s
def more (it:SV (List D)) (g:D->Env->Option Env) (t:SV Bool) (act:SV (List D)):SV (List D):=fun env s=>aj (it env s) fun Z s=>wZ g t act env Z s
def Sl (g:D->Env->Option Env) (sl:List Nat):Prop:=∀d env Z,g d env=some Z->Z.length=env.length/\∀i,i∉sl->Z[i]?=env[i]?
theorem B8:∀(is:List Nat) (ds:List D) (env aF:Env),il (is.map gN) ds env=some aF->aF.length=env.length/\∀i,i∉is->aF[i]?=env[i]?
 | [],[],env,aF,h=>by
  have e:env=aF:=S7 h;rw [e];exact ⟨rfl,fun _ _=>rfl⟩
 | [],_::_,_,_,h=>by cases h
 |_::_,[],_,_,h=>by cases h
 |j::is,d::ds,env,aF,h=>by
  have Z:il (is.map gN) ds (env.set j (some d))=some aF:=h;obtain ⟨Y,X⟩:=B8 is ds _ aF Z;refine ⟨by rw [Y,ô],fun i hi=>?_⟩;rw [X i (fun z=>hi (Õ _ z)),Ü (fun z=>hi (by rw [z];exact Ø ..))]
def Bb (is:List Nat):Sl (gT (is.map gN)) is:=fun d env Z h=>by
 cases d with
 |tup Y=>exact B8 is Y env Z h
 |_=>cases h
def qd (sl:List Nat) (env:Env):Prop:=∀i∈sl,∀d,env[i]?≠some (some d)
def HC {α β:Type} {r:Res α} {k:α->aa->Res β} {b:β} {s':aa} (h:aj r k=some (.ok b,s')):∃a s,r=some (.ok a,s)/\k a s=some (.ok b,s'):=by
 match r,h with
 |some (.ok a,s),h=>exact ⟨a,s,rfl,h⟩
def Jk {α:Type} {r:Res α} {a:α} {s:aa} (h:ne r=some (.ok a,s)):r=some (.ok a,s):=by
 match r,h with
 |some (.ok b,Z),h=>exact h
def qd.of {nt:Nat} {g:D->Env->Option Env} {sl cJ:List Nat} (hs:Sl g sl) (hd:∀i∈cJ,i<nt/\i∉sl) {d:D} {aB aF:Env} (hg:g d (Ñ nt none++aB)=some aF):qd cJ aF:=fun i hi x e=>by
 obtain ⟨Z,Y⟩:=hd i hi;rw [(hs _ _ _ hg).2 i Y,Ú (by simpa using Z),ĸ,é Z] at e;cases e
def qd.on (hs:Sl g sl) (hd:∀i∈cJ,i∉sl) (hf:qd cJ env) (hg:g d env=some aF):qd cJ aF:=fun i hi x e=>by
 rw [(hs _ _ _ hg).2 i (hd i hi)] at e;exact hf i hi x e
section
variable {X:Cx} {Ξ:Wd->aM->Prop} {el tg src Pd N2 Rn Q6:Ě} {tests K4 Q0:List Ě} {sc:ε} {ps pos:Pos} {N:List Str} {nt:Nat} {cap:List Nat} {it xI Ro:SV (List D)} {gd Pe Rp:D->Env->Option Env} {g0 Pf Rq:TG} {sl cJ sW:List Nat} {ft kE Rr:SV Bool} {f:SV D}
noncomputable def apart (nt:Nat) (sl cJ:List Nat):Bool:=cJ.all (fun i=>decide (i<nt)&&!sl.contains i)
end
end DI
namespace L2
open PySem PySem.Spec PyProof.Rows
noncomputable abbrev Cx.bG (X:Cx):Cx:={ X with A:=X.A.in1,xe:=fun _ _=>False }
theorem Inv.bG {X:Cx} {π:List (Ò×Obj)} {σ:St} {H:Hp} {s:Ã} (I:Inv X π σ H s):Inv X.bG π σ H s :=
 ⟨⟨I.ok.mod,I.ok.kind,I.ok.glob,I.ok.blt,I.ok.above,I.ok.inj,I.ok.has,I.ok.kz,I.ok.hd,I.ok.frames,I.ok.gG,I.ok.sF,I.ok.bs,I.ok.fJ,I.ok.ju,I.ok.mV,I.ok.eG,I.ok.gH⟩,I.os,I.bare,I.base,I.loc,I.cell,I.free,I.fD,I.pin,I.au,I.len⟩
def Inv.C3 {X:Cx} {π:List (Ò×Obj)} {σ:St} {H:Hp} {s:Ã} (I:Inv X.bG π σ H s):Inv X π σ H s :=
 ⟨⟨I.ok.mod,I.ok.kind,I.ok.glob,I.ok.blt,I.ok.above,I.ok.inj,I.ok.has,I.ok.kz,I.ok.hd,I.ok.frames,I.ok.gG,I.ok.sF,I.ok.bs,I.ok.fJ,I.ok.ju,I.ok.mV,I.ok.eG,I.ok.gH⟩,I.os,I.bare,I.base,I.loc,I.cell,I.free,I.fD,I.pin,I.au,I.len⟩
def w9 (X:Cx) (kv:Ä) (rk:V->Hp->VK->Prop):Prop :=
 ∀(Z:List (Ò×Obj)) (s:Ã) (σ:St) (H:Hp) (x:V) (v:Ä) (Q:VK),Inv X Z σ H s->RelV x v->rk x H Q->Ô (á X.prog X.w) X.A (call kv [v]) (EP X Z σ Q) X.xe s
def iD (K:ĉ) (l:Ò) (all:List V) (rk:V->Hp->VK->Prop) (rc:R2):List V->V->V->Hp->VK->Prop
 | [],Z,_,H,Q=>aR K H l all/\Q Z H
 |x::Y,Z,X,H,Q=>aR K H l all/\rk x H fun k U=>rc k X U fun z W=>∃b,z=.bl b/\if b=true then iD K l all rk rc Y x k W Q else iD K l all rk rc Y Z X W Q
def nj (K:ĉ) (l:Ò) (all:List V) (rk:V->Hp->VK->Prop) (rc:R2) (dv:V) (H:Hp) (Q:VK):Prop:=aR K H l all/\match all with
 | []=>Q dv H
 |x::Z=>rk x H fun k Y=>iD K l all rk rc Z x k Y Q
abbrev mj:V->Hp->VK->Prop:=fun x H Q=>Q x H
def rm (X:Cx) (π:List (Ò×Obj)) (σ:St) (Q:VK) (r:Result) (s':Ã):Prop:=match r with
 | .ok (.ret v)=>EP X π σ Q v s'
 | .ok _=>False
 | .error e=>X.xe e s'
def Gs {X:Cx} {l I S:Ò} {iE:String} {kw:List (Str×Ä)} {all:List V} {π:List (Ò×Obj)} {σ:St} {rk:V->Hp->VK->Prop} {rc:R2} {Q:VK} (hc:X.calm=true) (iF:l≠I) (fu:S≠I) (qe:S≠l) (hK:w9 X.bG (.builtin iE) rk) (hC:aX X.bG (Ć .Gt) rc) :
  ∀(rest:List V) (j:Nat) (s:Ã) (H:Hp) (vb kb:V) (ub uk:Ä) (c:Nat),all.drop j=rest->j<=all.length->Inv X.bG π σ H s->bR X π H S->bR X π H I->s.heap.get? S=some { cls:=.type "list",dict:=none,data:=.seq #[ub,uk] c,slots:=#[] }->s.heap.IsListIter I l j->RelV vb ub->RelV kb uk ->
   iD X.K l all rk rc rest vb kb H Q->ť (á X.prog X.w) X.A (.builtin "max.loop" ⟨[.ref I,.builtin iE,.ref S],kw⟩) (rm X π σ Q) s:=by
 have a:(toString "max"++toString ".loop":String)="max.loop":=by decide
 intro rest
 induction rest with
 |nil =>
  intro j s H vb kb ub uk c hd fO T Y Z J hit u Ph h;obtain ⟨t,h⟩:=h;have hj:j=all.length:=Nat.le_antisymm fO (by simpa using hd);subst hj;obtain ⟨its,E,r,hz⟩:=T.list t;have q:X.A.in1.handled=none:=T.ok.hd hc;have W:=Walks.list (prog:=X.prog) (w:=X.w) (A:=X.A.in1) q I l iF its.toArray;have R:its.toArray.size=all.length:=by rw [Ð];exact E.length.symm
  refine Ą Į ?_;rw [í æ _];show Ô _ X.A.in1 (Sx (.ref S) >>= _) _ _ _;refine À (ý J rfl ?_);show Ô _ X.A.in1 (tryCatch (ţ (.ref I)) _ >>= _) _ _ _;refine À (ĳ (W.done _ _ _ ⟨by rw [R];exact hit,r.isList⟩ fun h' D G=>?_));have n:=G S _ (by simpa using fu) J
  have C:Inv X.bG π σ H { s with heap:=h',toks:=D }:=T.turned (it:=I) (fun b o P e=>G b o (by simpa using P) e) Z.1 Z.2.1 Z.2.2.2.1 Z.2.2.2.2.1 Z.2.2.2.2.2
  show Ô _ X.A.in1 (updateSeq S (fun _=>#[]) >>= _) _ _ _;refine À ?_;refine Ľ n rfl (À (Ŏ (Â ?_)));have m:=C.turned (h':=h'.update S (Ğ fun _=>(#[]:Array Ä))) (t':=D) (it:=S) (fun b o P e=>(å _ _ (ş P)).trans e) Y.1 Y.2.1 Y.2.2.2.1 Y.2.2.2.2.1 Y.2.2.2.2.2;exact ⟨vb,H,m.C3,u,h⟩
 |cons x rest ih =>
  intro j s H vb kb ub uk c hd fO T Y Z J hit u qf h;obtain ⟨t,h⟩:=h;have B:all[j]?=some x:=by
   have:=ķ (fun l=>l[0]?) hd;simpa using this
  have dZ:all.drop (j+1)=rest:=by
   have:=ķ (List.drop 1) hd;simpa [SJ] using this
  obtain ⟨its,E,r,hz⟩:=T.list t;have q:X.A.in1.handled=none:=T.ok.hd hc;have W:=Walks.list (prog:=X.prog) (w:=X.w) (A:=X.A.in1) q I l iF its.toArray;have R:its.toArray.size=all.length:=by rw [Ð];exact E.length.symm
  refine Ą Į ?_;rw [í æ _];show Ô _ X.A.in1 (Sx (.ref S) >>= _) _ _ _;refine À (ý J rfl ?_);show Ô _ X.A.in1 (tryCatch (ţ (.ref I)) _ >>= _) _ _ _;refine À (ĳ (W.item j _ _ _ (by rw [R];exact (Å.mp B).1) ⟨hit,r.isList⟩ fun v h' D hP lP G=>?_));obtain ⟨U,i7,rx⟩:=E.get B;have ev:U=v:=by
   have:its.toArray[j]?=some v:=hP;rw [Ū,i7] at this;exact S7 this
  subst ev;have n:=G S _ (by simpa using fu) J
  have C:Inv X.bG π σ H { s with heap:=h',toks:=D }:=T.turned (it:=I) (fun b o P e=>G b o (by simpa using P) e) Z.1 Z.2.1 Z.2.2.2.1 Z.2.2.2.2.1 Z.2.2.2.2.2
  obtain ⟨F,ml,dw,i⟩:=id lP.1;have nS:∀v,({ cls:=.type "list",dict:=none,data:=.seq #[ub,uk] c,slots:=#[] }:Obj).data≠.cell v:=fun v z=>by cases z
  have nI:∀v,F.data≠.cell v:=fun v z=>by rw [i] at z;cases z
  have m:=C.iJ (pins':=π++[(S,{ cls:=.type "list",dict:=none,data:=.seq #[ub,uk] c,slots:=#[] }),(I,F)]) fun p hp=>by
   rcases û.mp hp with z|z
   ·exact C.pin p (Ê _ z)
   ·rcases Ù.mp z with rfl|z
    ·exact ⟨n,Y.1,Y.2.1,Y.2.2.1,nS⟩
    ·rw [Ă.mp z]
     exact ⟨ml,Z.1,Z.2.1,Z.2.2.1,nI⟩
  show Ô _ X.A.in1 (tryCatch (RT [U] (call (.builtin iE) [U])) _ >>= _) _ _ _;refine À (ĳ (ą (ģ (hK _ _ σ H x U _ m rx h) (fun O s2 dF=>?_) fun _ _ z=>z.elim)));obtain ⟨k,H2,I3,jN,h⟩:=dF;show Ô _ X.A.in1 (tryCatch (RT [U,O] (richCompare .Gt O uk >>= _)) _ >>= _) _ _ _;refine À (ĳ (ą (À (ģ (hC _ s2 σ H2 k kb O uk _ I3 jN qf h) (fun z M yb=>?_) fun _ _ z=>z.elim))));obtain ⟨zv,L,g,rz,b,eb,h⟩:=yb;subst eb;cases rz;refine À (ą (Ĥ ?_));refine À (Ŏ (Â ?_));have y:=g.pin (S,{ cls:=.type "list",dict:=none,data:=.seq #[ub,uk] c,slots:=#[] }) (Ê _ (Ê _ (by simp)));have f:=g.pin (I,F) (Ê _ (Ê _ (by simp)));have I5:Inv X.bG π σ L M:=g.jQ;have N:bR X π L S:=⟨y.2.1,Y.2⟩;have jO:bR X π L I:=⟨f.2.1,Z.2⟩
  cases b with
  |true =>
   rw [é rfl] at h;rw [é rfl];refine À ?_;refine Ľ y.1 rfl (À (Ŏ ?_));rw [a];obtain ⟨d,eJ⟩:∃d,(M.heap.update S (Ğ fun _=>#[U,O])).get? S=some { cls:=.type "list",dict:=none,data:=.seq #[U,O] d,slots:=#[] }:=⟨_,î _ y.1 rfl⟩
   have I6:Inv X.bG π σ L { M with heap:=M.heap.update S (Ğ fun _=>#[U,O]),toks:=M.toks }:=I5.turned (t':=M.toks) (it:=S) (fun b o P e=>(å _ _ (ş P)).trans e) N.1 N.2.1 N.2.2.2.1 N.2.2.2.2.1 N.2.2.2.2.2
   exact Â ⟨Ę æ _,ih (j+1) _ L x k U O d dZ (Å.mp B).1 I6 N jO eJ ⟨F,(å _ _ fu).trans f.1,dw,i⟩ rx jN h⟩
  |false =>
   rw [õ Ï] at h;rw [õ Ï];refine À (Ŏ ?_);rw [a];exact Â ⟨Ę æ _,ih (j+1) _ L vb kb ub uk c dZ (Å.mp B).1 I5 N jO y.1 ⟨F,f.1,dw,i⟩ u qf h⟩
def Gu {X:Cx} {l I S:Ò}  {kw:List (Str×Ä)} {all:List V} {π:List (Ò×Obj)} {σ:St} {rc:R2} {Q:VK} (hc:X.calm=true) (iF:l≠I) (fu:S≠I) (qe:S≠l) (hC:aX X.bG (Ć .Gt) rc) :
  ∀(rest:List V) (j:Nat) (s:Ã) (H:Hp) (vb kb:V) (ub uk:Ä) (c:Nat),all.drop j=rest->j<=all.length->Inv X.bG π σ H s->bR X π H S->bR X π H I->s.heap.get? S=some { cls:=.type "list",dict:=none,data:=.seq #[ub,uk] c,slots:=#[] }->s.heap.IsListIter I l j->RelV vb ub->RelV kb uk ->
   iD X.K l all mj rc rest vb kb H Q->ť (á X.prog X.w) X.A (.builtin "max.loop" ⟨[.ref I,.none,.ref S],kw⟩) (rm X π σ Q) s:=by
 have hZ:(toString "max"++toString ".loop":String)="max.loop":=by decide
 intro rest
 induction rest with
 |nil =>
  intro j s H vb kb ub uk c hd fO T U Z J hit u Ph h;obtain ⟨t,h⟩:=h;have hj:j=all.length:=Nat.le_antisymm fO (by simpa using hd);subst hj;obtain ⟨its,E,r,hz⟩:=T.list t;have q:X.A.in1.handled=none:=T.ok.hd hc;have W:=Walks.list (prog:=X.prog) (w:=X.w) (A:=X.A.in1) q I l iF its.toArray;have R:its.toArray.size=all.length:=by rw [Ð];exact E.length.symm
  refine Ą Į ?_;rw [í æ _];show Ô _ X.A.in1 (Sx (.ref S) >>= _) _ _ _;refine À (ý J rfl ?_);show Ô _ X.A.in1 (tryCatch (ţ (.ref I)) _ >>= _) _ _ _;refine À (ĳ (W.done _ _ _ ⟨by rw [R];exact hit,r.isList⟩ fun h' N G=>?_));have n:=G S _ (by simpa using fu) J
  have D:Inv X.bG π σ H { s with heap:=h',toks:=N }:=T.turned (it:=I) (fun b o P e=>G b o (by simpa using P) e) Z.1 Z.2.1 Z.2.2.2.1 Z.2.2.2.2.1 Z.2.2.2.2.2
  show Ô _ X.A.in1 (updateSeq S (fun _=>#[]) >>= _) _ _ _;refine À ?_;refine Ľ n rfl (À (Ŏ (Â ?_)));have m:=D.turned (h':=h'.update S (Ğ fun _=>(#[]:Array Ä))) (t':=N) (it:=S) (fun b o P e=>(å _ _ (ş P)).trans e) U.1 U.2.1 U.2.2.2.1 U.2.2.2.2.1 U.2.2.2.2.2;exact ⟨vb,H,m.C3,u,h⟩
 |cons x rest ih =>
  intro j s H vb kb ub uk c hd fO T U Z J hit u qf h;obtain ⟨t,h⟩:=h;have C:all[j]?=some x:=by
   have:=ķ (fun l=>l[0]?) hd;simpa using this
  have dZ:all.drop (j+1)=rest:=by
   have:=ķ (List.drop 1) hd;simpa [SJ] using this
  obtain ⟨its,E,r,hz⟩:=T.list t;have q:X.A.in1.handled=none:=T.ok.hd hc;have W:=Walks.list (prog:=X.prog) (w:=X.w) (A:=X.A.in1) q I l iF its.toArray;have R:its.toArray.size=all.length:=by rw [Ð];exact E.length.symm
  refine Ą Į ?_;rw [í æ _];show Ô _ X.A.in1 (Sx (.ref S) >>= _) _ _ _;refine À (ý J rfl ?_);show Ô _ X.A.in1 (tryCatch (ţ (.ref I)) _ >>= _) _ _ _;refine À (ĳ (W.item j _ _ _ (by rw [R];exact (Å.mp C).1) ⟨hit,r.isList⟩ fun v h' N hP lP G=>?_));obtain ⟨Y,i7,rx⟩:=E.get C;have ev:Y=v:=by
   have:its.toArray[j]?=some v:=hP;rw [Ū,i7] at this;exact S7 this
  subst ev;have n:=G S _ (by simpa using fu) J
  have D:Inv X.bG π σ H { s with heap:=h',toks:=N }:=T.turned (it:=I) (fun b o P e=>G b o (by simpa using P) e) Z.1 Z.2.1 Z.2.2.2.1 Z.2.2.2.2.1 Z.2.2.2.2.2
  obtain ⟨F,ml,dw,i⟩:=id lP.1;have nS:∀v,({ cls:=.type "list",dict:=none,data:=.seq #[ub,uk] c,slots:=#[] }:Obj).data≠.cell v:=fun v z=>by cases z
  have nI:∀v,F.data≠.cell v:=fun v z=>by rw [i] at z;cases z
  have m:=D.iJ (pins':=π++[(S,{ cls:=.type "list",dict:=none,data:=.seq #[ub,uk] c,slots:=#[] }),(I,F)]) fun p hp=>by
   rcases û.mp hp with z|z
   ·exact D.pin p (Ê _ z)
   ·rcases Ù.mp z with rfl|z
    ·exact ⟨n,U.1,U.2.1,U.2.2.1,nS⟩
    ·rw [Ă.mp z]
     exact ⟨ml,Z.1,Z.2.1,Z.2.2.1,nI⟩
  refine À (Â ?_)
  have dF:EP X.bG _ σ (fun k H1=>rc k kb H1 (fun z B=>∃b,z=.bl b/\if b=true then iD X.K l all mj rc rest x k B Q else iD X.K l all mj rc rest vb kb B Q)) Y { s with heap:=h',toks:=N }:=⟨x,H,m,rx,h⟩
  obtain ⟨g,dE⟩:∃g:Ã,g={ s with heap:=h',toks:=N }:=⟨_,rfl⟩
  rw [<- dE] at dF;rw [<- dE];obtain ⟨k,B,I3,jN,h⟩:=dF;show Ô _ X.A.in1 (tryCatch (RT [Y,Y] (richCompare .Gt Y uk >>= _)) _ >>= _) _ _ _;refine À (ĳ (ą (À (ģ (hC _ g σ B k kb Y uk _ I3 jN qf h) (fun z M yb=>?_) fun _ _ z=>z.elim))));obtain ⟨zv,L,f,rz,b,eb,h⟩:=yb;subst eb;cases rz;refine À (ą (Ĥ ?_));refine À (Ŏ (Â ?_));have y:=f.pin (S,{ cls:=.type "list",dict:=none,data:=.seq #[ub,uk] c,slots:=#[] }) (Ê _ (Ê _ (by simp)));have d:=f.pin (I,F) (Ê _ (Ê _ (by simp)));have I5:Inv X.bG π σ L M:=f.jQ;have O:bR X π L S:=⟨y.2.1,U.2⟩;have jO:bR X π L I:=⟨d.2.1,Z.2⟩
  cases b with
  |true =>
   rw [é rfl] at h;rw [é rfl];refine À ?_;refine Ľ y.1 rfl (À (Ŏ ?_));rw [hZ];obtain ⟨a,eJ⟩:∃a,(M.heap.update S (Ğ fun _=>#[Y,Y])).get? S=some { cls:=.type "list",dict:=none,data:=.seq #[Y,Y] a,slots:=#[] }:=⟨_,î _ y.1 rfl⟩
   have I6:Inv X.bG π σ L { M with heap:=M.heap.update S (Ğ fun _=>#[Y,Y]),toks:=M.toks }:=I5.turned (t':=M.toks) (it:=S) (fun b o P e=>(å _ _ (ş P)).trans e) O.1 O.2.1 O.2.2.2.1 O.2.2.2.2.1 O.2.2.2.2.2
   exact Â ⟨Ę æ _,ih (j+1) _ L x k Y Y a dZ (Å.mp C).1 I6 O jO eJ ⟨F,(å _ _ fu).trans d.1,dw,i⟩ rx jN h⟩
  |false =>
   rw [õ Ï] at h;rw [õ Ï];refine À (Ŏ ?_);rw [hZ];exact Â ⟨Ę æ _,ih (j+1) _ L vb kb ub uk c dZ (Å.mp C).1 I5 O jO y.1 ⟨F,d.1,dw,i⟩ u qf h⟩
def FE (a v:Ä):argsOk "max" ⟨[a],[(Ħ "key",v)]⟩:=by unfold argsOk;kernel_rfl
def Gv {X:Cx} {l:Ò} {iE:String} {all:List V} {π:List (Ò×Obj)} {σ:St} {H:Hp} {s:Ã} {rk:V->Hp->VK->Prop} {rc:R2} {Q:VK} (hc:X.calm=true) (hK:w9 X.bG (.builtin iE) rk) (hC:aX X.bG (Ć .Gt) rc)
  (I0:Inv X π σ H s) (cw:all≠[]) (h:nj X.K l all rk rc .ao H Q):Ô (á X.prog X.w) X.A (call (.builtin "max") [.ref l] [(Ħ "key",.builtin iE)]) (EP X π σ Q) X.xe s:=by
 have u:(toString "max"++toString ".loop":String)="max.loop":=by decide
 obtain ⟨hq,h⟩:=h;obtain ⟨its,t,J,hz⟩:=I0.list hq;have r:l<s.heap.objs.size:=by obtain ⟨o,n,ho,_⟩:=J;exact É ho
 have hh:X.A.in1.handled=none:=I0.bG.ok.hd hc;refine kmk_tree PySem.F.kind_max PySem.F.plain_max PySem.F.entry_max (FE _ _) ?_;show Ô _ X.A.in1 (ľ "max" ["key","default"] 0 ⟨[],[(Ħ "key",.builtin iE)]⟩ >>= _) _ _ s;refine À (R0 (show ľ "max" ["key","default"] 0 ⟨[],[(Ħ "key",.builtin iE)]⟩=pure [some (.builtin iE),none] from rfl) ?_);refine À (Â ?_);refine À (Ő J.isList ?_);refine À (wpAny_newList ?_ (ċ _));rw [u];generalize U:s.heap.objs.size=I at *;have N:(s.heap.push { cls:=.type "list_iterator",data:=.fields #[.ref l,.int 0 0] }).objs.size=I+1:=by rw [<- U];exact ö ..
 generalize yc:(s.heap.push { cls:=.type "list_iterator",data:=.fields #[.ref l,.int 0 0] }).objs.size=S at *;have q:l≠I:=Ý r;have G:S≠I:=by rw [N];exact Nat.succ_ne_self _
 have qe:S≠l:=by rw [N];exact Ĵ (ÿ r)
 have m:∀b o,s.heap.get? b=some o->((s.heap.push { cls:=.type "list_iterator",data:=.fields #[.ref l,.int 0 0] }).push { cls:=.type "list",dict:=none,data:=.seq #[] 0,slots:=#[] }).get? b=some o:=fun b o e=>Á _ (Á _ e);have gI:((s.heap.push { cls:=.type "list_iterator",data:=.fields #[.ref l,.int 0 0] }).push { cls:=.type "list",dict:=none,data:=.seq #[] 0,slots:=#[] }).get? I=some { cls:=.type "list_iterator",data:=.fields #[.ref l,.int 0 0] }:=Á _ (U ▸ Ç _ rfl);have j:((s.heap.push { cls:=.type "list_iterator",data:=.fields #[.ref l,.int 0 0] }).push { cls:=.type "list",dict:=none,data:=.seq #[] 0,slots:=#[] }).get? S=some { cls:=.type "list",dict:=none,data:=.seq #[] 0,slots:=#[] }:=yc ▸ Ç _ rfl;have nI:H I=none:=I0.au.fresh (ļ U);have nS:H S=none:=I0.au.fresh (by rw [N];exact â (ļ U) (ŧ _));have Z:bR X π H I:=I0.kh (ļ U) nI;have M:bR X π H S:=I0.kh (by rw [N];exact â (ļ U) (ŧ _)) nS;have I1:=I0.bG.kept (t':=s.toks) m;refine Â ⟨Ę æ _,?_⟩;show ť (á X.prog X.w) X.A (.builtin "max.loop" ⟨[.ref I,.builtin iE,.ref S],[]⟩) (rm X π σ Q) _;have W:=Walks.list (prog:=X.prog) (w:=X.w) (A:=X.A.in1) hh I l q its.toArray;have E:its.toArray.size=all.length:=by rw [Ð];exact t.length.symm
 have hit:Heap.IsListIter ((s.heap.push { cls:=.type "list_iterator",data:=.fields #[.ref l,.int 0 0] }).push { cls:=.type "list",dict:=none,data:=.seq #[] 0,slots:=#[] }) I l 0:=⟨_,gI,rfl,rfl⟩;have yd:Heap.IsList ((s.heap.push { cls:=.type "list_iterator",data:=.fields #[.ref l,.int 0 0] }).push { cls:=.type "list",dict:=none,data:=.seq #[] 0,slots:=#[] }) l its.toArray:=J.isList.at fun o e=>m l o e;refine Ą Į ?_;rw [í æ _];show Ô _ X.A.in1 (Sx (.ref S) >>= _) _ _ _;refine À (ý j rfl ?_);show Ô _ X.A.in1 (tryCatch (ţ (.ref I)) _ >>= _) _ _ _
 cases all with
 |nil =>
  exact absurd rfl cw
 |cons x rest =>
  refine À (ĳ (W.item 0 _ _ _ (by rw [E];simp) ⟨hit,yd⟩ fun v h' eh hP lP g=>?_));obtain ⟨Y,i7,f⟩:=t.get (i:=0) (x:=x) rfl;have ev:Y=v:=by
   have:its.toArray[0]?=some v:=hP;rw [Ū,i7] at this;exact S7 this
  subst ev;have iG:=g S _ (by simpa using G) j;have d:=I1.turned (h':=h') (t':=eh) (it:=I) (fun b o D e=>g b o (by simpa using D) e) Z.1 Z.2.1 Z.2.2.2.1 Z.2.2.2.2.1 Z.2.2.2.2.2;obtain ⟨L,ml,dw,c⟩:=id lP.1;have cS:∀v,({ cls:=.type "list",dict:=none,data:=.seq #[] 0,slots:=#[] }:Obj).data≠.cell v:=fun v z=>by cases z
  have cI:∀v,L.data≠.cell v:=fun v z=>by rw [c] at z;cases z
  have I3:=d.iJ (pins':=π++[(S,{ cls:=.type "list",dict:=none,data:=.seq #[] 0,slots:=#[] }),(I,L)]) fun p hp=>by
   rcases û.mp hp with z|z
   ·exact d.pin p (Ê _ z)
   ·rcases Ù.mp z with rfl|z
    ·exact ⟨iG,M.1,M.2.1,M.2.2.1,cS⟩
    ·rw [Ă.mp z]
     exact ⟨ml,Z.1,Z.2.1,Z.2.2.1,cI⟩
  show Ô _ X.A.in1 (tryCatch (RT [Y] (call (.builtin iE) [Y])) _ >>= _) _ _ _;refine À (ĳ (ą (ģ (hK _ _ σ H x Y _ I3 f h) (fun P T dF=>?_) fun _ _ z=>z.elim)));obtain ⟨k,O,C,jN,h⟩:=dF;have B:=C.pin (S,{ cls:=.type "list",dict:=none,data:=.seq #[] 0,slots:=#[] }) (Ê _ (Ê _ (by simp)));have a:=C.pin (I,L) (Ê _ (Ê _ (by simp)));have I5:Inv X.bG π σ O T:=C.jQ;have R:bR X π O S:=⟨B.2.1,M.2⟩;have jO:bR X π O I:=⟨a.2.1,Z.2⟩;show Ô _ X.A.in1 (updateSeq S (fun _=>#[Y,P]) >>= _) _ _ _;refine À ?_;refine Ľ B.1 rfl ?_;rw [u];obtain ⟨y,eJ⟩:∃y,(T.heap.update S (Ğ fun _=>#[Y,P])).get? S=some { cls:=.type "list",dict:=none,data:=.seq #[Y,P] y,slots:=#[] }:=⟨_,î _ B.1 rfl⟩
  have I6:Inv X.bG π σ O { T with heap:=T.heap.update S (Ğ fun _=>#[Y,P]),toks:=T.toks }:=I5.turned (t':=T.toks) (it:=S) (fun b o D e=>(å _ _ (ş D)).trans e) R.1 R.2.1 R.2.2.2.1 R.2.2.2.2.1 R.2.2.2.2.2
  exact Â ⟨Ę æ _,Gs hc q G qe hK hC rest 1 _ O x k Y P y rfl (by simp) I6 R jO eJ ⟨L,(å _ _ G).trans a.1,dw,c⟩ f jN h⟩
def FF (a:Ä):argsOk "max" ⟨[a],[]⟩:=by unfold argsOk;kernel_rfl
def Gw {X:Cx} {l:Ò}  {all:List V} {π:List (Ò×Obj)} {σ:St} {H:Hp} {s:Ã} {rc:R2} {Q:VK} (hc:X.calm=true) (hC:aX X.bG (Ć .Gt) rc)
  (I0:Inv X π σ H s) (cw:all≠[]) (h:nj X.K l all mj rc .ao H Q):Ô (á X.prog X.w) X.A (call (.builtin "max") [.ref l] []) (EP X π σ Q) X.xe s:=by
 have u:(toString "max"++toString ".loop":String)="max.loop":=by decide
 obtain ⟨hq,h⟩:=h;obtain ⟨its,t,L,hz⟩:=I0.list hq;have r:l<s.heap.objs.size:=by obtain ⟨o,n,ho,_⟩:=L;exact É ho
 have hh:X.A.in1.handled=none:=I0.bG.ok.hd hc;refine kmk_tree PySem.F.kind_max PySem.F.plain_max PySem.F.entry_max (FF _) ?_;show Ô _ X.A.in1 (ľ "max" ["key","default"] 0 ⟨[],[]⟩ >>= _) _ _ s;refine À (R0 (show ľ "max" ["key","default"] 0 ⟨[],[]⟩=pure [none,none] from rfl) ?_);refine À (Â ?_);refine À (Ő L.isList ?_);refine À (wpAny_newList ?_ (ċ _));rw [u];generalize T:s.heap.objs.size=I at *;have O:(s.heap.push { cls:=.type "list_iterator",data:=.fields #[.ref l,.int 0 0] }).objs.size=I+1:=by rw [<- T];exact ö ..
 generalize yc:(s.heap.push { cls:=.type "list_iterator",data:=.fields #[.ref l,.int 0 0] }).objs.size=S at *;have q:l≠I:=Ý r;have J:S≠I:=by rw [O];exact Nat.succ_ne_self _
 have qe:S≠l:=by rw [O];exact Ĵ (ÿ r)
 have m:∀b o,s.heap.get? b=some o->((s.heap.push { cls:=.type "list_iterator",data:=.fields #[.ref l,.int 0 0] }).push { cls:=.type "list",dict:=none,data:=.seq #[] 0,slots:=#[] }).get? b=some o:=fun b o e=>Á _ (Á _ e);have gI:((s.heap.push { cls:=.type "list_iterator",data:=.fields #[.ref l,.int 0 0] }).push { cls:=.type "list",dict:=none,data:=.seq #[] 0,slots:=#[] }).get? I=some { cls:=.type "list_iterator",data:=.fields #[.ref l,.int 0 0] }:=Á _ (T ▸ Ç _ rfl);have j:((s.heap.push { cls:=.type "list_iterator",data:=.fields #[.ref l,.int 0 0] }).push { cls:=.type "list",dict:=none,data:=.seq #[] 0,slots:=#[] }).get? S=some { cls:=.type "list",dict:=none,data:=.seq #[] 0,slots:=#[] }:=yc ▸ Ç _ rfl;have nI:H I=none:=I0.au.fresh (ļ T);have nS:H S=none:=I0.au.fresh (by rw [O];exact â (ļ T) (ŧ _));have Y:bR X π H I:=I0.kh (ļ T) nI;have N:bR X π H S:=I0.kh (by rw [O];exact â (ļ T) (ŧ _)) nS;have I1:=I0.bG.kept (t':=s.toks) m;refine Â ⟨Ę æ _,?_⟩;show ť (á X.prog X.w) X.A (.builtin "max.loop" ⟨[.ref I,.none,.ref S],[]⟩) (rm X π σ Q) _;have W:=Walks.list (prog:=X.prog) (w:=X.w) (A:=X.A.in1) hh I l q its.toArray;have G:its.toArray.size=all.length:=by rw [Ð];exact t.length.symm
 have hit:Heap.IsListIter ((s.heap.push { cls:=.type "list_iterator",data:=.fields #[.ref l,.int 0 0] }).push { cls:=.type "list",dict:=none,data:=.seq #[] 0,slots:=#[] }) I l 0:=⟨_,gI,rfl,rfl⟩;have yd:Heap.IsList ((s.heap.push { cls:=.type "list_iterator",data:=.fields #[.ref l,.int 0 0] }).push { cls:=.type "list",dict:=none,data:=.seq #[] 0,slots:=#[] }) l its.toArray:=L.isList.at fun o e=>m l o e;refine Ą Į ?_;rw [í æ _];show Ô _ X.A.in1 (Sx (.ref S) >>= _) _ _ _;refine À (ý j rfl ?_);show Ô _ X.A.in1 (tryCatch (ţ (.ref I)) _ >>= _) _ _ _
 cases all with
 |nil =>
  exact absurd rfl cw
 |cons x rest =>
  refine À (ĳ (W.item 0 _ _ _ (by rw [G];simp) ⟨hit,yd⟩ fun v h' E hP lP g=>?_));obtain ⟨Z,i7,f⟩:=t.get (i:=0) (x:=x) rfl;have ev:Z=v:=by
   have:its.toArray[0]?=some v:=hP;rw [Ū,i7] at this;exact S7 this
  subst ev;have iG:=g S _ (by simpa using J) j;have d:=I1.turned (h':=h') (t':=E) (it:=I) (fun b o D e=>g b o (by simpa using D) e) Y.1 Y.2.1 Y.2.2.2.1 Y.2.2.2.2.1 Y.2.2.2.2.2;obtain ⟨M,ml,dw,c⟩:=id lP.1;have cS:∀v,({ cls:=.type "list",dict:=none,data:=.seq #[] 0,slots:=#[] }:Obj).data≠.cell v:=fun v z=>by cases z
  have cI:∀v,M.data≠.cell v:=fun v z=>by rw [c] at z;cases z
  have I3:=d.iJ (pins':=π++[(S,{ cls:=.type "list",dict:=none,data:=.seq #[] 0,slots:=#[] }),(I,M)]) fun p hp=>by
   rcases û.mp hp with z|z
   ·exact d.pin p (Ê _ z)
   ·rcases Ù.mp z with rfl|z
    ·exact ⟨iG,N.1,N.2.1,N.2.2.1,cS⟩
    ·rw [Ă.mp z]
     exact ⟨ml,Y.1,Y.2.1,Y.2.2.1,cI⟩
  refine À (Â ?_)
  have a:EP X.bG _ σ (fun k H1=>iD X.K l (x::rest) mj rc rest x k H1 Q) Z { s with heap:=h',toks:=E }:=⟨x,H,I3,f,h⟩
  obtain ⟨U,dE⟩:∃U:Ã,U={ s with heap:=h',toks:=E }:=⟨_,rfl⟩
  rw [<- dE] at a;rw [<- dE];obtain ⟨k,P,C,jN,h⟩:=a;have B:=C.pin (S,{ cls:=.type "list",dict:=none,data:=.seq #[] 0,slots:=#[] }) (Ê _ (Ê _ (by simp)));have pI:=C.pin (I,M) (Ê _ (Ê _ (by simp)));have I5:Inv X.bG π σ P U:=C.jQ;have R:bR X π P S:=⟨B.2.1,N.2⟩;have jO:bR X π P I:=⟨pI.2.1,Y.2⟩;show Ô _ X.A.in1 (updateSeq S (fun _=>#[Z,Z]) >>= _) _ _ _;refine À ?_;refine Ľ B.1 rfl ?_;rw [u];obtain ⟨y,eJ⟩:∃y,(U.heap.update S (Ğ fun _=>#[Z,Z])).get? S=some { cls:=.type "list",dict:=none,data:=.seq #[Z,Z] y,slots:=#[] }:=⟨_,î _ B.1 rfl⟩
  have I6:Inv X.bG π σ P { U with heap:=U.heap.update S (Ğ fun _=>#[Z,Z]),toks:=U.toks }:=I5.turned (t':=U.toks) (it:=S) (fun b o D e=>(å _ _ (ş D)).trans e) R.1 R.2.1 R.2.2.2.1 R.2.2.2.2.1 R.2.2.2.2.2
  exact Â ⟨Ę æ _,Gu hc q J qe hC rest 1 _ P x k Z Z y rfl (by simp) I6 R jO eJ ⟨M,(å _ _ J).trans pI.1,dw,c⟩ f jN h⟩
end L2
namespace HT
open PySem PyProof.Rows
def xa (A:ã) (s:Ã) (y x:Ä) (b:Bool):Prop:=∀(prog:Û) (w:ú) (E:Ä->Ã->Prop) (Q:Ä->Ã->Prop),Q (.bool b) s->Ô (á prog w) A (richCompare .Lt y x) Q E s
inductive gY (A:ã) (s:Ã):List Ä->List Ä->Bool->Prop where
 |nn:gY A s [] [] false
 |nc (y:Ä) (ys:List Ä):gY A s [] (y::ys) true
 |cn (x:Ä) (xs:List Ä):gY A s (x::xs) [] false
 |eq {x y:Ä} {xs ys:List Ä} {b:Bool}:SeqAt.EqAt A s x y true->gY A s xs ys b->gY A s (x::xs) (y::ys) b
 |lt {x y:Ä} {xs ys:List Ä} {b:Bool}:SeqAt.EqAt A s x y false->xa A s x y b->gY A s (x::xs) (y::ys) b
section
open PySem.SeqAt
open PySem.AutoSeq1 (wpAny_loadPart')
open PySem.MeetsSeq PySem.MeetsSeq2 PySem.MeetsSeq3
def FG (l b:Ò) (items j3:Array Ä) (n n2:Nat) (dd kB:Option Ò) (sl cJ:Array (Option Ä)) (jP:Bool) :
  Meets (š.«tuple.__lt__» ⟨[.ref l,.ref b],[]⟩)
   (fun A R s=>s.heap.get? l=some { cls:=.type "tuple",dict:=dd,data:=.seq items n,slots:=sl }/\s.heap.get? b=some { cls:=.type "tuple",dict:=kB,data:=.seq j3 n2,slots:=cJ } /\
    gY A.in1 s items.toList j3.toList jP/\R (.ok (.ret (.bool jP))) s) :=
 .of_wp fun prog w A R s h=>by
  obtain ⟨N,g,d,M,os⟩:=s;obtain ⟨K,J,I,h⟩:=h;have f2:=AutoSeq1.sub_tuple_tuple
  wp_walk using wpAny_loadPart' K,wpAny_loadPart' J,wpAny_forIn_list _ (fun rest b W=>b.1=none/\W=⟨N,g,d,M,os⟩/\∃(X ws:List Ä),rest=X.zip ws /\
   gY A.in1 ⟨N,g,d,M,os⟩ X ws jP/\X.length+j3.size=ws.length+items.size) _
  case turn =>
   rintro ⟨y,x⟩ rest b W ⟨V,rfl,X,ws,Y,U,Z⟩
   cases U with
   |nn=>cases Y
   |nc _ _=>cases Y
   |cn _ _=>cases Y
   |eq T S =>
    rw [ŋ] at Y
    injection Y with Q L
    injection Q with P O
    subst P O;simp only [ø] at Z;refine À (T prog w _ _ ?_)
    wp_walk
    exact ⟨rfl,rfl,_,_,L,S,by omega⟩
   |lt T S =>
    rw [ŋ] at Y
    injection Y with Q L
    injection Q with P O
    subst P O;refine À (T prog w _ _ ?_);have H:=S prog w
    wp_walk using H
    exact ⟨_,rfl,by simpa using h⟩
  case fin =>
   rintro ⟨F,E⟩ W ⟨V,rfl,X,ws,Y,U,Z⟩;simp only at V;subst V;have G:jP=decide (items.size<j3.size):=by
    cases U with
    |nn=>simp only [Ė] at Z;exact (ë (by omega)).symm
    |nc _ _=>simp only [Ė,ø] at Z;exact (à (by omega)).symm
    |cn _ _=>simp only [Ė,ø] at Z;exact (ë (by omega)).symm
    |eq _ _=>rw [ŋ] at Y;cases Y
    |lt _ _=>rw [ŋ] at Y;cases Y
   rw [G] at h
   wp_walk
   exact ⟨_,rfl,by simpa [Builtin.Tuple.tupleCompareSizes] using h⟩
  case h =>
   exact ⟨rfl,rfl,items.toList,j3.toList,rfl,I,by simp only [ă];omega⟩
end
open PySem.SeqAt PySem.MeetsSeq
section
variable {prog:Û} {w:ú} {A:ã} {E:Ä->Ã->Prop} {s:Ã}
def AH (hl:IsTup s.heap l items) (hb:IsTup s.heap b j3) (hA:∀A':ã,A'.units<=A.units+4->gY A' s items.toList j3.toList jP)
 (hu:A.units<cLine) (h:Q (.bool jP) s):Ô (á prog w) A (richCompare .Lt (.ref l) (.ref b)) Q E s:=by
 obtain ⟨⟨cls,U,data,T⟩,Z,Y,n,X⟩:=id hl;obtain ⟨⟨O,S,data2,R⟩,W,V,P,hd2⟩:=id hb;simp only at Y X V hd2;subst Y X V hd2;refine richCompare_meets_room (op:=.Lt) ⟨_,Z,rfl⟩ ⟨_,W,rfl⟩ PySem.F.slot_tuple_lt PySem.F.entry_tuple_lt (PySem.F.args_tuple_lt_2 _ _) (FG l b items j3 n P U S T R jP)
  ⟨Z,W,hA _ ?_,show Ń jP≠Value.notImplemented/\Q (.bool jP) s from ⟨(fun x=>nomatch x),h⟩⟩ hu
 show A.units+1<=A.units+4;omega
end
end HT
namespace DI
open PySem L2 HT
mutual
noncomputable def mm:D->D->Option Bool
 | .int i,.int j=>some (decide (i<j))
 | .str x,.str y=>some (decide (x.cps.toList<y.cps.toList))
 | .tup Z,.tup Y=>nk Z Y
 |_,_=>none
noncomputable def nk:List D->List D->Option Bool
 | [],[]=>some false
 | [],_::_=>some true
 |_::_,[]=>some false
 |x::Z,y::Y=>if beq x y=true then nk Z Y else mm x y
end
section
variable {X:Cx} {Ξ:Wd->aM->Prop} {π:List (Ò×Obj)} {σ:St} {s:Ã} {w:Wd}
def Mx (I:Inv X π σ w.H s) (A:ã) (lx:lay x=true) (ly:lay y=true) (hu:A.units+dep x<cLine) (hx:DV X.K w x v) (hy:DV X.K w y u) (rx:RelV v vx) (ry:RelV u vy):SeqAt.EqAt A s vx vy (beq x y):=by
 obtain ⟨as,Z⟩:=(hx.py (kL _ lx)).reads I rx;obtain ⟨bs,Y⟩:=(hy.py (kL _ ly)).reads I ry;obtain ⟨W,V⟩:=gX _ lx;obtain ⟨U,T⟩:=gX _ ly;have:=SeqAt.eqAt_reads _ _ A s vx vy as bs Z Y W U (by rw [V];omega);rw [mK _ _ lx ly] at this;exact this
mutual
theorem Ca (I:Inv X π σ w.H s):∀(A:ã) (x y:D) (b:Bool) (v u:V) (vx vy:Ä),mm x y=some b->lay x=true->lay y=true->A.units+5*dep x+5<cLine->DV X.K w x v->DV X.K w y u->RelV v vx->RelV u vy->xa A s vx vy b
 |A,.int i,.int j,b,v,u,vx,vy,h,_,_,_,Z,Y,W,U=>by
  cases h;cases Z;cases Y;obtain ⟨t,rfl⟩:=W;obtain ⟨T,rfl⟩:=U;intro prog w E Q q;exact zS A s i t j T prog w E Q q
 |A,.str i,.str j,b,v,u,vx,vy,h,_,_,S,Z,Y,W,U=>by
  cases h;cases Z;cases Y;obtain ⟨t,rfl⟩:=W;obtain ⟨T,rfl⟩:=U;intro prog w E Q q;exact (PyProof.Rows.lt_str q:Ô (á prog w) A (Ć .Lt (.str i t) (.str j T)) Q E s)
 |A,.tup R,.tup P,b,v,u,vx,vy,h,O,N,S,Z,Y,W,U=>by
  simp only [mm] at h;simp only [DV] at Z Y;obtain ⟨a,as,rfl,M,L⟩:=Z;obtain ⟨c,cs,rfl,J,G⟩:=Y;cases W;cases U;obtain ⟨its,F,C,_⟩:=I.tuple M;obtain ⟨B,z,r,_⟩:=I.tuple J;intro prog o E Q q;simp only [dep] at S;exact AH C r (fun p n=>by
   have:=Bm I p R P b as cs its B h (by simpa [lay] using O) (by simpa [lay] using N) (by omega) L G F z;simpa using this) (by omega) q
 |_,.ao,_,_,_,_,_,_,h,_,_,_,_,_,_,_=>by cases h
 |_,.bl _,_,_,_,_,_,_,h,_,_,_,_,_,_,_=>by cases h
 |_,.lst _,_,_,_,_,_,_,h,_,_,_,_,_,_,_=>by cases h
 |_,.bo _,_,_,_,_,_,_,h,_,_,_,_,_,_,_=>by cases h
 |_,.ax _,_,_,_,_,_,_,h,_,_,_,_,_,_,_=>by cases h
 |_,.ty _,_,_,_,_,_,_,h,_,_,_,_,_,_,_=>by cases h
 |_,.bh _,_,_,_,_,_,_,h,_,_,_,_,_,_,_=>by cases h
 |_,.exc _,_,_,_,_,_,_,h,_,_,_,_,_,_,_=>by cases h
 |_,.bE _ _ _,_,_,_,_,_,_,h,_,_,_,_,_,_,_=>by cases h
 |_,.int _,.ao,_,_,_,_,_,h,_,_,_,_,_,_,_=>by cases h
 |_,.int _,.bl _,_,_,_,_,_,h,_,_,_,_,_,_,_=>by cases h
 |_,.int _,.str _,_,_,_,_,_,h,_,_,_,_,_,_,_=>by cases h
 |_,.int _,.tup _,_,_,_,_,_,h,_,_,_,_,_,_,_=>by cases h
 |_,.int _,.lst _,_,_,_,_,_,h,_,_,_,_,_,_,_=>by cases h
 |_,.int _,.bo _,_,_,_,_,_,h,_,_,_,_,_,_,_=>by cases h
 |_,.int _,.ax _,_,_,_,_,_,h,_,_,_,_,_,_,_=>by cases h
 |_,.int _,.ty _,_,_,_,_,_,h,_,_,_,_,_,_,_=>by cases h
 |_,.int _,.bh _,_,_,_,_,_,h,_,_,_,_,_,_,_=>by cases h
 |_,.int _,.exc _,_,_,_,_,_,h,_,_,_,_,_,_,_=>by cases h
 |_,.int _,.bE _ _ _,_,_,_,_,_,h,_,_,_,_,_,_,_=>by cases h
 |_,.str _,.ao,_,_,_,_,_,h,_,_,_,_,_,_,_=>by cases h
 |_,.str _,.bl _,_,_,_,_,_,h,_,_,_,_,_,_,_=>by cases h
 |_,.str _,.int _,_,_,_,_,_,h,_,_,_,_,_,_,_=>by cases h
 |_,.str _,.tup _,_,_,_,_,_,h,_,_,_,_,_,_,_=>by cases h
 |_,.str _,.lst _,_,_,_,_,_,h,_,_,_,_,_,_,_=>by cases h
 |_,.str _,.bo _,_,_,_,_,_,h,_,_,_,_,_,_,_=>by cases h
 |_,.str _,.ax _,_,_,_,_,_,h,_,_,_,_,_,_,_=>by cases h
 |_,.str _,.ty _,_,_,_,_,_,h,_,_,_,_,_,_,_=>by cases h
 |_,.str _,.bh _,_,_,_,_,_,h,_,_,_,_,_,_,_=>by cases h
 |_,.str _,.exc _,_,_,_,_,_,h,_,_,_,_,_,_,_=>by cases h
 |_,.str _,.bE _ _ _,_,_,_,_,_,h,_,_,_,_,_,_,_=>by cases h
 |_,.tup _,.ao,_,_,_,_,_,h,_,_,_,_,_,_,_=>by cases h
 |_,.tup _,.bl _,_,_,_,_,_,h,_,_,_,_,_,_,_=>by cases h
 |_,.tup _,.int _,_,_,_,_,_,h,_,_,_,_,_,_,_=>by cases h
 |_,.tup _,.str _,_,_,_,_,_,h,_,_,_,_,_,_,_=>by cases h
 |_,.tup _,.lst _,_,_,_,_,_,h,_,_,_,_,_,_,_=>by cases h
 |_,.tup _,.bo _,_,_,_,_,_,h,_,_,_,_,_,_,_=>by cases h
 |_,.tup _,.ax _,_,_,_,_,_,h,_,_,_,_,_,_,_=>by cases h
 |_,.tup _,.ty _,_,_,_,_,_,h,_,_,_,_,_,_,_=>by cases h
 |_,.tup _,.bh _,_,_,_,_,_,h,_,_,_,_,_,_,_=>by cases h
 |_,.tup _,.exc _,_,_,_,_,_,h,_,_,_,_,_,_,_=>by cases h
 |_,.tup _,.bE _ _ _,_,_,_,_,_,h,_,_,_,_,_,_,_=>by cases h
theorem Bm (I:Inv X π σ w.H s):∀(A:ã) (xs ys:List D) (b:Bool) (vs us:List V) (ps qs:List Ä),nk xs ys=some b->b9 xs=true->b9 ys=true->A.units+5*dj xs+5<cLine->ak X.K w xs vs->ak X.K w ys us->Vals vs ps->Vals us qs->gY A s ps qs b
 |A,[],[],b,vs,us,ps,qs,h,_,_,_,W,U,Z,Y=>by
  cases h;cases W;cases U;cases Z;cases Y;exact .nn
 |A,[],y::ys,b,vs,us,ps,qs,h,_,_,_,W,U,Z,Y=>by
  cases h;cases W;cases Z;obtain ⟨u,r,rfl,_,_⟩:=U;cases Y;exact .nc _ _
 |A,x::xs,[],b,vs,us,ps,qs,h,_,_,_,W,U,Z,Y=>by
  cases h;cases U;cases Y;obtain ⟨u,r,rfl,_,_⟩:=W;cases Z;exact .cn _ _
 |A,x::xs,y::ys,b,vs,us,ps,qs,h,T,S,N,W,U,Z,Y=>by
  obtain ⟨v,r,rfl,P,dr⟩:=W;obtain ⟨u,G,rfl,O,M⟩:=U;simp only [b9,Í] at T S;simp only [dj] at N;have F:=Nat.le_max_left (dep x) (dj xs);have E:=Nat.le_max_right (dep x) (dj xs)
  cases Z with
  |cons Z L =>
   cases Y with
   |cons Y J =>
    have R:=Mx I A T.1 S.1 (by omega) P O Z Y;simp only [nk] at h;split at h
    ·rename_i Q
     rw [Q] at R;exact .eq R (Bm I A xs ys b _ _ _ _ h T.2 S.2 (by omega) dr M L J)
    ·rename_i Q
     rw [Sm] at Q;rw [Q] at R;exact .lt R (Ca I A x y b _ _ _ _ h T.1 S.1 (by omega) P O Z Y)
end
def jy (x y:D) (s:aa):Res D:=if (lay x&&lay y&&decide (dep x<=30))=true then bz ((mm x y).map D.bl) s else none
def pd (hr:bp k X.A):aX X (Ć .Lt) (rO X.K Ξ jy):=by
 rintro O s σ H x y v u Q I U T ⟨w,W,V,rfl,S,R,P,h⟩;unfold jy at h;split at h
 ·rename_i Z
  simp only [Í,ß] at Z;obtain ⟨d,e,h⟩:=cY h
  cases Y:mm W V with
  |none=>rw [Y] at e;cases e
  |some b =>
   rw [Y] at e;cases e;exact Ca I X.A W V b x y v u Y Z.1.1 Z.1.2 (by have:=hr.un;have:=Z.2;have:cLine=9900:=rfl;omega) R P U T _ _ _ _ ⟨.bl b,w.H,I,rfl,ar S h _ rfl⟩
 ·exact h.elim
end
end DI
namespace DI
open PySem L2
def jz (kf:D->aa->Res D) (o:D->D->aa->Res D):D->D->List D->aa->Res D
 |b,_,[],s=>ok b s
 |b,k,d::Z,s=>aj (ne (kf d s)) fun Y s=>aj (ne (o Y k s)) fun c s=>match c with
  | .bl true=>jz kf o d Y Z s
  | .bl false=>jz kf o b k Z s
  |_=>none
def Cb (kf:D->aa->Res D) (o:D->D->aa->Res D) (dflt:Option D):List D->aa->Res D
 | [],s=>match dflt with
  |some d=>ok d s
  |none=>none
 |d::Z,s=>aj (ne (kf d s)) fun k s=>jz kf o d k Z s
def rK (K:ĉ) (kf:D->aa->Res D):V->Hp->VK->Prop:=fun x H Q=>∃w Z,w.H=H/\aA K w/\DV K w Z x/\Out K bF w (kf Z w.aq) fun Y d=>∀v,DV K Y d v->Q v Y.H
theorem vn:∀{ds:List D} {vs:List V} {w:Wd} {b k:D} {vb vk:V},aA K w->LstAt w l all->ak K w ds vs->DV K w b vb->DV K w k vk ->
  Out K Ξ w (jz kf o b k ds w.aq) (fun w' d=>∀v,DV K w' d v->Q v w'.H)->iD K l all (rK K kf) (rO K bF o) vs vb vk w.H Q
 | [],vs,w,b,k,vb,vk,S,Y,X,W,U,h=>by
  have e:vs=[]:=X;subst e;exact ⟨Y.sq,ar S h _ W⟩
 |d::ds,vs,w,b,k,vb,vk,S,Y,X,W,U,h=>by
  obtain ⟨v,r,rfl,R,dr⟩:=X;refine ⟨Y.sq,w,d,rfl,S,R,(Out.aj h).ne.mono fun L J P I G C O=>⟨L,J,k,rfl,I,O,P _ _ U,(Out.aj G).ne.mono fun B c N M T F E=>?_⟩⟩;have Z:=P.trans N
  cases c with
  |bl c =>
   have e:F=.bl c:=E;refine ⟨c,e,?_⟩
   cases c with
   |true =>
    rw [é rfl];exact vn (Ξ:=Ξ) M (Z.lst _ _ Y) (Z.all dr) (Z _ _ R) (N _ _ O) T
   |false =>
    rw [õ Ï];exact vn (Ξ:=Ξ) M (Z.lst _ _ Y) (Z.all dr) (Z _ _ W) (Z _ _ U) T
  |_=>exact T.elim
def Jl (S:aA K w) (hl:DV K w (.lst ds) v) (hd:∀d,dflt=some d->∀w',DV K w' d dv)
 (h:Out K Ξ w (Cb kf o dflt ds w.aq) (fun w' d=>∀v,DV K w' d v->Q v w'.H)):∃l all,v=.ref l/\(all=[]->dflt≠none)/\nj K l all (rK K kf) (rO K bF o) dv w.H Q:=by
 simp only [DV] at hl;obtain ⟨l,all,rfl,X,Z⟩:=hl;refine ⟨l,all,rfl,fun e z=>?_,X.sq,?_⟩
 ·subst e z
  have V:ds.length=0:=Z.length
  cases ds with
  |nil=>exact h
  |cons _ _=>cases V
 ·cases ds with
  |nil =>
   have e:all=[]:=Z;subst e
   cases dflt with
   |none=>exact h.elim
   |some d=>exact ar S h _ (hd d rfl w)
  |cons d ds =>
   obtain ⟨x,r,rfl,W,dr⟩:=Z;exact ⟨w,d,rfl,S,W,(Out.aj h).ne.mono fun P k Y U T O R=>vn (Ξ:=Ξ) U (Y.lst _ _ X) (Y.all dr) (Y _ _ W) R T⟩
def Jm {X:Cx}:w9 X.bG (.builtin "len") (rK X.K fun d s=>bt [d] s):=by
 rintro Z s σ H x v Q I Y ⟨w,W,rfl,S,V,h⟩;exact df (X:=X.bG) Z s σ w.H [x] [v] Q I (.cons Y .nil) ⟨w,[W],rfl,S,ak.one V,h⟩
def rn (kf:D->aa->Res D) (o:D->D->aa->Res D) (dflt:Option D) (d:D) (s:aa):Res D:=match d with
 | .lst Z=>Cb kf o dflt Z s
 |_=>none
abbrev vo:D->aa->Res D:=rn (fun d s=>bt [d] s) iU none
abbrev N3:D->aa->Res D:=rn (fun d s=>ok d s) iU none
def AI (S:aA K w) (hl:DV K w d v) (hd:∀d,dflt=some d->∀w',DV K w' d dv)
 (h:Out K Ξ w (rn kf o dflt d w.aq) (fun w' d=>∀v,DV K w' d v->Q v w'.H)):∃l all,v=.ref l/\(all=[]->dflt≠none)/\nj K l all (rK K kf) (rO K bF o) dv w.H Q:=by
 unfold rn at h;split at h
 ·exact Jl S hl hd h
 ·exact h.elim
section
variable {X:Cx} {Ξ:Wd->aM->Prop} {e:Ě} {p pos Pp Rv wJ Q7:Pos} {f:SV D}
def HD (he:PE X e (tE X.K Ξ f)) (hc:X.calm=true) (hg:Gl X "max") (hm:X.mg "max"=none) (Pq:Gl X "len") (Pt:X.mg "len"=none)
  (hs:Æ [e] X.env=(false,ĺ e X.env)::Æ [] X.env:=by rfl)
  (Pu:Ġ pos (Æ [e] X.env)=(false,ĺ e X.env)::Ġ pos (Æ [] X.env):=by rfl) (aZ:(Ġ pos (Æ [e] X.env)).any (·.1)=false:=by rfl) :
  PE X (.Call (.Name "max" p) [e] [⟨some "key",.Name "len" wJ,Pp⟩] pos) (tE X.K Ξ (e1 vo f)):=by
 rintro P s σ H Q I ⟨w,env,rfl,S,O,h⟩;refine Ň (kW I hg hm v7 ?_);have N:=fz he (gU (X:=X)) hs;refine PyProof.Rows.callWith_kw (aE (N pos P s σ w.H (fun U T=>∃v,U=[v]/\∃(Z:Wd) (d:D),Z.H=T/\aA X.K Z/\DV X.K Z d v/\Out X.K Ξ Z (vo d Z.aq) (fun Y d=>∀v,DV X.K Y d v->Q v Y.H)) I ⟨w,env,rfl,S,O,(Out.aj h).mono fun Z d C W V v dv=>⟨v,rfl,Z,d,rfl,W,dv,V⟩⟩) fun B M ⟨U,T,R,L,J⟩=>?_) Pu aZ
 show Ô _ _ (evalAll ((do let v <- ĺ (.Name "len" wJ) X.env;standAt pos;pure v)::(backToKw pos (RX [] X.env)).map (·.2))) _ _ M
 refine wpAny_evalAll_cons (À (kW R Pq Pt dg (À (wpAny_standAt (Â (wpAny_evalAll_nil ?_))))));obtain ⟨v,rfl,Z,d,rfl,W,dv,V⟩:=J;obtain ⟨l,all,rfl,G,F⟩:=AI (dv:=.ao) W dv (fun d e Y=>by cases e) V;obtain ⟨u,rfl,E⟩:=vals1 L;cases E;exact Gv hc Jm (wX (X:=X.bG)) R (fun z=>G z rfl) F
theorem v8:∀{xs:List V} {vb kb:V} {H:Hp},(∀x y H (Q Q':VK),(∀v H',Q v H'->Q' v H')->rc x y H Q->rc x y H Q')->iD K l all (rK K fun d s=>ok d s) rc xs vb kb H Q->iD K l all mj rc xs vb kb H Q
 | [],_,_,_,_,h=>h
 |x::xs,vb,kb,H,mo,h=>by
  obtain ⟨Y,w,U,rfl,S,X,h⟩:=h;refine ⟨Y,mo _ _ _ _ _ (fun z T W=>?_) (ar S h _ X)⟩;obtain ⟨b,e,Z⟩:=W;refine ⟨b,e,?_⟩
  cases b with
  |true=>exact v8 mo Z
  |false=>exact v8 mo Z
def Jn (x y:V) (H:Hp) (Q Q':VK) (i:∀v H',Q v H'->Q' v H') (h:rO K Ξ o x y H Q):rO K Ξ o x y H Q':=by
 obtain ⟨w,Z,Y,e,S,X,W,h⟩:=h;exact ⟨w,Z,Y,e,S,X,W,h.mono fun T d _ _ q v U=>i _ _ (q v U)⟩
def K5 (h:nj K l all (rK K fun d s=>ok d s) (rO K Ξ o) dv H Q):nj K l all mj (rO K Ξ o) dv H Q:=by
 obtain ⟨Z,h⟩:=h;refine ⟨Z,?_⟩
 cases all with
 |nil=>exact h
 |cons x W =>
  obtain ⟨w,V,rfl,S,Y,h⟩:=h;exact v8 (fun x y H Q X i q=>Jn x y H Q X i q) (ar S h _ Y)
def sA (ds:List D) (s:aa):Res D:=match ds with
 | [d]=>N3 d s
 |_=>none
def My (hr:bp k X.A) (hc:X.calm=true):bK X (.builtin "max") (rC X.K Ξ sA):=by
 rintro U s σ H T R Q I r ⟨w,P,rfl,S,Z,h⟩;unfold sA at h;split at h
 ·obtain ⟨v,rfl,dv⟩:=lb Z
  obtain ⟨l,all,rfl,Y,W⟩:=AI (dv:=.ao) S dv (fun d e O=>by cases e) h;obtain ⟨u,rfl,V⟩:=vals1 r;cases V;exact Gw hc (wX (X:=X.bG)) I (fun z=>Y z rfl) (K5 W)
 ·exact h.elim
end
def mw:List D->aa->Res D:=aP 2 2 (aD (bO (bY (e2 jy (ae 1) (eB bt (af (ae 0) ai)))) (aW (e2 bj (ae 0) (ae 1))) bZ) (aW (eC (.int 0))))
def n5:List D->aa->Res D:=aP 2 3 (aD (bA (aU mw (af (ae 0) (af (ae 1) ai))) (gN 2)) (aW (eNew (af (eB mU (af (eC (.int 0)) (af (e2 lD (ae 2) (e2 mS (eC (.int 10)) (eC (.int 18)))) ai))) (af (e2 eZ (ae 2) (eC (.int 2147483647))) ai)))))
def fC:List D->aa->Res D:=aP 2 4 (aD (bO (bY (e2 iU (e2 bj (ae 0) (eC (.int 0))) (eC (.int 0)))) (aD (bA (e2 eZ (e2 bj (ae 0) (eC (.int 0))) (ae 1)) (gN 2)) (aD (jw (e2 lE (e2 bj (ae 0) (eC (.int 0))) (ae 1)) (ae 0) (eC (.int 0))) (aW (ae 2)))) bZ) (aD (jw (e2 eZ (e2 br (e2 dB (e2 bj (ae 0) (eC (.int 1))) (eC (.int 48271))) (eC (.int 29))) (eC (.int 2147483647))) (ae 0) (eC (.int 1))) (aD (bA (e2 eZ (e2 br (e2 br (e2 dB (e2 bj (ae 0) (eC (.int 1))) (e2 bj (ae 0) (eC (.int 1)))) (e2 dB (eC (.int 39373)) (e2 bj (ae 0) (eC (.int 1))))) (eC (.int 7))) (eC (.int 2147483629))) (gN 3)) (aD (bA (e2 eZ (e2 br (e2 dB (ae 3) (ae 3)) (e2 dB (eC (.int 16807)) (ae 3))) (eC (.int 2147483587))) (gN 3)) (aW (e2 eZ (e2 lE (ae 3) (eC (.int 8))) (ae 1)))))))
def kM:List D->aa->Res D:=aP 2 3 (aD (bA (e2 br (eC (.int 1)) (aU fC (af (ae 0) (af (eC (.int 4)) ai)))) (gN 2)) (aW (eB jk (af (dP 1 [0,2] (fN (af (ae 1) ai)) (gN 0) (bY (e2 dq (aU fC (af (ae 1) (af (e2 br (ae 2) (eC (.int 1))) ai))) (eC (.int 0)))) (ae 0)) ai))))
def iK:Nat->List D->aa->Res D
 |0=>fun _ _=>none
 |n+1=>aP 2 2 (aD (bO (dC (e1 ni (ae 1))) (aD (bO (kA (bY (e2 dD (eB cm (af (ae 0) (af (eC (.ty "tuple")) ai))) (eB cm (af (ae 1) (af (eC (.ty "tuple")) ai))))) (bY (e2 dD (eB cm (af (ae 0) (af (eC (.ty "list")) ai))) (eB cm (af (ae 1) (af (eC (.ty "list")) ai)))))) (aW (eC (.bl false))) bZ) (aW (fU (e2 dq (eB bt (af (ae 0) ai)) (eB bt (af (ae 1) ai))) (eB kn (af (dP 2 [] (m7 (af (ae 0) (af (ae 1) ai))) (gT [gN 0,gN 1]) jK (aU (iK n) (af (ae 0) (af (ae 1) ai)))) ai))))) bZ) (aW (fU (e2 dq (eB cm (af (ae 0) (af (eC (.ty "bool")) ai))) (eB cm (af (ae 1) (af (eC (.ty "bool")) ai)))) (e2 dq (ae 0) (ae 1)))))
def qx:List D->aa->Res D:=aP 1 1 (aW (eB kn (af (dP 2 [] (m7 (af (ae 0) (af (gr (ae 0) (fX (eC (.int 1))) gp) ai))) (gT [gN 0,gN 1]) jK (e2 jy (ae 0) (ae 1))) ai)))
def tM:List D->aa->Res D:=aP 1 1 (aW (fU (eB cm (af (ae 0) (af (eC (.ty "int")) ai))) (fU (oX (eB cm (af (ae 0) (af (eC (.ty "bool")) ai)))) (e2 o8 (ae 0) (eC (.int 0))))))
def qz:List D->aa->Res D:=aP 2 2 (aW (fU (aU tM (af (ae 0) ai)) (e2 jy (ae 0) (ae 1))))
def qD:List D->aa->Res D:=aP 1 1 (aW (aU qz (af (ae 0) (af (eC (.int (8))) ai))))
def jf:List D->aa->Res D:=aP 1 1 (aW (fU (eB cm (af (ae 0) (af (eC (.ty "tuple")) ai))) (fU (eB kn (af (dP 1 [] (di (ae 0)) (gN 0) jK (aU qD (af (ae 0) ai))) ai)) (aU qx (af (ae 0) ai)))))
def qr:List D->aa->Res D:=aP 2 2 (aW (fU (eB cm (af (ae 0) (af (eC (.ty "tuple")) ai))) (fU (pZ o7 o7 (eC (.int 1)) (eB bt (af (ae 0) ai)) (ae 1)) (eB kn (af (dP 1 [] (di (ae 0)) (gN 0) jK (aU jf (af (ae 0) ai))) ai)))))
def nT:List D->aa->Res D:=aP 2 2 (aW (eB kn (af (dP 1 [0] (di (ae 1)) (gN 0) jK (e2 nh (ae 0) (ae 1))) ai)))
end DI
namespace ST
open PySem PySem.W PyProof.Rows
structure Ord (α:Type) where
 lt:α->α->Bool
 DN:∀a,lt a a=false
 tr:∀a b c,lt a b=true->lt b c=true->lt a c=true
 Pw:∀a b,lt a b=false->lt b a=false->a=b
section
variable {α:Type} (O:Ord α)
def Ord.le (a b:α):Prop:=O.lt b a=false
variable {O}
def Ord.le_refl (a:α):O.le a a:=O.DN a
def Ord.le_of_lt (h:O.lt a b=true):O.le a b:=by
 unfold Ord.le
 cases Z:O.lt b a with
 |false=>rfl
 |true=>have:=O.tr _ _ _ h Z;rw [O.DN] at this;cases this
def Ord.Cc (h:O.le a b) (g:O.le b c):O.le a c:=by
 unfold Ord.le at *
 cases Z:O.lt c a with
 |false=>rfl
 |true =>
  cases Y:O.lt a b with
  |true=>have:=O.tr _ _ _ Z Y;rw [g] at this;cases this
  |false =>
   have e:=O.Pw a b Y h;subst e;rw [g] at Z;cases Z
end
def ok {β:Type} (c:Nat->Nat->Bool) (n:Nat):KasT β->(β->Prop)->Prop
 | .ret a,Q=>Q a
 | .ask i j k,Q=>i<n/\j<n/\ok c n (k (c i j)) Q
section
variable {α:Type} {O:Ord α} {x:Nat->α} {n:Nat}
noncomputable def ky (x:Nat->α) (p:Array Nat) (i:Nat):α:=x (p.getD i 0)
def Pm (n:Nat) (p:Array Nat):Prop:=p.size=n/\p.toList.Perm (ć n)
def Up (O:Ord α) (f:Nat->α) (k:Nat):Prop:=∀i j,i<j->j<k->O.le (f i) (f j)
def Dn (O:Ord α) (f:Nat->α) (k:Nat):Prop:=∀i j,i<j->j<k->O.le (f j) (f i)
def Up.more (h:Up O f k) (hk:1<=k) (h1:O.le (f (k-1)) (f k)):Up O f (k+1):=fun i j Z X=>by
 by_cases e:j=k
 ·subst e
  by_cases Y:i=j-1
  ·subst Y;exact h1
  ·exact Ord.Cc (h i (j-1) (by omega) (by omega)) h1
 ·exact h i j Z (by omega)
def Dn.more (h:Dn O f k) (hk:1<=k) (h1:O.le (f k) (f (k-1))):Dn O f (k+1):=fun i j Z X=>by
 by_cases e:j=k
 ·subst e
  by_cases Y:i=j-1
  ·subst Y;exact h1
  ·exact Ord.Cc h1 (h i (j-1) (by omega) (by omega))
 ·exact h i j Z (by omega)
def Pm.lt (h:Pm n p) (hi:i<n):p.getD i 0<n:=by
 have hs:i<p.size:=by rw [h.1];exact hi
 have:p[i]∈p.toList:=by simp
 have e:p.getD i 0=p[i]:=by simp [Array.getD,hs]
 rw [e];exact Ĺ.mp (h.2.mem_iff.mp this)
def Pm.rev (h:Pm n p) (i j:Nat):Pm n (kas_rev p i j):=⟨by rw [kas_rev_size];exact h.1,(Array.perm_iff_toList_perm.mp (mirror_perm p i j _)).trans h.2⟩
def AJ {p q:Array Nat} {i j:Nat} (h:p[i]?=q[j]?):p.getD i 0=q.getD j 0:=by
 rw [Array.getD_eq_getD_getElem?,Array.getD_eq_getD_getElem?,h]
def K6 {p:Array Nat} {i j:Nat} (hj:j<=p.size) (k:Nat):ky x (kas_rev p i j) k=if i<=k/\k<j then ky x p (i+j-1-k) else ky x p k:=by
 have e:=getElem?_mirror_all (i:=i) hj k;unfold ky kas_rev
 split<;>rename_i h
 ·rw [é h] at e;rw [AJ e]
 ·rw [õ h] at e;rw [AJ e]
def Jo (hj:j<=p.size) (he:∀k,i<=k->k<j->ky x p k=ky x p (j-1)):ky x (kas_rev p i j)=ky x p:=funext fun k=>by
 rw [K6 hj];split
 ·rw [he _ (by omega) (by omega),he k (by omega) (by omega)]
 ·rfl
structure DS (O:Ord α) (x:Nat->α) (n:Nat) (p:Array Nat) (m q:Nat):Prop where
 pm:Pm n p
 q1:q+1<=m
 mn:m<=n
 dn:Dn O (ky x p) m
 bl:∀k,m-(q+1)<=k->k<m->ky x p k=ky x p (m-1)
def DS.turn (D:DS O x n p m q):Pm n (kas_rev p (m-(q+1)) m)/\ky x (kas_rev p (m-(q+1)) m)=ky x p :=
 ⟨D.pm.rev _ _,Jo (by rw [D.pm.1];exact D.mn) D.bl⟩
end
section
variable {α:Type} {O:Ord α} {x:Nat->α} {prog:Û} {w:ú} {A:ã} {E:Ä->Ã->Prop} {s:Ã}
def xJ (us:List Ä) (h:us.length<2):(us.toArray.zip us.toArray).map (·.2)=((List.toArray (ć us.length)).toList.map fun i=>us.getD i Value.none).toArray:=by
 rcases us with _ | ⟨u,_ | ⟨v,r⟩⟩
 ·exact Array.toList_inj.mp (by simp)
 ·exact Array.toList_inj.mp (by simp)
 ·(simp at h;omega)
end
open HT
section
variable {prog:Û} {w:ú} {A:ã} {E:Ä->Ã->Prop} {s:Ã}
inductive kq (h:ħ):List Ä->List (List Int)->Prop where
 |nil:kq h [] []
 |cons {a:Ò} {its:Array Ä} {ns:List Int} {us:List Ä} {gM:List (List Int)}:IsTup h a its->RV its.toList ns->kq h us gM->kq h (.ref a::us) (ns::gM)
def kq.keep (k:∀c o,h.get? c=some o->h'.get? c=some o) (t:kq h us gM):kq h' us gM:=by
 induction t with
 |nil=>exact .nil
 |cons a b _ ih =>
  obtain ⟨o,Z,r⟩:=a;exact .cons ⟨o,k _ _ Z,r⟩ b ih
theorem kq.at (t:kq h us gM):∀i,i<us.length->∃a its,us.getD i Value.none=.ref a/\IsTup h a its/\RV its.toList (gM.getD i []):=by
 induction t with
 |nil=>intro i hi;simp at hi
 |cons a b _ ih =>
  intro i hi
  cases i with
  |zero=>exact ⟨_,_,rfl,a,b⟩
  |succ i =>
   obtain ⟨c,its,e,r⟩:=ih i (by simpa using hi);exact ⟨c,its,by simpa using e,r⟩
inductive qh:List (Option Ä)->List (List Int)->Prop where
 |nil:qh [] []
 |ao {fs:List (Option Ä)} {gM:List (List Int)}:qh fs gM->qh (none::fs) ([]::gM)
 |one {fs:List (Option Ä)} {gM:List (List Int)} {n:Int} {t:Tok} {r:List Int}:qh fs gM->qh (some (.int n t)::fs) ((n::r)::gM)
noncomputable def ins {α:Type} (O:Ord α) (a:α):List α->List α
 | []=>[a]
 |b::r=>if O.lt b a=true then b::ins O a r else a::b::r
end
section
variable {α:Type} {O:Ord α}
end
end ST
namespace DI
open PySem L2
section
variable {X:Cx} {Ξ:Wd->aM->Prop} {a e tg:Ě} {p pos:Pos} {f:SV D} {fa:SV (List D)}
end
end DI
namespace L2
open PySem PySem.Spec PyProof.Rows
structure Bn (sc:ε) (cl ek:List (Str×Ò)) (C:Nat) (h:ħ):Prop where
 old:∀n c,ek.lookup n=some c->(C<c/\(n,NameKind.cell)∈sc.names/\∃v,h.IsCell c v)\/cl.lookup n=some c
 own:∀n,sc.names.lookup n=some .cell\/(cl.lookup n).isSome=true->∃c,ek.lookup n=some c
 inj:(∀x y c,cl.lookup x=some c->cl.lookup y=some c->x=y)->(∀x c,cl.lookup x=some c->c<C)->∀x y c,ek.lookup x=some c->ek.lookup y=some c->x=y
theorem tW:∀(names:List (Str×ŗ)) (n:Nat) (acc:List (Str×Ò)),(ų n names acc).lookup x=some c->((x,NameKind.cell)∈names/\n<=c)\/acc.lookup x=some c
 | [],n,acc,h=>.inr h
 |(y,k)::r,n,acc,h=>by
  unfold ų at h;split at h
  ·rename_i Z
   have Z:k=.cell:=by simpa using Z
   subst Z
   rcases tW r (n+1) _ h with ⟨h1,Y⟩|h1
   ·exact .inl ⟨Õ _ h1,by omega⟩
   ·rw [ď] at h1
    split at h1
    ·rename_i e
     have e:x=y:=by simpa using e
     subst e;cases h1;exact .inl ⟨Ø,S0 _⟩
    ·exact .inr h1
  ·rcases tW r n acc h with ⟨h1,Y⟩|h1
   ·exact .inl ⟨Õ _ h1,Y⟩
   ·exact .inr h1
theorem tX:∀(names:List (Str×ŗ)) (n:Nat) (acc:List (Str×Ò)),(∀x y c,acc.lookup x=some c->acc.lookup y=some c->x=y)->(∀x c,acc.lookup x=some c->c<n)->∀x y c,(ų n names acc).lookup x=some c->(ų n names acc).lookup y=some c->x=y
 | [],n,acc,hi,X=>hi
 |(z,k)::r,n,acc,hi,X=>by
  unfold ų;split
  ·refine tX r (n+1) _ (fun x y c Z Y=>?_) fun x c Z=>?_
   ·rw [ď] at Z Y
    split at Z
    ·rename_i e1
     split at Y
     ·rename_i e2
      exact (by simpa using e1:x=z).trans (by simpa using e2:y=z).symm
     ·cases Z
      exact absurd (X y _ Y) (ò _)
    ·split at Y
     ·cases Y
      exact absurd (X x _ Z) (ò _)
     ·exact hi x y c Z Y
   ·rw [ď] at Z
    split at Z
    ·cases Z;exact Ņ _
    ·exact ÿ (X x c Z)
  ·exact tX r n acc hi X
theorem uu {lo:Nat}:∀(names:List (Str×ŗ)) (h:ħ) (acc:List (Str×Ò)),lo<=h.objs.size->(∀x c,acc.lookup x=some c->lo<=c->h.IsCell c none)->(ų h.objs.size names acc).lookup x=some c->lo<=c->(pushCells h names).IsCell c none
 | [],h,acc,_,Z,e,Y=>Z x c e Y
 |(z,k)::r,h,acc,V,Z,e,Y=>by
  unfold ų at e;unfold pushCells;split at e
  ·rename_i W
   rw [é W];have U:(h.push { cls:=.type "cell",data:=.cell none }).objs.size=h.objs.size+1:=ö ..;refine uu (lo:=lo) r _ ((z,h.objs.size)::acc) (by omega) (fun y d X T=>?_) (by rw [U];exact e) Y;rw [ď] at X;split at X
   ·cases X
    exact ⟨_,Ç _ rfl,rfl⟩
   ·exact (Z y d X T).keeps fun b o q=>Á _ q
  ·rename_i W
   rw [õ W];exact uu r h acc V Z e Y
def Ew {E:Ä->Ã->Prop} {Q:Env->Ã->Prop}
 (hQ:∀ek h3,((∀x c,cl.lookup x=some c->c<s.heap.objs.size)->Bn scope cl ek s.heap.objs.size h3)->h3.Ns s.heap.objs.size (fun _=>none)->(∀b o,s.heap.get? b=some o->h3.get? b=some o)->Q (newEnv scope s.heap.objs.size globals ek qual none .none (some env) bi) { s with heap:=h3 }) :
  Ô M A (newFunctionEnv scope globals cl [] qual none .none (some env) bi) Q E s:=by
 simp only [newFunctionEnv,Option.isSome_some,ē];refine À (wpAny_alloc ?_)
 refine À (wpAny_layCells _ (fun name kind cells=>by cases Z:kind==NameKind.cell<;>simp [Z]) _ _ _ _ ?_)
 rw [show ({ s with heap:=s.heap.push { cls:=.type "dict",data:=.dict #[] } }:Ã).heap.objs.size=s.heap.objs.size+1 from ö ..]
 simp only [List.forIn_nil];refine À (Â (Â ?_));have Y:(s.heap.push { cls:=.type "dict",data:=.dict #[] }).objs.size=s.heap.objs.size+1:=ö ..;refine hQ (ų (s.heap.objs.size+1) scope.names cl) _ (fun X=>⟨fun n c e=>?_,fun n W=>?_,fun hi V=>tX _ _ _ hi fun x c e=>ÿ (V x c e)⟩) ((Heap.Ns.new s.heap (.type "dict")).keeps (pushCells_keeps _ _)) fun b o e=>pushCells_keeps _ _ b o (Á _ e)
 ·rcases tW _ _ _ e with ⟨h1,U⟩|h1
  ·exact .inl ⟨by omega,h1,none,uu (lo:=s.heap.objs.size+1) scope.names _ cl (by omega) (fun x d q T=>absurd (X x d q) (Nat.not_lt.mpr (Nat.le_of_succ_le T))) (by rw [Y];exact e) U⟩
  ·exact .inr h1
 ·exact Option.isSome_iff_exists.mp (Š scope.names _ cl W)
abbrev cO (X:Cx) (N:List Str) (sc:ε) (cl:List (Str×Ò)) (C:Ò) (s:Ã) (H:Hp) (ex:List Ò) (pn:List (Ò×Obj)):Cx:={ OM X N sc cl C s H ex pn with fn:=fun x=>sc.names.lookup x==some .cell }
structure lh (X:Cx) (sc:ε) (N:List Str) (nt:Nat) (cap:List Nat):Prop where
 kind:sc.kind=.function
 names:∀x∈sc.names,x.2=.local->sc.names.lookup x.1=some .local
 cells:∀x∈sc.names,x.2=.cell->sc.names.lookup x.1=some .cell
 frees:∀x∈sc.names,x.2=.free->sc.names.lookup x.1=some .free/\(X.env.scope.names.lookup x.1=some .cell\/X.env.scope.names.lookup x.1=some .free)
 len:N.length=nt+cap.length
 CL:∀(k:Nat) j,cap[k]?=some j->∃x,X.N[j]?=some x/\N[nt+k]?=some x/\(x,ä)∈sc.names
section
variable {X:Cx} {sc:ε} {N:List Str} {nt:Nat} {cap:List Nat} {cl ek:List (Str×Ò)} {s:Ã} {h1:ħ} {H:Hp} {σ:St} {π:List (Ò×Obj)} {fp:List Ò} {C:Ò} {t':Nat}
def Inv.K7 (I:Inv X π σ H s) (S:lh X sc N nt cap) (dH:∀n c,cl.lookup n=some c↔((n,ä)∈sc.names/\X.env.cells.lookup n=some c)) (eO:Bn sc cl ek C h1) (hf:∀b∈fp,bR X π H b) (gu:∀b∈fp,b<s.heap.objs.size)
  (hk:∀b o,s.heap.get? b=some o->h1.get? b=some o) (hC:s.heap.objs.size<=C) (nL:∃m,h1.Ns C m):Inv (cO X N sc ek C s H fp (X.pn++π)) [] (oi nt cap σ) H { s with heap:=h1,toks:=t' }:=by
 have O:∀b∈bD X.stack,b∈X.env.locals::X.fs:=I.kU;have J:∀x c,cl.lookup x=some c->c<s.heap.objs.size:=fun x c e=>by
  obtain ⟨v,o,V,_⟩:=I.cell x c ((dH x c).mp e).2;exact É V
 have G:∀x,(relabel sc X.env).names.lookup x=some .cell\/(relabel sc X.env).names.lookup x=some .free->(x,ä)∈sc.names\/sc.names.lookup x=some .cell:=fun x Z=>by
  rw [y7] at Z
  cases e:sc.names.lookup x with
  |none=>rw [e] at Z;rcases Z with z|z<;>cases z
  |some k =>
   have hm:(x,k)∈sc.names:=by
    obtain ⟨l1,l2,e1,_⟩:=List.lookup_eq_some_iff.mp e;rw [e1];simp
   rw [e] at Z
   cases k with
   |free=>exact .inl hm
   |cell=>exact .inr rfl
   |_=>exfalso;revert Z;simp
 have F:∀x,(x,ä)∈sc.names->∃c,X.env.cells.lookup x=some c:=fun x Z=>I.ok.has x (S.frees _ Z rfl).2;have M:∀x c,(x,ä)∈sc.names->X.env.cells.lookup x=some c->ek.lookup x=some c:=fun x c Z R=>by
  have e:=(dH x c).mpr ⟨Z,R⟩;obtain ⟨d,hd⟩:=eO.own x (.inr (by rw [e];rfl))
  rcases eO.old x d hd with ⟨_,q,_⟩|q
  ·have T:=S.cells _ q rfl
   have W:=(S.frees _ Z rfl).1;dsimp only at T W;rw [T] at W;cases W
  ·rw [e] at q
   cases q;exact hd
 have ok:Cx.Ok (cO X N sc ek C s H fp (X.pn++π)):=by
  refine ⟨I.ok.mod,?_,I.ok.glob,I.ok.blt,hC,?_,?_,?_,I.ok.hd,I.ok.frames,.inl rfl,?_,I.bs,â I.ok.fJ I.sz,?_,?_,I.stack,I.qP⟩
  ·exact S.kind
  ·exact eO.inj (fun x y c Z E=>I.ok.inj x y c ((dH x c).mp Z).2 ((dH y c).mp E).2) fun x c e=>È (J x c e) hC
  ·intro x Z
   rcases G x Z with hm|hm
   ·obtain ⟨c,e⟩:=F x hm
    exact ⟨c,M x c hm e⟩
   ·exact eO.own x (.inl hm)
  ·intro x c Z e
   rcases eO.old x c e with ⟨q,_,_⟩|q
   ·exact â hC (Nat.le_of_lt q)
   ·have W:=(S.frees _ ((dH x c).mp q).1 rfl).1
    have T:sc.names.lookup x=some .cell:=by simpa using Z
    dsimp only at W;rw [T] at W;cases W
  ·intro b Y
   refine ⟨Ý (È (gu b Y) hC),fun x c e=>?_⟩
   rcases eO.old x c e with ⟨q,_,_⟩|q
   ·exact Ĵ (È (gu b Y) (â hC (Nat.le_of_lt q)))
   ·exact (hf b Y).2.2.2.2.1 x c ((dH x c).mp q).2
  ·intro b o e Y
   rcases (hf b Y).2.2.2.1 with z|z
   ·exact I.ok.ju b o e z
   ·exact absurd (È (É e) (â I.ok.fJ z)) (ò _)
  ·intro b Y z
   rcases Ù.mp (O b z) with e|e
   ·exact (hf b Y).2.1 e
   ·exact (hf b Y).2.2.1 e
 obtain ⟨m,hm⟩:=nL;obtain ⟨mX,Rw,D⟩:=I.loc;refine ⟨ok,rfl,I.bare,Un.kept hk,⟨m,hm,fun i x v e1 e2 e3=>?_⟩,fun x c e=>?_,I.au.fresh hC,fun x c e=>?_,fun p B=>?_,I.au.kept hk,?_⟩
 ·
  have hi:nt<=i:=by
   apply Sg;intro L;have:(oi nt cap σ)[i]?=some none:=by
    unfold oi;rw [Ú (by simpa using L),ĸ,é L]
   rw [this] at e2;cases e2
  have U:(cap.map fun j=>(σ[j]?).getD none)[i-nt]?=some (some v):=by
   have e:=e2;unfold oi at e;rw [ù (by simpa using hi)] at e;simpa using e
  rw [è] at U
  cases Q:cap[i-nt]? with
  |none=>rw [Q] at U;cases U
  |some j =>
   rw [Q] at U;have ev:(σ[j]?).getD none=some v:=S7 U;have A:σ[j]?=some (some v):=by
    cases q:σ[j]? with
    |none=>rw [q] at ev;cases ev
    |some z=>rw [q] at ev;exact ķ some ev
   obtain ⟨y,f1,f2,K⟩:=S.CL _ _ Q;rw [Nat.add_sub_cancel' hi] at f2;have w:y=x:=S7 (f2.symm.trans e1);subst w;obtain ⟨g1,g2⟩:=S.frees _ K rfl;have t:nA X.env.scope y:=.inr g2;obtain ⟨u,r,l⟩:=D j y v f1 A t;refine ⟨u,r,.inr ⟨?_,?_⟩⟩
   ·show (relabel sc X.env).names.lookup y=some .cell\/(relabel sc X.env).names.lookup y=some .free
    rw [y7,g1];simp only [SD];split
    ·exact .inl rfl
    ·exact .inr rfl
   ·rcases l with ⟨k,_⟩ | ⟨_,c,R,h⟩
    ·exfalso
     have g:X.env.scope.names.lookup y=some .local:=k;dsimp only at g2;rw [g] at g2
     rcases g2 with z|z<;>cases z
    ·obtain ⟨P,V,hd⟩:=h
     exact ⟨c,M y c K R,P,hk _ _ V,hd⟩
 ·rcases eO.old x c e with ⟨_,_,q⟩|q
  ·exact q
  ·obtain ⟨v,P,V,hd⟩:=I.cell x c ((dH x c).mp q).2
   exact ⟨v,P,hk _ _ V,hd⟩
 ·rcases eO.old x c e with ⟨q,_,_⟩|q
  ·exact I.au.fresh (by omega)
  ·exact I.fD x c ((dH x c).mp q).2
 ·have f:p∈X.pn++π:=by simpa using B
  obtain ⟨e,n,ne,a,d⟩:=I.pin p f;refine ⟨hk _ _ e,n,Ý (È (É e) hC),fun z=>?_,d⟩
  rcases Ù.mp (O p.1 z) with q|q
  ·exact ne q
  ·exact a q
 ·unfold oi
  rw [ð,Sa,Ë];exact S.len.symm
end
structure Ce (P:Û) (w:ú) (E el tg src:Ě) (tests:List Ě) (new:Sem Ä) (ap:String) (mk:Ò->List V->HO) (iy:List V->Prop) where
 o0:Obj
 live:o0.isFreed=false
 Ac:Ò->List V->ħ->Prop
 clauses:clausesOf E=[⟨tg,src,tests,0⟩]
 turns:∀{A:ã} {R:Result->Ã->Prop} {s:Ã} {iw av:Ä} {ce:Env} (J:Nat->Ã->Prop)
  (turn:∀n s,J n s->Ô (á P w) A (ţ iw) (fun r s1=>match r with
   |none=>R (.ok .next) s1
   |some v=>Ô (á P w) A (υ tg iw v) (fun _ s2=>Ô (á P w) A (assign tg ce v) (fun _ s3 =>
     Ô (á P w) A (forIn tests true fun c r=>if r=true then do let ok <- isTrue c ce (ĺ c ce);pure (ī ok) else pure (ī r)) (fun ok s4 =>
      if ok=true then Ô (á P w) A (ĺ el ce) (fun y s5=>Ô (á P w) A (call (.builtin ap) [av,y]) (fun _ s6=>∃m,m<n/\J m s6) (fun _ _=>False) s5) (fun _ _=>False) s4
      else ∃m,m<n/\J m s4) (fun _ _=>False) s3) (fun _ _=>False) s2) (fun _ _=>False) s1) (fun _ _=>False) s)
  (n:Nat) (_:J n s),ť (á P w) A (.compLoop E 0 iw av ce) R s
 new:∀{A:ã} {X:Ä->Ã->Prop} {s:Ã} {Q:Ä->Ã->Prop},Q (.ref s.heap.objs.size) { s with heap:=s.heap.push o0 }->Ô (á P w) A new Q X s
 start:∀{A:ã} {R:Result->Ã->Prop} {s:Ã} {it acc:Ä} {env:Env},ť (á P w) A (.compLoop E 0 it acc env) R s->Ô (á P w) A (pyIter it) (fun PC s'=>ť (á P w) A (.compLoop E 0 PC acc env) R s') (notedBy (á P w) A env fun x s'=>R (.error x) s') s->ť (á P w) A (.compStart E 0 it acc env) R s
 init:∀{D:Ò} {h:ħ},h.get? D=some o0->Ac D [] h
 obj:∀{D:Ò} {acc:List V} {h:ħ},Ac D acc h->∃o,h.get? D=some o/\∀v,o.data≠.cell v
 cD:∀{D:Ò} {acc:List V} {h h':ħ},Ac D acc h->(∀o,h.get? D=some o->h'.get? D=some o)->Ac D acc h'
 Bo:∀{D:Ò} {acc:List V} {h:ħ} {H:Hp},iy acc->Ac D acc h->ck P w (upd H D (mk D acc)) h D (mk D acc)
 add:∀{A:ã} {s:Ã} {D:Ò} {acc:List V} {v:V} {y:Ä} {Q:Ä->Ã->Prop},Ac D acc s.heap->RelV v y->iy acc->iy (acc++[v])->(∀h' tk,Ĭ D s.heap h'->Ac D (acc++[v]) h'->Q .none { s with heap:=h',toks:=tk })->Ô (á P w) A (call (.builtin ap) [.ref D,y]) Q (fun _ _=>False) s
section
variable {X:Cx}
def FH {E el tg src:Ě} {tests:List Ě} {sc:ε} {N:List Str} {nt:Nat} {cap:List Nat} {wi:TI} {g:TG} {tf:TT} {te:TE} {p1:Pos} {use:Option (Ä->Sem Unit)} {R:Ä->Ã->Prop} {π:List (Ò×Obj)} {s:Ã} {σ:St} {H:Hp} {Q:VK} {new:Sem Ä} {ap:String} {mk:Ò->List V->HO} {iy:List V->Prop} (B:Ce X.prog X.w E el tg src tests new ap mk iy) (hc:X.calm=true) (S:lh X sc N nt cap) (jL:pR g nt) (hi:PI X tg src wi)
  (hY:∀(cl:List (Str×Ò)) (C:Ò) (s:Ã) (H:Hp) (ex:List Ò) (pn:List (Ò×Obj)),PG (cO X N sc cl C s H ex pn) tg g/\PF (cO X N sc cl C s H ex pn) tests tf/\PE (cO X N sc cl C s H ex pn) el te)
  (hs:∀x,į src X.env x=pure x) (I:Inv X π σ H s) (h:wi σ H fun J H1=>Dx mk iy J nt (lu cap σ) g tf te H1 Q)
  (wQ:∀(s':Ã) (H1:Hp) (D C:Ò) (m:Str->Option Ä),(∀h',Ĭ C s'.heap h'->Inv X π σ H1 { s' with heap:=h' })->s'.heap.Ns C m->H1 C=none->C≠X.env.locals->C∉X.fs->X.bQ.heap.objs.size<=C->(∀x c,X.env.cells.lookup x=some c->c≠C)->(∀p∈X.pn++π,p.1≠C)->Q (.ref D) H1->compPost (á X.prog X.w) X.A X.xe use R (.ref D) C (.ok .next) s') :
  Ô (á X.prog X.w) X.A (comprehension E sc X.env p1 new false (ĺ src X.env) use) R X.xe s:=by
 obtain ⟨cl,MA,dH⟩:=Ky (env:=X.env) (sc:=sc) fun n hn=>I.ok.has n (S.frees _ hn rfl).2;refine wpAny_comprehension_free (use:=use) B.clauses hs MA S.kind S.names (aE (hi π s σ H _ I h) fun xv s1 h1=>aE h1 fun iw k h2=>?_);obtain ⟨it,t,tn,J,H2,e,M,T,lX,f2,W,⟨m0,w0⟩,turn⟩:=h2;subst e;refine B.new (Ew fun ek h3 j pf kD=>?_);dsimp only at j pf kD |-;generalize hD:k.heap.objs.size=D at j pf kD |-;generalize hG:k.heap.push B.o0=G at j pf kD |-;generalize PD:G.objs.size=C at j pf kD |-;have hC:C=D+1:=by rw [<- PD,<- hG,ö,hD]
 have yg:D≠C:=by omega
 have d:k.heap.objs.size<=D:=ļ hD;have l:k.heap.objs.size<=C:=by omega
 have old:∀b o,k.heap.get? b=some o->h3.get? b=some o:=fun b o e=>kD b o (hG ▸ Á _ e);have jv:B.Ac D [] h3:=B.init (kD _ _ (hG ▸ hD ▸ Ç _ B.live));have gu:∀b∈t,b<k.heap.objs.size:=fun b P=>by
  obtain ⟨o,e,_⟩:=T.obj _ _ lX b P;exact É e
 have j:=j fun x c e=>by
  obtain ⟨v,o,ho,_⟩:=M.cell x c ((dH x c).mp e).2;exact È (É ho) l
 have IB:=M.K7 (t':=k.toks) S dH j f2 gu old l ⟨_,pf⟩;have PH:D∉bD X.stack:=fun z=>by
  rcases Ù.mp (M.kU D z) with e|e
  ·exact absurd (È M.lt d) (by rw [e];exact ò _)
  ·exact M.wB d e
 have DO:D∉t:=fun z=>absurd (È (gu D z) d) (ò _);have K8:∀x c,ek.lookup x=some c->c≠D:=fun x c e z=>by
  rcases j.old x c e with ⟨q,_,_⟩|e
  ·rw [z] at q
   exact absurd q (by rw [hC];exact Nat.not_lt.mpr (ŧ D))
  ·obtain ⟨v,o,ho,_⟩:=M.cell x c ((dH x c).mp e).2
   exact absurd (È (É ho) (by rw [z];exact d)) (ò _)
 have MB:∀p∈X.pn++π,p.1≠D:=fun p L z=>absurd (È (É (M.pin p L).1) (by rw [z];exact d)) (ò _);generalize O:cO X N sc ek C k H2 t (X.pn++π)=Y at IB;have yh:∀{U:Hp} {pl:List (Ò×Obj)},(∀b∈t,U b=none)->(∀p∈pl,p.1∉t)->∀b∈t,bR Y pl U b:=fun {U pl} hn L b P=>by
  subst O;obtain ⟨_,f1,PJ,f3,f4,f5⟩:=f2 b P;refine ⟨hn b P,Ý (È (gu b P) l),fun z=>?_,.inl P,fun x c e=>(j.old x c e).elim (fun q z=>Ĵ (È (gu b P) (â l (Nat.le_of_lt q.1))) z) fun e=>f4 x c ((dH x c).mp e).2,fun p PK=>?_⟩
  ·rcases Ù.mp (M.kU b z) with e|e
   ·exact f1 e
   ·exact PJ e
  ·rcases û.mp PK with z|z
   ·exact f5 p z
   ·exact fun e=>L p z (e ▸ P)
 have PL:PG Y tg g:=by subst O;exact (hY _ _ _ _ _ _).1
 have PM:PF Y tests tf:=by subst O;exact (hY _ _ _ _ _ _).2.1
 have PN:PE Y el te:=by subst O;exact (hY _ _ _ _ _ _).2.2
 have eP:Y.prog=X.prog:=by subst O;rfl
 have eW:Y.w=X.w:=by subst O;rfl
 have eA:Y.A=X.A:=by subst O;rfl
 have eK:Y.K=X.K:=by subst O;rfl
 have eE:Y.env=compEnvC sc ek C X.env:=by subst O;rfl
 have eX:Y.xe=fun _ _=>False:=by subst O;rfl
 have eC:Y.calm=true:=by subst O;exact hc
 have eS:Y.bQ.heap.objs.size<=D:=by subst O;exact d
 have eF:D∉Y.fs:=by subst O;exact PH
 have eL:D≠Y.env.locals:=by subst O;exact yg
 have PQ:∀x c,Y.env.cells.lookup x=some c->c≠D:=by subst O;exact K8
 have eN:∀p∈Y.pn,p.1≠D:=by subst O;exact MB
 have fin:∀(s':Ã) (a:St) (U:Hp) (Z:List V),Inv Y [] a U s'->B.Ac D Z s'.heap->U D=none->iy Z->(∀D,U D=none->Q (.ref D) (upd U D (mk D Z))) ->
   compPost (á X.prog X.w) X.A X.xe use R (.ref D) C (.ok .next) s':=by
  intro s' a U Z F pl hn hz q;subst O;obtain ⟨m,hm,_⟩:=id F.loc;refine wQ s' (upd U D (mk D Z)) D C m (fun h' sb=>?_) hm ?_ (fun z=>absurd (È M.lt l) (by rw [z];exact ò _)) (M.wB l) (â M.sz l) (fun x c e z=>?_) (fun p L z=>absurd (È (É (M.pin p L).1) (by rw [z];exact l)) (ò _)) (q D hn)
  ·have N5:bC X.prog X.w U h':=F.au.but F.free sb
   have u:=(F.base.but l sb).adopt (o:=mk D Z) d hn
   refine M.rN (s':={ s' with heap:=h' }) (ch:=t) F.os u (N5.adopt hn (B.Bo hz (B.cD pl fun o e=>(sb.2 D yg).trans e))) F.bare (fun b P=>?_)
   obtain ⟨_,f1,_,f3,f4,f5⟩:=f2 b P;exact ⟨f3,f1,f4,f5⟩
  ·rw [aJ (ş yg)]
   exact F.free
  ·obtain ⟨v,o,eI,_⟩:=M.cell x c e
   exact absurd (È (É eI) (by rw [z];exact l)) (ò _)
 have loop:ť (á X.prog X.w) X.A (.compLoop E 0 (.ref it) (.ref D) (compEnvC sc ek C X.env)) (compPost (á X.prog X.w) X.A X.xe use R (.ref D) C)
   { k with heap:=h3 }:=by
  refine B.turns (fun n s'=>∃i Z o U,Inv Y [] (o++lu cap σ) U s'/\o.length=nt/\tn i s'.heap/\(∀b∈t,U b=none)/\B.Ac D Z s'.heap/\U D=none/\W i n Z U) ?_ m0
   ⟨0,[],Ñ nt none,H2,IB,by simp,T.keep _ _ _ lX fun b _ o e=>old b o e,fun b P=>(f2 b P).1,jv,M.au.fresh d,w0⟩
  rintro n s3 ⟨i,Z,o3,H3,I3,DP,lZ,pJ,DQ,PR,w3⟩;generalize PU:o3++lu cap σ=a at I3;obtain ⟨f,ho,MC⟩:=B.obj DQ;have DR:Inv Y [(D,f)] a H3 s3:=I3.iJ fun p L=>by
   have e:p=(D,f):=by simpa using L
   subst e;exact ⟨ho,PR,eL,eF,MC⟩
  have yi:∀p∈[(D,f)],p.1∉t:=fun p L=>by
   have e:p=(D,f):=by simpa using L
   subst e;exact DO
  have yj:∀{pl:List (Ò×Obj)} {qk:St} {U:Hp} {s':Ã},Inv Y ([(D,f)]++pl) qk U s'->B.Ac D Z s'.heap/\U D=none:=fun {pl qk U s'} F=>by
   have q:=F.pin (D,f) (Ê _ (ŏ _ (by simp)));exact ⟨B.cD DQ fun o e=>by rw [ho] at e;cases e;exact q.1,q.2.1⟩
  rcases turn i n Z H3 w3 with ⟨stop,hz,q⟩ | ⟨go,hz,N',hN,step⟩
  ·have hd:=T.done Y eP eW eK eC i [(D,f)] s3 a H3 (fun _ _=>False) DR (yh pJ yi) lZ stop
   rw [eA] at hd;refine aE hd fun r s4 h4=>?_;obtain ⟨hr,I4⟩:=h4;subst hr;obtain ⟨PV,n4⟩:=yj (pl:=[]) (by simpa using I4);exact fin s4 a H3 Z (Inv.jQ (π:=[]) I4) PV n4 hz q
  ·have hd:=T.item Y eP eW eK eC i [(D,f)] s3 a H3 (fun _ _=>False) DR (yh pJ yi) lZ go
   rw [eA] at hd;refine aE hd fun r s4 h4=>?_;obtain ⟨u,hr,h4⟩:=h4;subst hr;refine aE h4 fun _ s5 h5=>?_;obtain ⟨x,H5,I5,r5,y5,jI,xx⟩:=h5;have xy:=I5.pinned (yh xx yi) (T.obj _ _ jI);have q5:=PL _ s5 a H5 x u _ xy r5 (PU ▸ jL x o3 _ H5 _ DP (step o3 x H5 DP y5));rw [eP,eW,eA,eE,eX] at q5;refine aE q5 fun _ s6 h6=>?_;obtain ⟨sX,H6,I6,⟨o6,DT,C5⟩,q6⟩:=h6;have q7:=PM _ s6 sX H6 _ I6 q6;rw [eP,eW,eA,eE,eX] at q7;refine aE q7 fun b s7 h7=>?_;obtain ⟨H7,I7,q7⟩:=h7;have C6:∀{qk:St} {U:Hp} {s':Ã},Inv Y ([(D,f)]++oh t s5.heap) qk U s'->tn (i+1) s'.heap/\∀b∈t,U b=none:=fun {qk U s'} F=>by
    refine ⟨T.keep _ _ _ jI fun b P o e=>(F.pin (b,o) (Ê _ (Ê _ (qy P e)))).1,fun b P=>?_⟩;obtain ⟨o,e,_⟩:=T.obj _ _ jI b P;exact (F.pin (b,o) (Ê _ (Ê _ (qy P e)))).2.1
   cases b with
   |false =>
    rw [õ Ï] at q7 |-;obtain ⟨m',hm,w7⟩:=hN _ _ q7;obtain ⟨PX,n7⟩:=yj I7;obtain ⟨t7,f7⟩:=C6 I7;exact ⟨m',hm,i+1,Z,o6,H7,C5 ▸ I7.iJ (fun p L=>by simp at L),DT,t7,f7,PX,n7,w7⟩
   |true =>
    rw [é rfl] at q7 |-;have q8:=PN _ s7 sX H7 _ I7 q7;rw [eP,eW,eA,eE,eX] at q8;refine aE q8 fun y s8 h8=>?_;obtain ⟨v,H8,I8,r8,q9⟩:=h8;obtain ⟨m',hm,w8⟩:=hN _ _ q9;obtain ⟨PY,n8⟩:=yj I8;obtain ⟨t8,f8⟩:=C6 I8;have gK:iy (Z++[v]):=by
     rcases turn (i+1) m' (Z++[v]) H8 w8 with q|q
     ·exact q.2.1
     ·exact q.2.1
    refine B.add PY r8 hz gK fun h9 PZ DU P0=>?_;have P1:Inv Y [] sX H8 s8:=I8.iJ (fun p L=>by simp at L)
    have I9:Inv Y [] sX H8 { s8 with heap:=h9,toks:=PZ }:=P1.turned (it:=D) (fun b o P e=>(DU.2 b P).trans e) n8 eL (.inr eS) PQ (fun p L=>eN p (by simpa using L))
    exact ⟨m',hm,i+1,Z++[v],o6,H8,C5 ▸ I9,DT,T.keep _ _ _ t8 fun b P o e=>(DU.2 b (fun z=>DO (z ▸ P))).trans e,f8,P0,n8,w8⟩
 exact B.start loop (T.self _ _ _ _ _ (T.keep _ _ _ lX fun b _ o e=>old b o e) loop)
def N6 {P:Û} {w:ú} {el tg src:Ě} {tests:List Ě} {sc:ε} {ps:Pos}:Ce P w (.ListComp el [⟨tg,src,tests,0⟩] sc ps) el tg src tests (newList []) "list.append" (fun _ acc=>.lst acc) (fun acc=>acc.length<=Ö) where
 o0:={ cls:=.type "list",dict:=none,data:=.seq ([]:List Ä).toArray }
 live:=rfl
 Ac:=fun D acc h=>∃Z,h.PlainList D Z/\Vals acc Z.toList
 clauses:=rfl
 turns:=Fp
 new:=fun h=>ì h
 start:=codeAny_compStart_list
 init:=fun e=>⟨#[],⟨_,e⟩,.nil⟩
 obj:=fun ⟨_,⟨_,e⟩,_⟩=>⟨_,e,fun _ z=>by cases z⟩
 cD:=fun ⟨Z,⟨n,e⟩,r⟩ k=>⟨Z,⟨n,k _ e⟩,r⟩
 Bo:=fun Y ⟨Z,⟨n,e⟩,r⟩=>⟨Y,Z.toList,n,r,by simpa using e⟩
 add:=fun {A s D acc v y Q} ⟨Z,X,r⟩ W Y _ q=>wpAny_list_append_plain (hsz:=by have e:=r.length;simp only [ă] at e;omega) X fun V U T=>q V s.toks T ⟨Z.push y,U,by rw [Array.toList_push];exact Vals.append r (.cons W .nil)⟩
def uw (hc:X.calm=true) (S:lh X sc N nt cap) (jL:pR g nt) (hi:PI X tg src wi)
 (hY:∀(cl:List (Str×Ò)) (C:Ò) (s:Ã) (H:Hp) (ex:List Ò) (pn:List (Ò×Obj)),PG (cO X N sc cl C s H ex pn) tg g/\PF (cO X N sc cl C s H ex pn) tests tf/\PE (cO X N sc cl C s H ex pn) el te)
 (hs:∀x,į src X.env x=pure x:=by intro _;rfl):PE X (.ListComp el [⟨tg,src,tests,0⟩] sc ps) (lA wi nt cap g tf te):=by
 intro T s σ H Q I h;rw [eval_ListComp];exact FH N6 (use:=none) hc S jL hi hY hs I h fun R Z D C m Y W _ _ _ _ _ _ q=>⟨m,W,fun V U=>⟨.ref D,Z,Y V U,rfl,q⟩⟩
end
noncomputable def vp (sc:ε) (on:List (Str×ŗ)) (oN N:List Str) (nt:Nat) (cap:List Nat):Bool :=
 decide (sc.kind=.function)&&sc.names.all (fun x=>decide (x.2=.local->sc.names.lookup x.1=some .local))&&sc.names.all (fun x=>decide (x.2=.cell->sc.names.lookup x.1=some .cell)) &&
 sc.names.all (fun x=>decide (x.2=.free->sc.names.lookup x.1=some .free/\(on.lookup x.1=some .cell\/on.lookup x.1=some .free)))&&decide (N.length=nt+cap.length) &&
 (ć cap.length).all (fun k=>match cap[k]? with
  |some j=>match oN[j]? with
   |some x=>decide (N[nt+k]?=some x)&&decide ((x,ä)∈sc.names)
   |none=>false
  |none=>true)
def rV (h:vp sc X.env.scope.names X.N N nt cap=true):lh X sc N nt cap:=by
 unfold vp at h;simp only [Í,ĭ,ß] at h;obtain ⟨⟨⟨⟨⟨Z,Y⟩,W⟩,V⟩,U⟩,T⟩:=h;refine ⟨Z,Y,W,fun x S e=>V x S e,U,fun k j e=>?_⟩;have R:k<cap.length:=(Å.mp e).1;have:=T k (Ĺ.mpr R);rw [e] at this;dsimp only at this
 cases ex:X.N[j]? with
 |none=>rw [ex] at this;cases this
 |some x =>
  rw [ex] at this;simp only [Í,ß] at this;exact ⟨x,rfl,this.1,this.2⟩
end L2
namespace DI
open PySem L2
section
variable {X:Cx} {Ξ:Wd->aM->Prop} {e a b c tg el src:Ě} {es rest tests:List Ě} {pos:Pos} {f g h:SV D} {fa:SV (List D)} {ft gt:SV Bool}
def AK (hc:X.calm=true) (S:lh X sc N nt cap) (T:Tg X.K g0 gd nt) (hi:PI X tg src (gk X.K Ξ it))
 (hY:∀(cl:List (Str×Ò)) (C:Ò) (s:Ã) (H:Hp) (ex:List Ò) (pn:List (Ò×Obj)),PG (cO X N sc cl C s H ex pn) tg g0/\PF (cO X N sc cl C s H ex pn) tests (tT X.K bF ft)/\PE (cO X N sc cl C s H ex pn) el (tE X.K bF f))
 (hs:∀x,į src X.env x=pure x:=by intro _;rfl):PE X (.ListComp el [⟨tg,src,tests,0⟩] sc ps) (tE X.K Ξ (dP nt cap it gd ft f)) :=
 bI (uw hc S T.nK hi hY hs) fun σ H Q h=>tQ T.imp (fun R Z i h=>zZ R Z i h) (Hv σ H Q h)
def HE (hc:X.calm=true) (S:lh X sc N nt cap) (T:Tg X.K g0 gd nt) (hi:PI X tg src (gk X.K Ξ it))
 (hY:∀(cl:List (Str×Ò)) (C:Ò) (s:Ã) (H:Hp) (ex:List Ò) (pn:List (Ò×Obj)),PG (cO X N sc cl C s H ex pn) tg g0/\PF (cO X N sc cl C s H ex pn) tests (tT X.K bF ft)/\PE (cO X N sc cl C s H ex pn) el (tE X.K bF f))
 (hs:∀x,į src X.env x=pure x:=by intro _;rfl):PE X (.ListComp el [⟨tg,src,tests,0⟩] sc ps) (tE X.K Ξ (oj nt cap it gd ft f)) :=
 bI (uw hc S T.nK hi hY hs) fun σ H Q h=>tQ T.imp (fun R Z i h=>zZ R Z i h) (Gm σ H Q h)
end
end DI
namespace L2
open PySem PySem.Spec PyProof.Rows
section
variable {X:Cx} {tg:Ě}
end
end L2
namespace DI
open PySem L2
section
variable {X:Cx} {Ξ:Wd->aM->Prop} {a b c tg:Ě} {pos:Pos} {fa:SV (List D)}
end
end DI
namespace L2
open PySem PySem.Spec PyProof.Rows
section
variable {X:Cx}
theorem zm:∀(ys:List Ä) (k:Nat),(∀(i:Nat) (v:Ä),ys[i]?=some v->∃t,v=Sv (0+((k+i:Nat):Int)*1) t)->Vals ((List.range' k ys.length).map fun i:Nat=>V.int (0+(i:Int))) ys
 | [],k,_=>.nil
 |y::ys,k,h=>by
  rw [ø,List.range'_succ,ç];refine .cons ?_ (zm ys (k+1) fun i v e=>?_)
  ·obtain ⟨t,e⟩:=h 0 y rfl
   rw [e];exact ⟨t,by rw [Int.mul_one];rfl⟩
  ·obtain ⟨t,e⟩:=h (i+1) v (by simpa using e)
   exact ⟨t,by rw [e,show k+(i+1)=k+1+i by omega]⟩
end
end L2
namespace DI
open PySem L2
section
variable {X:Cx} {Ξ:Wd->aM->Prop} {a:Ě} {p pos:Pos} {fa:SV (List D)}
def Jq (n:Nat):ak K w (cb 0 n) ((ć n).map fun i:Nat=>V.int (0+(i:Int))):=by
 have:cb 0 n=((ć n).map fun i:Nat=>(0:Int)+(i:Int)).map D.int:=by
  unfold cb;rw [ο];rfl
 rw [this,show ((ć n).map fun i:Nat=>V.int (0+(i:Int)))=((ć n).map fun i:Nat=>(0:Int)+(i:Int)).map V.int by rw [ο];rfl];exact ak.ints _
end
section
variable {X:Cx} {Ξ:Wd->aM->Prop} {a:Ě} {p pos:Pos} {f g:SV D} {fa:SV (List D)}
theorem ak.erase:∀{ds:List D} {xs:List V} (j:Nat),ak K w ds xs->ak K w (ds.eraseIdx j) (xs.eraseIdx j)
 | [],xs,j,h=>by
  have e:xs=[]:=h;subst e;exact h
 |d::ds,xs,0,h=>by
  obtain ⟨v,r,rfl,_,dr⟩:=h;exact dr
 |d::ds,xs,j+1,h=>by
  obtain ⟨v,r,rfl,Z,dr⟩:=h;exact ⟨v,r.eraseIdx j,rfl,Z,ak.erase j dr⟩
end
open HT PyProof.Rows
section
variable {X:Cx} {Ξ:Wd->aM->Prop}
end
end DI
namespace TK
open PySem PySem.W PyProof.Rows DI
mutual
noncomputable def kd:D->Bool
 | .int _=>true
 | .str x=>PyData.strOk x
 | .tup Z=>fv Z
 |_=>false
noncomputable def fv:List D->Bool
 | []=>true
 |k::Z=>kd k&&fv Z
end
mutual
def KA (h:ħ):D->Ä->Prop
 | .int i,v=>∃t,v=.int i t
 | .str x,v=>∃t,v=.str x t
 | .tup Z,v=>∃a o its n,v=.ref a/\h.get? a=some o/\o.cls=.type "tuple"/\o.data=.seq its n/\cG h Z its.toList
 |_,_=>False
def cG (h:ħ):List D->List Ä->Prop
 | [],Z=>Z=[]
 |k::Y,Z=>∃v r,Z=v::r/\KA h k v/\cG h Y r
end
mutual
theorem oo:∀k:D,kd k=true->lay k=true
 | .int _,_=>rfl
 | .str _,h=>h
 | .tup Z,h=>by simp only [kd] at h;simp only [lay];exact qL Z h
 | .ao,h=>by cases h
 | .bl _,h=>by cases h
 | .lst _,h=>by cases h
 | .bo _,h=>by cases h
 | .ax _,h=>by cases h
 | .ty _,h=>by cases h
 | .bh _,h=>by cases h
 | .exc _,h=>by cases h
 | .bE _ _ _,h=>by cases h
theorem qL:∀ks:List D,fv ks=true->b9 ks=true
 | [],_=>rfl
 |k::ks,h=>by
  simp only [fv,b9,Í] at h |-;exact ⟨oo k h.1,qL ks h.2⟩
end
mutual
theorem vq:∀x y:D,kd x=true->kd y=true->(beq x y=true↔x=y)
 | .int i,.int j,_,_=>by simp [beq]
 | .str i,.str j,_,_=>by simp [beq]
 | .tup Z,.tup Y,h,g=>by
  simp only [kd] at h g;simp only [beq,ux Z Y h g];exact ⟨fun e=>by rw [e],fun e=>by injection e⟩
 | .int _,.str _,_,_=>by simp [beq]
 | .int _,.tup _,_,_=>by simp [beq]
 | .str _,.int _,_,_=>by simp [beq]
 | .str _,.tup _,_,_=>by simp [beq]
 | .tup _,.int _,_,_=>by simp [beq]
 | .tup _,.str _,_,_=>by simp [beq]
 | .ao,_,h,_=>by cases h
 | .bl _,_,h,_=>by cases h
 | .lst _,_,h,_=>by cases h
 | .bo _,_,h,_=>by cases h
 | .ax _,_,h,_=>by cases h
 | .ty _,_,h,_=>by cases h
 | .bh _,_,h,_=>by cases h
 | .exc _,_,h,_=>by cases h
 | .bE _ _ _,_,h,_=>by cases h
 |_,.ao,_,h=>by cases h
 |_,.bl _,_,h=>by cases h
 |_,.lst _,_,h=>by cases h
 |_,.bo _,_,h=>by cases h
 |_,.ax _,_,h=>by cases h
 |_,.ty _,_,h=>by cases h
 |_,.bh _,_,h=>by cases h
 |_,.exc _,_,h=>by cases h
 |_,.bE _ _ _,_,h=>by cases h
theorem ux:∀xs ys:List D,fv xs=true->fv ys=true->(gF xs ys=true↔xs=ys)
 | [],[],_,_=>by simp [gF]
 | [],_::_,_,_=>by simp [gF]
 |_::_,[],_,_=>by simp [gF]
 |x::xs,y::ys,h,g=>by
  simp only [fv,Í] at h g;simp only [gF,Í,vq x y h.1 g.1,ux xs ys h.2 g.2,List.cons.injEq]
end
mutual
theorem KA.reads:∀(k:D) (v:Ä),KA h k v->∃as,Reads h v (py k) as
 | .int i,v,q=>by obtain ⟨t,rfl⟩:=q;exact ⟨_,.int i t⟩
 | .str x,v,q=>by obtain ⟨t,rfl⟩:=q;exact ⟨_,.str x t⟩
 | .tup Z,v,q=>by
  simp only [KA] at q;obtain ⟨a,o,its,n,rfl,Y,X,W,r⟩:=q;obtain ⟨as,r⟩:=cG.reads Z _ r;exact ⟨as,.tuple Y X W r⟩
 | .ao,_,q=>by cases q
 | .bl _,_,q=>by cases q
 | .lst _,_,q=>by cases q
 | .bo _,_,q=>by cases q
 | .ax _,_,q=>by cases q
 | .ty _,_,q=>by cases q
 | .bh _,_,q=>by cases q
 | .exc _,_,q=>by cases q
 | .bE _ _ _,_,q=>by cases q
theorem cG.reads:∀(ks:List D) (vs:List Ä),cG h ks vs->∃as,ReadsAll h vs (cN ks) as
 | [],vs,q=>by cases q;exact ⟨_,.nil⟩
 |k::ks,vs,q=>by
  obtain ⟨v,r,rfl,Z,Y⟩:=q;obtain ⟨as,Z⟩:=KA.reads k v Z;obtain ⟨bs,Y⟩:=cG.reads ks r Y;exact ⟨_,.cons Z Y⟩
end
def K9 (q:KA h y (.int i t)):y=.int i:=by
 cases y with
 |int j=>obtain ⟨_,e⟩:=q;cases e;rfl
 |str j=>obtain ⟨_,e⟩:=q;cases e
 |tup Z=>simp only [KA] at q;obtain ⟨_,_,_,_,e,_⟩:=q;cases e
 |_=>cases q
def La (q:KA h y (.str i t)):y=.str i:=by
 cases y with
 |str j=>obtain ⟨_,e⟩:=q;cases e;rfl
 |int j=>obtain ⟨_,e⟩:=q;cases e
 |tup Z=>simp only [KA] at q;obtain ⟨_,_,_,_,e,_⟩:=q;cases e
 |_=>cases q
def Lb (q:KA h y (.ref a)):∃ks o its n,y=.tup ks/\h.get? a=some o/\o.cls=.type "tuple"/\o.data=.seq its n/\cG h ks its.toList:=by
 cases y with
 |str j=>obtain ⟨_,e⟩:=q;cases e
 |int j=>obtain ⟨_,e⟩:=q;cases e
 |tup ks =>
  simp only [KA] at q;obtain ⟨_,o,its,n,e,r⟩:=q;cases e;exact ⟨ks,o,its,n,rfl,r⟩
 |_=>cases q
mutual
theorem KA.inj:∀(x y:D) (v:Ä),KA h x v->KA h y v->x=y
 | .int i,y,v,p,q=>by
  obtain ⟨t,rfl⟩:=p;exact (K9 q).symm
 | .str i,y,v,p,q=>by
  obtain ⟨t,rfl⟩:=p;exact (La q).symm
 | .tup Y,y,v,p,q=>by
  simp only [KA] at p;obtain ⟨a,o,its,n,rfl,X,S,W,r⟩:=p;obtain ⟨R,Q,Z,P,rfl,V,O,U,T⟩:=Lb q;cases X.symm.trans V;cases W.symm.trans U;rw [cG.inj Y _ _ r T]
 | .ao,_,_,q,_=>by cases q
 | .bl _,_,_,q,_=>by cases q
 | .lst _,_,_,q,_=>by cases q
 | .bo _,_,_,q,_=>by cases q
 | .ax _,_,_,q,_=>by cases q
 | .ty _,_,_,q,_=>by cases q
 | .bh _,_,_,q,_=>by cases q
 | .exc _,_,_,q,_=>by cases q
 | .bE _ _ _,_,_,q,_=>by cases q
theorem cG.inj:∀(xs ys:List D) (vs:List Ä),cG h xs vs->cG h ys vs->xs=ys
 | [],ys,vs,p,q=>by
  cases p
  cases ys with
  |nil=>rfl
  |cons y ys=>obtain ⟨_,_,e,_⟩:=q;cases e
 |x::xs,ys,vs,p,q=>by
  obtain ⟨v,r,rfl,Z,Y⟩:=p
  cases ys with
  |nil=>cases q
  |cons y ys =>
   obtain ⟨X,W,e,g1,g2⟩:=q;cases e;rw [KA.inj x y v Z g1,cG.inj xs ys r Y g2]
end
mutual
theorem KA.keep (hk:∀a o,h.get? a=some o->o.cls=.type "tuple"->(∃its n,o.data=.seq its n)->h'.get? a=some o):∀(x:D) (v:Ä),KA h x v->KA h' x v
 | .int i,v,p=>p
 | .str i,v,p=>p
 | .tup X,v,p=>by
  simp only [KA] at p |-;obtain ⟨a,o,its,n,e,W,Z,Y,r⟩:=p;exact ⟨a,o,its,n,e,hk a o W Z ⟨its,n,Y⟩,Z,Y,cG.keep hk X _ r⟩
 | .ao,_,q=>by cases q
 | .bl _,_,q=>by cases q
 | .lst _,_,q=>by cases q
 | .bo _,_,q=>by cases q
 | .ax _,_,q=>by cases q
 | .ty _,_,q=>by cases q
 | .bh _,_,q=>by cases q
 | .exc _,_,q=>by cases q
 | .bE _ _ _,_,q=>by cases q
theorem cG.keep (hk:∀a o,h.get? a=some o->o.cls=.type "tuple"->(∃its n,o.data=.seq its n)->h'.get? a=some o):∀(xs:List D) (vs:List Ä),cG h xs vs->cG h' xs vs
 | [],vs,p=>p
 |x::xs,vs,p=>by
  obtain ⟨v,r,e,Z,Y⟩:=p;exact ⟨v,r,e,KA.keep hk x v Z,cG.keep hk xs r Y⟩
end
def AL (h:k∈ks):dep k<=dj ks:=by
 induction ks with
 |nil=>cases h
 |cons x Z ih =>
  simp only [dj]
  rcases Ù.mp h with rfl|h
  ·exact Nat.le_max_left _ _
  ·exact â (ih h) (Nat.le_max_right _ _)
mutual
noncomputable def hs (w:ú):D->Int
 | .int i=>hashInt i
 | .str x=>hashStr w x
 | .tup Z=>reduceHash (ź (ja w Z))
 |_=>0
noncomputable def ja (w:ú):List D->List Int
 | []=>[]
 |k::Z=>hs w k::ja w Z
end
mutual
noncomputable def dr:D->Nat
 | .int _=>1
 | .str _=>1
 | .tup Z=>iH Z+1
 |_=>0
noncomputable def iH:List D->Nat
 | []=>0
 |k::Z=>dr k+iH Z
end
def AM (w:ú) (xs ys:List D):ja w (xs++ys)=ja w xs++ja w ys:=by
 induction xs with
 |nil=>rfl
 |cons x xs ih=>simp only [ņ,ja,ih]
def AN (xs ys:List D):iH (xs++ys)=iH xs+iH ys:=by
 induction xs with
 |nil=>simp [iH]
 |cons x xs ih=>simp only [ņ,iH,ih,Sq]
section
variable {prog:Û} {w:ú}
def HF (hu:A.units<cLine) (ho:s.heap.get? a=some o) (hc:o.cls=.type "tuple") (hd:o.data=.seq items m) (hi:cG s.heap ks items.toList)
 (ih:∀k∈ks,∀(A':ã) (s':Ã) (v:Ä) (E':Ä->Ã->Prop) (Q':Int->Ã->Prop),A'.units<=A.units+1->KA s'.heap k v->Q' (hs w k) { s' with toks:=s'.toks+dr k }->Ô (á prog w) A' (pyHash v) Q' E' s')
 (h:Q (hs w (.tup ks)) { s with toks:=s.toks+dr (.tup ks) }):Ô (á prog w) A (pyHash (.ref a)) Q E s:=by
 have Z:s.TypeIs (.ref a) "tuple":=⟨o,ho,hc⟩;unfold pyHash
 first|unfold pyHashByItsType|skip
 first|refine À (wpAny_cRoomFor_or (.inr hu) ?_)|skip
 refine À (SA Z R6.lookup ?_)
 show Ô _ _ (if (some (Value.builtin "tuple.__hash__")==some Value.none)=true then _ else _) Q E s
 rw [õ (by rw [beq_builtin_none];exact Ï)];refine À (SA Z R6.lookup ?_);show Ô _ _ (callSpecialIfBoundUnlessNone? (.ref a) "__hash__" _ >>= _) Q E s;refine À (wpAny_callSpecialIfBoundUnlessNone?_slot Z R6 (Ā R6 Z F.entry_tuple_hash ?_ (F.args_tuple_hash_1 _)));show Ô _ _ (Ł (.ref a) >>= _) _ _ s;refine À (wpAny_tupleItemsOf ho hd ?_);refine À ?_;rw [<- Array.forIn_toList];refine wpAny_forIn_list _
  (fun rest (b:Array Int) s'=>∃done left,ks=done++left/\cG s.heap left rest/\b.toList=ja w done/\s'={ s with toks:=s.toks+iH done })
  _ ?_ ?_ _ _ ⟨[],ks,rfl,hi,rfl,rfl⟩
 ·rintro x rest b s' ⟨done,left,e,Y,X,rfl⟩
  cases left with
  |nil=>cases Y
  |cons k left =>
   obtain ⟨T,S,ex,U,V⟩:=Y;cases ex
   refine À (ih k (by rw [e];simp) _ { s with toks:=s.toks+iH done } _ _ _ ?_ U ?_)
   ·exact S0 _
   ·first
     |exact Â ⟨done++[k],left,by simp [e],V,by simp [X,AM,ja],by simp [Sq,AN,iH]⟩
     |exact À (Â (Â ⟨done++[k],left,by simp [e],V,by simp [X,AM,ja],by simp [Sq,AN,iH]⟩))
 ·rintro b s' ⟨done,left,e,Y,X,rfl⟩
  cases left with
  |cons k left=>obtain ⟨_,_,ex,_⟩:=Y;cases ex
  |nil =>
  rw [ĩ] at e;subst e;simp only [hs,dr] at h;show Ô _ _ (retInt (ź b.toList)) _ _ _;rw [X];generalize ź (ja w ks)=z at h |-;refine wpAny_ret_mkInt ?_
  show Ô _ _ (if (decide (-(2:Int) ^ 63<=z)&&decide (z<2 ^ 63))=true then _ else _) Q E _
  unfold reduceHash at h;by_cases W:(decide (-(2:Int) ^ 63<=z)&&decide (z<2 ^ 63))=true
  ·rw [é W]
   rw [é W] at h;exact Â (by simpa [Sq] using h)
  ·rw [õ W]
   rw [õ W] at h;exact À (ŝ (Â (by simpa [Sq] using h)))
def Jr:∀(n:Nat) (k:D),dep k<=n->∀(A:ã) (s:Ã) (v:Ä) (E:Ä->Ã->Prop) (Q:Int->Ã->Prop),KA s.heap k v->A.units+n<cLine->Q (hs w k) { s with toks:=s.toks+dr k }->Ô (á prog w) A (pyHash v) Q E s:=by
 intro n
 induction n with
 |zero =>
  intro k Z A s v E Q q Y h
  cases k with
  |int i=>obtain ⟨t,rfl⟩:=q;exact wpAny_pyHash_int h
  |str i=>obtain ⟨t,rfl⟩:=q;exact wpAny_pyHash_str h
  |tup X=>simp [dep] at Z
  |_=>cases q
 |succ n ih =>
  intro k Z A s v E Q q Y h
  cases k with
  |int i=>obtain ⟨t,rfl⟩:=q;exact wpAny_pyHash_int h
  |str i=>obtain ⟨t,rfl⟩:=q;exact wpAny_pyHash_str h
  |tup X =>
   simp only [dep] at Z;simp only [KA] at q;obtain ⟨a,o,items,m,rfl,W,V,U,hi⟩:=q;exact HF (by omega) W V U hi (fun k T S R v P O L N M=>ih k (by have:=AL T;omega) S R v P O N (by omega) M) h
  |_=>cases q
def HG:∀(n:Nat) (k:D),dep k<=n->∀{A:ã} {s:Ã} {v:Ä} {E:Ä->Ã->Prop} {Q:Bool->Ã->Prop},KA s.heap k v->Q true s->Ô (á prog w) A (eqIsQuiet n v) Q E s:=by
 intro n
 induction n with
 |zero =>
  intro k Z A s v E Q q h
  cases k with
  |int i=>obtain ⟨t,rfl⟩:=q;rw [R7 _ rfl];exact Â h
  |str i=>obtain ⟨t,rfl⟩:=q;rw [R7 _ rfl];exact Â h
  |tup W=>simp [dep] at Z
  |_=>cases q
 |succ n ih =>
  intro k Z A s v E Q q h
  cases k with
  |int i=>obtain ⟨t,rfl⟩:=q;rw [R7 _ rfl];exact Â h
  |str i=>obtain ⟨t,rfl⟩:=q;rw [R7 _ rfl];exact Â h
  |tup W =>
   simp only [dep] at Z;simp only [KA] at q;obtain ⟨a,o,items,m,rfl,V,R,P,hi⟩:=q;have U:s.TypeIs (.ref a) "tuple":=⟨o,V,R⟩;unfold eqIsQuiet;refine À (SA U F.slot_tuple_eq.lookup ?_);show Ô _ _ (isInstance (.ref a) (.type "tuple") >>= _) _ _ s;refine À (Sj U isSubtype_tuple_tuple ?_);simp only [ğ,Î,Ē];refine À (ý V P ?_);refine À ?_;show Ô _ _ (forIn items _ _) _ _ s;rw [<- Array.forIn_toList];refine wpAny_forIn_list _ (fun rest r Y=>r.1=none/\Y=s/\∃left,cG s.heap left rest/\∀k∈left,dep k<=n) _ ?_ ?_ _ _ ⟨rfl,rfl,W,hi,fun k O=>by have:=AL O;omega⟩
   ·rintro v rest r Y ⟨X,rfl,left,T,S⟩
    cases left with
    |nil=>cases T
    |cons k left =>
     obtain ⟨K,J,ex,N,M⟩:=T;cases ex;refine À (ih k (S k Ø) N ?_);simp only [ğ,Î,Ē];exact Â ⟨rfl,rfl,left,M,fun u L=>S u (Õ _ L)⟩
   ·rintro ⟨I,H⟩ Y ⟨X,rfl,_⟩
    simp only at X;subst X;exact Â h
  |_=>cases q
def yk (h:ħ) (ks:List D) (a:Ò):Prop:=fv ks=true/\dj ks<=6/\KA h (.tup ks) (.ref a)
noncomputable instance Q8:DecidableEq (List D):=fun a b=>Classical.propDecidable (a=b)
def Lc (hu:A.units+10<cLine) (hx:yk s.heap x a) (hy:yk s.heap y b) (h:Q (decide (x=y)) s):Ô (á prog w) A (PySem.eqBool (.ref a) (.ref b)) Q E s:=by
 obtain ⟨W,N,Z⟩:=hx;obtain ⟨V,M,Y⟩:=hy;obtain ⟨as,Z⟩:=KA.reads _ _ Z;obtain ⟨bs,Y⟩:=KA.reads _ _ Y;have U:lay (.tup x)=true:=by simp only [lay];exact qL x W
 have T:lay (.tup y)=true:=by simp only [lay];exact qL y V
 obtain ⟨S,R⟩:=gX _ U;obtain ⟨P,O⟩:=gX _ T;have e:=SeqAt.eqAt_reads _ _ A s _ _ as bs Z Y S P (by rw [R,O];simp only [dep];omega);rw [mK _ _ U T] at e;refine e prog w E Q ?_;have:beq (.tup x) (.tup y)=decide (x=y):=by
  have:=ux x y W V;simp only [beq]
  cases X:gF x y with
  |true=>exact (à (this.mp X)).symm
  |false=>exact (ë fun z=>by rw [this.mpr z] at X;cases X).symm
 rw [this];exact h
def kind (prog:Û) (w:ú):HeapKind prog w (List D) where
 is:=yk
 hash:=fun X=>hs w (.tup X)
 draws:=fun X=>dr (.tup X)
 room:=fun A=>A.units+10<cLine
 inj:=fun W V=>by have:=KA.inj _ _ _ W.2.2 V.2.2;injection this
 keeps:=fun {h Q k a d o P O} x S R hs=>⟨x.1,x.2.1,KA.keep (fun b u U N Y=>(hs.2 b (fun e=>by
  subst e;rw [S] at U;cases U;obtain ⟨_,_,Y⟩:=Y;rw [R] at Y;cases Y)).trans U) _ _ x.2.2⟩
 pyHash:=fun T Z h=>Jr 7 _ (by simp only [dep];have:=Z.2.1;omega) _ _ _ _ _ Z.2.2 (by omega) h
 eqBool:=fun T W V h=>Lc T W V h
 quiet:=fun Z h=>HG 8 _ (by simp only [dep];have:=Z.2.1;omega) Z.2.2 h
end
end TK
namespace TK
open PySem PySem.W PyProof.Rows DI L2
def DX.cD (h1 h2:ħ) (h:DX a es h1) (k:∀o,h1.get? a=some o->h2.get? a=some o):DX a es h2:=by
 obtain ⟨z,o,Z,Y,X,r⟩:=h;exact ⟨z,o,Z,Y,k o X,r⟩
def AllK (w:ú) (ay:List (D×Int)):Prop:=∀p∈ay,∃Z,p.1=.tup Z/\fv Z=true/\dj Z<=6/\p.2=hs w p.1
noncomputable def its:D->List D
 | .tup Z=>Z
 |_=>[]
section
variable {X:Cx} {π:List (Ò×Obj)} {σ:L2.St} {s:Ã} {w:Wd}
mutual
theorem MD (I:Inv X π σ w.H s):∀(d:D) (v:V) (u:Ä),kd d=true->DI.DV X.K w d v->RelV v u->KA s.heap d u
 | .int i,v,u,_,h,r=>by cases h;exact r
 | .str x,v,u,_,h,r=>by cases h;exact r
 | .tup Z,v,u,k,h,r=>by
  simp only [DI.DV] at h;obtain ⟨a,Y,rfl,W,U⟩:=h;cases r;obtain ⟨its,T,⟨o,S,R,n,Q⟩,_⟩:=I.tuple W;simp only [kd] at k;simp only [KA];exact ⟨a,o,_,n,rfl,S,R,Q,Bp I Z Y _ k U (by simpa using T)⟩
 | .ao,_,_,k,_,_=>by cases k
 | .bl _,_,_,k,_,_=>by cases k
 | .lst _,_,_,k,_,_=>by cases k
 | .bo _,_,_,k,_,_=>by cases k
 | .ax _,_,_,k,_,_=>by cases k
 | .ty _,_,_,k,_,_=>by cases k
 | .bh _,_,_,k,_,_=>by cases k
 | .exc _,_,_,k,_,_=>by cases k
 | .bE _ _ _,_,_,k,_,_=>by cases k
theorem Bp (I:Inv X π σ w.H s):∀(ds:List D) (vs:List V) (us:List Ä),fv ds=true->DI.ak X.K w ds vs->Vals vs us->cG s.heap ds us
 | [],vs,us,_,h,r=>by cases h;cases r;rfl
 |d::ds,vs,us,k,h,r=>by
  obtain ⟨v,Z,rfl,Y,W⟩:=h;simp only [fv,Í] at k
  cases r with
  |cons r U=>exact ⟨_,_,rfl,MD I d v _ k.1 Y r,Bp I ds Z _ k.2 W U⟩
end
end
def C7 (w:ú) (ay:List (D×Int)) (k:D):List (D×Int):=if (ay.any fun p=>beq p.1 k)=true then ay else ay++[(k,hs w k)]
def n9 (k:AllK w ay) (hk:fv ks=true):(ay.any fun p=>beq p.1 (.tup ks))=true↔D.tup ks∈ay.map (·.1):=by
 rw [Si,ξ];constructor
 ·rintro ⟨p,Z,Y⟩
  obtain ⟨ls,e,X,_⟩:=k p Z;refine ⟨p,Z,?_⟩;exact (vq p.1 (.tup ks) (by rw [e];simpa only [kd] using X) (by simpa only [kd] using hk)).mp Y
 ·rintro ⟨p,Z,e⟩
  exact ⟨p,Z,by rw [e];exact (vq _ _ (by simpa only [kd] using hk) (by simpa only [kd] using hk)).mpr rfl⟩
section
variable {X:Cx} {Ξ:Wd->aM->Prop} {e o i:Ě} {pos ko:Pos} {f fo fi:DI.SV D}
end
end TK
namespace TK
open PySem PySem.W PyProof.Rows DI L2
def lQ (h:ħ) (d:Ò) (es:Array DictEntry) (ep:Nat):Prop:=∃o,h.get? d=some o/\o.ExactDict/\o.data=.dict es ep
section
variable {prog:Û} {w:ú} {A:ã} {E:Ä->Ã->Prop} {s:Ã} {d it:Ò} {es:Array DictEntry} {ep i:Nat}
def lQ.ty (r:lQ s.heap d es ep):s.TypeIs (.ref d) "dict":=by obtain ⟨o,Z,x,_⟩:=r;exact ⟨o,Z,x.1⟩
def lQ.lt (r:lQ h d es ep):d<h.objs.size:=by obtain ⟨o,Z,_⟩:=r;exact É Z
def lQ.at (r:lQ h d es ep) (k:∀o,h.get? d=some o->h'.get? d=some o):lQ h' d es ep:=by obtain ⟨o,Z,x⟩:=r;exact ⟨o,k o Z,x⟩
end
section
variable {X:Cx} {Ξ:Wd->aM->Prop}
end
open HT
section
variable {s:Ã}
def ME (kx:kd x=true) (ky:kd y=true) (hu:A.units+dep x<cLine) (hx:KA s.heap x vx) (hy:KA s.heap y vy):SeqAt.EqAt A s vx vy (beq x y):=by
 obtain ⟨as,Z⟩:=KA.reads _ _ hx;obtain ⟨bs,Y⟩:=KA.reads _ _ hy;obtain ⟨X,W⟩:=gX _ (oo _ kx);obtain ⟨V,U⟩:=gX _ (oo _ ky);have:=SeqAt.eqAt_reads _ _ A s vx vy as bs Z Y X V (by rw [W];omega);rw [mK _ _ (oo _ kx) (oo _ ky)] at this;exact this
mutual
theorem MF:∀(A:ã) (x y:D) (b:Bool) (vx vy:Ä),mm x y=some b->kd x=true->kd y=true->A.units+5*dep x+5<cLine->KA s.heap x vx->KA s.heap y vy->xa A s vx vy b
 |A,.int i,y,b,vx,vy,h,_,_,_,Z,Y=>by
  cases y with
  |int j =>
   cases h;obtain ⟨t,rfl⟩:=Z;obtain ⟨X,rfl⟩:=Y;exact fun prog w E Q q=>zS A s i t j X prog w E Q q
  |_=>cases h
 |A,.str i,y,b,vx,vy,h,_,_,_,Z,Y=>by
  cases y with
  |str j =>
   cases h;obtain ⟨t,rfl⟩:=Z;obtain ⟨X,rfl⟩:=Y;exact fun prog w E Q q=>(PyProof.Rows.lt_str q:Ô (á prog w) A (Ć .Lt (.str i t) (.str j X)) Q E s)
  |_=>cases h
 |A,.tup U,y,b,vx,vy,h,W,ky,T,Z,Y=>by
  cases y with
  |tup S =>
   simp only [mm] at h;simp only [KA] at Z Y;obtain ⟨a,o,its,n,rfl,R,P,O,r⟩:=Z;obtain ⟨G,N,V,M,rfl,L,K,J,I⟩:=Y;simp only [dep] at T;simp only [kd] at W ky;exact fun prog w E Q q=>AH ⟨o,R,P,n,O⟩ ⟨N,L,K,M,J⟩ (fun H F=>Bq H U S b _ _ h W ky (by omega) r I) (by omega) q
  |_=>cases h
 |_,.ao,_,_,_,_,_,k,_,_,_,_=>by cases k
 |_,.bl _,_,_,_,_,_,k,_,_,_,_=>by cases k
 |_,.lst _,_,_,_,_,_,k,_,_,_,_=>by cases k
 |_,.bo _,_,_,_,_,_,k,_,_,_,_=>by cases k
 |_,.ax _,_,_,_,_,_,k,_,_,_,_=>by cases k
 |_,.ty _,_,_,_,_,_,k,_,_,_,_=>by cases k
 |_,.bh _,_,_,_,_,_,k,_,_,_,_=>by cases k
 |_,.exc _,_,_,_,_,_,k,_,_,_,_=>by cases k
 |_,.bE _ _ _,_,_,_,_,_,k,_,_,_,_=>by cases k
theorem Bq:∀(A:ã) (xs ys:List D) (b:Bool) (ps qs:List Ä),nk xs ys=some b->fv xs=true->fv ys=true->A.units+5*dj xs+5<cLine->cG s.heap xs ps->cG s.heap ys qs->gY A s ps qs b
 |A,[],ys,b,ps,qs,h,_,_,_,V,Z=>by
  cases V
  cases ys with
  |nil=>cases h;cases Z;exact .nn
  |cons y ys=>cases h;obtain ⟨v,r,rfl,_⟩:=Z;exact .nc _ _
 |A,x::xs,ys,b,ps,qs,h,Y,ky,T,V,Z=>by
  obtain ⟨v,r,rfl,U,S⟩:=V
  cases ys with
  |nil=>cases h;cases Z;exact .cn _ _
  |cons y ys =>
   obtain ⟨u,R,rfl,g1,g2⟩:=Z;simp only [fv,Í] at Y ky;simp only [dj] at T;have Q:=Nat.le_max_left (dep x) (dj xs);have P:=Nat.le_max_right (dep x) (dj xs);have X:=ME (A:=A) Y.1 ky.1 (by omega) U g1;simp only [nk] at h;split at h
   ·rename_i W
    rw [W] at X;exact .eq X (Bq A xs ys b _ _ h Y.2 ky.2 (by omega) S g2)
   ·rename_i W
    rw [Sm] at W;rw [W] at X;exact .lt X (MF A x y b _ _ h Y.1 ky.1 (by omega) U g1)
end
end
section
variable {prog:Û} {w:ú} {A:ã} {E:Ä->Ã->Prop} {s:Ã}
end
inductive Pg where
 |made (m d:Int) (h l:List Int)
 |N7 (m d k:Int)
noncomputable def ti (l:List Int):D:=.tup (l.map D.int)
def Pg.d:Pg->D
 | .made m d h l=>.tup [.str "made",.int m,.int d,.tup [ti h,ti l]]
 | .N7 m d k=>.tup [.str "mended",.int m,.int d,.int k]
section
variable {prog:Û} {w:ú} {A:ã} {E:Ä->Ã->Prop} {s:Ã}
end
end TK
namespace TK
open PySem PySem.W PyProof.Rows DI L2
open Classical in
section
variable {X:Cx} {Ξ:Wd->aM->Prop}
end
section
variable {prog:Û} {w:ú} {A:ã} {E:Ä->Ã->Prop} {s:Ã}
end
section
variable {X:Cx} {Ξ:Wd->aM->Prop} {e:Ě} {te:TE} {pos p2 p4:Pos} {f:DI.SV D}
end
end TK
namespace DI
open PySem L2
section
variable {X:Cx} {Ξ:Wd->aM->Prop} {el tg src Pd N2:Ě} {tests K4:List Ě} {sc:ε} {ps pos:Pos} {N:List Str} {nt:Nat} {cap:List Nat} {it xI:SV (List D)} {gd Pe:D->Env->Option Env} {g0 Pf:TG} {sl cJ:List Nat} {ft kE:SV Bool} {f:SV D}
end
open Classical in
def gP (nt:Nat) (aB:Env) (g:D->Env->Option Env) (t:SV Bool) (f:SV D) (γ:aa->Prop):List D->aa->Res (List D)
 | [],s=>if γ s then ok [] s else none
 |d::Z,s=>if γ s then (match g d (Ñ nt none++aB) with
  |none=>none
  |some env=>aj (ne (t env s)) fun b s=>if b=true then aj (ne (f env s)) fun x s=>aj (gP nt aB g t f γ Z s) fun Y s=>ok (x::Y) s
   else gP nt aB g t f γ Z s) else none
def oq (nt:Nat) (cap:List Nat) (it:SV (List D×(aa->Prop))) (g:D->Env->Option Env) (t:SV Bool) (f:SV D):SV D:=fun env s =>
 aj (it env s) fun p s=>fF p.1 (aj (gP nt (eD cap env) g t f p.2 p.1 s) fun Z s=>ok (.lst Z) s)
def DW (K:ĉ) (w:Wd) (J:It) (ds:List D) (γ:aa->Prop):Prop:=∀Z,Le K w Z->aA K Z->γ Z.aq->∀i,
 (∀d,ds[i]?=some d->J.go i Z.H/\∀x X,J.pH i Z.H x X->∃Y,Y.H=X/\Le K Z Y/\aA K Y/\Y.aq=Z.aq/\DV K Y d x)/\(ds.length<=i->J.stop i Z.H)
def ph (K:ĉ) (Ξ:Wd->aM->Prop) (f:SV (List D×(aa->Prop))):TI:=fun σ H R=>∃w env,w.H=H/\aA K w/\bL K w env σ/\Out K Ξ w (f env w.aq) fun Z p=>∀J,DW K Z J p.1 p.2->R J Z.H
section
variable {K:ĉ} {Ξ:Wd->aM->Prop}
def FI (σ:St) (H:Hp) (Q:VK) :
  tE K Ξ (oq nt cap it g ft f) σ H Q->lA (ph K Ξ it) nt cap (gD K g) (tT K bF ft) (tE K bF f) σ H Q:=by
 rintro ⟨w,env,rfl,S,r,h⟩;refine ⟨w,env,rfl,S,r,(Out.aj h).mono fun D p l1 S1 C J n=>?_⟩;obtain ⟨V,F⟩:=p;obtain ⟨l,C⟩:=nX C;have l:V.length<=Ö:=l;refine ⟨fun i m T k=>m=V.length-i/\i<=V.length/\T.length<=i/\∃Y R,Y.H=k/\Le K D Y/\aA K Y/\ak K Y R T/\Out K Ξ Y (gP nt (eD cap env) g ft f F (V.drop i) Y.aq) fun W M=>∀U,ak K W (R++M) U->∀p,W.H p=none->Q (.ref p) (upd W.H p (.lst U)),
  ⟨V.length,rfl,ċ _,ċ _,D,[],rfl,Le.refl _,S1,rfl,(Out.aj C).mono fun W M O L h2 U E p P=>?_⟩,?_⟩
 ·exact h2 (W.grow p (.lst U)) (Fw.grow P).le (L.grow P) rfl (.ref p) ⟨p,U,rfl,⟨(show ¬ W.Z p from kY L P),bS⟩,(Fw.grow P).le.all E⟩
 rintro i m T k ⟨rfl,hi,ha,Y,R,rfl,I,B,A,X⟩;by_cases z:i<V.length
 ·right
  rw [Ź z] at X;unfold gP at X;by_cases N:F Y.aq
  ·rw [é N] at X
   obtain ⟨jL,hy⟩:=(n Y I B N i).1 _ (Ì z)
   cases u:g V[i] (Ñ nt none++eD cap env) with
   |none=>rw [u] at X;exact X.elim
   |some t =>
    rw [u] at X;refine ⟨jL,by omega,fun s j=>s.length<=i+1/\∃Y R,Y.H=j/\Le K D Y/\aA K Y/\ak K Y R s/\Out K Ξ Y (gP nt (eD cap env) g ft f F (V.drop (i+1)) Y.aq) fun W M=>∀U,ak K W (R++M) U->∀p,W.H p=none->Q (.ref p) (upd W.H p (.lst U)),
     fun s j ⟨xY,q⟩=>⟨V.length-(i+1),by omega,rfl,z,xY,q⟩,fun o x H3 ho y=>?_⟩
    obtain ⟨W,rfl,O,L,es,dv⟩:=hy x H3 y;refine ⟨W,_,V[i],t,rfl,L,(r.le (l1.trans (I.trans O))).block nt cap o ho,dv,u,fun lW c=>?_⟩;rw [<- es] at X;refine ⟨W,t,rfl,L,c,(Out.aj (X.from O)).ne.mono fun a b G S3 h3=>?_⟩
    cases b with
    |true =>
     refine ⟨a,t,rfl,S3,c.le G,(Out.aj h3).ne.mono fun w4 d l4 S4 h4 v p0=>⟨by rw [ð];simp;omega,w4,R++[d],rfl,I.trans (O.trans (G.trans l4)),S4,ak.append ((O.trans (G.trans l4)).all A) (ak.one p0),(Out.aj h4).mono fun w5 M l5 S5 h5 U E p P=>?_⟩⟩;exact ar S5 h5 U (by rw [ŭ] at E;exact E) p P
    |false =>
     exact ⟨by omega,a,R,rfl,I.trans (O.trans G),S3,(O.trans G).all A,h3⟩
  ·rw [õ N] at X
   exact X.elim
 ·left
  have e:i=V.length:=by omega
  subst e;rw [List.drop_length] at X;unfold gP at X;by_cases N:F Y.aq
  ·rw [é N] at X
   exact ⟨(n Y I B N _).2 (S0 _),by omega,fun p P=>ar B X T (by rw [ĩ];exact A) p P⟩
  ·rw [õ N] at X
   exact X.elim
def Gx (R R':It->Hp->Prop) (i:∀J H',R J H'->R' J H') (h:ph K Ξ it σ H R):ph K Ξ it σ H R':=by
 obtain ⟨w,env,Z,S,Y,h⟩:=h;exact ⟨w,env,Z,S,Y,h.mono fun V p _ _ X J W=>i J _ (X J W)⟩
def Js (h:DV K w x (.ref a)) (g:DV K w y (.ref b)):DW K w (NN K a b) (dX ds es) fun s=>res x s=.lst ds/\res y s=.lst es:=fun D U Z T i=>by
 obtain ⟨p,Y,e,X,S⟩:=eU Z (U _ _ h) T.1;obtain ⟨q,W,N,V,R⟩:=eU Z (U _ _ g) T.2;cases e;cases N;refine ⟨fun d M=>?_,fun L=>⟨Y,W,aR.of X,aR.of V,?_⟩⟩
 ·obtain ⟨x,y,e1,e2,rfl⟩:=z0 M
  obtain ⟨v,ev,J⟩:=S.get' i x e1;obtain ⟨u,Q,I⟩:=R.get' i y e2;refine ⟨⟨Y,W,v,u,aR.of X,aR.of V,ev,Q⟩,fun z C ⟨r,B,y1,H,G,F,E⟩=>?_⟩;obtain ⟨P,O⟩:=E Y W (aR.of X) (aR.of V);rw [ev] at P;rw [Q] at O;cases P;cases O;subst G F;exact zN Z H J I
 ·rw [qK] at L
  have:=S.length;have:=R.length;omega
end
def pk (ds:List D) (s:aa):Res (List D×(aa->Prop)):=match ds with
 | [x,y]=>match res x s,res y s with
  | .tup Z,.tup Y=>ok (dX Z Y,fun _=>True) s
  | .lst Z,.lst Y=>ok (dX Z Y,fun s=>res x s=.lst Z/\res y s=.lst Y) s
  |_,_=>none
 |_=>none
def jq (fa:SV (List D)):SV (List D×(aa->Prop)):=fun env s=>aj (fa env s) pk
section
variable {X:Cx} {Ξ:Wd->aM->Prop} {a b:Ě} {fa:SV (List D)} {pos:Pos}
def Ld {p:Pos} {elts:List Ě} {kk:Nat} {lJ:Pos} (hg:Gl X "zip") (hm:X.mg "zip"=none) (ha:PA X [a,b] (tA X.K Ξ fa)) (hs:Æ [a,b] X.env=[(false,ĺ a X.env),(false,ĺ b X.env)]:=by rfl) (dE:Æ [b] X.env=[(false,ĺ b X.env)]:=by rfl) :
  PI X (.Tuple elts kk lJ) (.Call (.Name "zip" p) [a,b] [] pos) (ph X.K Ξ (jq fa)):=by
 intro Q s σ H R I V;obtain ⟨w,env,C,S,P,h⟩:=V;subst C
 cases Z:fa env w.aq with
 |none=>rw [show jq fa env w.aq=none by unfold jq;rw [Z];rfl] at h;exact h.elim
 |some r =>
  obtain ⟨r,F⟩:=r
  cases r with
  |error x =>
   rw [show jq fa env w.aq=some (.error x,F) by unfold jq;rw [Z];rfl] at h;refine uO hg hm ha hs dE Q s σ w.H R I ⟨w,env,rfl,S,P,?_⟩;rw [Z];exact h
  |ok B =>
   have A:jq fa env w.aq=pk B F:=by unfold jq;rw [Z];rfl
   rw [A] at h;unfold pk at h;split at h
   ·rename_i x y
    split at h
    ·rename_i t o ex O
     have e1:=cz ex (by intro _ z;cases z);have e2:=cz O (by intro _ z;cases z);refine uO hg hm ha hs dE Q s σ w.H R I ⟨w,env,rfl,S,P,?_⟩;rw [Z];intro N le U T n M;obtain ⟨v,u,rfl,Y,W⟩:=mL M;rw [e1] at Y;rw [e2] at W;have E:=Y;have D:=W;simp only [DV] at E D;obtain ⟨p,L,rfl,V,_⟩:=E;obtain ⟨q,J,rfl,G,_⟩:=D;exact ⟨p,q,L,J,rfl,V,G,h N le U T _ fun m l k _ i=>z3 Y W m l k i⟩
    ·rename_i t o ex O
     refine IW hg hm ha hs dE Q s σ w.H R I ⟨w,env,rfl,S,P,?_⟩;rw [Z];intro N le U T n M;obtain ⟨v,u,rfl,Y,W⟩:=mL M;obtain ⟨p,L,rfl,V,_⟩:=eU U Y (by rw [T];exact ex);obtain ⟨q,J,rfl,G,_⟩:=eU U W (by rw [T];exact O);exact ⟨p,q,L,J,rfl,aR.of V,aR.of G,h N le U T _ (Js Y W)⟩
    ·exact h.elim
   ·exact h.elim
def HH (hc:X.calm=true) (S:lh X sc N nt cap) (T:Tg X.K g0 gd nt) (hi:PI X tg src (ph X.K Ξ it))
 (hY:∀(cl:List (Str×Ò)) (C:Ò) (s:Ã) (H:Hp) (ex:List Ò) (pn:List (Ò×Obj)),PG (cO X N sc cl C s H ex pn) tg g0/\PF (cO X N sc cl C s H ex pn) tests (tT X.K bF ft)/\PE (cO X N sc cl C s H ex pn) el (tE X.K bF f))
 (hs:∀x,į src X.env x=pure x:=by intro _;rfl):PE X (.ListComp el [⟨tg,src,tests,0⟩] sc ps) (tE X.K Ξ (oq nt cap it gd ft f)) :=
 bI (uw hc S T.nK hi hY hs) fun σ H Q h=>tQ T.imp (fun R Z i h=>Gx R Z i h) (FI σ H Q h)
end
end DI
namespace L2
open PySem PySem.Spec PyProof.Rows
structure jc (P:Û) (w:ú) (outer:List Env) (H:Hp) (s:Ã) (H':Hp) (B:ħ) (a:Ò) (cls a0:Ä) (h:ħ):Prop where
 fl:Heap.FlyingW B outer a cls a0 h
 old:∀b o,s.heap.get? b=some o->H b=none->b∉bD outer->B.get? b=some o
 there:∀b o,s.heap.get? b=some o->b∉bD outer->∃o',B.get? b=some o'
 slot:∀b o,s.heap.get? b=some o->b∈bD outer->∃sl,h.get? b=some { o with slots:=sl }
 au:bC P w H' B
 free:∀b o,s.heap.get? b=some o->H b=none->H' b=none
 cT:∀b xs,H b=some (.tup xs)->H' b=some (.tup xs)
 cH:∀b o u,H b=some (.aN o u)->H' b=some (.aN o u)
 cU:∀b ps,H b=some (.cu ps)->∃more,H' b=some (.cu (ps++more))
def et (P:Û) (w:ú):fZ:=fun outer H s E e Z=>∃a cls X Y B,e=.ref a/\Z.os=s.os/\SO Z.gens/\jc P w outer H s Y B a cls X Z.heap/\E cls none Y
section
variable {P:Û} {w:ú} {outer:List Env} {H H':Hp} {s:Ã} {B h h':ħ} {a:Ò} {cls a0:Ä}
def jc.un (F:jc P w outer H s H' B a cls a0 h):Un (bD outer) [] H H' s.heap h where
 keep:=fun b o e n Z _=>F.fl.1 b o (F.old b o e n Z)
 slot:=fun b o e n Z _=>F.slot b o e Z
 free:=fun b o e n _=>F.free b o e n
 there:=fun b o e _=>by
  by_cases Z:b∈bD outer
  ·obtain ⟨X,q⟩:=F.slot b o e Z
   exact ⟨_,q⟩
  ·obtain ⟨Y,q⟩:=F.there b o e Z
   exact ⟨Y,F.fl.1 b Y q⟩
 cT:=F.cT
 cH:=F.cH
 cU:=F.cU
def jc.held (F:jc P w outer H s H' B a cls a0 h):bC P w H' h:=F.au.kept fun b o e=>F.fl.1 b o e
def jc.on (F:jc P w outer H s H' B a cls a0 h) (hf:Heap.FlyingW B outer a cls a0 h') (hs:h.UpToSlots h'):jc P w outer H s H' B a cls a0 h' :=
 { F with
  fl:=hf
  slot:=fun b o e Z=>by
   obtain ⟨U,q⟩:=F.slot b o e Z;obtain ⟨_,T,Y,X⟩:=F.fl.2.2.1.mem Z;rw [q] at Y;cases Y;obtain ⟨W,V⟩:=hs b _ q X;exact ⟨W,V⟩ }
def ck.MG {o:HO} (x:ck P w H h a o):∃ob,h.get? a=some ob:=by
 cases o with
 |lst Z=>obtain ⟨_,_,_,_,e⟩:=x;exact ⟨_,e⟩
 |tup Z=>obtain ⟨_,_,_,ob,e,_⟩:=x;exact ⟨ob,e⟩
 |dK Y=>obtain ⟨_,_,_,_,o,_,_,e,_⟩:=x;exact ⟨_,e⟩
 |dT Y=>obtain ⟨_,_,_,_,o,_,_,e,_⟩:=x;exact ⟨_,e⟩
 |set S n=>obtain ⟨o,_,_,_,e,_⟩:=x;exact ⟨_,e⟩
 |ins C X fs=>obtain ⟨_,_,_,e,_⟩:=x;exact ⟨_,e⟩
 |own y=>exact x
 |xd fs=>obtain ⟨_,⟨_,_,_,e,_⟩,_⟩:=x;exact ⟨_,e⟩
 |cb lo hi=>obtain ⟨_,_,_,e⟩:=x;exact ⟨_,e⟩
 |aN ob u=>obtain ⟨e,_⟩:=x;exact ⟨_,e⟩
 |cu W=>exact ⟨_,x⟩
 |met f y=>exact ⟨_,x⟩
 |ext V=>obtain ⟨_,e,_⟩:=x;exact e
def jc.new (F:jc P w outer H s H' B a cls a0 h):H' a=none:=by
 cases e:H' a with
 |none=>rfl
 |some o =>
  obtain ⟨Y,Z⟩:=(F.au a o e).MG;rw [F.fl.2.1] at Z;cases Z
end
structure Lv (X:Cx) (E:XK):Prop where
 xe:X.xe=fun e s'=>Ô (á X.prog X.w) X.A (leaving X.env e) (fun _ fM=>et X.prog X.w X.outer X.iQ X.bQ E e fM) (fun e' fM=>et X.prog X.w X.outer X.iQ X.bQ E e' fM) s'
 gG:X.stack=X.env::X.outer
 fr:X.env.frame=some X.env.locals
 ex:X.ex=[]
section
variable {X:Cx} {E:XK} {π:List (Ò×Obj)} {σ:St} {H:Hp} {s:Ã}
def Inv.rp (I:Inv X π σ H s) (L:Lv X E) {b:Ò} {o:Obj} (e:X.bQ.heap.get? b=some o) (hb:b∉bD X.outer):b∉bD X.stack:=fun z=>by
 rcases Ù.mp (I.kU b z) with q|q
 ·exact absurd (É e) (by rw [q];exact Nat.not_lt.mpr I.ok.above)
 ·exact hb q
def uy (L:Lv X E) {b:Ò} (hb:b∈bD X.outer):b∈bD X.stack:=by
 rw [L.gG];unfold bD;rw [ζ,L.fr];exact Õ _ hb
def ot (L:Lv X E):Passes (et X.prog X.w) X E:=by
 intro π σ H s e G I h;obtain ⟨a,cls,T,S,B,rfl,os,bare,F,q⟩:=h;rw [L.xe];have fl:=F.fl;rw [L.gG] at fl;refine wpAny_leaves_onW (by rw [I.ok.frames,L.gG]) L.fr fl fun D R Q=>⟨a,cls,T,S,B,rfl,os.trans I.os,bare,⟨R,fun b o e n Z=>?_,fun b o e Z=>?_,fun b o e Z=>?_,F.au,fun b o e n=>?_,fun b V e=>F.cT b V (I.base.cT b V e),fun b o u e=>F.cH b o u (I.base.cH b o u e),fun b P e=>?_⟩,q⟩
 ·exact F.old b o (I.base.keep b o e n Z (by rw [L.ex];simp)) (I.base.free b o e n (by rw [L.ex];simp)) (I.rp L e Z)
 ·obtain ⟨W,Y⟩:=I.base.there b o e (by rw [L.ex];simp)
  exact F.there b W Y (I.rp L e Z)
 ·obtain ⟨C,Y⟩:=I.base.slot b o e (I.ok.gH b Z) Z (by rw [L.ex];simp)
  obtain ⟨A,e2⟩:=F.slot b _ Y (uy L Z);obtain ⟨_,z,U,O⟩:=F.fl.2.2.1.mem (uy L Z);rw [e2] at U;cases U;obtain ⟨N,M⟩:=Q b _ e2 O;exact ⟨N,M⟩
 ·obtain ⟨W,Y⟩:=I.base.there b o e (by rw [L.ex];simp)
  exact F.free b W Y (I.base.free b o e n (by rw [L.ex];simp))
 ·obtain ⟨K,e1⟩:=I.base.cU b P e
  obtain ⟨J,e2⟩:=F.cU b _ e1;exact ⟨K++J,by rw [e2,Array.append_assoc]⟩
def FJ (L:Lv X E) (I:Inv X π σ H s) {h1:ħ} {e:Ò} {cls:Ä} {us:List Ä} (hm:Heap.MadeExcOf s.heap h1 e cls us) (q:E cls none H):X.xe (.ref e) { s with heap:=h1 }:=by
 rw [L.xe];have V:=I.stack;have U:∀b u,H b=some u->b∉bD X.stack:=fun b u e z=>by rw [I.qP b z] at e;cases e
 refine wpAny_leaves_madeW (base:=PySem.W.hideAll s.heap (bD X.stack)) (h:=s.heap) (env:=X.env) (outer:=X.outer) (by rw [I.ok.frames,L.gG]) L.fr (fun b o e=>PySem.W.of_hideAll _ e) ?_ hm fun J t S _ _ R=>⟨e,cls,_,H,PySem.W.hideAll s.heap (bD X.stack),rfl,I.os,I.bare,⟨S,fun b o e n Z=>?_,fun b o e Z=>?_,fun b o e Z=>?_,fun b u e=>?_,fun b o e n=>I.base.free b o e n (by rw [L.ex];simp),I.base.cT,I.base.cH,I.base.cU⟩,q⟩
 ·rw [<- L.gG]
  refine PySem.W.funFrames_hide V fun env Q a P=>?_;unfold bD;exact ψ.mpr ⟨env,Q,P⟩
 ·exact δ _ (I.base.keep b o e n Z (by rw [L.ex];simp)) (I.rp L e Z)
 ·obtain ⟨O,Y⟩:=I.base.there b o e (by rw [L.ex];simp)
  exact ⟨O,δ _ Y (I.rp L e Z)⟩
 ·obtain ⟨G,Y⟩:=I.base.slot b o e (I.ok.gH b Z) Z (by rw [L.ex];simp)
  obtain ⟨_,F,T,N⟩:=V.mem (uy L Z);rw [Y] at T;cases T;obtain ⟨M,K⟩:=R b _ (hm.keeps b _ Y) N;exact ⟨M,K⟩
 ·refine (I.au b u e).cD (fun c v hc z=>δ _ z ?_) (fun _ z=>z) fun _ _ z=>z
  rcases hc with rfl|hc
  ·exact U c _ e
  ·exact U c _ hc
def Lf (X:Cx) (M:Mod X.K X.mg X.base) {x:Str} {C:Ò} {nM:List Ä} {newId:String} (eC:ï X.K Ó x=some (some (.ref C))) (qC:SR X.K C nM newId=true):OwnCls x C nM newId X.mg X.base:=by
 have KB:=M.iu;refine ⟨RP KB M.glob eC,?_⟩;unfold SR at qC;split at qC
 case h_2=>cases qC
 rename_i P cd Y O;split at qC
 case h_2=>cases qC
 rename_i H bm V a1 a2 U nw T S hs;simp only [Í,beq_iff_eq,Bool.not_eq_true'] at qC;obtain ⟨⟨⟨⟨⟨N,L⟩,R⟩,J⟩,Z⟩,Q⟩:=qC;subst N L;cases cd;dsimp only at S R Z Q;subst S R;have I:Y=#[V,a1,a2,U,some (.builtin nw),T]:=by cases Y;simp only at hs;rw [hs]
 subst I;exact ⟨bm,_,_,_,_,_,_,_,_,_,P,V,a1,a2,U,T,_,KB _ _ O,.of_isNs (PySem.W.isNs_of_in KB Z),PySem.W.nsMap_none_of_in KB Z Q,PySem.W.tail_of_in KB J⟩
def HJ {x:Str} {C:Ò} {nM:List Ä} {B newId Lg:String} {np aY pos:Pos} {jB:Ě} {rest:List Ě} {t:TA} (L:Lv X E) (eC:ï X.K Ó x=some (some (.ref C))) (qC:SR X.K C nM newId=true) (FB:ExcBaseFacts B newId Lg nM) (hc:X.calm=true) (hg:Gl X x) (ha:PA X (jB::rest) t) (hd:(x==("__debug__":Str))=false:=by decide)
  (he:Æ (jB::rest) X.env=(false,ĺ jB X.env)::Æ rest X.env:=by rfl) (gW:(Ġ aY (Æ rest X.env)).any (·.1)=false:=by rfl) :
  PS X (.Raise (some (.Call (.Name x np) (jB::rest) [] aY)) none pos) (fun _ σ H=>t σ H fun vs H1=>vs.length<=Ö/\E (.ref C) none H1):=by
 intro π s σ H D I h;have O:OwnCls x C nM newId X.mg X.base:=Lf X I.ok.mod eC qC;obtain ⟨W,N,nm,q,bs,hdct,sn,sub,ab,col,dd,k0,k1,k2,k3,k5,mN,V,U,S,T⟩:=O.obj;refine wpAny_Raise_call_subT (C:=C) (nm:=nm) (q:=q) (N:=N) (bs:=bs) (bm:=W) (hdct:=hdct) (sn:=sn) (sub:=sub) (ab:=ab) (col:=col) (dd:=dd) (k0:=k0) (k1:=k1) (k2:=k2) (k3:=k3) (k5:=k5)
  FB (mN:=mN) (T.hasType FB.hasBase) (I.ok.hd hc) (by rw [he];show (false||(Ġ aY (Æ rest X.env)).any (·.1))=false;rw [gW];rfl) S (mB I hg O.bound ⟨rfl,?_⟩ hd)
 have Y:=ha aY π s σ H _ I h;rw [he] at Y |-;refine Calls.evalArgs_plain (aE Y fun P M ⟨vs,H1,Z,r,z,R⟩=>⟨rfl,by rw [<- r.length];exact z,Z.bk _ _ V,U.keeps Z.bk,T.keeps Z.bk,fun J e Q=>?_⟩);exact FJ L Z Q R
end
end L2
namespace DI
open PySem L2
abbrev GG (K:ĉ) (mg:Str->Option Ä) (x:Str) (st:SH) (ps:List Str):Prop:=∃f fd,Gd K mg x st ps f fd
abbrev dI (P:Û) (w:ú) (K:ĉ) (mg:Str->Option Ä) (base:ħ) (x:Str) (st:SH) (ps:List Str) (k:Nat) (fn:List D->aa->Res D):Prop:=∀{f:Ò} {fd:č},Gd K mg x st ps f fd->bT P w K mg base cg k f fd ps (gg K fn)
noncomputable def lR (N ps:List Str) (sc:ε):Bool:=decide (sc.kind=.function)&&!sc.isCoroutine&&!sc.isGenerator&&decide N.Nodup&&decide (N.take ps.length=ps)&&ps.all (fun x=>decide (sc.names.lookup x=some .local\/sc.names.lookup x=some .cell))&&sc.names.all (fun y=>decide (y.2≠.free))
def iL (h:lR N ps sc=true):kQ N ps sc:=by
 unfold lR at h;simp only [Í,Bool.not_eq_true',ß,ĭ] at h;obtain ⟨⟨⟨⟨⟨⟨Z,Y⟩,X⟩,W⟩,V⟩,U⟩,T⟩:=h;exact ⟨Z,Y,X,W,V,U,T⟩
def dR (G:Gd K mg x st ps f fd) (N:List Str) (S:lR N ps (bN st)=true)
 (hb:N.Nodup->∀(aG:Ä) (A:ã) (outer:List PySem.Env) (s:Ã) (H:Hp) (E:XK),bp k (A.deeper (ı x (bN st) s.heap.objs.size f aG))->bV (fc cg P w K mg base N x (bN st) f aG A outer s H E).jG (fB st) (tS K bF b)) :
  bT P w K mg base cg (k+1) f fd ps (gg K (aP ps.length N.length b)):=B2 G.fn (iL S) (hb (iL S).nd)
section
variable {X:Cx} {Ξ:Wd->aM->Prop} {e a b c tg el src:Ě} {es rest tests:List Ě} {pos:Pos} {f g h:SV D} {fa:SV (List D)} {ft gt:SV Bool}
def bB {k n:Nat} {x:Str} {st:SH} {ps:List Str} {fn:List D->aa->Res D} {p:Pos} (G:GG X.K X.mg x st ps) (F:dI X.prog X.w X.K X.mg X.base x st ps k fn) (hr:bp n X.A) (ha:PA X (e::es) (tA X.K Ξ fa)) (hk:k<=n:=by decide) (hg:Gl X x:=by rfl) (cf:(x==("__debug__":Str))=false:=by decide)
  (he:Æ (e::es) X.env=(false,ĺ e X.env)::Æ es X.env:=by rfl) (aZ:(Ġ pos (Æ es X.env)).any (·.1)=false:=by rfl):PE X (.Call (.Name x p) (e::es) [] pos) (tE X.K Ξ (aU fn fa)):=by
 obtain ⟨f,fd,G⟩:=G;exact rg (F G) (hr.mono hk) hg G.mg G.fn.kp G.b ha cf he aZ
def aI (ha:PE X a (tE X.K Ξ f)) (hs:Æ [a] X.env=(false,ĺ a X.env)::Æ [] X.env:=by rfl):PA X [a] (tA X.K Ξ (af f ai)):=bJ ha cR hs
def bc (ha:PE X a (tE X.K Ξ f)) (hb:PE X b (tE X.K Ξ g)) (h1:Æ [a,b] X.env=(false,ĺ a X.env)::Æ [b] X.env:=by rfl) (h2:Æ [b] X.env=(false,ĺ b X.env)::Æ [] X.env:=by rfl):PA X [a,b] (tA X.K Ξ (af f (af g ai))):=bJ ha (bJ hb cR h2) h1
def vt (ha:PE X a (tE X.K Ξ f)) (hb:PE X b (tE X.K Ξ g)) (hc:PE X c (tE X.K Ξ h)) (h1:Æ [a,b,c] X.env=(false,ĺ a X.env)::Æ [b,c] X.env:=by rfl) (h2:Æ [b,c] X.env=(false,ĺ b X.env)::Æ [c] X.env:=by rfl) (h3:Æ [c] X.env=(false,ĺ c X.env)::Æ [] X.env:=by rfl):PA X [a,b,c] (tA X.K Ξ (af f (af g (af h ai)))):=bJ ha (bJ hb (bJ hc cR h3) h2) h1
def jC {x:Str} {px:Pos} {sc:ε} {ps:Pos} (N:List Str) {cap:List Nat} {it:SV (List D)} (hi:PI X (.Name x px) src (gk X.K Ξ it))
  (hY:∀(cl:List (Str×Ò)) (C:Ò) (s:Ã) (H:Hp) (ex:List Ò) (pn:List (Ò×Obj)),PF (cO X N sc cl C s H ex pn) tests (tT X.K bF ft)/\PE (cO X N sc cl C s H ex pn) el (tE X.K bF f))
  (hc:X.calm=true:=by rfl) (S:vp sc X.env.scope.names X.N N 1 cap=true:=by kernel_rfl) (nd:N.Nodup:=by decide +kernel) (h0:N[0]?=some x:=by rfl) (hx:∀cl C s H ex pn,(cO X N sc cl C s H ex pn).env.scope.names.lookup x=some .local:=by intros;rfl) (hs:∀x,į src X.env x=pure x:=by intro _;rfl) :
  PE X (.ListComp el [⟨.Name x px,src,tests,0⟩] sc ps) (tE X.K Ξ (dP 1 cap it (gN 0) ft f)) :=
 AK hc (rV S) (AB 0) hi (fun cl C s H ex pn=>⟨kP nd h0 (.inl (hx cl C s H ex pn)) (.inr (hx cl C s H ex pn)),hY cl C s H ex pn⟩) hs
end
def gv (mg:Str->Option Ä) (E:XK):Wd->aM->Prop:=fun w x=>x.many=none/\∃C,mg x.c=some (.ref C)/\E (.ref C) none w.H
def nN (mg:Str->Option Ä) (K:ĉ) (f:List D->aa->Res D):Sp:=fun X H Q E=>∃w Z,w.H=H/\aA K w/\ak K w Z X/\Out K (gv mg E) w (f Z w.aq) fun Y d=>∀v,DV K Y d v->Q v Y.H
def vv (c:Str) (fa:SV (List D)):SV Fl:=fun env s=>aj (fa env s) fun Z s=>if decide (Z.length<=10)=true then some (.error ⟨c,none⟩,s) else none
def sC (K:ĉ) (mg:Str->Option Ä) (x:Str):Prop:=∃C,ï K Ó x=some (some (.ref C))/\mg x=some (.ref C)/\SR K C [.type "ValueError",.type "Exception",.type "BaseException",.type "object"] "ValueError.__new__"=true
def dM (fn:List D->aa->Res D) (fa:SV (List D)):SV D:=fun env s=>aj (fa env s) fn
section
variable {X:Cx} {E:XK} {Ξ:Wd->aM->Prop} {e a b c:Ě} {es rest:List Ě} {pos:Pos} {f g h:SV D} {fa:SV (List D)}
def AO {x:Str} {np aY:Pos} {jB:Ě} (L:Lv X E) (hO:sC X.K X.mg x) (ha:PA X (jB::rest) (tA X.K (gv X.mg E) fa)) (hc:X.calm=true:=by rfl) (hg:Gl X x:=by rfl) (hd:(x==("__debug__":Str))=false:=by decide)
  (he:Æ (jB::rest) X.env=(false,ĺ jB X.env)::Æ rest X.env:=by rfl) (gW:(Ġ aY (Æ rest X.env)).any (·.1)=false:=by rfl) :
  PS X (.Raise (some (.Call (.Name x np) (jB::rest) [] aY)) none pos) (tS X.K (gv X.mg E) (vv x fa)) :=
 let ⟨C,eC,V,U⟩:=hO
 jY (HJ L eC U PySem.F.excBase_ValueError hc hg ha hd he gW) fun N σ H T=>by
  obtain ⟨w,env,R,S,Q,h⟩:=T;subst R;refine ⟨w,env,rfl,S,Q,(Out.aj h).mono fun W M J P Z I O=>?_⟩;split at Z
  ·rename_i Y
   have Y:=ę Y;obtain ⟨_,G,e1,q⟩:=Z W (Le.refl W) P rfl;rw [V] at e1;cases e1;exact ⟨â (by rw [<- O.length];exact Y) (by decide),q⟩
  ·exact Z.elim
def Jt {k:Nat} {fA:Ò} {fd:č} {kG:List Str} {fn:List D->aa->Res D} {x:Str} {p:Pos} (L:Passes (et X.prog X.w) X E) (F:bT X.prog X.w X.K X.mg X.base (et X.prog X.w) k fA fd kG (nN X.mg X.K fn)) (hr:bp k X.A) (hg:Gl X x) (hm:X.mg x=some (.ref fA)) (hk:Ĩ X.K (.ref fA)=true) (hb:Binds X.K fd kG [])
  (ha:PA X (e::es) (tA X.K (gv X.mg E) fa)) (cf:(x==("__debug__":Str))=false:=by decide) (he:Æ (e::es) X.env=(false,ĺ e X.env)::Æ es X.env:=by rfl) (aZ:(Ġ pos (Æ es X.env)).any (·.1)=false:=by rfl) :
  PE X (.Call (.Name x p) (e::es) [] pos) (tE X.K (gv X.mg E) (dM fn fa)):=bI (uL F hr hg hm hk hb .nil L ha cf he aZ) fun σ H Q Y=>by
 obtain ⟨w,env,W,S,V,h⟩:=Y;subst W;refine ⟨w,env,rfl,S,V,(Out.aj h).mono fun Z U N T R P O=>?_⟩;show nN X.mg X.K fn (P++[]) Z.H Q E;rw [ĩ];exact ⟨Z,U,rfl,T,O,R⟩
def Lh {α:Type} {K:ĉ} {w:Wd} {r:Res α} {k:Wd->α->Prop} (h:Out K bF w r k):Out K Ξ w r k:=by
 match r,h with
 |some (.ok a,s),h=>exact h
 |some (.error x,s),h=>exact fun Z l S e=>(h Z l S e).elim
def Li:Passes (et X.prog X.w) X E0:=fun _ _ _ _ _ _ _ ⟨_,_,_,_,_,_,_,_,_,q⟩=>q.elim
def Ju {k:Nat} {fA:Ò} {fd:č} {kG:List Str} {fn:List D->aa->Res D} {x:Str} {p:Pos} (F:bT X.prog X.w X.K X.mg X.base (et X.prog X.w) k fA fd kG (nN X.mg X.K fn)) (hr:bp k X.A) (hg:Gl X x) (hm:X.mg x=some (.ref fA)) (hk:Ĩ X.K (.ref fA)=true) (hb:Binds X.K fd kG [])
  (ha:PA X (e::es) (tA X.K Ξ fa)) (cf:(x==("__debug__":Str))=false:=by decide) (he:Æ (e::es) X.env=(false,ĺ e X.env)::Æ es X.env:=by rfl) (aZ:(Ġ pos (Æ es X.env)).any (·.1)=false:=by rfl) :
  PE X (.Call (.Name x p) (e::es) [] pos) (tE X.K Ξ (aU fn fa)):=bI (uL F hr hg hm hk hb .nil Li ha cf he aZ) fun σ H Q Y=>by
 obtain ⟨w,env,W,S,V,h⟩:=Y;subst W;refine ⟨w,env,rfl,S,V,(Out.aj h).mono fun Z U N T R P O=>?_⟩;show nN X.mg X.K fn (P++[]) Z.H Q E0;rw [ĩ];exact ⟨Z,U,rfl,T,O,Lh R.ne⟩
end
def rq {P:Û} {w:ú} {K:ĉ} {mg:Str->Option Ä} {base:ħ} {x:Str} {st:SH} {f:Ò} {fd:č} {ps:List Str} {k:Nat} {b:SV Fl} (G:Gd K mg x st ps f fd) (N:List Str) (S:lR N ps (bN st)=true)
  (hb:N.Nodup->∀(aG:Ä) (A:ã) (outer:List PySem.Env) (s:Ã) (H:Hp) (E:XK),bp k (A.deeper (ı x (bN st) s.heap.objs.size f aG))->Lv (fc (et P w) P w K mg base N x (bN st) f aG A outer s H E) E->bV (fc (et P w) P w K mg base N x (bN st) f aG A outer s H E) (fB st) (tS K (gv mg E) b)) :
  bT P w K mg base (et P w) (k+1) f fd ps (nN mg K (aP ps.length N.length b)):=by
 obtain ⟨J,I,kV,doc,pm,an,aG,ct,F,rfl,lk,V⟩:=G.fn.ex;refine vW lk V (iL S) (fun U H Q E h=>?_) fun A outer s H U Q E T h=>?_
 ·obtain ⟨w,R,rfl,S,Y,h⟩:=h
  rw [<- Y.length];unfold aP at h;split at h
  ·assumption
  ·exact h.elim
 ·obtain ⟨X,R,rfl,O,Y,h⟩:=h
  refine ⟨_,hb (iL S).nd aG A outer s X.H E T ⟨rfl,rfl,rfl,rfl⟩,?_⟩;unfold aP at h;split at h
  ·rename_i M
   rw [<- M] at h;refine ⟨X,_,rfl,O,Y.env N.length,(Out.aj h).mono fun D L C W Z=>?_⟩
   cases L with
   |nx env=>intro B _;exact ar W Z _ rfl
   |rt d=>have q:=ar W Z;exact q
   |bk env=>exact Z.elim
   |ct env=>exact Z.elim
  ·exact h.elim
end DI
namespace L2
open PySem PySem.Spec PyProof.Rows PySem.W
structure MH (env:Env) (names:List (Str×ŗ)) (cl:List (Str×Ò)):Prop where
 oH:∀x c,cl.lookup x=some c->env.cells.lookup x=some c
 all:∀x,(x,ä)∈names->∃c,cl.lookup x=some c
theorem uz {env:Env}:∀(names:List (Str×ŗ)) (acc:List (Str×Ò)),(∀x,(x,ä)∈names->∃c,env.cells.lookup x=some c)->(∀x c,acc.lookup x=some c->env.cells.lookup x=some c) ->
  ∃cl,(forIn names acc fun (p:Str×ŗ) (r:List (Str×Ò))=>(match p with | (name,kind)=>if kind==.free then (do let c <- cellOf env name;pure (ī ((name,c)::r))) else pure (ī r):Sem (ForInStep (List (Str×Ò)))))=pure cl /\
   (∀x c,cl.lookup x=some c->env.cells.lookup x=some c)/\(∀x,(x,ä)∈names->∃c,cl.lookup x=some c)/\∀x c,acc.lookup x=some c->∃c,cl.lookup x=some c
 | [],acc,_,Y=>⟨acc,by simp,Y,fun _ h=>(ė h).elim,fun x c h=>⟨c,h⟩⟩
 |(y,k)::r,acc,W,Y=>by
  by_cases V:k=.free
  ·subst V
   obtain ⟨c,e⟩:=W y Ø;have Q:∀x Z,((y,c)::acc).lookup x=some Z->env.cells.lookup x=some Z:=fun x Z h=>by
    rw [ď] at h;split at h
    ·rename_i q
     have q:x=y:=by simpa using q
     cases h;rw [q];exact e
    ·exact Y x Z h
   obtain ⟨cl,U,T,S,X⟩:=uz r ((y,c)::acc) (fun x h=>W x (Õ _ h)) Q;have R:∃c,cl.lookup y=some c:=X y c (by rw [ď];simp);refine ⟨cl,?_,T,fun x h=>?_,fun x Z h=>?_⟩
   ·rw [RJ]
    simp only [Ž,ē,cellOf,e,pure_bind];exact U
   ·rcases Ù.mp h with q|q
    ·cases q;exact R
    ·exact S x q
   ·by_cases q:x=y
    ·rw [q];exact R
    ·exact X x Z (by rw [ď,show (x==y)=false by simpa using q];exact h)
  ·obtain ⟨cl,U,T,S,X⟩:=uz r acc (fun x h=>W x (Õ _ h)) Y
   refine ⟨cl,?_,T,fun x h=>?_,X⟩
   ·rw [RJ]
    have P:(k==ä)=false:=by simpa using V
    simp only [P,Î,Ē,pure_bind];exact U
   ·rcases Ù.mp h with q|q
    ·cases q;exact absurd rfl V
    ·exact S x q
def HK {env:Env} {scope:ε} (hc:∀x,(x,ä)∈scope.names->∃c,env.cells.lookup x=some c):∃cl,closureFor scope env=pure cl/\MH env scope.names cl:=by
 obtain ⟨cl,Z,Y,X,_⟩:=uz scope.names [] hc (fun x c h=>by cases h);refine ⟨cl,?_,Y,X⟩;unfold closureFor;simp only [pure_bind,bind_pure];exact Z
noncomputable abbrev rA (q:Str) (params:SM) (body:Ě) (scope:ε) (cl:List (Str×Ò)) (pm:Ä) (c':Ò) (fx:Ä):Obj:=kla_obj "<lambda>" q params body scope cl pm c' fx
section
variable {X:Cx} {π:List (Ò×Obj)} {σ:St} {H:Hp} {s:Ã}
def Inv.table {P c':Ò} {ps sZ:Array Ä} {oc:Obj} {h':ħ} {t':Nat} (I:Inv X π σ H s) (hP:H P=some (.cu ps)) (hx:RY P s.heap h') (hc:s.heap.objs.size<=c') (dw:h'.get? c'=some oc) (ht:h'.get? P=some (tabObj (ps++sZ))) :
  Inv X π σ (upd (upd H c' (.aN oc (.own c'))) P (.cu (ps++sZ))) { s with heap:=h',toks:=t' }:=by
 have Y:H c'=none:=I.au.fresh hc;have U:c'≠P:=fun z=>by rw [z,hP] at Y;cases Y
 have ne:∀b u,H b=u->u≠some (.cu ps)->b≠P:=fun b u e d z=>by rw [z,hP] at e;exact d e.symm
 have at_:∀b u,H b=some u->b≠P->upd (upd H c' (.aN oc (.own c'))) P (.cu (ps++sZ)) b=some u:=fun b u e n=>by rw [aJ n,aJ (bX e Y)];exact e
 refine I.un ⟨fun b o e n _ _=>hx b o (ne b _ n (by intro z;cases z)) e,fun b o e n _ _=>⟨o.slots,hx b o (ne b _ n (by intro z;cases z)) e⟩,fun b o e n _=>?_,fun b o e _=>?_,fun b V e=>at_ b _ e (ne b _ e (by intro z;cases z)),fun b o u e=>at_ b _ e (ne b _ e (by intro z;cases z)),fun b T e=>?_⟩ fun b u e=>?_
 ·rw [aJ (ne b _ n (by intro z;cases z)),aJ (Ý (È (É e) hc))];exact n
 ·by_cases Z:b=P
  ·exact ⟨_,Z ▸ ht⟩
  ·exact ⟨o,hx b o Z e⟩
 ·by_cases Z:b=P
  ·subst Z
   rw [hP] at e;cases e;exact ⟨sZ,bS⟩
  ·exact ⟨#[],by rw [at_ b _ e Z];simp⟩
 ·by_cases Z:b=P
  ·subst Z
   rw [bS] at e;cases e;exact ht
  ·rw [aJ Z] at e
   by_cases W:b=c'
   ·subst W
    rw [bS] at e;cases e;exact ⟨dw,oc,dw⟩
   ·rw [aJ W] at e
    refine (I.au b u e).cD (fun c v hc q=>hx c v ?_ q) (fun c q=>at_ c _ q (ne c _ q (by intro z;cases z))) fun c V q=>at_ c _ q (ne c _ q (by intro z;cases z))
    rcases hc with z|z
    ·rw [z];exact Z
    ·exact ne c _ z (by intro z;cases z)
def HL {params:SM} {body:Ě} {scope:ε} {dY:Pos} {cl:List (Str×Ò)} {c P:Ò} {ps:Array Ä} {E:Ä->Ã->Prop} {A:ã} {Q:Ä->Ã->Prop} (I:Inv X π σ H s) (dH:closureFor scope X.env=pure cl) (rW:X.env.code=.ref c) (C:CodeHd X.base c P) (hb:X.base.BuiltinsAt X.mg P)
  (hP:H P=some (.cu ps)) (ht:TriplesOk ps.toList) (xb:defaultsOf params X.env=([],[]))
  (N8:∀cv,codeAmong dY ps.toList=some cv->∃c' oc vs t,cv=.ref c'/\H c'=some (.aN oc (.own c'))/\oc.data=.fields vs/\vs[1]?=some (.str (X.env.qual++"<lambda>") t))
  (h:∀(f c':Ò) (fx:Ä) (oc:Obj) (vs:Array Ä) (t:Tok) (H1:Hp) (s1:Ã),Inv X π σ H1 s1->s.heap.objs.size<=f->H1 f=none->s1.heap.get? f=some (rA (X.env.qual++"<lambda>") params body scope cl ((X.mg "__name__").getD .none) c' fx)->H1 c'=some (.aN oc (.own c'))->oc.data=.fields vs->vs[1]?=some (.str (X.env.qual++"<lambda>") t) ->
   (H1=H\/(H c'=none/\c'≠P/\H1=upd (upd H c' (.aN oc (.own c'))) P (.cu (ps++#[Ų dY.line,Ų dY.col,.ref c']))/\TriplesOk (ps++#[Ų dY.line,Ų dY.col,.ref c']).toList))->Q (.ref f) s1) :
  Ô (á X.prog X.w) A (ĺ (.Lambda params body scope dY) X.env) Q E s:=by
 have Y:s.heap.get? P=some (tabObj ps):=I.au P _ hP;have M:CodeHd s.heap c P:=C.keeps I.bk
 have L:s.heap.BuiltinsAt X.mg P:=let ⟨bm,o,a1,a2,G,F,D,r⟩:=hb;⟨bm,o,a1,a2,G,F,I.bk _ _ D,r⟩
 have W:s.heap.Ns Ó X.mg:=I.ok.mod.glob.keeps I.bk;have B:Ó≠P:=fun q=>by
  obtain ⟨o,g,d,e,V,_⟩:=W;rw [q,Y] at e;cases e;cases V
 refine kla_eval xb ?_
 cases U:codeAmong dY ps.toList with
 |some cv =>
  obtain ⟨c',oc,vs,t,rfl,y,x,v⟩:=N8 cv U;refine kla_makeFunctionHit dH I.ok.glob W rW M Y ht U L fun fx h' T u Z=>?_
  have S:Inv X π σ H { s with heap:=h'.push (rA (X.env.qual++"<lambda>") params body scope cl ((X.mg "__name__").getD .none) c' fx),toks:=T }:=I.kept fun b o e=>Á _ (u b o e)
  exact h _ c' fx oc vs t H _ S Z (I.au.fresh Z) (Ç _ rfl) y x v (.inl rfl)
 |none =>
  refine kla_makeFunction dH I.ok.glob W rW M Y ht U B L fun c' fx h' T p R K m l=>?_;obtain ⟨c₂,oc,vs,t,e2,k,V,j⟩:=m;cases e2;have O:H c'=none:=I.au.fresh R;have J:c'≠P:=fun z=>by rw [z,hP] at O;cases O
  have S:=I.table (t':=T) hP (h':=h'.push (rA (X.env.qual++"<lambda>") params body scope cl ((X.mg "__name__").getD .none) c' fx)) (fun b o n e=>Á _ (p b o n e)) R (Á _ k) (Á _ l);have N:s.heap.objs.size<=h'.objs.size:=â R (Nat.le_of_lt K);have i:h'.objs.size≠P:=fun z=>by have:=É Y;rw [<- z] at this;exact absurd (È this N) (ò _)
  refine h _ c' fx oc vs t _ _ S N ?_ (Ç _ rfl) ?_ V j (.inr ⟨O,J,rfl,?_⟩)
  ·rw [aJ i,aJ (Ĵ K)];exact I.au.fresh N
  ·rw [aJ J,bS]
  ·rw [Array.toList_append]
   exact TriplesOk_snoc _ _ _ _ ht
end
def Gy {pos:Pos} {c cv:Ä} {a b:Int} (l:List Ä) (h:TriplesOk l) (e:codeAmong pos (l++[Ų a,Ų b,c])=some cv):codeAmong pos l=some cv\/cv=c:=by
 fun_induction TriplesOk l with
 |case1 =>
  simp only [œ,codeAmong,Ų] at e;split at e
  ·cases e;exact .inr rfl
  ·cases e
 |case2 a t b u x rest ih =>
  simp only [ņ,codeAmong] at e |-;split
  ·rename_i q;rw [é q] at e;exact .inl e
  ·rename_i q;rw [õ q] at e;exact ih h e
 |case3 l Z Y=>exact h.elim
def nO (P:Û) (w:ú) (K:ĉ) (mg:Str->Option Ä) (base:ħ) (N:List Str) (qual:Str) (scope:ε) (f:Ò) (cd:Ä) (cl:List (Str×Ò)) (A:ã) (outer:List Env) (s:Ã) (H:Hp) (E:XK):Cx where
 prog:=P
 w:=w
 K:=K
 mg:=mg
 base:=base
 A:=A.deeper (envX qual scope s.heap.objs.size f cd cl)
 N:=N
 bQ:=s
 iQ:=H
 env:=envX qual scope s.heap.objs.size f cd cl
 outer:=outer
 stack:=envX qual scope s.heap.objs.size f cd cl::outer
 ex:=[]
 calm:=true
 fn:=fun _=>false
 pn:=[]
 xe:=fun e Y=>Ô (á P w) (A.deeper (envX qual scope s.heap.objs.size f cd cl)) (leaving (envX qual scope s.heap.objs.size f cd cl) e) (fun _ Z=>et P w outer H s E e Z) (fun X Z=>et P w outer H s E X Z) Y
structure HM (N:List Str) (scope:ε):Prop where
 co:scope.isCoroutine=false
 gen:scope.isGenerator=false
 kind:scope.kind=.function
 ve:∀x∈scope.names,x.2≠.cell
def Lj {P:Û} {w:ú} {K:ĉ} {mg:Str->Option Ä} {base:ħ} {k:Nat} {f c':Ò} {N:List Str} {q:Str} {params:SM} {body:Ě} {scope:ε} {cl:List (Str×Ò)} {pm fx:Ä} {vs:List V} {t:XK->TE} {oc:Obj} {fs:Array Ä} {tq:Tok}
  (S:HM N scope) (ho:base.get? f=some (rA q params body scope cl pm c' fx)) (hl:N.length=vs.length)
  (inj:∀x y c,cl.lookup x=some c->cl.lookup y=some c->x=y) (has:∀x,scope.names.lookup x=some .free->∃c,cl.lookup x=some c) (ll:∀x c,cl.lookup x=some c->∃v,base.IsCell c v)
  (hv:∀(i:Nat) x v,N[i]?=some x->vs[i]?=some v->scope.names.lookup x=some .free/\∃c u,cl.lookup x=some c/\base.IsCell c (some u)/\RelV v u)
  (cX:oc.data=.fields fs) (gu:fs[1]?=some (.str q tq))
  (hU:∀(A:ã) (outer:List Env) (s:Ã) (H:Hp) (E:XK),bp k (A.deeper (envX q scope s.heap.objs.size f (.ref c') cl))->Lv (nO P w K mg base N q scope f (.ref c') cl A outer s H E) E->PE (nO P w K mg base N q scope f (.ref c') cl A outer s H E) body (t E)) :
  bT P w K mg base (et P w) (k+1) f (kla_fn "<lambda>" q params body scope cl pm (.ref c') fx) [] (fun us H Q E=>us=[]/\H c'=some (.aN oc (.own c'))/\t E (vs.map some) H Q):=by
 refine ⟨fun us H Q E h=>by rw [h.1];rfl,fun A outer s H args us Rx Q E W Z R r O=>?_⟩;obtain ⟨_,M,L⟩:=O;have lim:s.heap.NoLimit:=Z.mod.nolimit.keeps fun b o e=>(Z.bs b o e).1;have bk:∀b o,base.get? b=some o->s.heap.get? b=some o:=fun b o e=>(Z.bs b o e).1;have G:s.heap.CodeRec (.ref c') q:=⟨c',oc,fs,tq,rfl,(Z.au c' _ M).1,cX,gu⟩;refine kla_callFunE W.depth (bk _ _ ho) rfl S.co S.gen rfl G (R _ _ _ _ ?_);refine wpAny_newFunctionEnv S.ve (fun x F=>absurd F (by simp)) (fun T D C=>?_) S.kind;have Y:∀b o,s.heap.get? b=some o->T.get? b=some o:=fun b o e=>C.extBut b o (Ý (É e)) (Á _ e);refine ⟨lim.keeps Y,?_⟩;show ť _ _ (.expr body (envX q scope s.heap.objs.size f (.ref c') cl)) _ _;have B:bp k (A.deeper (envX q scope s.heap.objs.size f (.ref c') cl)):=W.deeper _;have n:∀c v,base.IsCell c v->H c=none:=fun c v ⟨o,e,_⟩=>(Z.bs c o e).2;have U:∀b:Ò,b∉(nO P w K mg base N q scope f (.ref c') cl A outer s H E).ex:=fun b z=>absurd (show b∈([]:List Ò) from z) (by simp)
 have I:Inv (nO P w K mg base N q scope f (.ref c') cl A outer s H E) [] (vs.map some) H { s with heap:=T,toks:=s.toks+([]:List (Str×Ä)).length }:=by
  refine ⟨⟨Z.mod,S.kind,rfl,rfl,S0 _,inj,fun y hy=>?_,fun y c h=>absurd h Ï,fun _=>W.hd,Around.frames_deeper Z.frames,.inr ⟨rfl,rfl⟩,fun b z=>absurd z (U b),Z.bs,Z.fJ,fun b _ _=>U b,fun b z=>absurd z (U b),Z.eG,Z.gH⟩,
   rfl,Z.bare,Un.kept Y,⟨_,D,fun i y v m X h3=>?_⟩,fun y c h=>?_,Z.au.fresh (S0 _),fun y c h=>?_,fun p l=>absurd (show p∈([]:List (Ò×Obj)) from l) (by simp),Z.au.kept Y,?_⟩
  ·have hy:scope.names.lookup y=some .cell\/scope.names.lookup y=some .free:=hy
   rcases hy with hy|hy
   ·exact absurd rfl (S.ve _ (ġ hy))
   ·exact has y hy
  ·have j:vs[i]?=some v:=by
    rw [è] at X
    cases e:vs[i]? with
    |none=>rw [e] at X;cases X
    |some a=>rw [e] at X;cases X;rfl
   obtain ⟨g,c,u,e1,e2,d⟩:=hv i y v m j;exact ⟨u,d,.inr ⟨.inr g,c,e1,(e2.keeps bk).keeps Y⟩⟩
  ·obtain ⟨v,e⟩:=ll y c h
   exact ⟨v,(e.keeps bk).keeps Y⟩
  ·obtain ⟨v,e⟩:=ll y c h
   exact n c v e
  ·rw [Ë];exact hl.symm
 refine kla_codeExpr (ģ (hU A outer s H E B ⟨rfl,rfl,rfl,rfl⟩ [] _ (vs.map some) H Q I L) (fun u s' h=>?_) fun e s' h=>h);obtain ⟨v,H',J,rv,z⟩:=h;exact ⟨v,H',J.os,J.bare,J.base,J.au,rv,z⟩
end L2
namespace DI
open PySem L2 PySem.W
def MJ (pre:Hp->Prop):Prop:=∀H Z:Hp,(∀b o u,H b=some (.aN o u)->Z b=some (.aN o u))->pre H->pre Z
def tu (P:Û) (w:ú) (K:ĉ) (mg:Str->Option Ä) (base:ħ) (k:Nat) (pre:Hp->Prop) (f:Ò) (vs:List V) (ds:List D) (th:aa->Res D):Prop :=
 MJ pre/\∃fd,(∃o,base.get? f=some o/\o.data=.func fd)/\Binds K fd [] [] /\
  bT P w K mg base (et P w) k f fd [] (fun X H Q E=>X=[]/\pre H/\∃Z:Wd,Z.H=H/\aA K Z/\ak K Z ds vs/\Out K (gv mg E) Z (th Z.aq) fun Y d=>∀v,DV K Y d v->Q v Y.H)
def nP (cl:D) (th:aa->Res D) (i:Nat):SV D:=fun env s=>open Classical in if env[i]?=some (some cl) then th s else none
section
variable {X:Cx} {E:XK} {Ξ:Wd->aM->Prop} {pos:Pos}
end
def spT (K:ĉ) (pre:Hp->Prop) (cl:D) (fn:List D->aa->Res D):Sp:=fun Y H Q _=>pre H/\∃w:Wd,w.H=H/\aA K w/\ak K w [cl] Y/\Out K bF w (fn [cl] w.aq) fun Z d=>∀v,DV K Z d v->Q v Z.H
def MK {P:Û} {w:ú} {K:ĉ} {mg:Str->Option Ä} {base:ħ} {x:Str} {st:SH} {f:Ò} {fd:č} {ps:List Str} {k:Nat} {b:SV Fl} {pre:Hp->Prop} {cl:D} (G:Gd K mg x st ps f fd) (N:List Str) (S:lR N ps (bN st)=true)
  (hb:N.Nodup->∀(aG:Ä) (A:ã) (outer:List PySem.Env) (s:Ã) (H:Hp) (E:XK),pre H->bp k (A.deeper (ı x (bN st) s.heap.objs.size f aG))->bV (fc cg P w K mg base N x (bN st) f aG A outer s H E).jG (fB st) (tS K bF b)) :
  bT P w K mg base cg (k+1) f fd ps (spT K pre cl (aP ps.length N.length b)):=by
 refine G.fn.ok (iL S) (fun W H Q E h=>?_) (fun aG A outer s H W Q E V h=>?_)
 ·obtain ⟨_,w,rfl,S,Y,h⟩:=h
  rw [<- Y.length];unfold aP at h;split at h
  ·assumption
  ·exact h.elim
 ·obtain ⟨U,w,rfl,T,Y,h⟩:=h
  refine ⟨_,hb (iL S).nd aG A outer s w.H E U V,?_⟩;unfold aP at h;split at h
  ·rename_i R
   rw [<- R] at h;refine ⟨w,_,rfl,T,Y.env N.length,(Out.aj h).mono fun M O L X Z=>?_⟩
   cases O with
   |nx env=>intro J _;exact ar X Z _ rfl
   |rt d=>have q:=ar X Z;exact q
   |bk env=>exact Z.elim
   |ct env=>exact Z.elim
  ·exact h.elim
def j9 (env:Env):List Nat->Option (List D)
 | []=>some []
 |i::r=>match env[i]?,j9 env r with
  |some (some d),some Z=>some (d::Z)
  |_,_=>none
theorem Ab {K:ĉ} {w:Wd} {env:Env} {σ:St} (eo:bL K w env σ):∀{aB:List Nat} {ds:List D},j9 env aB=some ds->∃vs,ak K w ds vs/\∀(i:Nat) j v,aB[i]?=some j->vs[i]?=some v->σ[j]?=some (some v)
 | [],ds,h=>by cases h;exact ⟨[],rfl,fun i j v h=>by simp at h⟩
 |j::r,ds,h=>by
  unfold j9 at h;split at h
  ·rename_i d R e1 e2
   cases h;obtain ⟨v,X,W⟩:=eo.val j d e1;obtain ⟨vs,V,U⟩:=Ab eo e2;refine ⟨v::vs,⟨v,vs,rfl,W,V⟩,fun i T S Z Y=>?_⟩
   cases i with
   |zero=>cases Z;cases Y;exact X
   |succ i=>exact U i T S (by simpa using Z) (by simpa using Y)
  ·cases h
def ku (x:Str) (aB:List Nat) (fb:SV D) (g:D->(aa->Res D)->List D->aa->Res D):SV D:=fun env s=>match (j9 env aB:Option (List D)) with
 |some Z=>match (s[0]?:Option Cell) with
  |some (.tb y)=>if decide (y=x)=true then ne (g .ao (fb (Z.map some)) [.ao] s) else none
  |_=>none
 |none=>none
noncomputable def Br (dN N:List Str) (aB:List Nat) (D2 sc:ε):Bool:=decide (sc.kind=.function)&&!sc.isCoroutine&&!sc.isGenerator&&sc.names.all (fun y=>decide (y.2≠.cell))&&decide (N.length=aB.length) &&
 (N.zip aB).all (fun p=>decide (dN[p.2]?=some p.1)&&decide (D2.names.lookup p.1=some .cell)&&decide (sc.names.lookup p.1=some .free))&&sc.names.all (fun y=>decide (y.2≠.free)||decide (D2.names.lookup y.1=some .cell))
abbrev D3 (P:Û) (w:ú) (K:ĉ) (mg:Str->Option Ä) (x:Str) (st:SH) (ps:List Str) (k kt:Nat) (g:D->(aa->Res D)->List D->aa->Res D):Prop :=
 ∀{base:ħ} {pre:Hp->Prop} {f:Ò} {vs:List V} {ds:List D} {th:aa->Res D},tu P w K mg base kt pre f vs ds th->∀{gA:Ò} {fd:č},Gd K mg x st ps gA fd->bT P w K mg base cg k gA fd ps (spT K pre (.bE f vs ds) (g (.bE f vs ds) th))
section
variable {X:Cx} {Ξ:Wd->aM->Prop} {pos:Pos}
def ka (X:Cx) (H:Hp) (s:Ã):ħ:=hideAll s.heap (bD X.stack++ny s.heap H)
def qE {H:Hp} {s:Ã} {b:Ò} {o:Obj} (e:s.heap.get? b=some o) (n:H b=none) (hf:b∉bD X.stack):(ka X H s).get? b=some o:=hideAll_get _ e fun z=>by
 rcases û.mp z with z|z
 ·exact hf z
 ·unfold ny at z
  have:=(ς.mp z).2;rw [n] at this;cases this
def Ad {H:Hp} {s:Ã} {b:Ò} {o:Obj} (e:(ka X H s).get? b=some o):s.heap.get? b=some o/\H b=none/\b∉bD X.stack:=by
 have e1:=of_hideAll _ e;refine ⟨e1,?_,fun z=>?_⟩
 ·cases q:H b with
  |none=>rfl
  |some u =>
   have:(ka X H s).get? b=none:=hideAll_none _ (Ê _ (ς.mpr ⟨Ĺ.mpr (É e1),by rw [q];rfl⟩));rw [e] at this;cases this
 ·have:(ka X H s).get? b=none:=hideAll_none _ (ŏ _ z)
  rw [e] at this;cases this
def _root_.L2.Inv.Lk {π:List (Ò×Obj)} {σ:St} {H:Hp} {s:Ã} (I:Inv X π σ H s):∀b o,X.base.get? b=some o->(ka X H s).get? b=some o:=fun b o e=>qE (I.bs b o e).1 (I.bs b o e).2 fun z=>by
 have:=(I.stack.mem z).1;rw [e] at this;cases this
def _root_.L2.Inv.ML {π:List (Ò×Obj)} {σ:St} {H:Hp} {s:Ã} (I:Inv X π σ H s):mY X.prog X.w X.K X.mg (ka X H s) X.A X.stack s H:=by
 have k:=I.Lk;refine ⟨I.ok.frames,⟨I.ok.mod.iu.keeps k,I.ok.mod.glob.keeps k,?_,I.ok.mod.nolimit.keeps k⟩,fun b o e=>⟨(Ad e).1,(Ad e).2.1⟩,ļ (hideAll_size _ _),?_,I.qP,I.au,I.bare⟩
 ·obtain ⟨Z,Y,W⟩:=I.ok.mod.blt
  exact ⟨Z,Y.keeps k,W⟩
 ·refine funFrames_hide I.stack fun env V a U=>ŏ _ ?_
  unfold bD;exact ψ.mpr ⟨env,V,U⟩
def Cf {x g:Str} {p dY:Pos} {params:SM} {body:Ě} {sc:ε} {c P:Ò} {D4:SH} {D5:List Str} {k n kb:Nat} {gf:D->(aa->Res D)->List D->aa->Res D} {fb:SV D} (N:List Str) {aB:List Nat}
  (rW:X.env.code=.ref c) (Cg:X.env.qual=x++".<locals>.") (ht:tabIn X.K x=some (c,P)) (hC:codeHdIn X.K c P=true) (hb:X.base.BuiltinsAt X.mg P)
  (G:GG X.K X.mg g D4 D5) (F:D3 X.prog X.w X.K X.mg g D4 D5 k (kb+1) gf) (Ob:∀cl th s,gf cl th [cl] s=gf .ao th [.ao] s) (hr:bp n X.A)
  (hU:∀(base:ħ) (q:Str) (f:Ò) (cd:Ä) (cl:List (Str×Ò)) (A:ã) (outer:List PySem.Env) (s:Ã) (H:Hp) (E:XK),bp kb (A.deeper (envX q sc s.heap.objs.size f cd cl))->Lv (nO X.prog X.w X.K X.mg base N q sc f cd cl A outer s H E) E->PE (nO X.prog X.w X.K X.mg base N q sc f cd cl A outer s H E) body (tE X.K (gv X.mg E) fb))
  (hk:k<=n:=by decide) (xc:Br X.N N aB X.env.scope sc=true:=by kernel_rfl) (pF:∀x,X.fn x=true:=by intro _;rfl) (v9:∀(cl:List (Str×Ò)) (pm:Ä) (c':Ò) (fx:Ä),bindArgs (kla_fn "<lambda>" (x++".<locals>."++"<lambda>") params body sc cl pm (.ref c') fx) ⟨[],[]⟩=pure []:=by intros;rfl)
  (xb:defaultsOf params X.env=([],[]):=by rfl) (hg:Gl X g:=by rfl) (cf:(g==("__debug__":Str))=false:=by decide)
  (he:Æ [.Lambda params body sc dY] X.env=(false,ĺ (.Lambda params body sc dY) X.env)::Æ [] X.env:=by rfl) (aZ:(Ġ pos (Æ [] X.env)).any (·.1)=false:=by rfl) :
  PE X (.Call (.Name g p) [.Lambda params body sc dY] [] pos) (tE X.K Ξ (ku x aB fb gf)):=by
 intro π s σ H Q I aw;have C:=codeHd_of_K I.ok.mod.iu hC;obtain ⟨w,env,eH,S,eo,h⟩:=aw;subst eH;unfold ku at h
 cases i6:j9 env aB with
 |none=>rw [i6] at h;exact h.elim
 |some W =>
 rw [i6] at h
 cases U:w.aq[0]? with
 |none=>simp only [U] at h;exact h.elim
 |some c0 =>
 simp only [U] at h
 cases c0 with
 |dead=>exact h.elim
 |lst _=>exact h.elim
 |dK _=>exact h.elim
 |dT _=>exact h.elim
 |tb y =>
 dsimp only at h;by_cases hy:y=x
 case neg=>rw [õ (by simpa using hy)] at h;exact h.elim
 rw [é (by simpa using hy)] at h;subst hy;obtain ⟨vs,ah,Qd⟩:=Ab eo i6;obtain ⟨a,ha⟩:∃a,w.ρ[0]?=some a:=by
  have:=S.len
  cases Qe:w.ρ with
  |nil=>rw [Qe] at this;have h0:=(Å.mp U).1;rw [<- this] at h0;simp at h0
  |cons a r=>exact ⟨a,rfl⟩
 have Oc:=S.cell 0 a _ ha U;obtain ⟨c2,ps,t1,t2,t3,t4⟩:=Oc;rw [ht] at t1;cases t1;unfold Br at xc;simp only [Í,Bool.or_eq_true,Bool.not_eq_true',ß,ĭ] at xc;obtain ⟨⟨⟨⟨⟨⟨k1,k2⟩,k3⟩,k4⟩,k5⟩,k6⟩,k7⟩:=xc;obtain ⟨cl,dH,R⟩:=HK (env:=X.env) (scope:=sc) fun z hz=>by
  rcases k7 _ hz with q|q
  ·exact absurd rfl q
  ·exact I.ok.has z (.inl q)
 obtain ⟨gA,Ry,G⟩:=G;refine Ň (mB I hg G.mg ?_ cf);refine SG (h₀:=X.base) I.ok.mod.iu G.fn.kp ?_ he aZ;rw [he];show Ô _ _ (spliced ((false,ĺ (.Lambda params body sc dY) X.env)::Ġ pos (Æ [] X.env))) _ _ s;refine RE (HL I dH rW C hb t2 t3 xb (fun cv q=>?_) fun f c' fx oc fs tq H1 J Y hf C8 yn fL cX gu hH=>?_)
 ·rw [Cg]
  obtain ⟨c',oc,fs,t,r1,r2,r3,r4⟩:=t4 dY cv q;exact ⟨c',oc,fs,t,r1,r2.2,r3,r4⟩
 rw [Cg] at yn gu;refine Calls.spliced_nil ⟨Y.fK,?_⟩;have W1:∃V:Wd,V.H=H1/\aA X.K V/\Le X.K w V/\V.aq=w.aq:=by
  rcases hH with rfl | ⟨hn,tj,rfl,xT⟩
  ·exact ⟨w,rfl,S,Le.refl w,rfl⟩
  ·have S2:=S.grow (o:=.aN oc (.own c')) hn
   have O:=(Fw.grow (K:=X.K) (o:=.aN oc (.own c')) hn).le;have l2:=(Fw.put (o:=.cu (ps++#[Ų dY.line,Ų dY.col,.ref c'])) (c:=.tb y) S2 ha U (by intro z;cases z)).le;refine ⟨(w.grow c' (.aN oc (.own c'))).put 0 P (.cu (ps++#[Ų dY.line,Ų dY.col,.ref c'])) (.tb y),rfl,S2.wN ha U (by intro z;cases z) ⟨c,_,ht,bS,xT,fun pos cv e=>?_⟩,O.trans l2,?_⟩
   ·rw [Array.toList_append] at e
    rcases Gy _ t3 e with e|e
    ·obtain ⟨c3,o3,v3,Qf,r1,r2,r3⟩:=t4 pos cv e
     exact ⟨c3,o3,v3,Qf,r1,(O.trans l2).aN c3 o3 _ r2.1 r2.2,r3⟩
    ·refine ⟨c',oc,fs,tq,e,?_,cX,gu⟩
     exact l2.aN c' oc _ (fun z=>kY S hn z) bS
   ·exact R1 fun i=>by
     show (w.aq.set 0 (.tb y))[i]?=w.aq[i]?
     cases i with
     |zero=>rw [Þ (Å.mp U).1,U]
     |succ i=>rw [Ü (by omega)]
 obtain ⟨V,rfl,S1,O,es⟩:=W1;have cells:∀z Z,cl.lookup z=some Z->∀v,J.heap.IsCell Z v->(ka X V.H J).IsCell Z v:=fun z Z e v ⟨o,ho,hd⟩=>by
  have e2:=R.oH z Z e;refine ⟨o,qE ho (Y.fD z Z e2) fun q=>?_,hd⟩
  rcases Ù.mp (Y.kU _ q) with q|q
  ·exact Y.gJ z Z e2 q
  ·obtain ⟨_,o2,eI,_⟩:=Y.ok.eG.mem q
   exact absurd (É eI) (Nat.not_lt.mpr (Y.ok.kz z Z (pF z) e2))
 have C9:f∉bD X.stack:=fun q=>by
  obtain ⟨_,o2,eI,_⟩:=I.stack.mem q;exact absurd (É eI) (Nat.not_lt.mpr hf)
 have nl:N.length=vs.length:=by
  have e1:=ah.length;have e2:∀(cs:List Nat) (W:List D),j9 env cs=some W->W.length=cs.length:=fun cs=>by
   induction cs with
   |nil=>intro W h;cases h;rfl
   |cons i r ih =>
    intro W h;unfold j9 at h;split at h
    ·cases h;rename_i e;simp [ih _ e]
    ·cases h
  rw [k5,<- e2 aB W i6,e1]
 have T:tu X.prog X.w X.K X.mg (ka X V.H J) (kb+1) (fun H=>H c'=some (.aN oc (.own c'))) f vs W (fb (W.map some)):=by
  refine ⟨fun H H' st q=>st _ _ _ q,_,⟨_,qE yn C8 C9,rfl⟩,Binds.all fun us hl=>?_,(Lj (t:=fun E=>tE X.K (gv X.mg E) fb) (vs:=vs) (oc:=oc) ⟨k2,k3,k1,k4⟩ (qE yn C8 C9) nl (fun z1 z2 Z M B=>Y.ok.inj z1 z2 Z (R.oH _ _ M) (R.oH _ _ B)) (fun z hz=>R.all z (ġ hz)) (fun z Z e=>?_) (fun i z v M B=>?_) cX gu
   (fun A outer s H E hr L=>hU _ _ f (.ref c') cl A outer s H E hr L)).imp fun us H Q E h=>?_⟩
  ·have:us=[]:=List.eq_nil_of_length_eq_zero (by simpa using hl)
   subst this;exact v9 _ _ _ _
  ·obtain ⟨v,q⟩:=Y.cell z Z (R.oH z Z e)
   exact ⟨v,cells z Z e v q⟩
  ·have hi:i<aB.length:=by
    have:=(Å.mp M).1;rw [k5] at this;exact this
   obtain ⟨j,hj⟩:∃j,aB[i]?=some j:=⟨aB[i],Ì hi⟩;have hm:(z,j)∈N.zip aB:=by
    refine ě (i:=i) ?_;rw [List.getElem?_zip_eq_some];exact ⟨M,hj⟩
   obtain ⟨⟨q1,q2⟩,q3⟩:=k6 _ hm;obtain ⟨m,hn,hl⟩:=Y.loc;obtain ⟨u,r,lk⟩:=hl j z v q1 (Qd i j v hj B) (.inr (.inl q2));refine ⟨q3,?_⟩
   rcases lk with ⟨lk,_⟩ | ⟨_,Z,e1,e2⟩
   ·rw [show X.env.kindOf z=X.env.scope.names.lookup z from rfl,q2] at lk;cases lk
   ·obtain ⟨c3,e3⟩:=R.all z (ġ q3)
    have e4:=R.oH z c3 e3;rw [e1] at e4;cases e4;exact ⟨Z,u,e3,cells z Z e3 _ e2,r⟩
  ·obtain ⟨M,B,w',rfl,S',i9,hh⟩:=h
   refine ⟨M,B,w',W.map some,rfl,S',⟨?_,fun i d e=>?_⟩,hh⟩
   ·rw [Ë,Ë];exact i9.length
   ·rw [è] at e
    cases q:W[i]? with
    |none=>rw [q] at e;cases e
    |some d' =>
     rw [q] at e;cases e;obtain ⟨v,e1,e2⟩:=i9.get' i d q;exact ⟨v,by rw [è,e1];rfl,e2⟩
 have hq:=(h.from O).ne;rw [<- es,<- Ob (.bE f vs W)] at hq;refine Su (Ŗ ((F T G).run X.A X.stack J V.H ⟨[.ref f],[]⟩ [.ref f] [.ref f] Q (fun _ _ _=>False) (hr.mono hk) Y.ML (G.b J [.ref f] Y.fK ?_) (.cons rfl .nil) ⟨fL,V,rfl,S1,⟨.ref f,[],rfl,⟨rfl,O.all ah⟩,rfl⟩,hq⟩) fun r s' l=>?_)
 ·have:=(F T G).len [.ref f] V.H Q (fun _ _ _=>False) ⟨fL,V,rfl,S1,⟨.ref f,[],rfl,⟨rfl,O.all ah⟩,rfl⟩,hq⟩
  simpa using this
 ·cases r with
  |error e=>exact l.elim
  |ok fl =>
   cases fl with
   |ret u=>exact Y.after l
   |next=>exact Č l
   |brk=>exact Č l
   |cont=>exact Č l
end
end DI
namespace L2
open PySem PySem.Spec PyProof.Rows PySem.W
section
variable {X:Cx} {π:List (Ò×Obj)} {σ:St} {H:Hp} {s:Ã}
def qU {M:Model} {A:ã} {E:Ä->Ã->Prop} {i:Nat} {x:Str} {pos:Pos} {Q:Unit->Ã->Prop} (I:Inv X π σ H s) (hN:X.N.Nodup) (hi:X.N[i]?=some x) (hk:X.env.scope.names.lookup x=some .local) (h:∀s',Inv X π (σ.set i none) H s'->Q () s') :
  Ô M A (do bindName X.env x .none;unbindBehindTheSuite X.env x pos) Q E s:=by
 obtain ⟨m,V,S⟩:=id I.loc;have R:(X.env.scope.kind==.class||(X.env.scope.kind==.module&&X.env.locals != X.env.globals))=false:=by rw [I.ok.kind];rfl
 have gJ:=I.gJ;refine wpAny_nameGoes_keeps hk V R fun u v P hs=>?_;obtain ⟨t,_,_,r,_⟩:=id V;refine h _ ⟨I.ok,I.os,I.bare,⟨fun b o e n Y Z=>?_,fun b o e n Y Z=>?_,I.base.free,fun b o e Z=>?_,I.base.cT,I.base.cH,I.base.cU⟩,⟨_,P,fun j y O e1 e2 L=>?_⟩,fun y c e=>?_,I.free,I.fD,fun p K=>?_,fun b J e=>?_,by rw [ô];exact I.len⟩
 ·exact (hs.2 b (Ý (È (É e) I.ok.above))).trans (I.base.keep b o e n Y Z)
 ·obtain ⟨G,e1⟩:=I.base.slot b o e n Y Z
  exact ⟨G,(hs.2 b (Ý (È (É e) I.ok.above))).trans e1⟩
 ·obtain ⟨F,e1⟩:=I.base.there b o e Z
  exact ⟨F,(hs.2 b (Ý (È (É e) I.ok.above))).trans e1⟩
 ·by_cases W:j=i
  ·subst W
   have U:=(Å.mp e2).1;rw [ô] at U;rw [Þ U] at e2;cases e2
  ·rw [Ü (ş W)] at e2
   obtain ⟨D,C,q⟩:=S j y O e1 e2 L;refine ⟨D,C,?_⟩
   rcases q with ⟨k,e⟩ | ⟨k,c,e,z⟩
   ·refine .inl ⟨k,?_⟩
    have:y≠x:=fun e=>W (ug hN e1 (e ▸ hi));simp [this,e]
   ·exact .inr ⟨k,c,e,z.sameBut hs (gJ y c e)⟩
 ·obtain ⟨T,z⟩:=I.cell y c e
  exact ⟨T,z.sameBut hs (gJ y c e)⟩
 ·obtain ⟨e,n,ne,B,d⟩:=I.pin p K
  exact ⟨(hs.2 p.1 ne).trans e,n,ne,B,d⟩
 ·refine (I.au b J e).cD (fun c T w q=>(hs.2 c ?_).trans q) (fun _ q=>q) fun _ _ q=>q
  rintro rfl
  rcases w with z|z
  ·have:=I.free;rw [z,e] at this;cases this
  ·have:=I.free;rw [z] at this;cases this
noncomputable abbrev Cx.held (X:Cx) (a:Ò):Cx:={ X with A:=X.A.mark (some (.ref a)),calm:=false,xe:=fun _ _=>False }
theorem Inv.held (I:Inv X π σ H s) (a:Ò):Inv (X.held a) π σ H s:=by
 obtain ⟨⟨a1,a2,Z,Y,W,V,U,T,w,S,R,Q,P,O,N,M,L,K⟩,J,G,F,E,D,C,B,A,y,x⟩:=I;exact ⟨⟨a1,a2,Z,Y,W,V,U,T,fun z=>absurd z Ï,S,R,Q,P,O,N,M,L,K⟩,J,G,F,E,D,C,B,A,y,x⟩
def Inv.rB {a:Ò} (ok:X.Ok) (I:Inv (X.held a) π σ H s):Inv X π σ H s:=by
 obtain ⟨_,Z,Y,W,V,U,T,S,R,Q,P⟩:=I;exact ⟨ok,Z,Y,W,V,U,T,S,R,Q,P⟩
def rE (X:Cx) (π:List (Ò×Obj)) (σ:St) (E:XK) (e:Ä) (s':Ã):Prop:=∃Z Y,Inv X π σ Z Y/\et X.prog X.w X.stack Z Y E e s'
def gy {E:XK} {E':Ä->Ã->Prop} {e:Ä} {s':Ã} {cn n:Str} {np sD:Pos} {pq:SH} {oK:List SH} {j:Nat} {CM:Ò} {D:Ends} (Th:rE X π σ E e s') (L:X.stack=X.env::X.outer) (hf:X.env.frame=some X.env.locals)
  (hN:X.N.Nodup) (hj:X.N[j]?=some n) (fO:X.env.scope.names.lookup n=some .local) (hg:Gl X cn) (hm:X.mg cn=some (.ref CM)) (hd:(cn==("__debug__":Str))=false)
  (h:∀cls H' ,E cls none H'->exmOne X.K cls (.ref CM)=some true/\∀(a:Ò) (o:Obj),H' a=none->o.cls=cls->∀s5,Inv (X.held a) π (σ.set j (some (.ref a))) (upd H' a (.aN o (.own a))) s5 ->
   Ô (á X.prog X.w) (X.held a).A (execs (pq::oK) X.env) (SP (X.held a) π { nx:=fun az H'=>D.nx (az.set j none) H',rt:=D.rt,bk:=fun az H'=>D.bk (az.set j none) H',ct:=fun az H'=>D.ct (az.set j none) H' }) (fun _ _=>False) s5) :
  Ô (á X.prog X.w) X.A (noteFrame e X.env) (fun _ mW=>Ô (á X.prog X.w) X.A (setFlight e none) (fun _ Od=>Ô (á X.prog X.w) X.A (handleBy e X.env [.ExceptHandler (some (.Name cn np)) (some n) (pq::oK) sD]) (SP X π D) E' Od) E' mW) E' s':=by
 obtain ⟨H1,P,Z,a,cls,p,H',B,rfl,os,bare,F,m⟩:=Th;obtain ⟨O,l⟩:=h cls H' m;refine wpAny_looks_onW (by rw [Z.ok.frames,L]) hf (by have:=F.fl;rw [L] at this;exact this) fun h2 k i=>?_;refine wpAny_landsW k fun V g d=>?_;have S:Heap.FlyingW B X.stack a cls p V:=by rw [L];exact g
 have R:=F.on S (i.trans d);have Of:P.heap.get? a=none:=by
  cases q:P.heap.get? a with
  |none=>rfl
  |some o =>
   by_cases U:a∈bD X.stack
   ·obtain ⟨sl,e1⟩:=R.slot a o q U
    obtain ⟨_,o2,e2,hd2⟩:=S.2.2.1.mem U
    obtain ⟨Q,ws,e3,_,e4,_⟩:=S.first
    rw [e3] at e2;cases e2;exact absurd e4 (hd2 _)
   ·obtain ⟨o',e1⟩:=F.there a o q U
    rw [F.fl.2.1] at e1;cases e1
 have G:Inv X π σ H' { s' with heap:=V }:=Z.rN (s':={ s' with heap:=V }) (ch:=[]) os R.un R.held bare (fun b z=>absurd z (by simp))
 refine wpAny_handleBy_cons (codeAny_handlers_test ?_) (by intro q;cases q);refine (show Ô (á X.prog X.w) (X.held a).A (ĺ (.Name cn np) (X.held a).env) _ _ _ from mB (G.held a) hg hm ?_ hd);obtain ⟨ob,Qi,oQ⟩:=S.there;have LT:Looks (á X.prog X.w) V (typeOf (.ref a)) cls:=by subst oQ;exact (Looks.ld Qi).andThen .now
 refine (exm_one (M:=á X.prog X.w) (K:=X.K) (h:=V) G.fK LT O).here ?_;refine codeAny_handlers_suite_as ?_
 refine lands_againW (s:={ s' with heap:=V }) S fun C y Qj=>?_
 have I:=R.on y Qj;obtain ⟨Q,x,Og⟩:=y.there;have T:H' a=none:=I.new
 have I4:Inv X π σ (upd H' a (.aN Q (.own a))) { s' with heap:=C }:=by
  have u:=I.un;have cw:∀b o,P.heap.get? b=some o->b≠a:=fun b o e z=>by rw [z,Of] at e;cases e
  refine Z.rN (s':={ s' with heap:=C }) (ch:=[]) os ⟨u.keep,u.slot,fun b o e n O=>?_,u.there,fun b t e=>?_,fun b o v e=>?_,fun b ps e=>?_⟩ (fun b v e=>?_) bare (fun b z=>absurd z (by simp))
  ·rw [aJ (cw b o e)];exact u.free b o e n O
  ·have:=u.cT b t e;rw [aJ (bX this T)];exact this
  ·have:=u.cH b o v e;rw [aJ (bX this T)];exact this
  ·obtain ⟨more,this⟩:=u.cU b ps e;exact ⟨more,by rw [aJ (bX this T)];exact this⟩
  ·by_cases U:b=a
   ·subst U
    rw [bS] at e;cases e;exact ⟨x,Q,x⟩
   ·rw [aJ U] at e
    refine (I.held b v e).cD (fun _ _ _ q=>q) (fun c q=>?_) fun c t q=>?_
    ·rw [aJ (bX q T)];exact q
    ·rw [aJ (bX q T)];exact q
 refine nW I4 hN hj (.inl fO) (v:=.ref a) (u:=.ref a) rfl (fun s5 I5=>?_) (.inr fO);refine ģ (l a Q T Og s5 (I5.held a)) (fun f s6 q=>?_) fun _ _ z=>z.elim
 cases f with
 |next =>
  obtain ⟨az,Y,J,q⟩:=q;exact qU (J.rB Z.ok) hN hj fO fun H W=>⟨_,Y,W,q⟩
 |brk =>
  obtain ⟨az,Y,J,q⟩:=q;exact qU (J.rB Z.ok) hN hj fO fun H W=>⟨_,Y,W,q⟩
 |cont =>
  obtain ⟨az,Y,J,q⟩:=q;exact qU (J.rB Z.ok) hN hj fO fun H W=>⟨_,Y,W,q⟩
 |ret u =>
  obtain ⟨v,az,Y,J,r,q⟩:=q;exact qU (J.rB Z.ok) hN hj fO fun H W=>⟨v,_,Y,W,r,q⟩
end
end L2
namespace DI
open PySem L2 PySem.W
def bL.unset {K:ĉ} {w:Wd} {env:Env} {σ:St} (h:bL K w env σ) (i:Nat):bL K w (env.set i none) (σ.set i none):=by
 refine ⟨by rw [ô,ô];exact h.len,fun j X e=>?_⟩;by_cases Z:i=j
 ·subst Z
  have Y:=(Å.mp e).1;rw [ô] at Y;rw [Þ Y] at e;cases e
 ·rw [Ü Z] at e
  rw [Ü Z];exact h.val j X e
section
variable {X:Cx} {E:XK} {pos:Pos}
def Ll {π:List (Ò×Obj)} {σ:St} {s:Ã} {w:Wd} {env:Env} {Q:VK} {k i:Nat} {x:Str} {p:Pos} {pre:Hp->Prop} {f:Ò} {vs:List V} {ds:List D} {th:aa->Res D} (T:tu X.prog X.w X.K X.mg X.base k pre f vs ds th) (h0:pre X.iQ) (hr:bp k X.A)
  (hN:X.N[i]?=some x) (hv:nA X.env.scope x) (hd:(x==("__debug__":Str))=false) (cE:(x==("__classdict__":Str))=false)
  (I:Inv X π σ w.H s) (S:aA X.K w) (eo:bL X.K w env σ) (he:env[i]?=some (some (.bE f vs ds))) (h:Out X.K (gv X.mg E) w (th w.aq) fun w' d=>∀v,DV X.K w' d v->Q v w'.H) :
  Ô (á X.prog X.w) X.A (ĺ (.Call (.Name x p) [] [] pos) X.env) (EP X π σ Q) (rE X π σ E) s:=by
 obtain ⟨M,fd,⟨o,L,J⟩,G,F⟩:=T;obtain ⟨v,e1,e2⟩:=eo.val i _ he;obtain ⟨rfl,C⟩:=e2;refine PySem.wpAny_Call_Name_kw ?_;have U:=(A6 (X:=X.gE fun e O=>rE X π σ E e O) (pos:=p) hN hv hd cE π s σ w.H (fun v B=>v=.ref f/\B=w.H) (I.gE _) ⟨_,e1,rfl,rfl⟩);refine aE U fun u R U=>?_;obtain ⟨v,t,Z,r,rfl,rfl⟩:=U;have Z:=Z.ji;have r:u=.ref f:=r;subst r;have z:∀h:ħ,h.get? f=some o->∃k,(k=Keeper.frame\/k=Keeper.machine\/k=Keeper.boundFrame)/\Looks (á X.prog X.w) h (keeperOf (.ref f)) k:=fun h e=>by
  obtain ⟨q,n,m,os⟩:=o;cases J;exact ⟨.frame,.inl rfl,(Looks.ld (part:=none) e).andThen .now⟩
 refine PySem.W.callWith_of (P:=fun h=>h.get? f=some o) rfl z (PyProof.Rows.evalArgs_nil3 ⟨Z.bk _ _ L,?_⟩);refine Su (Ŗ (F.run X.A X.stack R w.H ⟨[],[]⟩ [] [] Q E hr Z.lK (G R [] Z.fK rfl) .nil ⟨rfl,M _ _ (fun b o u e=>Z.base.cH b o u e) h0,w,rfl,S,C,h⟩) fun r O Y=>?_)
 cases r with
 |error e=>exact ⟨w.H,R,Z,Y⟩
 |ok y =>
  cases y with
  |ret u=>exact Z.after Y
  |next=>exact Č Y
  |brk=>exact Č Y
  |cont=>exact Č Y
end
end DI
namespace L2
open PySem PySem.Spec PySem.Calls PyProof.Rows PySem.W PySem.Builtin PySem.Builtin.ObjectAttr PySem.Builtin.Getset_descriptor
section
variable {prog:Û} {w:ú} {A:ã} {E:Ä->Ã->Prop} {s:Ã} {K:ĉ} {x C:Ò}
noncomputable def kc (K:ĉ) (C:Ò):Bool:=(findIn K (.ref C) "__getattribute__"==some (some (.builtin "BaseException.__getattribute__")))&&(findIn K (.ref C) "__getattr__"==some none)&&(clsIn K C).isSome&&(findIn K (.ref C) "__class__"==some (some (.builtin "object.__class__")))&&(specialIn K (.builtin "object.__class__") "__get__"==some (some (.builtin "getset_descriptor.__get__")))&&(takesIn K (.builtin "object.__class__")==some true)&&(mroIn K C (.type "object")==some true)&&(mroIn K C (.type "BaseException")==some true)
def Lm {M:Model} {Ci:Ä} {Q:Unit->Ã->Prop} (LT:Looks M s.heap (typeOf (.ref x)) (.ref C)) (M5:Looks M s.heap (isSubtype (.ref C) (.type "BaseException")) true) (hq:Q () s):Ô M A (Sn "BaseException.__getattribute__" ⟨[.ref x,Ci],[]⟩) Q E s:=by
 have Z:builtinKind "BaseException.__getattribute__"=some .slot:=by decide +kernel
 have Y:splitId "BaseException.__getattribute__"=some ("BaseException","__getattribute__"):=by decide +kernel
 have X:=F.args_bexc_ga (.ref x) Ci;simp only [Sn,Z,Y];refine À ?_;unfold isInstance
 repeat (first|with_reducible refine LT.at ?_|with_reducible refine M5.at ?_|wp_step)
 exact hq
def cls_read {Q:Option Ä->Ã->Prop} (X:K.In s.heap) (LT:Looks (á prog w) s.heap (typeOf (.ref x)) (.ref C)) (hc:kc K C=true) (h:Q (some (.ref C)) { s with toks:=s.toks+1 }) :
  Ô (á prog w) A (getAttr? (.ref x) "__class__") Q E s:=by
 unfold kc at hc;simp only [Í,beq_iff_eq] at hc;obtain ⟨⟨⟨⟨⟨⟨⟨Y,W⟩,_⟩,V⟩,U⟩,T⟩,S⟩,R⟩:=hc;obtain ⟨Z,g,d,t,os⟩:=s;have M1:=looks_findIn (M:=á prog w) X Y;have M2:=looks_findIn (M:=á prog w) X W;have P:Looks (á prog w) Z (find (.ref x) (.ref C) "__class__") (.bind (.builtin "getset_descriptor.__get__") (.builtin "object.__class__")) :=
  (looks_findIn X V).andThen ((looks_specialIn X U).andThen ((show Looks (á prog w) Z (dataDescriptor? (some (.builtin "object.__class__")) (some (.builtin "getset_descriptor.__get__"))) (some (.builtin "getset_descriptor.__get__",.builtin "object.__class__")) from (looks_takesIn X T).andThen .now).andThen (Looks.tag .now)))
 have L:=looks_mroIn (M:=á prog w) X S;have O:=looks_mroIn (M:=á prog w) X R;have N:=F.attr_ValueError.ga.bind (.ref x);unfold getAttr? getAttrBy? getAttrBy;refine À (wpAny_mkText (À (Ř (ą (À (LT.at (À (M1.at ?_))))))));show Ô _ _ (getAttrByItsOwn (.ref x) _ (.ref C) (.builtin "BaseException.__getattribute__") false false) _ _ _;unfold getAttrByItsOwn;refine À (M2.at (À (Ř (ą ?_))));show Ô _ _ (boundAndCalled (.builtin "BaseException.__getattribute__") (.ref x) _) _ _ _;unfold boundAndCalled;rw [N];refine À (Â (Su (codeAny_call_builtin F.attr_ValueError.ga.plain F.entry_bexc_ga ?_)));refine Lm LT O ?_;unfold š.«object.__getattribute__»;rw [show slotArgs "__getattribute__" 1 ⟨[.ref x]++[.str "__class__" t],[]⟩=pure (.ref x,[.str "__class__" t]) from rfl];refine À (Â ?_);dsimp only;rw [show attrName (.str "__class__" t)=pure ("__class__":Str) from rfl];refine À (Â (À (LT.at (À (P.at ?_)))));show Ô _ _ (RT [Value.builtin "object.__class__"] (call (.builtin "getset_descriptor.__get__") [.builtin "object.__class__",.ref x,.ref C]) >>= ret) _ _ _;refine À (ą (Su ?_));refine codeAny_call_builtin KF.slot_gs.plain KF.entry_gs (KF.slot_gs.check _ _ _ _ _ _ _ _ KF.type_class (KF.args_gs _ _ _) ?_);unfold š.«getset_descriptor.__get__» descrGet;rw [dga_obj];refine À (Â ?_);unfold descrGetter descrCheckInstance descrNameAndClass isInstance;simp only [KF.owner_class]
 repeat lk
 refine ⟨Code.quiet_builtin _ (by decide +kernel),Ą KF.entry_class ?_⟩;unfold š.«object.__class__» shownTypeOf
 repeat lk
 exact h
def HN {o:Obj} (ho:o.cls=.ref C) (hc:kc K C=true):KitX K (.ref x) (.ref C) (fun h=>h.get? x=some o) where
 ty:=fun M h _ e=>ho ▸ (Looks.ld e).andThen .now
 it:=fun M h X _=>by
  unfold kc at hc;simp only [Í] at hc;have z:=hc.1.1.1.1.1.2;unfold clsIn at z;split at z
  ·rename_i q
   intro W V U T k r;unfold isType loadHead;exact À (wpAny_loadPart (k _ _ (X _ _ q)) (Â r))
  ·cases z
 ne:=fun h Z S its n R X Y=>by
  unfold kc at hc;simp only [Í] at hc;have z:=hc.1.1.1.1.1.2;refine Bool.eq_false_iff.mpr fun q=>?_;have e:C=Z:=Value.ref.inj (beq_iff_eq.mp q);subst e;unfold clsIn at z;split at z
  ·rename_i r
   have z:=(X _ _ r).symm.trans Y;cases z
  ·cases z
 ca:=fun X e k=>cls_read X (ho ▸ (Looks.ld e).andThen .now) hc k
end
end L2
namespace DI
open PySem L2 PySem.W
def cq (cs:List Str) (yes:Str->Bool) (d:D) (s:aa):Res D:=match d with
 | .ao=>ok (.bl false) s
 | .exc c=>if decide (c∈cs)=true then ok (.bl (yes c)) s else none
 |_=>none
def mC (K:ĉ) (cs:List Str) (T:Ä) (yes:Str->Bool):Prop:=kitOne K (.type "NoneType") T=some false/\∀c∈cs,∃C,nsIn K Ó c=some (some (.ref C))/\kc K C=true/\kitOne K (.ref C) T=some (yes c)
section
variable {X:Cx} {Ξ:Wd->aM->Prop} {a:Ě} {pos:Pos} {f:SV D}
def Lo {cs:List Str} {T:Ä} {yes:Str->Bool} (hc:mC X.K cs T yes) {vT:V} (hT:∀u,RelV vT u->u=T):bK X (.builtin "isinstance") (fun xs H Q=>∃(w:Wd) (d:D) (x:V),w.H=H/\aA X.K w/\DV X.K w d x/\xs=[x,vT]/\Out X.K Ξ w (cq cs yes d w.aq) fun w' d=>∀v,DV X.K w' d v->Q v w'.H):=by
 rintro A s σ H y N Q I r ⟨w,d,x,rfl,S,U,rfl,h⟩;obtain ⟨Y,W,R,Z⟩:∃Y,RelV x Y/\∃R,N=[Y,R]/\RelV vT R:=by
  cases r with
  |cons W Z=>cases Z with|cons Z M=>cases M;exact ⟨_,W,_,rfl,Z⟩
 obtain ⟨rfl,Z⟩:=Z;cases hT _ Z
 cases d with
 |ao =>
  have e:x=.ao:=U;subst e;have e:Y=Value.none:=W;subst e;exact kia_one kitx_none I.fK trivial hc.1 (by intro z;cases z) fun P=>⟨.bl false,w.H,I.tok P,rfl,ar S h _ rfl⟩
 |exc c =>
  simp only [DV] at U;obtain ⟨b,o,C,rfl,L,J,G⟩:=U;have e:Y=ű b:=W;subst e;unfold cq at h;dsimp only at h;split at h
  ·rename_i F
   obtain ⟨t,O,E,B⟩:=hc.2 c (ę F);rw [G] at O;cases O;exact kia_one (HN J E) I.fK (I.au b _ L.2).1 B (by intro z;cases z) fun P=>⟨.bl (yes c),w.H,I.tok P,rfl,ar S h _ rfl⟩
  ·exact h.elim
 |_=>exact h.elim
def Bs {cs:List Str} {T:Ä} {yes:Str->Bool} {vT:V} {cn:Str} {p np:Pos} (hc:mC X.K cs T yes) (hT:∀u,RelV vT u->u=T) (h1:PE X (.Name cn np) (tC vT)) (ha:PE X a (tE X.K Ξ f)) (hm:X.mg "isinstance"=none) (hv:ê "isinstance"=some (.builtin "isinstance")) (hg:Gl X "isinstance":=by rfl)
  (hs:Æ [a,.Name cn np] X.env=(false,ĺ a X.env)::Æ [.Name cn np] X.env:=by rfl) (iC:Æ [.Name cn np] X.env=(false,ĺ (.Name cn np) X.env)::Æ [] X.env:=by rfl) (aZ:(Ġ pos (Æ [.Name cn np] X.env)).any (·.1)=false:=by rfl) :
  PE X (.Call (.Name "isinstance" p) [a,.Name cn np] [] pos) (tE X.K Ξ (e1 (cq cs yes) f)) :=
 bI (qG (Lo (Ξ:=Ξ) hc hT) hg hm hv (fz ha (fz h1 gU iC) hs) (by decide) (by decide) hs aZ) fun σ H Q Z=>by
  obtain ⟨w,env,Y,S,W,h⟩:=Z;subst Y;exact ⟨w,env,rfl,S,W,(Out.aj h).mono fun U x O R h1 v1 P=>⟨U,x,v1,rfl,R,P,rfl,h1⟩⟩
end
open PyProof.Rows PySem.SeqAt
def xg (d:D) (s:aa):Res D:=match d with
 | .lst Z=>match eQ Z with
  |some bs=>ok (.int (bs.count true:Nat)) s
  |none=>none
 |_=>none
def yy (d:D) (s:aa):Res D:=match d with
 | .lst Z=>match eQ Z with
  |some bs=>if (decide (bs.idxOf true<bs.length)&&decide (bs.length<=100))=true then ok (.int (bs.idxOf true:Nat)) s else none
  |none=>none
 |_=>none
theorem Cj:∀(bs:List Bool) (m:Nat) (h:m<bs.length),m<bs.idxOf true->bs[m]=false
 | [],m,h,_=>absurd h (Nat.not_lt_zero _)
 |true::r,m,h,g=>by simp at g
 |false::r,0,h,g=>rfl
 |false::r,m+1,h,g=>by
  have e:(false::r).idxOf true=r.idxOf true+1:=by rw [List.idxOf_cons];rfl
  rw [e] at g;exact Cj r m (by simpa using h) (by omega)
noncomputable def nr:Ä->Bool
 | .bool b=>b
 |_=>false
theorem tY:∀{bs:List Bool} {its:List Ä},Vals (bs.map V.bl) its->its=bs.map Ń
 | [],_,.nil=>rfl
 |b::r,_,.cons e t=>by
  have e:_=Ń b:=e;rw [e,tY t];rfl
theorem AQ:∀bs:List Bool,(bs.map Ń).countP nr=bs.count true
 | []=>rfl
 |b::r=>by
  rw [ç,List.countP_cons,List.count_cons,AQ r]
  cases b<;>rfl
def Bt {A:ã} {s:Ã} {bs:List Bool} (y:Ä) (hy:y∈(bs.map Ń).toArray):EqAt A s y (.bool true) (nr y):=by
 have hy:y∈bs.map Ń:=by simpa using hy
 obtain ⟨b,_,rfl⟩:=ξ.mp hy;have h:=EqAt.bool_bool (A:=A) (s:=s) b true
 cases b<;>exact h
section
variable {X:Cx} {Ξ:Wd->aM->Prop} {o:Ě} {f:SV D} {p apos aY:Pos} {j:Nat}
def HP:xD X "list.count" (fun x xs H Q=>∃(a:Ò) (bs:List Bool),x=.ref a/\xs=[.bl true]/\aR X.K H a (bs.map V.bl)/\Q (.int (bs.count true:Nat)) H):=by
 rintro E s σ H x xs v U Q I T S ⟨a,bs,rfl,rfl,R,h⟩;have e:v=ű a:=T;subst e;obtain ⟨u,rfl,rfl⟩:∃u,U=[u]/\u=Ń true:=by
  cases S with|cons P O=>cases O;exact ⟨_,rfl,P⟩
 obtain ⟨its,N,M,_⟩:=I.list R;cases tY N;obtain ⟨⟨cls,L,data,J⟩,n,Z,Y,_,W⟩:=M;simp only at Y W;subst Y W;refine call_meets PySem.F.slot_list_count ⟨_,Z,rfl⟩ PySem.F.entry_list_count (PySem.F.args_list_count_2 _ _) (list_countAt a _ n L J (.bool true) nr) ⟨Z,fun y G=>Bt y G,?_⟩;rw [show (bs.map Ń).toArray.toList=bs.map Ń from rfl,AQ];exact ⟨.int _,H,I.tok _,⟨_,rfl⟩,h⟩
def HQ:xD X "list.index" (fun x xs H Q=>∃(a:Ò) (bs:List Bool),x=.ref a/\xs=[.bl true]/\aR X.K H a (bs.map V.bl)/\bs.idxOf true<bs.length/\bs.length<=100/\Q (.int (bs.idxOf true:Nat)) H):=by
 rintro A s σ H x xs v T Q I S R ⟨a,bs,rfl,rfl,P,O,z,h⟩;have e:v=ű a:=S;subst e;obtain ⟨u,rfl,rfl⟩:∃u,T=[u]/\u=Ń true:=by
  cases R with|cons N M=>cases M;exact ⟨_,rfl,N⟩
 obtain ⟨its,L,J,_⟩:=I.list P;cases tY L;obtain ⟨⟨cls,G,data,E⟩,n,Z,Y,_,W⟩:=J;simp only at Y W;subst Y W;have sz:(bs.map Ń).toArray.size=bs.length:=by simp
 refine call_meets PySem.F.slot_list_index ⟨_,Z,rfl⟩ PySem.F.entry_list_index (PySem.F.args_list_index_2 _ _) (list_indexAt a _ n G E (.bool true) nr (bs.idxOf true) (by rw [sz];exact O) (by omega) ?_ ?_) ⟨Z,fun y D=>Bt y D,?_⟩
 ·simp [nr,List.getElem_idxOf]
 ·intro m U C
  have B:=Cj bs m (by rw [sz] at U;exact U) C;simp [nr,B]
 ·exact ⟨.int _,H,I.tok _,⟨_,rfl⟩,h⟩
def Lp (ho:PE X o (tE X.K Ξ f))
  (lq:RH o "count" X.env (ĺ o X.env)=ĺ o X.env:=by rfl)
  (lM:((Ġ aY (Æ [.Constant (.bool true) j p] X.env)).all (fun x=>!x.1)&&(backToKw aY (RX [] X.env)).all (fun x=>x.1.isSome)
   && decide (([.Constant (.bool true) j p]:List Ě).length+([]:List Se).length+(if ([]:List Se).isEmpty then 0 else 1)<30))=true:=by rfl)
  (lr:(apos.endLine==aY.line)=true:=by rfl) (hs:Æ [.Constant (.bool true) j p] X.env=(false,ĺ (.Constant (.bool true) j p) X.env)::Æ [] X.env:=by rfl) (gW:(Ġ aY (Æ [] X.env)).any (·.1)=false:=by rfl) :
  PE X (.Call (.Attribute o "count" apos) [.Constant (.bool true) j p] [] aY) (tE X.K Ξ (e1 xg f)) :=
 bI (vX RN PySem.F.slot_list_count PySem.F.type_list_count HP ho (fz vQ gU hs) lq lM lr hs gW) fun σ H Q V=>by
  obtain ⟨w,env,U,S,T,h⟩:=V;subst U;refine ⟨w,env,rfl,S,T,(Out.aj h).mono fun O d N R Z v Y=>?_⟩
  cases d with
  |lst M =>
   unfold xg at Z;dsimp only at Z;split at Z
   ·rename_i bs P
    simp only [DV] at Y;obtain ⟨a,L,rfl,W,r⟩:=Y;cases om P;cases r.og;exact ⟨.inl ⟨rfl,_,W.sq⟩,a,bs,rfl,rfl,W.sq,ar R Z _ rfl⟩
   ·exact Z.elim
  |_=>exact Z.elim
def MN (ho:PE X o (tE X.K Ξ f))
  (lq:RH o "index" X.env (ĺ o X.env)=ĺ o X.env:=by rfl)
  (lM:((Ġ aY (Æ [.Constant (.bool true) j p] X.env)).all (fun x=>!x.1)&&(backToKw aY (RX [] X.env)).all (fun x=>x.1.isSome)
   && decide (([.Constant (.bool true) j p]:List Ě).length+([]:List Se).length+(if ([]:List Se).isEmpty then 0 else 1)<30))=true:=by rfl)
  (lr:(apos.endLine==aY.line)=true:=by rfl) (hs:Æ [.Constant (.bool true) j p] X.env=(false,ĺ (.Constant (.bool true) j p) X.env)::Æ [] X.env:=by rfl) (gW:(Ġ aY (Æ [] X.env)).any (·.1)=false:=by rfl) :
  PE X (.Call (.Attribute o "index" apos) [.Constant (.bool true) j p] [] aY) (tE X.K Ξ (e1 yy f)) :=
 bI (vX RN PySem.F.slot_list_index PySem.F.type_list_index HQ ho (fz vQ gU hs) lq lM lr hs gW) fun σ H Q U=>by
  obtain ⟨w,env,T,S,R,h⟩:=U;subst T;refine ⟨w,env,rfl,S,R,(Out.aj h).mono fun N d M P Z v W=>?_⟩
  cases d with
  |lst L =>
   unfold yy at Z;dsimp only at Z;split at Z
   ·rename_i bs O
    split at Z
    ·rename_i Y
     rw [Í,ß,ß] at Y;simp only [DV] at W;obtain ⟨a,J,rfl,V,r⟩:=W;cases om O;cases r.og;exact ⟨.inl ⟨rfl,_,V.sq⟩,a,bs,rfl,rfl,V.sq,Y.1,Y.2,ar P Z _ rfl⟩
    ·exact Z.elim
   ·exact Z.elim
  |_=>exact Z.elim
end
end DI
namespace L2
open PySem PySem.Spec PyProof.Rows PySem.W
def Gz {Pr:Û} {w:ú} {K:ĉ} {mg mb:Str->Option Ä} {CX:fZ} {k:Nat} {fa a c P:Ò} {fd:č} {x:Str} {sp:Sp} {aS:Ã} {vs:List Ä} {ns:List Int}
  (KX:K.In aS.heap) (nL:aS.heap.Ns Ó mg) (hb:aS.heap.Ns builtinsNs mb) (Qk:∀x:Str,x≠"__name__"->mb x=ê x) (Oh:aS.heap.NoLimit) (hg:aS.gens=#[])
  (ha:aS.heap.get? a=some { cls:=.type "list",data:=.seq vs.toArray }) (hi:RV vs ns) (hl:ns.length<=Ö) (hr:bp k callerA)
  (CT:CodeHd aS.heap c P) (hP:aS.heap.get? P=some (tabObj #[])) (yz:K.lookup P=none) (yA:aS.heap.BuiltinsAt mg P)
  (F:∀base:ħ,K.In base->base.Ns Ó mg->base.BuiltinsAt mg P->bT Pr w K mg base CX k fa fd [x] sp) (v9:∀(s:Ã) (u:Ä),BindsTo s fd ⟨[u],[]⟩ [(x,u)])
  (f9:∀H:Hp,H P=some (.cu #[])->aR K H a (ns.map V.int)->sp [.ref a] H (fun v _=>v=.bl true) fun _ _ _=>False)
  (yB:∀H e s',CX [] H aS (fun _ _ _=>False) e s'->False) :
  ť (á Pr w) callerA (.call (.ref fa) ⟨[.ref a],[]⟩) (fun r s'=>r=.ok (.ret (.bool true))/\OldK aS.heap s'.heap/\s'.os=aS.os/\SO s'.gens) aS:=by
 have Q:=zE hi;have D:=hi.length;have O:a≠P:=fun z=>by rw [z,hP] at ha;cases ha
 have core:∀H:Hp,H P=some (.cu #[])->(∀b,H b=none\/b=P\/(b=a/\∃o U,H b=some (.aN o (.lst U))))->aR K H a (ns.map V.int)->bC Pr w H aS.heap->(H a≠none->K.lookup a=none) ->
   ť (á Pr w) callerA (.call (.ref fa) ⟨[.ref a],[]⟩) (fun r s'=>r=.ok (.ret (.bool true))/\OldK aS.heap s'.heap/\s'.os=aS.os/\SO s'.gens) aS:=by
  intro H N T C M B;have free:∀{b:Ò} {o:Obj},aS.heap.get? b=some o->o≠tabObj #[]->o≠{ cls:=.type "list",data:=.seq vs.toArray }->H b=none:=fun {b o} e A y=>by
   rcases T b with z|z | ⟨z,_⟩
   ·exact z
   ·rw [z,hP] at e;exact absurd (S7 e).symm A
   ·rw [z,ha] at e;exact absurd (S7 e).symm y
  have X:∀{b:Ò} {m:Str->Option Ä},aS.heap.Ns b m->(jt aS.heap H).Ns b m:=fun {b m} ⟨o,t,p,e,d,r⟩=>⟨o,t,p,ue e (free e (fun z=>by rw [z] at d;cases d) fun z=>by rw [z] at d;cases d),d,r⟩;have L:K.In (jt aS.heap H):=fun b o e=>ue (KX b o e) (by
   rcases T b with z|z | ⟨z,J,U,W⟩
   ·exact z
   ·rw [z,yz] at e;cases e
   ·subst z;rw [B (by rw [W];intro z;cases z)] at e;cases e)
  have l:Mod K mg (jt aS.heap H):=⟨L,X nL,⟨mb,X hb,Qk⟩,let ⟨j,i,g⟩:=Oh;⟨j,X i,g⟩⟩
  have f:(jt aS.heap H).BuiltinsAt mg P:=let ⟨bm,o,b1,b2,b3,b4,I,S,r⟩:=yA;⟨bm,o,b1,b2,b3,b4,ue I (free I (fun z=>by rw [z] at S;cases S) fun z=>by rw [z] at r;cases r.2),S,r⟩
  have e0:mY Pr w K mg (jt aS.heap H) callerA [] aS H:=⟨rfl,l,fun b o e=>Iu e,ļ (FY _ _),trivial,fun b hb=>absurd (show b∈([]:List Ò) from hb) (by simp),M,.of_eq hg⟩;refine Ŗ ((F _ L (X nL) f).run callerA [] aS H ⟨[.ref a],[]⟩ [.ref a] [.ref a] _ _ hr e0 (v9 aS (.ref a)) (.cons rfl .nil) (f9 H N C)) fun r s' h=>?_
  cases r with
  |error e=>exact (yB H e s' h).elim
  |ok fl =>
   cases fl with
   |next=>exact Č h
   |brk=>exact Č h
   |cont=>exact Č h
   |ret u =>
    obtain ⟨v,H',os,bare,un,G,r',q⟩:=h;have q':v=.bl true:=q;subst q';obtain rfl:u=Ń true:=r';have keep:∀b o,aS.heap.get? b=some o->b≠P->s'.heap.get? b=some o:=fun b o e n=>by
     rcases T b with z|z | ⟨z,J,U,W⟩
     ·exact un.keep b o e z (by intro z;exact absurd (show b∈([]:List Ò) from z) (by simp)) (by simp)
     ·exact absurd z n
     ·obtain ⟨e1,_⟩:=M b _ W
      obtain ⟨e2,_⟩:=G b _ (un.cH b J _ W);rw [e] at e1;cases e1;exact e2
    obtain ⟨more,hm⟩:=un.cU P _ N;have E:s'.heap.get? P=some (tabObj (#[]++more)):=G P _ hm;refine ⟨rfl,⟨fun b o e=>?_,fun b o e=>?_⟩,os,bare⟩
    ·by_cases hb:b=P
     ·subst hb
      rw [hP] at e;cases e;exact .inr (.inl ⟨(CT.tab hP).isCodeTable,rfl,#[],more,rfl,E⟩)
     ·exact .inl (keep b o e hb)
    ·by_cases hb:b=P
     ·subst hb;exact ⟨_,E⟩
     ·exact ⟨o,keep b o e hb⟩
 cases R:K.lookup a with
 |some o =>
  have e:=KX a o R;rw [ha] at e;cases e
  refine core (fun b=>if b=P then some (.cu #[]) else none) (é rfl) (fun b=>?_) (.inr ⟨_,vs.toArray,_,R,rfl,rfl,rfl,by rw [Ð,D];exact hl,by simpa using Q⟩) (fun b u z=>?_) (fun z=>absurd (õ O) z)
  ·by_cases hb:b=P
   ·exact .inr (.inl hb)
   ·exact .inl (õ hb)
  ·by_cases hb:b=P
   ·have Z:=(é hb).symm.trans z
    cases Z;subst hb;exact hP
   ·have Z:=(õ hb).symm.trans z
    cases Z
 |none =>
  refine core (fun b=>if b=P then some (.cu #[]) else if b=a then some (.aN { cls:=.type "list",data:=.seq vs.toArray } (.lst (ns.map V.int))) else none) (é rfl) (fun b=>?_) (.inl (.inr ⟨{ cls:=.type "list",data:=.seq vs.toArray },(õ O).trans (é rfl)⟩)) (fun b u z=>?_) (fun _=>R)
  ·by_cases hb:b=P
   ·exact .inr (.inl hb)
   ·by_cases Y:b=a
    ·exact .inr (.inr ⟨Y,_,_,(õ hb).trans (é Y)⟩)
    ·exact .inl ((õ hb).trans (õ Y))
  ·by_cases hb:b=P
   ·have Z:=(é hb).symm.trans z
    cases Z;subst hb;exact hP
   ·by_cases Y:b=a
    ·have Z:=((õ hb).trans (é Y)).symm.trans z
     cases Z;subst Y;exact ⟨ha,by rw [Ë];exact hl,vs,_,Q,ha⟩
    ·have Z:=((õ hb).trans (õ Y)).symm.trans z
     cases Z
def Lq {l:OpenLaw} {n k:Nat} {q:Û} {loose:List Str} {XP:(Str->Option Ä)->ħ->Prop} {YP:ú->ħ->Prop} {d:DefRec} {K:Params->ĉ} {CX:ú->fZ} {sp:ú->Ò->Sp} {x:Str}
  (hn:l.most=some n) (Ql:n<=Ö) (pP:d.params.defaults=[]) (hr:bp k callerA)
  (hY:∀(w:ú) (h:ħ),YP w h->(K w.params).In h) (hd:(recsOf q).find? (fun e=>e.name==d.name)=some d)
  (F:∀(w:ú) (mg:Str->Option Ä) (fa:Ò) (h:ħ),(K w.params).In h->h.Ns Ó mg->mg d.name=some (.ref fa) ->
   ∃(c P:Ò) (fd:č),tabIn (K w.params) d.name=some (c,P)/\(K w.params).lookup P=none/\(∀(s:Ã) (u:Ä),BindsTo s fd ⟨[u],[]⟩ [(x,u)]) /\
    ∀base:ħ,(K w.params).In base->base.Ns Ó mg->base.BuiltinsAt mg P->bT l.prog w (K w.params) mg base (CX w) k fa fd [x] (sp w P))
  (f9:∀(w:ú) (P:Ò) (H:Hp) (a:Ò) (ns:List Int),ns.length<=n->H P=some (.cu #[])->aR (K w.params) H a (ns.map V.int)->sp w P [.ref a] H (fun v _=>v=.bl true) fun _ _ _=>False)
  (yB:∀(w:ú) (H:Hp) (s:Ã) (e:Ä) (s':Ã),CX w [] H s (fun _ _ _=>False) e s'->False) :
  WalkO q loose XP YP l.row.toRowW d [] (fun f vs=>PySem.call f vs):=by
 refine Dv.EX hn pP fun w m S mg j fa o pm cd doc a vs ns G Y i DK cE O N hints Z M=>?_;have W:=hY w _ Y;obtain ⟨c,P,fd,L,J,I,E⟩:=F w mg fa _ W G.T.g O;obtain ⟨D,R⟩:=tab_of G.T W hd L;have C:S.heap.BuiltinsAt mg P:=by
  obtain ⟨bm,B,A,y,X,Q,t,U⟩:=G.T.bmain;refine ⟨bm,B,A,y,fun z=>?_,fun z=>?_,X,Q,t,U⟩
  ·obtain ⟨o,es,ep,e,hd,_⟩:=G.T.g
   rw [z,e] at X;cases X;rw [hd] at U;cases U
  ·rw [z,R] at X;cases X;cases Q
 exact Gz W G.T.g G.T.b G.T.builtins G.T.nolimit M N hints (â Z Ql) hr D R J C E I (fun H r p=>f9 w P H a ns Z r p) fun H e s'=>yB w H S e s'
end L2
namespace DI
open PySem L2 PySem.W
def MO {P:Û} {w:ú} {K:ĉ} {mg:Str->Option Ä} {base:ħ} {x:Str} {st:SH} {f c T:Ò} {fd:č} {ps:List Str} {k:Nat} {b:SV Fl} (G:Gd K mg x st ps f fd) (hx:nsIn K Ó x=some (some (.ref f))) (ht:tabIn K x=some (c,T)) (N:List Str) (S:lR N ps (bN st)=true)
  (hb:N.Nodup->∀(A:ã) (outer:List PySem.Env) (s:Ã) (H:Hp) (E:XK),bp k (A.deeper (ı x (bN st) s.heap.objs.size f (.ref c)))->bV (fc cg P w K mg base N x (bN st) f (.ref c) A outer s H E).jG (fB st) (tS K bF b)) :
  bT P w K mg base cg (k+1) f fd ps (gg K (aP ps.length N.length b)):=by
 obtain ⟨D,C,kV,doc,pm,an,X,ct,B,rfl,lk,U⟩:=G.fn.ex;have R:X=.ref c:=by
  unfold tabIn at ht;rw [hx] at ht;dsimp only at ht;rw [lk] at ht;dsimp only at ht
  cases X with
  |ref z =>
   dsimp only at ht;split at ht
   ·split at ht
    ·cases ht;rfl
    ·cases ht
   ·cases ht
  |_=>cases ht
 subst R;refine vW lk U (iL S) (fun O H Q E h=>?_) fun A outer s H O Q E M h=>?_
 ·obtain ⟨w,L,rfl,S,Y,h⟩:=h
  rw [<- Y.length];unfold aP at h;split at h
  ·assumption
  ·exact h.elim
 ·obtain ⟨W,L,rfl,J,Y,h⟩:=h
  refine ⟨_,(hb (iL S).nd A outer s W.H E M).jG,?_⟩;unfold aP at h;split at h
  ·rename_i I
   rw [<- I] at h;refine ⟨W,_,rfl,J,Y.env N.length,(Out.aj h).mono fun y F v V Z=>?_⟩
   cases F with
   |nx env=>intro u _;exact ar V Z _ rfl
   |rt d=>have q:=ar V Z;exact q
   |bk env=>exact Z.elim
   |ct env=>exact Z.elim
  ·exact h.elim
def rF (K:ĉ) (T:Ò):Sp:=fun Y H Q _=>∃(a:Ò) (Z:List Int),Y=[.ref a]/\aR K H a (Z.map V.int)/\Z.length<=63/\H T=some (.cu #[])/\∀X,Q (.bl true) X
def Jv {P:Û} {w:ú} {K:ĉ} {mg:Str->Option Ä} {base:ħ} {k:Nat} {f c T:Ò} {fd:č} {x y:Str} {g:List D->aa->Res D} (F:bT P w K mg base cg k f fd [x] (gg K g)) (ht:tabIn K y=some (c,T))
  (h:∀ns:List Int,ns.length<=63->∃s,g [.bh ns] [.tb y]=some (.ok (.bl true),s)):bT P w K mg base cg k f fd [x] (rF K T):=F.imp fun U H Q E ⟨a,ns,e,hS,X,Y,q⟩=>by
 subst e;obtain ⟨s,hs⟩:=h ns X;have W:∀b,(⟨[T],[.tb y],H⟩:Wd).Z b->b=T:=fun b ⟨k,c,e1,_,_⟩=>by
  cases k with
  |zero=>exact (S7 e1).symm
  |succ k=>cases e1
 have S:aA K ⟨[T],[.tb y],H⟩:=by
  refine ⟨rfl,by simp,fun k a e=>?_,fun k a R e1 e2=>?_⟩
  ·cases k with
   |zero=>cases e;show H T≠none;rw [Y];intro z;cases z
   |succ k=>cases e
  ·cases k with
   |zero=>cases e1;cases e2;exact ⟨c,#[],ht,Y,trivial,fun pos O z=>by cases z⟩
   |succ k=>cases e1
 refine ⟨⟨[T],[.tb y],H⟩,[.bh ns],rfl,S,ak.one ⟨a,rfl,?_⟩,?_⟩
 ·rcases hS with hS|hS
  ·refine .inl ⟨fun z=>?_,hS⟩
   rw [W a z] at hS
   rcases hS with hS | ⟨_,hS⟩<;>(rw [Y] at hS;cases hS)
  ·exact .inr hS
 ·show Out K bF _ (g [.bh ns] [.tb y]) _
  rw [hs];intro N _ _ _ v V;have e:v=.bl true:=V;subst e;exact q _
def EN:ê "ValueError"=some (.type "ValueError"):=by decide +kernel
noncomputable def isNm (n c:Str):Bool:=decide (c=n)
noncomputable def anyS (_:Str):Bool:=true
abbrev nQ (P:Û) (w:ú) (K:ĉ) (mg:Str->Option Ä) (base:ħ) (x:Str) (st:SH) (ps:List Str) (k:Nat) (fn:List D->aa->Res D):Prop:=∀{f:Ò} {fd:č},Gd K mg x st ps f fd->bT P w K mg base (et P w) k f fd ps (nN mg K fn)
def cP (K:ĉ) (mg:Str->Option Ä) (cs:List Str) (n:Str):Prop:=∃C,mg n=some (.ref C)/\mC K cs (.ref C) (isNm n)
def Eb (K:ĉ) (mg:Str->Option Ä) (cs:List Str) (n:Str):Prop:=∃Z,mg n=some (.ref Z)/\∀c∈cs,∃C,nsIn K Ó c=some (some (.ref C))/\mg c=some (.ref C)/\exmOne K (.ref C) (.ref Z)=some true
section
variable {X:Cx} {E:XK} {Ξ:Wd->aM->Prop} {e a b c:Ě} {es rest:List Ě} {pos:Pos} {f g h:SV D} {fa:SV (List D)}
def oO {k n:Nat} {x:Str} {st:SH} {ps:List Str} {fn:List D->aa->Res D} {p:Pos} (G:GG X.K X.mg x st ps) (F:nQ X.prog X.w X.K X.mg X.base x st ps k fn) (L:Passes (et X.prog X.w) X E) (hr:bp n X.A) (ha:PA X (e::es) (tA X.K (gv X.mg E) fa)) (hk:k<=n:=by decide) (hg:Gl X x:=by rfl) (cf:(x==("__debug__":Str))=false:=by decide)
  (he:Æ (e::es) X.env=(false,ĺ e X.env)::Æ es X.env:=by rfl) (aZ:(Ġ pos (Æ es X.env)).any (·.1)=false:=by rfl):PE X (.Call (.Name x p) (e::es) [] pos) (tE X.K (gv X.mg E) (dM fn fa)):=by
 obtain ⟨f,fd,G⟩:=G;exact Jt L (F G) (hr.mono hk) hg G.mg G.fn.kp G.b ha cf he aZ
def Ck {k n:Nat} {x:Str} {st:SH} {ps:List Str} {fn:List D->aa->Res D} {p:Pos} (G:GG X.K X.mg x st ps) (F:nQ X.prog X.w X.K X.mg X.base x st ps k fn) (hr:bp n X.A) (ha:PA X (e::es) (tA X.K Ξ fa)) (hk:k<=n:=by decide) (hg:Gl X x:=by rfl) (cf:(x==("__debug__":Str))=false:=by decide)
  (he:Æ (e::es) X.env=(false,ĺ e X.env)::Æ es X.env:=by rfl) (aZ:(Ġ pos (Æ es X.env)).any (·.1)=false:=by rfl):PE X (.Call (.Name x p) (e::es) [] pos) (tE X.K Ξ (aU fn fa)):=by
 obtain ⟨f,fd,G⟩:=G;exact Ju (F G) (hr.mono hk) hg G.mg G.fn.kp G.b ha cf he aZ
def cZ {cs:List Str} {cn:Str} {p np:Pos} (hc:cP X.K X.mg cs cn) (ha:PE X a (tE X.K Ξ f)) (hm:X.mg "isinstance"=none) (hg:Gl X "isinstance":=by rfl) (yC:Gl X cn:=by rfl) (hd:(cn==("__debug__":Str))=false:=by decide)
  (hs:Æ [a,.Name cn np] X.env=(false,ĺ a X.env)::Æ [.Name cn np] X.env:=by rfl) (iC:Æ [.Name cn np] X.env=(false,ĺ (.Name cn np) X.env)::Æ [] X.env:=by rfl) (aZ:(Ġ pos (Æ [.Name cn np] X.env)).any (·.1)=false:=by rfl) :
  PE X (.Call (.Name "isinstance" p) [a,.Name cn np] [] pos) (tE X.K Ξ (e1 (cq cs (isNm cn)) f)):=by
 obtain ⟨C,Z,h⟩:=hc;exact Bs (vT:=.ref C) h (fun u r=>r) (Aj yC Z rfl hd) ha hm fP hg hs iC aZ
def Lr {cs:List Str} {p np:Pos} (hc:mC X.K cs (.type "ValueError") anyS) (ha:PE X a (tE X.K Ξ f)) (hm:X.mg "isinstance"=none) (Qm:X.mg "ValueError"=none) (hg:Gl X "isinstance":=by rfl) (yC:Gl X "ValueError":=by rfl)
  (hs:Æ [a,.Name "ValueError" np] X.env=(false,ĺ a X.env)::Æ [.Name "ValueError" np] X.env:=by rfl) (iC:Æ [.Name "ValueError" np] X.env=(false,ĺ (.Name "ValueError" np) X.env)::Æ [] X.env:=by rfl) (aZ:(Ġ pos (Æ [.Name "ValueError" np] X.env)).any (·.1)=false:=by rfl) :
  PE X (.Call (.Name "isinstance" p) [a,.Name "ValueError" np] [] pos) (tE X.K Ξ (e1 (cq cs anyS) f)) :=
 Bs (vT:=.ty "ValueError") hc (fun u r=>r) (qQ yC Qm EN rfl) ha hm fP hg hs iC aZ
end
def iM (K:ĉ) (cs asked:List Str) (gy:Str):Bool :=
 cs.all (fun c=>match nsIn K Ó c with
  |some (some (.ref C))=>excIn K C [.type "ValueError",.type "Exception",.type "BaseException",.type "object"] "ValueError.__new__"&&kc K C&&(kitOne K (.ref C) (.type "ValueError")==some true) &&
   (match nsIn K Ó gy with|some (some (.ref Z))=>exmOne K (.ref C) (.ref Z)==some true | _=>false) &&
   asked.all (fun n=>match nsIn K Ó n with|some (some (.ref A))=>kitOne K (.ref C) (.ref A)==some (isNm n c) | _=>false)
  |_=>false) &&
 asked.all (fun n=>match nsIn K Ó n with|some (some (.ref A))=>kitOne K (.type "NoneType") (.ref A)==some false | _=>false)&&(kitOne K (.type "NoneType") (.type "ValueError")==some false) &&
 (match nsIn K Ó gy with|some (some (.ref _))=>true | _=>false)
noncomputable def vw (K:ĉ) (x:Str):Bool:=match tabIn K x with
 |some (c,P)=>codeHdIn K c P&&(K.lookup P).isNone
 |none=>false
def Jw {K:ĉ} {x:Str} (h:vw K x=true):∃c P,tabIn K x=some (c,P)/\codeHdIn K c P=true/\K.lookup P=none:=by
 unfold vw at h;split at h
 ·rename_i c P e
  rw [Í] at h;exact ⟨c,P,e,h.1,Ż.mp h.2⟩
 ·cases h
def ou {K:ĉ} {x:Str} {p:Ò->Bool} (h:(match nsIn K Ó x with|some (some (.ref C))=>p C | _=>false)=true):∃C,nsIn K Ó x=some (some (.ref C))/\p C=true:=by
 split at h
 ·rename_i C e
  exact ⟨C,e,h⟩
 ·cases h
section
variable {K:ĉ} {cs asked:List Str} {gy:Str} {h:ħ} {mg:Str->Option Ä}
def x_at (f:iM K cs asked gy=true) {c:Str} (hc:c∈cs):∃C,nsIn K Ó c=some (some (.ref C))/\excIn K C [.type "ValueError",.type "Exception",.type "BaseException",.type "object"] "ValueError.__new__"=true/\kc K C=true/\kitOne K (.ref C) (.type "ValueError")=some true /\
  (∃CM,nsIn K Ó gy=some (some (.ref CM))/\exmOne K (.ref C) (.ref CM)=some true)/\∀n∈asked,∃A,nsIn K Ó n=some (some (.ref A))/\kitOne K (.ref C) (.ref A)=some (isNm n c):=by
 unfold iM at f;simp only [Í] at f;obtain ⟨C,e,q⟩:=ou (ĭ.mp f.1.1.1 c hc);simp only [Í,beq_iff_eq] at q;obtain ⟨⟨⟨⟨X,W⟩,V⟩,Z⟩,Y⟩:=q;obtain ⟨CM,U,Z⟩:=ou Z;refine ⟨C,e,X,W,V,⟨CM,U,beq_iff_eq.mp Z⟩,fun n T=>?_⟩;obtain ⟨A,S,Y⟩:=ou (ĭ.mp Y n T);exact ⟨A,S,beq_iff_eq.mp Y⟩
def De (X:K.In h) (G:h.Ns Ó mg) (f:iM K cs asked gy=true) {c:Str} (hc:c∈cs):sC K mg c:=by
 obtain ⟨C,e,q,_⟩:=x_at f hc;exact ⟨C,e,mg_of X G e,q⟩
def Oj (X:K.In h) (G:h.Ns Ó mg) (f:iM K cs asked gy=true):Eb K mg cs gy:=by
 have Z:=f;unfold iM at Z;simp only [Í] at Z;obtain ⟨Y,e,_⟩:=ou Z.2;refine ⟨Y,mg_of X G e,fun c W=>?_⟩;obtain ⟨C,e1,_,_,_,⟨V,e2,q⟩,_⟩:=x_at f W;rw [e] at e2;cases e2;exact ⟨C,e1,mg_of X G e1,q⟩
def dt (X:K.In h) (G:h.Ns Ó mg) (f:iM K cs asked gy=true) {n:Str} (hn:n∈asked):cP K mg cs n:=by
 have Z:=f;unfold iM at Z;simp only [Í] at Z;obtain ⟨A,e,q⟩:=ou (ĭ.mp Z.1.1.2 n hn);refine ⟨A,mg_of X G e,beq_iff_eq.mp q,fun c Y=>?_⟩;obtain ⟨C,e1,_,W,_,_,V⟩:=x_at f Y;obtain ⟨T,e2,U⟩:=V n hn;rw [e] at e2;cases e2;exact ⟨C,e1,W,U⟩
def MP (f:iM K cs asked gy=true):mC K cs (.type "ValueError") anyS:=by
 have Z:=f;unfold iM at Z;simp only [Í,beq_iff_eq] at Z;refine ⟨Z.1.2,fun c Y=>?_⟩;obtain ⟨C,e1,_,X,W,_⟩:=x_at f Y;exact ⟨C,e1,X,W⟩
end
end DI
namespace L2
open PySem PySem.Spec PyProof.Rows PySem.W
structure dS (k:Nat) (A:ã):Prop where
 dp:A.depth+3*k+5<recursionLimit
 un:A.units+16*k+200<cLine
def bp.h {k:Nat} {A:ã} (r:bp k A):dS k A:=⟨r.dp,r.un⟩
def dS.mono {j k:Nat} {A:ã} (r:dS k A) (h:j<=k):dS j A:=⟨by have:=r.dp;omega,by have:=r.un;omega⟩
theorem dS.deeper {k:Nat} {A:ã} (r:dS (k+1) A) (env:Env):dS k (A.deeper env) :=
 ⟨by have:=r.dp;show A.depth+1+3*k+5 < _;omega,by have:=r.un;show A.units+3+16*k+200 < _;omega⟩
theorem dS.depth {k:Nat} {A:ã} (r:dS k A):A.depth<recursionLimit:=by have:=r.dp;omega
def dS.held {k:Nat} {A:ã} (r:dS k A) (v:Option Ä):dS k (A.mark v):=⟨r.dp,r.un⟩
structure rX (P:Û) (w:ú) (K:ĉ) (mg:Str->Option Ä) (base:ħ) (k:Nat) (f:Ò) (fd:č) (ps:List Str) (sp:Sp):Prop where
 len:∀vs H Q E,sp vs H Q E->vs.length=ps.length
 run:∀(A:ã) (outer:List Env) (s:Ã) (H:Hp) (args:Args) (us:List Ä) (vs:List V) (Q:VK) (E:XK),dS k A->mY P w K mg base A outer s H->BindsTo s fd args (ps.zip us)->Vals vs us->sp vs H Q E ->
  ť (á P w) A (.call (.ref f) args) (CR cg outer P w H s Q E) s
noncomputable abbrev _root_.PySem.Around.rY (A:ã):ã:={ A with handled:=none }
noncomputable abbrev Cx.loud (X:Cx) (A:ã):Cx:={ X with A:=A,calm:=false,xe:=fun _ _=>False }
theorem Inv.loud {X:Cx} {π:List (Ò×Obj)} {σ:St} {H:Hp} {s:Ã} (I:Inv X π σ H s) (A:ã) (h:A.frames=X.A.frames):Inv (X.loud A) π σ H s:=by
 obtain ⟨⟨a1,a2,Z,Y,W,V,U,T,v,S,R,Q,P,O,N,M,L,K⟩,J,G,F,E,D,C,B,y,x,w⟩:=I;exact ⟨⟨a1,a2,Z,Y,W,V,U,T,fun z=>absurd z Ï,h.trans S,R,Q,P,O,N,M,L,K⟩,J,G,F,E,D,C,B,y,x,w⟩
def Ls {P:Û} {w:ú} {K:ĉ} {mg:Str->Option Ä} {base:ħ} {k:Nat} {f:Ò} {name qual:Str} {params:SM} {body:List SH} {scope:ε} {dV kV doc pm aG ct oc:Ä} {an od:Option Ò}
  {f6:Array (Option Ä)} {N ps:List Str} {sp:Sp} (lk:K.lookup f=some ⟨oc,od,.func (Ļ name qual params body scope dV kV doc pm an aG ct),f6⟩) (cE:Ŵ K aG qual=true) (S:kQ N ps scope)
  (len:∀vs H Q E,sp vs H Q E->vs.length=ps.length)
  (hU:∀(A:ã) (outer:List Env) (s:Ã) (H:Hp) (vs:List V) (Q:VK) (E:XK),dS k (A.deeper (SS qual scope s.heap.objs.size f aG))->sp vs H Q E ->
   ∃t,bV ((fc cg P w K mg base N qual scope f aG A.rY outer s H E).loud (A.deeper (SS qual scope s.heap.objs.size f aG))) body t/\t { nx:=fun _ H'=>Q .ao H',rt:=Q } (start N vs) H) :
  rX P w K mg base (k+1) f (Ļ name qual params body scope dV kV doc pm an aG ct) ps sp:=by
 refine ⟨len,fun A outer s H args p vs Q E T Z M r R=>?_⟩;have L:=len _ _ _ _ R;have O:K.In s.heap:=Z.mod.iu.keeps fun b o e=>(Z.bs b o e).1;have lim:s.heap.NoLimit:=Z.mod.nolimit.keeps fun b o e=>(Z.bs b o e).1;refine codeAny_call_function T.depth (O _ _ lk) rfl S.co S.gen rfl (PySem.W.codeRec_of O cE) (M _ _ _ _ ?_);refine wpAny_newFunctionEnv_cells S.kind (fun y G=>?_) fun env F D x=>?_
 ·rcases S.par y.1 (RF G).1 with q|q
  ·exact .inl q
  ·exact .inr ⟨q,Š _ _ _ (.inl q)⟩
 subst F;refine ⟨lim.keeps x.toInCall.keep,codeAny_func ?_⟩;obtain ⟨t,C,B⟩:=hU A outer s H vs Q E (T.deeper _) R;have I:=(zD (CX:=cg) (P:=P) (w:=w) (A:=A.rY) (E:=E) S rfl ⟨Z.frames,Z.mod,Z.bs,Z.fJ,Z.eG,Z.gH,Z.au,Z.bare⟩ L r x).loud (A.deeper (SS qual scope s.heap.objs.size f aG)) rfl;refine ģ (C [] D (start N vs) H _ I B) (fun z X hs=>?_) fun e X hs=>hs.elim;have fin:∀{Y:St} {H':Hp} {v:V} {u:Ä},Inv ((fc cg P w K mg base N qual scope f aG A.rY outer s H E).loud (A.deeper (SS qual scope s.heap.objs.size f aG))) [] Y H' X->RelV v u->Q v H'->CE outer P w H s Q u X :=
  fun {Y H' v u} J U q=>⟨v,H',J.os,J.bare,J.base,J.au,U,q⟩
 cases z with
 |ret u=>obtain ⟨v,Y,H',J,U,q⟩:=hs;exact fin J U q
 |next=>obtain ⟨Y,H',J,q⟩:=hs;exact fin (v:=V.ao) (u:=Value.none) J rfl q
 |brk=>obtain ⟨_,_,_,q⟩:=hs;exact q.elim
 |cont=>obtain ⟨_,_,_,q⟩:=hs;exact q.elim
section
variable {X:Cx} {k:Nat} {f:Ò} {fd:č} {ps:List Str} {sp:Sp} {E:XK} {x:Str} {p pos:Pos} {e:Ě} {es:List Ě} {t:TA}
def HR (F:rX X.prog X.w X.K X.mg X.base k f fd ps sp) (hr:dS k X.A) (hg:Gl X x) (hm:X.mg x=some (.ref f)) (hk:Ĩ X.K (.ref f)=true) (hb:Binds X.K fd ps [])
  (ha:PA X (e::es) t) (cf:(x==("__debug__":Str))=false:=by decide) (he:Æ (e::es) X.env=(false,ĺ e X.env)::Æ es X.env:=by rfl) (aZ:(Ġ pos (Æ es X.env)).any (·.1)=false:=by rfl) :
  PE X (.Call (.Name x p) (e::es) [] pos) (BR sp [] E0 t):=by
 intro S s σ H Q I h;refine Ň (mB I hg hm ?_ cf);refine SG (h₀:=X.base) I.ok.mod.iu hk (aE (ha pos S s σ H _ I h) fun Z V ⟨U,R,W,r,q⟩=>⟨W.fK,?_⟩) he aZ;have T:Vals (U++[]) (Z++[]):=r.append .nil;have P:(Z++[]).length=ps.length:=by rw [<- T.length];exact F.len _ _ _ _ q
 refine Su (Ŗ (F.run X.A X.stack V R ⟨Z,[]⟩ (Z++[]) (U++[]) Q E0 hr W.lK (hb V Z W.fK P) T q) fun r N Y=>?_)
 cases r with
 |error e=>exact Č Y
 |ok O =>
  cases O with
  |ret u=>exact W.after Y
  |next=>exact Č Y
  |brk=>exact Č Y
  |cont=>exact Č Y
end
end L2
namespace DI
open PySem L2 PySem.W
abbrev Ec (P:Û) (w:ú) (K:ĉ) (mg:Str->Option Ä) (base:ħ) (x:Str) (st:SH) (ps:List Str) (k:Nat) (fn:List D->aa->Res D):Prop:=∀{f:Ò} {fd:č},Gd K mg x st ps f fd->rX P w K mg base k f fd ps (gg K fn)
def MQ {P:Û} {w:ú} {K:ĉ} {mg:Str->Option Ä} {base:ħ} {x:Str} {st:SH} {f:Ò} {fd:č} {ps:List Str} {k:Nat} {b:SV Fl} (G:Gd K mg x st ps f fd) (N:List Str) (S:lR N ps (bN st)=true)
  (hb:N.Nodup->∀(aG:Ä) (A:ã) (outer:List PySem.Env) (s:Ã) (H:Hp) (E:XK),dS k (A.deeper (ı x (bN st) s.heap.objs.size f aG))->bV ((fc cg P w K mg base N x (bN st) f aG A.rY outer s H E).loud (A.deeper (ı x (bN st) s.heap.objs.size f aG))) (fB st) (tS K bF b)) :
  rX P w K mg base (k+1) f fd ps (gg K (aP ps.length N.length b)):=by
 obtain ⟨L,J,kV,doc,pm,an,aG,ct,I,rfl,lk,W⟩:=G.fn.ex;refine Ls lk W (iL S) (fun V H Q E h=>?_) fun A outer s H V Q E U h=>?_
 ·obtain ⟨w,T,rfl,S,Y,h⟩:=h
  rw [<- Y.length];unfold aP at h;split at h
  ·assumption
  ·exact h.elim
 ·obtain ⟨w,T,rfl,R,Y,h⟩:=h
  refine ⟨_,hb (iL S).nd aG A outer s w.H E U,?_⟩;unfold aP at h;split at h
  ·rename_i O
   rw [<- O] at h;refine ⟨w,_,rfl,R,Y.env N.length,(Out.aj h).mono fun F M D X Z=>?_⟩
   cases M with
   |nx env=>intro C _;exact ar X Z _ rfl
   |rt d=>have q:=ar X Z;exact q
   |bk env=>exact Z.elim
   |ct env=>exact Z.elim
  ·exact h.elim
def ke (cs:List Str) (told:Str) (f:SV D) (j:Nat) (b:SV Fl):SV Fl:=fun env s=>match f env s with
 |none=>none
 |some (.ok d,s)=>ok (.rt (.tup [.str told,d])) s
 |some (.error x,s)=>if (decide (x.c∈cs)&&x.many.isNone)=true then aj (b (env.set j (some (.exc x.c))) s) fun Z s=>match Z with
   | .nx env=>ok (.nx (env.set j none)) s
   | .rt d=>ok (.rt d) s
   |_=>none else none
section
variable {X:Cx} {E:XK} {Ξ:Wd->aM->Prop} {e a b c:Ě} {es rest:List Ě} {pos:Pos} {f g h:SV D} {fa:SV (List D)}
def MR {k n:Nat} {x:Str} {st:SH} {ps:List Str} {fn:List D->aa->Res D} {p:Pos} (G:GG X.K X.mg x st ps) (F:Ec X.prog X.w X.K X.mg X.base x st ps k fn) (hr:dS n X.A) (ha:PA X (e::es) (tA X.K Ξ fa)) (hk:k<=n:=by decide) (hg:Gl X x:=by rfl) (cf:(x==("__debug__":Str))=false:=by decide)
  (he:Æ (e::es) X.env=(false,ĺ e X.env)::Æ es X.env:=by rfl) (aZ:(Ġ pos (Æ es X.env)).any (·.1)=false:=by rfl):PE X (.Call (.Name x p) (e::es) [] pos) (tE X.K Ξ (aU fn fa)):=by
 obtain ⟨f,fd,G⟩:=G;refine bI (HR (F G) (hr.mono hk) hg G.mg G.fn.kp G.b ha cf he aZ) fun σ H Q Y=>?_;obtain ⟨w,env,W,S,V,h⟩:=Y;subst W;refine ⟨w,env,rfl,S,V,(Out.aj h).mono fun Z U N T R P O=>?_⟩;show gg X.K fn (P++[]) Z.H Q E0;rw [ĩ];exact ⟨Z,U,rfl,T,O,R.ne⟩
def yD:SV D:=fun _ _=>none
def Dg:PE X e (tE X.K Ξ yD):=fun _ _ _ _ _ _ ⟨_,_,_,_,_,h⟩=>h.elim
def wa (x y:D) (s:aa):Res D:=match x,y with
 | .int i,.int j=>ok (.bl (!(i==j))) s
 |_,_=>none
def MS:aX X (Ć .NotEq) (rO X.K Ξ wa):=by
 rintro Z s σ H x y v u Q I Y W ⟨w,R,P,rfl,S,U,T,h⟩;unfold wa at h;split at h
 ·rename_i i j
  cases U;cases T;refine BQ Z s σ w.H _ _ v u Q I Y W ⟨rfl,?_⟩;have:(!decide (V.int i=V.int j))=!(i==j):=by
   congr 1;rw [ő];simp
  rw [this];exact ar S h _ rfl
 ·exact h.elim
def Lu {k i j:Nat} {x cn n told:Str} {p aY lJ Ol np sD c0:Pos} {k0 k1} {pre:Hp->Prop} {f:Ò} {vs:List V} {ds:List D} {th:aa->Res D} {pq:SH} {oK:List SH} {b:SV Fl} {cs:List Str} (T:tu X.prog X.w X.K X.mg X.base k pre f vs ds th) (h0:pre X.iQ) (hr:bp k X.A)
  (hc:∃CM,X.mg cn=some (.ref CM)/\∀c∈cs,∃C,nsIn X.K Ó c=some (some (.ref C))/\X.mg c=some (.ref C)/\exmOne X.K (.ref C) (.ref CM)=some true)
  (hs:∀a,bV (X.held a) (pq::oK) (tS X.K bF b)) (xS:X.N.Nodup)
  (L:X.stack=X.env::X.outer:=by rfl) (hf:X.env.frame=some X.env.locals:=by rfl) (hj:X.N[j]?=some n:=by rfl) (fO:X.env.scope.names.lookup n=some .local:=by rfl) (hg:Gl X cn:=by rfl) (Qn:(cn==("__debug__":Str))=false:=by decide)
  (hN:X.N[i]?=some x:=by rfl) (hv:nA X.env.scope x:=by first|exact SU rfl|exact Or.inr (SU rfl)|exact Or.inr (Or.inr rfl)) (hd:(x==("__debug__":Str))=false:=by decide) (cE:(x==("__classdict__":Str))=false:=by decide)
  (h1:Æ [.Constant (.str told) k0 c0,.Call (.Name x p) [] [] aY] X.env=(false,ĺ (.Constant (.str told) k0 c0) X.env)::Æ [.Call (.Name x p) [] [] aY] X.env:=by rfl) (h2:Æ [.Call (.Name x p) [] [] aY] X.env=(false,ĺ (.Call (.Name x p) [] [] aY) X.env)::Æ [] X.env:=by rfl) :
  PS X (.Try [.Return (some (.Tuple [.Constant (.str told) k0 c0,.Call (.Name x p) [] [] aY] k1 lJ)) Ol] [.ExceptHandler (some (.Name cn np)) (some n) (pq::oK) sD] [] [] pos) (tS X.K bF (ke cs told (nP (.bE f vs ds) th i) j b)):=by
 intro O s σ H D I aw;obtain ⟨w,env,eH,S,t,h⟩:=aw;subst eH;obtain ⟨CM,i8,m⟩:=hc;unfold ke nP at h;by_cases G:env[i]?=some (some (.bE f vs ds))
 case neg=>rw [õ G] at h;exact h.elim
 rw [é G] at h;refine wpAny_Try_except ?_
 let E:XK:=fun cls _ Y=>∃(Z:Wd) (c:Str) (C:Ò),Z.H=Y/\aA X.K Z/\bL X.K Z env σ/\cls=.ref C/\c∈cs/\X.mg c=some (.ref C)/\Out X.K bF Z (aj (b (env.set j (some (.exc c))) Z.aq) fun P s=>match P with
   | .nx env=>ok (.nx (env.set j none)) s
   | .rt d=>ok (.rt d) s
   |_=>none) (su X.K D)
 have Qo:Out X.K (gv X.mg E) w (th w.aq) fun Z d=>∀v,DV X.K Z d v->∀q,Z.H q=none->D.rt (.ref q) (upd Z.H q (.tup [.str told,v])):=by
  cases hr:th w.aq with
  |none=>rw [hr] at h;exact h.elim
  |some q =>
   obtain ⟨q,s2⟩:=q;rw [hr] at h
   cases q with
   |ok d =>
    intro Z l R e v F q M;have g:=(Fw.grow (K:=X.K) (o:=.tup [.str told,v]) M).le;exact h (Z.grow q (.tup [.str told,v])) (l.trans g) (R.grow M) e (.ref q) ⟨q,_,rfl,aT.of bS,⟨.str told,[v],rfl,rfl,g.all ⟨v,[],rfl,F,rfl⟩⟩⟩
   |error y =>
    intro Z l R e;dsimp only at h;split at h
    ·rename_i J
     rw [Í,ß] at J;obtain ⟨C,_,h2,_⟩:=m _ J.1;refine ⟨Ż.mp J.2,C,h2,Z,y.c,C,rfl,R,t.le l,rfl,J.1,h2,?_⟩;rw [e];exact h.from l
    ·exact h.elim
 have hU:=fun {W:Ã} (I:Inv X O σ w.H W)=>Ll (pos:=aY) (p:=p) (Q:=fun v Y=>∀q,Y q=none->D.rt (.ref q) (upd Y q (.tup [.str told,v]))) T h0 hr hN hv hd cE I S t G Qo;refine wpAny_execs_cons (ģ (wpAny_Return_some (Q:=SP X O { nx:=fun _ _=>False,rt:=D.rt }) (E:=rE X O σ E) (wpAny_Tuple_spliced ?_)) (fun P W q=>?_) fun e W q=>?_)
 ·rw [h1]
  refine RE (Calls.Constant_str (k:=k0) (pos:=c0) ?_);rw [h2];refine RE (aE (hU (I.tok _)) fun u W M=>Calls.spliced_nil ?_);obtain ⟨v,H1,I1,r,q⟩:=M;refine ⟨show 2<=Ö by decide,?_⟩;have hf:H1 W.heap.objs.size=none:=I1.au.fresh (S0 _);refine ⟨.ref W.heap.objs.size,σ,upd H1 W.heap.objs.size (.tup [.str told,v]),I1.laid (t':=W.toks) (fun b u e=>Á _ e) (S0 _) ?_,rfl,q _ hf⟩;exact ⟨show 2<=Ö by decide,_,.cons ⟨_,rfl⟩ (.cons r .nil),⟨_,Ç _ rfl,rfl,_,rfl⟩⟩
 ·cases P with
  |next=>obtain ⟨_,_,_,z⟩:=q;exact Č z
  |ret v=>exact q
  |brk=>obtain ⟨_,_,_,z⟩:=q;exact Č z
  |cont=>obtain ⟨_,_,_,z⟩:=q;exact Č z
 ·refine gy (D:=D) q L hf xS hj fO hg i8 Qn fun cls Y hE=>?_
  obtain ⟨Z,c,C,rfl,R,kF,rfl,sI,Qp,ho⟩:=hE;obtain ⟨C2,k1,k2,k3⟩:=m c sI;rw [Qp] at k2;cases k2;refine ⟨k3,fun a o B dw s5 I5=>?_⟩;have le:=(Fw.grow (K:=X.K) (o:=.aN o (.own a)) B).le;have S5:=R.grow (o:=.aN o (.own a)) B;have F:DV X.K (Z.grow a (.aN o (.own a))) (.exc c) (.ref a):=⟨a,o,C,rfl,⟨fun z=>kY R B z,bS⟩,dw,k1⟩;have hd:=hs a O s5 (σ.set j (some (.ref a))) _ { nx:=fun U Y=>D.nx (U.set j none) Y,rt:=D.rt,bk:=fun U Y=>D.bk (U.set j none) Y,ct:=fun U Y=>D.ct (U.set j none) Y } I5
   ⟨Z.grow a (.aN o (.own a)),env.set j (some (.exc c)),rfl,S5,(kF.le le).set F j,(Out.aj (ho.from le)).mono fun w6 P l6 S6 q=>?_⟩
  ·exact hd
  ·cases P with
   |nx aF=>exact fun U e'=>ar S6 q (U.set j none) (e'.unset j)
   |rt d=>have z:=ar S6 q;exact z
   |bk aF=>exact q.elim
   |ct aF=>exact q.elim
end
end DI
namespace L2
open PySem PySem.Spec PyProof.Rows
def EO {X:Cx}:bK X (.builtin "isinstance") (fun xs H Q=>∃x k p,xs=[x,.ref p]/\kC X.K H x k/\H p=some (.ext (mP p ["list","tuple"]))/\Q (.bl (decide (k=.tup)||decide (k=.lst))) H):=by
 intro P s σ H xs O Q I r h;obtain ⟨x,k,p,rfl,W,V,q⟩:=h;obtain ⟨u,c,rfl,U,rc⟩:=vals2 r;cases rc;obtain ⟨N,T,Z,S,Y⟩:=KG (K:=X.K) I W U;have R:ck X.prog X.w H s.heap p (.ext (mP p ["list","tuple"])):=I.au p _ V
 match T,Z,Y with
 | [M,y1],Z,Y =>
  refine IsiPair.tupleOfB (.cons Z.2.1 (.cons Z.1 .nil)) S R.1 ?_ fun L=>⟨.bl _,H,I.tok _,rfl,q⟩;rw [<- Y];simp only [List.any_cons,List.any_nil,Bool.or_false,id];exact Bool.or_comm _ _
end L2
namespace DI
open PySem L2
def Jx {X:Cx} {Ξ:Wd->aM->Prop} {a:Ě} {pos:Pos} {f:SV D} {p p1 p2 p3:Pos} {x1} (ha:PE X a (tE X.K Ξ f)) (hg:Gl X "isinstance") (hm:X.mg "isinstance"=none) (hv:ê "isinstance"=some (.builtin "isinstance")) (h1:PE X (.Name "tuple" p1) (tC (.ty "tuple"))) (h2:PE X (.Name "list" p2) (tC (.ty "list")))
  (he:Æ (a::[.Tuple [.Name "list" p2,.Name "tuple" p1] x1 p3]) X.env=(false,ĺ a X.env)::Æ [.Tuple [.Name "list" p2,.Name "tuple" p1] x1 p3] X.env:=by rfl) :
  PE X (.Call (.Name "isinstance" p) [a,.Tuple [.Name "list" p2,.Name "tuple" p1] x1 p3] [] pos) (tE X.K Ξ (e1 ni f)) :=
 bI (qG EO hg hm hv (fz ha (fz (He (fz h2 (fz h1 gU))) gU) he) (by decide) (by decide) he) fun σ H Q T=>by
  obtain ⟨w,env,R,S,P,h⟩:=T;subst R;refine ⟨w,env,rfl,S,P,(Out.aj h).mono fun Y d M O h1 v N=>?_⟩;refine ⟨["list","tuple"],rfl,(by show 2<=Ö;decide),fun p W=>?_⟩;obtain ⟨L,e,h1⟩:=cY h1
  cases Z:kd d Y.aq with
  |none=>rw [Z] at e;cases e
  |some k =>
   rw [Z] at e;cases e;have V:=O.grow (o:=.ext (mP p ["list","tuple"])) W;have U:=(Fw.grow (K:=X.K) (o:=.ext (mP p ["list","tuple"])) W).le;exact ⟨v,k,p,rfl,B6 (w:=Y.grow p _) V (U _ _ N) Z,bS,h1 _ U V rfl _ rfl⟩
end DI
namespace ST
open PySem PySem.Spec PyProof.Rows
section
variable {prog:Û} {w:ú} {A:ã} {E:Ä->Ã->Prop} {s:Ã}
end
end ST
namespace DI
open PySem L2
section
variable {X:Cx} {Ξ:Wd->aM->Prop}
end
section
variable {X:Cx} {Ξ:Wd->aM->Prop} {e o i:Ě} {pos ko:Pos} {f fo fi:SV D}
end
end DI
namespace L2
open PySem PySem.Spec PyProof.Rows
section
variable {X:Cx}
end
end L2
namespace DI
open PySem L2
section
variable {X:Cx} {Ξ:Wd->aM->Prop}
end
end DI
namespace L2
open PySem PySem.Spec PyProof.Rows
section
variable {X:Cx}
end
end L2
namespace DI
open PySem L2
section
variable {X:Cx} {Ξ:Wd->aM->Prop} {a:Ě} {pos:Pos} {f:SV D}
end
end DI
namespace L2
open PySem PySem.Spec PyProof.Rows
section
variable {X:Cx}
end
end L2
namespace DI
open PySem L2
section
variable {X:Cx} {Ξ:Wd->aM->Prop} {pos:Pos}
end
end DI
namespace L2
open PySem PySem.Spec PyProof.Rows
end L2
namespace DI
open PySem L2
section
variable {X:Cx} {Ξ:Wd->aM->Prop}
end
end DI
namespace L2
open PySem PySem.Spec PyProof.Rows
open AutoSeq1 (wpAny_loadPart')
section
variable {prog:Û} {w:ú} {A:ã} {E:Ä->Ã->Prop} {s:Ã}
def Ey {a b c:Int} {n:Nat} {Q:List Ä->Ã->Prop} (hh:A.handled=none) (hr:IsRange s.heap r a b c t u v) (vz:Builtin.Range.small a b c=true)
 (hn:χ a b c=n) (hlen:n<=2 ^ 24)
 (hQ:∀(h':ħ) (tk:Nat) (acc:Array Ä),(∀b o,s.heap.get? b=some o->h'.get? b=some o)->ItemsOf (fun i v=>∃t,v=.int (a+i*c) t) acc n->Q acc.toList { s with heap:=h',toks:=tk }) :
  Ô (á prog w) A (collect (.ref r)) Q E s:=by
 unfold collect;refine À (wpAny_runValue (Ą PySem.F.entry_proto_collect ?_));rw [í PySem.F.plain_proto_collect _];show Ô _ A.in1 (newList [] >>= fun l=>again (.builtin "list.__iadd__" ⟨[l,.ref r],[]⟩)) _ _ s;refine À (ì ?_);refine Â ⟨Ę PySem.F.plain_list_iadd _,Ą PySem.F.entry_list_iadd ?_⟩;rw [í PySem.F.plain_list_iadd _];show Ô _ A.in1 (ũ (.ref s.heap.objs.size) (.ref r) (.ref s.heap.objs.size)) _ _ _;have V:(s.heap.push { cls:=.type "list",data:=.seq ([]:List Ä).toArray }).get? s.heap.objs.size=some { cls:=.type "list",data:=.seq #[] 0 }:=Ç _ rfl
 have X:∀(Z:Ã),(∃acc Y,Z.heap.get? s.heap.objs.size=some { cls:=.type "list",dict:=none,data:=.seq acc Y,slots:=#[] }/\Q acc.toList Z)->Ô (á prog w) A (match ű s.heap.objs.size with
   |ű a=>do
    match (<- load a).data with
     |Data.seq U _=>pure U.toList
     |_=>unsupported "internal:collect"
   |_=>unsupported "internal:collect") Q E Z:=fun Z ⟨acc,Y,T,S⟩=>by
  show Ô _ A (load s.heap.objs.size >>= _) _ _ _;exact À (wpAny_load T (Â S))
 refine ģ (wpAny_extend_range (A:=A) (R:=fun r Z=>r=.ok (.ret (.ref s.heap.objs.size))/\∃acc Y,Z.heap.get? s.heap.objs.size=some { cls:=.type "list",dict:=none,data:=.seq acc Y,slots:=#[] }/\Q acc.toList Z) (s:={ s with heap:=s.heap.push { cls:=.type "list",data:=.seq ([]:List Ä).toArray } }) hh (Á _ hr) vz hn hlen _ _ 0 V fun h' tk W Y P O N=>⟨rfl,W,Y,O,hQ h' tk W (fun b o e=>P b o (Ý (É e)) (Á _ e)) N⟩) (fun fin Z h=>?_) (fun e Z h=>?_)
 ·cases fin with
  |done f =>
   obtain ⟨e,h⟩:=h;cases e;exact X _ h
  |again Y=>exact ⟨h.1,Ŗ h.2 fun r M hr=>by obtain ⟨rfl,hr⟩:=hr;exact X _ hr⟩
 ·exact absurd h.1 (by simp)
def Ek {a b c:Int} {n:Nat} {Q:Ä->Ã->Prop} (hh:A.handled=none) (hr:IsRange s.heap r a b c t u v) (vz:Builtin.Range.small a b c=true)
 (hn:χ a b c=n) (hlen:n<=2 ^ 24)
 (hQ:∀(h':ħ) (tk:Nat) (acc:Array Ä),(∀b o,s.heap.get? b=some o->h'.get? b=some o)->ItemsOf (fun i v=>∃t,v=.int (a+i*c) t) acc n->Q (.ref h'.objs.size) { s with heap:=h'.push { cls:=.type "tuple",data:=.seq acc },toks:=tk }) :
  Ô (á prog w) A (call (.type "tuple") [.ref r]) Q E s:=by
 have Y:n<=Ö:=by rw [RU];omega
 refine callType_codes (Q₁:=fun obj Z=>Z.TypeIs obj "tuple"/\Q obj Z) So (PySem.F.typeCall_tuple_1 _) PySem.F.entry_object_init ?_ fun obj Z X=>?_
 ·refine codeAny_of_tree ?_
  show Ô _ A.in1.in1 (do Sn "tuple.__new__" ⟨[.type "tuple",.ref r],[]⟩;again (.builtin "tuple.__new__" ⟨[.type "tuple",.ref r],[]⟩)) _ _ s
  refine À (R0 (PySem.F.newCall_tuple_1 _) (Â ⟨Ę PySem.F.plain_tuple_new _,Ą PySem.F.entry_tuple_new ?_⟩));rw [í PySem.F.plain_tuple_new _];have T:=sub_tuple_self;have S:=init_tuple_lookup;have R:=madeHere_tuple;have V:s.TypeIs (.ref r) "range":=⟨_,hr,rfl⟩
  wp_walk using ι V,Ey (A:=A.in1.in1) hh hr vz hn hlen
  intro h' tk acc U W;show Ô _ _ (Ĕ acc.toList.toArray >>= fun v=>ret v) _ _ _;unfold Ĕ;refine À (ì ?_ (by show acc.toList.toArray.size<=Ö;simp only [Array.toArray_toList];rw [W.1];exact Y));refine Â ?_;have e:acc.toList.toArray=acc:=by simp
  rw [e];exact ⟨⟨_,Ç _ rfl,rfl⟩,hQ h' tk acc U W⟩
 ·exact ⟨X.1,PySem.F.args_object_init_2 obj _,object_init_meets So.init.lookup So.made (by decide) prog w A.in1 _ Z ⟨X.1,rfl,X.2⟩⟩
end
section
variable {X:Cx}
def GA (hc:X.calm=true):bK X (.type "tuple") (fun xs H Q=>∃(p:Ò) (n:Nat),xs=[.ref p]/\H p=some (.cb 0 n)/\n<=1000000/\∀q,H q=none->Q (.ref q) (upd H q (.tup ((ć n).map fun i:Nat=>V.int (0+(i:Int)))))):=by
 intro T s σ H xs J Q I r h;obtain ⟨p,n,rfl,P,O,q⟩:=h;obtain ⟨u,rfl,N⟩:=vals1 r;cases N;obtain ⟨t1,G,t3,M⟩:=I.au p _ P;refine Ek (I.ok.hd hc) M (small_one (by omega) (by omega) (by omega) (by omega)) (n:=n) ?_ (by omega) fun Y W Z L hit=>?_
 ·rw [rangeSize_one]
  split<;>omega
 ·obtain ⟨U,hit⟩:=hit
  have S:=zm Z.toList 0 fun i v e=>by
   obtain ⟨t,e⟩:=hit i v (by simpa using e);exact ⟨t,by rw [e,Nat.zero_add]⟩
  rw [ă,U,<- List.range_eq_range'] at S
  have R:Inv X T σ H { s with heap:=Y,toks:=W }:=I.kept (t':=W) L
  have K:Inv X T σ (upd H Y.objs.size (.tup ((ć n).map fun i:Nat=>V.int (0+(i:Int))))) { s with heap:=Y.push { cls:=.type "tuple",data:=.seq Z },toks:=W } :=
   R.laid (t':=W) (fun b o e=>Á _ e) (S0 _) (show ck X.prog X.w _ _ _ (.tup _) from ⟨?_,Z.toList,S,by simpa using IsTup.new Y Z⟩)
  ·exact ⟨.ref Y.objs.size,_,K,rfl,q _ (R.au.fresh (S0 _))⟩
  ·rw [Ë,R5]
   exact â O (by decide)
end
end L2
namespace DI
open PySem L2
section
variable {X:Cx} {Ξ:Wd->aM->Prop} {a:Ě} {p pos:Pos} {fa:SV (List D)}
def rZ (ds:List D) (s:aa):Res D:=match ds with
 | [.int j]=>if (decide (0<=j)&&decide (j<=1000000))=true then ok (.tup (cb 0 j.toNat)) s else none
 |_=>none
def Lw {p2 jx:Pos} (ha:PA X [a] (tA X.K Ξ fa)) (hc:X.calm=true) (hg:Gl X "tuple") (hm:X.mg "tuple"=none) (x9:Gl X "range") (qb:X.mg "range"=none)
  (he:Æ [a] X.env=(false,ĺ a X.env)::Æ [] X.env:=by rfl) (aZ:(Ġ jx (Æ [] X.env)).any (·.1)=false:=by rfl)
  (qc:Æ [.Call (.Name "range" p2) [a] [] jx] X.env=(false,ĺ (.Call (.Name "range" p2) [a] [] jx) X.env)::Æ [] X.env:=by rfl) (wY:(Ġ pos (Æ [] X.env)).any (·.1)=false:=by rfl) :
  PE X (.Call (.Name "tuple" p) [.Call (.Name "range" p2) [a] [] jx] [] pos) (tE X.K Ξ (eB rZ fa)) :=
 bI (qA (GA hc) hg hm (by decide +kernel) (fz (qA E4 x9 qb (by decide +kernel) ha (by decide) (by decide) he aZ) gU qc) (by decide) (by decide) qc wY) fun σ H Q R=>by
  obtain ⟨w,env,P,S,O,h⟩:=R;subst P;refine ⟨w,env,rfl,S,O,(Out.aj h).mono fun Y G F N Z E M=>?_⟩;unfold rZ at Z;split at Z
  ·rename_i j
   split at Z
   ·rename_i W
    simp only [Í,ß] at W;obtain ⟨v,r,rfl,L,dr⟩:=M;have e1:v=.int j:=L;have e2:r=[]:=dr;subst e1 e2;refine ⟨j,rfl,fun q U=>⟨q,j.toNat,rfl,by rw [bS,Int.toNat_of_nonneg W.1],by omega,fun l J=>?_⟩⟩;have T:(Y.grow q (.cb 0 j)).H l=none:=J;have I:=N.grow (o:=.cb 0 j) U;exact Z ((Y.grow q (.cb 0 j)).grow l (.tup ((ć j.toNat).map fun i:Nat=>V.int (0+(i:Int))))) ((Fw.grow U).le.trans (Fw.grow T).le) (I.grow T) rfl (.ref l) ⟨l,_,rfl,aT.of bS,Jq _⟩
   ·exact Z.elim
  ·exact Z.elim
end
end DI
namespace L2
open PySem PySem.Spec PyProof.Rows
section
variable {X:Cx} {pos:Pos}
end
end L2
namespace DI
open PySem L2
section
variable {X:Cx} {Ξ:Wd->aM->Prop} {a b c:Ě} {pos:Pos} {fa:SV (List D)}
end
noncomputable def notStar:Ě->Bool
 | .Starred ..=>false
 |_=>true
def Jy (h:notStar e=true):Æ (e::es) env=(false,ĺ e env)::Æ es env:=by
 cases e<;>first|rfl|cases h
section
variable {X:Cx} {Ξ:Wd->aM->Prop} {e:Ě} {es:List Ě} {f:SV D} {fa:SV (List D)} {pos:Pos}
def Jz (ha:PE X e (tE X.K Ξ f)) (hr:PA X es (tA X.K Ξ fa)) (h:notStar e=true):PA X (e::es) (tA X.K Ξ (af f fa)):=bJ ha hr (Jy h)
end
def pw (f:Ě->Option D):List Ě->Option (List D)
 | []=>some []
 |e::Z=>match f e,pw f Z with
  |some d,some Y=>if notStar e=true then some (d::Y) else none
  |_,_=>none
def cst:Nat->Ě->Option D
 |0,_=>none
 |n+1,e=>match e with
  | .Constant (.str x) _ _=>some (.str x)
  | .Constant (.int i) _ _=>some (.int i)
  | .Constant (.bool b) _ _=>some (.bl b)
  | .Constant .none _ _=>some .ao
  | .UnaryOp .USub (.Constant (.int i) _ _) _=>some (.int (-i))
  | .Tuple Y _ _=>match pw (cst n) Y with
   |some Z=>if Z.length<=100 then some (.tup Z) else none
   |none=>none
  | .List Y _=>match pw (cst n) Y with
   |some Z=>if Z.length<=100 then some (.lst Z) else none
   |none=>none
  |_=>none
def aC (ds:List D):SV (List D):=fun _ s=>ok ds s
def MT {ds:List D} (h:ds.length<=100):cV (aC ds)=eC (.tup ds):=by
 funext env s;show fF ds (ok (D.tup ds) s)=_;exact é (â h (by decide))
def MU {ds:List D} (h:ds.length<=100):fe (aC ds)=eC (.lst ds):=by
 funext env s;show fF ds (ok (D.lst ds) s)=_;exact é (â h (by decide))
section
variable {X:Cx} {Ξ:Wd->aM->Prop}
theorem wb {f:Ě->Option D} (hf:∀e d,f e=some d->PE X e (tE X.K Ξ (eC d))):∀{es:List Ě} {ds:List D},pw f es=some ds->PA X es (tA X.K Ξ (aC ds))
 | [],ds,h=>by cases h;exact cR
 |e::es,ds,h=>by
  unfold pw at h;split at h
  ·rename_i d Z e1 e2
   split at h
   ·rename_i hs
    cases h;exact Jz (hf e d e1) (wb hf e2) hs
   ·cases h
  ·cases h
theorem wc:∀(n:Nat) {e:Ě} {d:D},cst n e=some d->PE X e (tE X.K Ξ (eC d))
 |0,e,d,h=>by cases h
 |n+1,e,d,h=>by
  unfold cst at h;split at h
  ·cases h;exact jm
  ·cases h;exact aL
  ·cases h;exact ik
  ·cases h;exact BX
  ·cases h;exact NX Mq aL
  ·split at h
   ·rename_i W Z
    split at h
    ·rename_i Y
     cases h;rw [<- MT Y];exact eY (wb (fun e d=>wc n) Z)
    ·cases h
   ·cases h
  ·split at h
   ·rename_i W Z
    split at h
    ·rename_i Y
     cases h;rw [<- MU Y];exact gB (wb (fun e d=>wc n) Z)
    ·cases h
   ·cases h
  ·cases h
end
end DI
namespace DI.aO
open PySem L2 DI
noncomputable section
noncomputable def bg:List Str:=["NoMarks","NoHeap"]
def n5:List D->aa->Res D:=aP 2 3 (aD (bA (aU mw (af (ae 0) (af (ae 1) ai))) (gN 2)) (aD (bO (bY (e2 o8 (ae 2) (e2 mS (eC (.int 10)) (eC (.int 18))))) (aW (eNew (af (e2 lD (ae 2) (e2 mS (eC (.int 10)) (eC (.int 18)))) (af (eC (.bl true)) ai)))) bZ) (aW (eNew (af (e2 eZ (ae 2) (eC (.int 2147483647))) (af (eC (.bl false)) ai))))))
def fC:List D->aa->Res D:=aP 2 4 (aD (bO (dC (e2 bj (ae 0) (eC (.int 1)))) (aD (bA (e2 eZ (e2 bj (ae 0) (eC (.int 0))) (ae 1)) (gN 2)) (aD (jw (e2 lE (e2 bj (ae 0) (eC (.int 0))) (ae 1)) (ae 0) (eC (.int 0))) (aW (ae 2)))) bZ) (aD (jw (e2 eZ (e2 br (e2 dB (e2 bj (ae 0) (eC (.int 0))) (eC (.int 48271))) (eC (.int 29))) (eC (.int 2147483647))) (ae 0) (eC (.int 0))) (aD (bA (e2 eZ (e2 br (e2 br (e2 dB (e2 bj (ae 0) (eC (.int 0))) (e2 bj (ae 0) (eC (.int 0)))) (e2 dB (eC (.int 39373)) (e2 bj (ae 0) (eC (.int 0))))) (eC (.int 7))) (eC (.int 2147483629))) (gN 3)) (aD (bA (e2 eZ (e2 br (e2 dB (ae 3) (ae 3)) (e2 dB (eC (.int 16807)) (ae 3))) (eC (.int 2147483587))) (gN 3)) (aW (e2 eZ (e2 lE (ae 3) (eC (.int 8))) (ae 1)))))))
def kM:List D->aa->Res D:=aP 2 2 (aW (eB jk (af (dP 1 [0] (fN (af (ae 1) ai)) (gN 0) (bY (e2 dq (aU fC (af (ae 1) (af (eC (.int 2)) ai))) (eC (.int 1)))) (ae 0)) ai)))
def qV:List D->aa->Res D:=aP 2 8 (aD (sy 2 3 (af (e2 br (eC (.int 1)) (aU fC (af (ae 0) (af (ae 1) ai)))) (af (aU fC (af (ae 0) (af (eC (.int 4)) ai))) ai))) (aD (bA (eNew ai) (gN 4)) (aD (fV (fN (af (ae 2) ai)) (gN 5) (aD (bA (aU kM (af (ae 0) (af (e2 bj (fe (af (eC (.int 2)) (af (eC (.int 3)) (af (eC (.int 4)) (af (eC (.int 8)) ai))))) (ae 3)) ai))) (gN 6)) (aD (bO (lI (bY (e2 dD (ae 4) (fe ai))) (bY (e2 dq (aU fC (af (ae 0) (af (eC (.int 4)) ai))) (eC (.int 0))))) (aD (bA (e2 bj (ae 4) (aU fC (af (ae 0) (af (eB bt (af (ae 4) ai)) ai)))) (gN 7)) (bA (sU (bY (e2 dq (aU fC (af (ae 0) (af (eC (.int 2)) ai))) (eC (.int 0)))) (eB jk (af (e1 nZ (e2 br (ae 7) (ae 6))) ai)) (ae 7)) (gN 6))) bZ) (fG (lO (ae 4) (ae 6)))))) (aW (eB jk (af (ae 4) ai))))))
def nU:List D->aa->Res D:=aP 2 2 (aW (e2 dq (dP 1 [1] (di (ae 0)) (gN 0) (bY (e2 jT (ae 0) (ae 1))) (ae 0)) (fe ai)))
def qW:List D->aa->Res D:=aP 3 3 (aW (pY (aU nU (af (e2 bj (ae 0) (ae 1)) (af (e2 bj (ae 0) (ae 2)) ai))) (aU nU (af (e2 bj (ae 0) (ae 2)) (af (e2 bj (ae 0) (ae 1)) ai)))))
def mE:List D->aa->Res D:=aP 1 4 (aD (bA (eNew (af (cV ai) ai)) (gN 1)) (aD (fV (fN (af (eB bt (af (ae 0) ai)) ai)) (gN 2) (fV (di (eB oF (af (ae 1) ai))) (gN 3) (bO (bY (e2 dq (dP 1 [0,2] (di (ae 3)) (gN 0) (dC (aU qW (af (ae 1) (af (ae 0) (af (ae 2) ai))))) (ae 0)) (fe ai))) (fG (lO (ae 1) (e2 br (ae 3) (cV (af (ae 2) ai))))) bZ))) (aW (eB sA (af (dP 1 [] (di (sr (ae 1))) (gN 0) jK (eB bt (af (ae 0) ai))) ai)))))
def mv:List D->aa->Res D:=aP 1 1 (bO (ib (dC (aU qr (af (ae 0) (af (eC (.int (9))) ai))))) (vv "NoHeap" (af (eC (.str "a heap is a tuple of one to nine marks")) ai)) bZ)
def qv:List D->aa->Res D:=aP 3 4 (aD (bA (e2 bj (ae 0) (ae 2)) (gN 3)) (aW (oX (eB sx (af (dP 1 [3,0] (di (ae 1)) (gN 0) jK (pY (aU nT (af (ae 1) (af (e2 bj (ae 2) (ae 0)) ai))) (aU nT (af (e2 bj (ae 2) (ae 0)) (af (ae 1) ai))))) ai)))))
def kJ:List D->aa->Res D:=aP 1 3 (aD (bA (fe (af (cV ai) ai)) (gN 1)) (aD (fV (fN (af (eB bt (af (ae 0) ai)) ai)) (gN 2) (bA (e2 br (ae 1) (dP 1 [2,0] (di (ae 1)) (gN 0) (dC (aU qv (af (ae 2) (af (ae 0) (af (ae 1) ai))))) (e2 br (ae 0) (cV (af (ae 1) ai))))) (gN 1))) (aW (e1 vo (ae 1)))))
def qM:List D->aa->Res D:=aP 1 2 (aD (fG (dM mv (af (ae 0) ai))) (aD (bO (bY (e2 dq (eB bt (af (ae 0) ai)) (eC (.int 1)))) (aW (eNew ai)) bZ) (aD (bA (eB bt (af (aU kJ (af (ae 0) ai)) ai)) (gN 1)) (aW (oj 1 [1,0] (fN (af (eB bt (af (ae 0) ai)) ai)) (gN 0) (bY (e2 jy (eB bt (af (aU kJ (af (e2 br (gr (ae 2) gp (fX (ae 0))) (gr (ae 2) (fX (e2 br (ae 0) (eC (.int 1)))) gp)) ai)) ai)) (ae 1))) (ae 0))))))
def iK:Nat->List D->aa->Res D
 |0=>fun _ _=>none
 |n+1=>aP 2 2 (aD (bO (dC (e1 ni (ae 1))) (aD (bO (kA (bY (e2 dD (eB cm (af (ae 0) (af (eC (.ty "list")) ai))) (eB cm (af (ae 1) (af (eC (.ty "list")) ai))))) (bY (e2 dD (eB cm (af (ae 0) (af (eC (.ty "tuple")) ai))) (eB cm (af (ae 1) (af (eC (.ty "tuple")) ai)))))) (aW (eC (.bl false))) bZ) (aD (bO (bY (e2 dD (eB bt (af (ae 0) ai)) (eB bt (af (ae 1) ai)))) (aW (eC (.bl false))) bZ) (aW (e2 jT (eC (.bl false)) (oq 2 [] (jq (af (ae 0) (af (ae 1) ai))) (gT [gN 0,gN 1]) jK (aU (iK n) (af (ae 0) (af (ae 1) ai)))))))) bZ) (aW (fU (e2 dq (eB cm (af (ae 0) (af (eC (.ty "bool")) ai))) (eB cm (af (ae 1) (af (eC (.ty "bool")) ai)))) (e2 dq (ae 0) (ae 1)))))
def zo:List D->aa->Res D:=aP 1 2 (aD (bA (fe (af (e1 (cq bg (isNm "NoMarks")) (ae 0)) (af (e1 (cq bg (isNm "NoSheet")) (ae 0)) (af (e1 (cq bg (isNm "NoPage")) (ae 0)) (af (e1 (cq bg (isNm "NoBook")) (ae 0)) ai))))) (gN 1)) (aD (bA (e2 br (ae 1) (fe (af (e1 (cq bg (isNm "NoMould")) (ae 0)) (af (e1 (cq bg (isNm "NoDay")) (ae 0)) (af (e1 (cq bg (isNm "NoSort")) (ae 0)) (af (e1 (cq bg (isNm "NoNumber")) (ae 0)) ai)))))) (gN 1)) (aD (bA (e2 br (ae 1) (fe (af (e1 (cq bg (isNm "NoSheets")) (ae 0)) (af (e1 (cq bg (isNm "NoRun")) (ae 0)) (af (e1 (cq bg (isNm "NoLaying")) (ae 0)) (af (e1 (cq bg (isNm "NoHeap")) (ae 0)) ai)))))) (gN 1)) (aD (bA (e2 br (ae 1) (fe (af (e1 (cq bg (isNm "NoCount")) (ae 0)) (af (e1 (cq bg (isNm "Clash")) (ae 0)) (af (e1 (cq bg (isNm "NoDeed")) (ae 0)) (af (e1 (cq bg (isNm "NoText")) (ae 0)) ai)))))) (gN 1)) (aW (e2 br (ae 1) (fe (af (e1 (cq bg (isNm "NoRow")) (ae 0)) (af (e1 (cq bg (isNm "TooMany")) (ae 0)) (af (e1 (cq bg (isNm "Lacking")) (ae 0)) ai))))))))))
def je:List D->aa->Res D:=aP 1 1 (bO (ib (dC (aU jf (af (ae 0) ai)))) (vv "NoMarks" (af (eC (.str "marks are a rising tuple of whole numbers from 0 to 7")) ai)) bZ)
def fQ:List D->aa->Res D:=aP 2 2 (aD (fG (dM mv (af (ae 0) ai))) (aD (fG (dM je (af (ae 1) ai))) (aW (e2 lD (eB bt (af (aU kJ (af (e2 br (ae 0) (cV (af (ae 1) ai))) ai)) ai)) (eB bt (af (aU kJ (af (ae 0) ai)) ai))))))
def dO (cl:D) (th:aa->Res D):List D->aa->Res D:=aP 1 3 (ke bg "told" (nP cl th 0) 1 (aD (bA (aU zo (af (ae 1) ai)) (gN 2)) (aD (bO (kA (ib (dC (e1 (cq bg anyS) (ae 1)))) (bY (e2 wa (e1 xg (ae 2)) (eC (.int 1))))) (aW (cV (af (eC (.str "other")) (af (eC .ao) ai)))) bZ) (aD (bO (dC (e2 bj (ae 2) (eC (.int 17)))) (aW (cV (af (eC (.str "many")) (af yD ai)))) bZ) (aD (bO (dC (e2 bj (ae 2) (eC (.int 18)))) (aW (cV (af (eC (.str "lacking")) (af yD ai)))) bZ) (aW (cV (af (eC (.str "refused")) (af (e1 yy (ae 2)) ai)))))))))
def vA:SV Fl:=(bO (ib (dC (aU (iK 8) (af (aU fQ (af (ae 3) (af (ae 6) ai))) (af (e2 lD (aU mE (af (e2 br (ae 3) (cV (af (ae 6) ai))) ai)) (ae 4)) ai))))) (aW (eC (.bl false))) bZ)
def vB:SV Fl:=(bO (lI (bY (e2 iU (eB bt (af (ae 3) ai)) (eC (.int 1)))) (bY (e2 jy (aU mE (af (e2 br (gr (ae 3) gp (fX (ae 8))) (gr (ae 3) (fX (e2 br (ae 8) (eC (.int 1)))) gp)) ai)) (ae 4)))) (fG (lO (ae 7) (ae 8))) bZ)
def vC:SV Fl:=(aD (bA (aU qM (af (ae 3) ai)) (gN 10)) (aD (bO (ib (dC (aU (iK 8) (af (ae 10) (af (ae 7) ai))))) (aW (eC (.bl false))) bZ) (fG (lO (ae 10) (eC (.int 9))))))
def vD:SV Fl:=(aD (bO (bY (e2 dD (ku "law" [3,11] (dM fQ (af (ae 0) (af (ae 1) ai))) dO) (cV (af (eC (.str "refused")) (af (eC (.int 0)) ai))))) (aW (eC (.bl false))) bZ) (bO (bY (e2 dD (ku "law" [11] (dM fQ (af (cV ai) (af (ae 0) ai))) dO) (cV (af (eC (.str "refused")) (af (eC (.int 11)) ai))))) (aW (eC (.bl false))) bZ))
def vE:SV Fl:=(aD (bA (aU n5 (af (ae 0) (af (ae 1) ai))) (gN 2)) (aD (bA (aU qV (af (ae 2) (af (eC (.int 9)) ai))) (gN 3)) (aD (bA (aU mE (af (ae 3) ai)) (gN 4)) (aD (bA (fe (af (aU kM (af (ae 2) (af (eC (.int 4)) ai))) (af (aU kM (af (ae 2) (af (eC (.int 8)) ai))) (af (e2 bj (ae 3) (aU fC (af (ae 2) (af (eB bt (af (ae 3) ai)) ai)))) (af (cV ai) (af (eB rZ (af (eC (.int 8)) ai)) ai)))))) (gN 5)) (aD (fV (di (ae 5)) (gN 6) vA) (aD (bA (eNew ai) (gN 7)) (aD (fV (fN (af (eB bt (af (ae 3) ai)) ai)) (gN 8) vB) (aD (fV (fN (af (eC (.int 2)) ai)) (gN 9) vC) (fV (di (eC (.lst [.ao,.lst [.int 0],.tup [.int 8],.tup [.int 1,.int 0],.tup [.int 0,.int 0],.tup [.bl true],.str "0",.tup [.tup [.int 0]],.tup [.int (-1)]]))) (gN 11) vD)))))))))
def sd:List D->aa->Res D:=aP 1 12 (aD (fV (fN (af (eB mU (af (eC (.int 1)) (af (eB oE (af (eB bt (af (ae 0) ai)) (af (eC (.int 2)) ai))) ai))) ai)) (gN 1) vE) (aW (eC (.bl true))))
end
end DI.aO
namespace DI
open PySem L2
def Wp {α:Type} (r:Res α) (Q:α->aa->Prop):Prop:=∃a s,r=some (.ok a,s)/\Q a s
section
variable {α β:Type} {r:Res α} {k:α->aa->Res β} {Q Q':α->aa->Prop} {R:β->aa->Prop} {env:Env} {s:aa}
theorem Wp.ok {a:α} (h:Q a s):Wp (DI.ok a s) Q:=⟨a,s,rfl,h⟩
def Wp.mono (h:Wp r Q) (i:∀a s,Q a s->Q' a s):Wp r Q':=by
 obtain ⟨a,s,e,q⟩:=h;exact ⟨a,s,e,i a s q⟩
theorem Wp.aj (h:Wp r fun a s=>Wp (k a s) R):Wp (DI.aj r k) R:=by
 obtain ⟨a,s,e,b,Z,Y,q⟩:=h;exact ⟨b,Z,by rw [e];exact Y,q⟩
theorem Wp.ne (h:Wp r Q):Wp (DI.ne r) Q:=by
 obtain ⟨a,s,e,q⟩:=h;exact ⟨a,s,by rw [e];rfl,q⟩
def SW (e:r=some (.ok a,s)) (h:Q a s):Wp r Q:=⟨a,s,e,h⟩
def Wp.seq {f g:SV Fl} {Q:Fl->aa->Prop} (h:Wp (f env s) fun fl s=>match fl with
  | .nx env=>Wp (g env s) Q
  |fl=>Q fl s):Wp (aD f g env s) Q:=by
 obtain ⟨fl,Z,e,h⟩:=h;unfold aD;rw [e]
 cases fl with
 |nx env=>exact h
 |rt d=>exact ⟨_,_,rfl,h⟩
 |bk e=>exact ⟨_,_,rfl,h⟩
 |ct e=>exact ⟨_,_,rfl,h⟩
def Wp.jD {Q:Fl->aa->Prop} (I:Nat->Env->aa->Prop) (all:List D) (h0:I 0 env s)
 (step:∀i d env s,all[i]?=some d->I i env s->∃aF,g d env=some aF/\Wp (b aF s) fun fl s=>match fl with
   | .nx e=>I (i+1) e s
   | .ct e=>I (i+1) e s
   | .bk e=>Q (.nx e) s
   | .rt d=>Q (.rt d) s) (fin:∀env s,I all.length env s->Q (.nx env) s):Wp (iN g b all env s) Q:=by
 have key:∀(Z:List D) (i:Nat) (env:Env) (s:aa),all.drop i=Z->i<=all.length->I i env s->Wp (iN g b Z env s) Q:=by
  intro Z
  induction Z with
  |nil =>
   intro i env s Y hi h;have e:i=all.length:=by
    have:=ķ List.length Y;simp at this;omega
   subst e;exact Wp.ok (fin _ _ h)
  |cons d Z ih =>
   intro i env s Y hi h;have X:all[i]?=some d:=by
    have:=ķ (fun l=>l[0]?) Y;simpa using this
   have W:all.drop (i+1)=Z:=by
    have:=ķ (List.drop 1) Y;simpa [SJ] using this
   obtain ⟨aF,U,T⟩:=step i d env s X h;have V:=(Å.mp X).1;unfold iN;rw [U];refine Wp.aj (T.mono fun fl s q=>?_)
   cases fl with
   |nx e=>exact ih (i+1) e s W V q
   |ct e=>exact ih (i+1) e s W V q
   |bk e=>exact Wp.ok q
   |rt d=>exact Wp.ok q
 exact key all 0 env s rfl (ċ _) h0
def JA {nt:Nat} {t:SV Bool} {Q:List D->aa->Prop} (I:Nat->List D->aa->Prop) (all:List D) (h0:I 0 [] s)
 (step:∀i d acc s,all[i]?=some d->I i acc s->∃env,g d (Ñ nt none++aB)=some env/\Wp (t env s) fun b s=>if b=true then Wp (f env s) fun x s=>I (i+1) (acc++[x]) s else I (i+1) acc s)
 (fin:∀acc s,I all.length acc s->Q acc s):Wp (dJ nt aB g t f all s) Q:=by
 have key:∀(Z:List D) (i:Nat) (acc:List D) (s:aa),all.drop i=Z->i<=all.length->I i acc s->Wp (dJ nt aB g t f Z s) fun X s=>Q (acc++X) s:=by
  intro Z
  induction Z with
  |nil =>
   intro i acc s Y hi h;have e:i=all.length:=by
    have:=ķ List.length Y;simp at this;omega
   subst e;exact Wp.ok (by rw [ĩ];exact fin _ _ h)
  |cons d Z ih =>
   intro i acc s Y hi h;have W:all[i]?=some d:=by
    have:=ķ (fun l=>l[0]?) Y;simpa using this
   have V:all.drop (i+1)=Z:=by
    have:=ķ (List.drop 1) Y;simpa [SJ] using this
   obtain ⟨R,T,S⟩:=step i d acc s W h;have U:=(Å.mp W).1;unfold dJ;rw [T];refine Wp.aj (Wp.ne (S.mono fun b s q=>?_))
   cases b with
   |true =>
    rw [é rfl] at q |-;refine Wp.aj (Wp.ne (q.mono fun x s q=>?_));refine Wp.aj ((ih (i+1) (acc++[x]) s V U q).mono fun X s q=>Wp.ok ?_);rw [ŭ] at q;exact q
   |false =>
    rw [õ Ï] at q |-;exact ih (i+1) acc s V U q
 have:=key all 0 [] s rfl (ċ _) h0;simpa using this
end
section
variable {α β:Type} {Q:D->aa->Prop} {QL:List D->aa->Prop} {QB:Bool->aa->Prop} {QF:Fl->aa->Prop} {QO:Option Int->aa->Prop} {env:Env} {s:aa} {f g h:SV D} {fa:SV (List D)} {c c':SV Bool} {st ee:SV Fl} {o o':D->D->aa->Res D} {u:D->aa->Res D} {bf:List D->aa->Res D}
def aV {a:α} {Q:α->aa->Prop}:Wp (ok a s) Q=Q a s:=propext ⟨fun ⟨b,Z,e,q⟩=>by cases e;exact q,fun q=>⟨a,s,rfl,q⟩⟩
def Bu {Q:α->aa->Prop}:Wp (some (Except.ok a,s)) Q=Q a s:=aV
def bq {r:Res α} {k:α->aa->Res β} {R:β->aa->Prop}:Wp (aj r k) R=Wp r fun a s=>Wp (k a s) R:=propext ⟨fun ⟨b,Z,e,q⟩=>by
 obtain ⟨a,s,e1,e2⟩:=HC e;exact ⟨a,s,e1,b,Z,e2,q⟩,fun h=>Wp.aj h⟩
def we {Q:α->aa->Prop}:Wp (ne r) Q=Wp r Q:=propext ⟨fun ⟨b,Z,e,q⟩=>⟨b,Z,Jk e,q⟩,fun h=>h.ne⟩
def gQ {a:D} {r:Env}:Wp (ae 0 (some a::r) s) Q=Q a s:=by rw [show ae 0 (some a::r) s=ok a s from rfl,aV]
def gR {i:Nat} {a:Option D} {r:Env}:Wp (ae (i+1) (a::r) s) Q=Wp (ae i r s) Q:=by rw [show ae (i+1) (a::r) s=ae i r s from rfl]
def jE:Wp (eC d env s) Q=Q d s:=by rw [show eC d env s=ok d s from rfl,aV]
def Cm:Wp (e1 u f env s) Q=Wp (f env s) fun x s=>Wp (u x s) Q:=by unfold e1;rw [bq]
def jr:Wp (e2 o f g env s) Q=Wp (f env s) fun x s=>Wp (g env s) fun y s=>Wp (o x y s) Q:=by unfold e2;simp only [bq]
def fR:Wp (ai env s) QL=QL [] s:=by unfold ai;rw [aV]
def fy:Wp (af f fa env s) QL=Wp (f env s) fun x s=>Wp (fa env s) fun xs s=>QL (x::xs) s:=by unfold af;simp only [bq,aV]
def oP:Wp (eB bf fa env s) Q=Wp (fa env s) fun ds s=>Wp (bf ds s) Q:=by unfold eB;rw [bq]
def wp_call:Wp (aU fn fa env s) Q=Wp (fa env s) fun ds s=>Wp (fn ds s) Q:=by unfold aU;simp only [bq,we]
def my {Q:α->aa->Prop}:Wp (fF ds r) Q=(ds.length<=Ö/\Wp r Q):=propext ⟨fun ⟨b,Z,e,q⟩=>by
 unfold fF at e;split at e
 ·exact ⟨by assumption,b,Z,e,q⟩
 ·(cases e),fun ⟨Y,b,Z,e,q⟩=>⟨b,Z,by unfold fF;rw [é Y];exact e,q⟩⟩
def ow:Wp (cV fa env s) Q=Wp (fa env s) fun ds s=>ds.length<=Ö/\Q (.tup ds) s:=by unfold cV;simp only [bq,my,aV]
def vF:Wp (fe fa env s) Q=Wp (fa env s) fun ds s=>ds.length<=Ö/\Q (.lst ds) s:=by unfold fe;simp only [bq,my,aV]
def vG:Wp (eNew fa env s) Q=Wp (fa env s) fun ds s=>ds.length<=Ö/\Q (.ax s.length) (s++[.lst ds]):=by unfold eNew;simp only [bq,my,aV]
def Bv:Wp (sr f env s) Q=Wp (f env s) fun d s=>Wp (aN d s) Q:=by unfold sr;rw [bq]
def mM:Wp (bY f env s) QB=Wp (f env s) fun d s=>Wp (ff d s) QB:=by unfold bY;rw [bq]
def mF {b:Bool}:Wp (ff (.bl b) s) QB=QB b s:=by rw [show ff (.bl b) s=ok b s from rfl,aV]
def vH:Wp (dC f env s) QB=Wp (f env s) fun d s=>Wp (truth d s) QB:=by unfold dC;rw [bq]
def uW {b:Bool}:Wp (truth (.bl b) s) QB=QB b s:=by rw [show truth (.bl b) s=ok b s from rfl,aV]
def uX:Wp (lI c c' env s) QB=Wp (c env s) fun b s=>if b=true then Wp (c' env s) QB else QB false s:=by
 unfold lI;rw [bq];congr 1;funext b s
 cases b<;>simp [aV]
def Bw:Wp (kA c c' env s) QB=Wp (c env s) fun b s=>if b=true then QB true s else Wp (c' env s) QB:=by
 unfold kA;rw [bq];congr 1;funext b s
 cases b<;>simp [aV]
def uY:Wp (ib c env s) QB=Wp (c env s) fun b s=>QB (!b) s:=by unfold ib;simp only [bq,aV]
def AR:Wp (fU f g env s) Q=Wp (f env s) fun x s=>Wp (ff x s) fun b s=>if b=true then Wp (g env s) Q else Q (.bl false) s:=by
 unfold fU;rw [bq];congr 1;funext x s;rw [bq];congr 1;funext b s
 cases b<;>simp [aV]
def Bx:Wp (pY f g env s) Q=Wp (f env s) fun x s=>Wp (ff x s) fun b s=>if b=true then Q (.bl true) s else Wp (g env s) Q:=by
 unfold pY;rw [bq];congr 1;funext x s;rw [bq];congr 1;funext b s
 cases b<;>simp [aV]
def AS:Wp (oX f env s) Q=Wp (f env s) fun x s=>Wp (ff x s) fun b s=>Q (.bl (!b)) s:=by unfold oX;simp only [bq,aV]
def By:Wp (sU c f g env s) Q=Wp (c env s) fun b s=>if b=true then Wp (f env s) Q else Wp (g env s) Q:=by
 unfold sU;rw [bq];congr 1;funext b s
 cases b<;>simp
def Bz:Wp (pZ o o' f g h env s) Q=Wp (f env s) fun x s=>Wp (g env s) fun y s=>Wp (o x y s) fun z s=>Wp (ff z s) fun b s=>if b=true then Wp (h env s) fun u s=>Wp (o' y u s) Q else Q (.bl false) s:=by
 unfold pZ;simp only [bq];congr 1;funext x s;congr 1;funext y s;congr 1;funext z s;congr 1;funext b s
 cases b<;>simp [aV,bq]
def kS:Wp (bZ env s) QF=QF (.nx env) s:=by unfold bZ;rw [aV]
def AU:Wp (aW f env s) QF=Wp (f env s) fun d s=>QF (.rt d) s:=by unfold aW;simp only [bq,aV]
def qN:Wp (fG f env s) QF=Wp (f env s) fun _ s=>QF (.nx env) s:=by unfold fG;simp only [bq,aV]
def Ae:Wp (B0 env s) QF=QF (.ct env) s:=by unfold B0;rw [aV]
def qm (st:SV Fl) (Q:Fl->aa->Prop):Fl->aa->Prop:=fun fl s=>match fl with
 | .nx env=>Wp (st env s) Q
 |fl=>Q fl s
def uZ:Wp (aD st ee env s) QF=Wp (st env s) (qm ee QF):=propext ⟨fun h=>by
 unfold aD at h;rw [bq] at h;refine h.mono fun Z s q=>?_
 cases Z with
 |nx e=>exact q
 |rt d=>have q:Wp (ok (Fl.rt d) s) QF:=q;rw [aV] at q;exact q
 |bk d=>have q:Wp (ok (Fl.bk d) s) QF:=q;rw [aV] at q;exact q
 |ct d=>have q:Wp (ok (Fl.ct d) s) QF:=q;rw [aV] at q;exact q,fun h=>Wp.seq (h.mono fun Z s q=>by cases Z<;>exact q)⟩
def SY (h:∀R,R=ee->Wp (st env s) (qm R QF)):Wp (aD st ee env s) QF:=by rw [uZ];exact h _ rfl
def gZ:qm st QF (.nx env) s=Wp (st env s) QF:=rfl
def BA:qm st QF (.rt d) s=QF (.rt d) s:=rfl
def BB:qm st QF (.ct env) s=QF (.ct env) s:=rfl
def mO:Wp (bO c st ee env s) QF=Wp (c env s) fun b s=>if b=true then Wp (st env s) QF else Wp (ee env s) QF:=by
 unfold bO;rw [bq];congr 1;funext b s
 cases b<;>simp
def jV {gd:D->Env->Option Env}:Wp (bA f gd env s) QF=Wp (f env s) fun d s=>∃e,gd d env=some e/\QF (.nx e) s:=by
 unfold bA;rw [bq];congr 1;funext d s
 cases h:gd d env with
 |none=>exact propext ⟨fun ⟨_,_,e,_⟩=>(by cases e),fun ⟨_,e,_⟩=>(by cases e)⟩
 |some e=>rw [aV];exact propext ⟨fun q=>⟨e,rfl,q⟩,fun ⟨Z,z,q⟩=>by cases z;exact q⟩
def kg {i:Nat} {P:Env->Prop}:(∃e,gN i d env=some e/\P e)=P (env.set i (some d)):=propext ⟨fun ⟨e,z,q⟩=>by cases z;exact q,fun q=>⟨_,rfl,q⟩⟩
def Cn {P:Env->Prop}:(∃e,gT gs (.tup ds) env=some e/\P e)=∃e,il gs ds env=some e/\P e:=rfl
def AV {P:Env->Prop}:(∃e,il [] [] env=some e/\P e)=P env:=propext ⟨fun ⟨e,z,q⟩=>by cases z;exact q,fun q=>⟨_,rfl,q⟩⟩
def Af {i:Nat} {P:Env->Prop}:(∃e,il (gN i::gs) (d::ds) env=some e/\P e)=∃e,il gs ds (env.set i (some d))=some e/\P e:=rfl
def AW {i j:Nat}:Wp (sy i j fa env s) QF=Wp (fa env s) fun ds s=>∃x y,ds=[x,y]/\QF (.nx ((env.set i (some x)).set j (some y))) s:=by
 unfold sy;rw [bq];congr 1;funext ds s
 match ds with
 | [x,y] =>
  show Wp (ok (Fl.nx ((env.set i (some x)).set j (some y))) s) QF=_;rw [aV];exact propext ⟨fun q=>⟨x,y,rfl,q⟩,fun ⟨Z,Y,e,q⟩=>by cases e;exact q⟩
 | []=>exact propext ⟨fun ⟨_,_,e,_⟩=>(by cases e),fun ⟨_,_,e,_⟩=>(by cases e)⟩
 | [_]=>exact propext ⟨fun ⟨_,_,e,_⟩=>(by cases e),fun ⟨_,_,e,_⟩=>(by cases e)⟩
 |_::_::_::_=>exact propext ⟨fun ⟨_,_,e,_⟩=>(by cases e),fun ⟨_,_,e,_⟩=>(by cases e)⟩
def BC {P:D->D->Prop}:(∃x' y',[x,y]=[x',y']/\P x' y')=P x y:=propext ⟨fun ⟨_,_,e,q⟩=>by cases e;exact q,fun q=>⟨x,y,rfl,q⟩⟩
def jW:Wp (fV it gd st env s) QF=Wp (it env s) fun ds s=>Wp (iN gd st ds env s) QF:=by unfold fV;rw [bq]
def AX {fo fi:SV D}:Wp (jw f fo fi env s) QF=Wp (f env s) fun x s=>Wp (fo env s) fun d s=>Wp (fi env s) fun n s=>∃s',iq d n x s=some s'/\QF (.nx env) s':=by
 unfold jw;simp only [bq];congr 1;funext x s;congr 1;funext d s;congr 1;funext n s
 cases h:iq d n x s with
 |none=>exact propext ⟨fun ⟨_,_,e,_⟩=>(by cases e),fun ⟨_,e,_⟩=>(by cases e)⟩
 |some e=>simp only [aV];exact propext ⟨fun q=>⟨e,rfl,q⟩,fun ⟨Z,z,q⟩=>by cases z;exact q⟩
def rG:Wp (lO f g env s) Q=Wp (f env s) fun d s=>iV d s=true/\Wp (g env s) fun x s=>Wp (ip d x s) Q:=by
 unfold lO;rw [bq];congr 1;funext d s
 cases h:iV d s with
 |true=>rw [é rfl,bq];simp
 |false=>rw [õ Ï];exact propext ⟨fun ⟨_,_,e,_⟩=>(by cases e),fun ⟨e,_⟩=>(by cases e)⟩
def xh (Q:D->aa->Prop):Fl->aa->Prop:=fun Z s=>match Z with
 | .rt d=>Q d s
 | .nx _=>Q .ao s
 |_=>False
def wg:Wp (aP np ns st ds s) Q=(ds.length=np/\Wp (st (ds.map some++Ñ (ns-np) none) s) (xh Q)):=by
 unfold aP;by_cases h:ds.length=np
 ·rw [é h,bq]
  refine propext ⟨fun q=>⟨h,q.mono fun Z s q=>?_⟩,fun ⟨_,q⟩=>q.mono fun Z s q=>?_⟩
  ·cases Z with
   |rt d=>exact (show Wp (ok d s) Q from q) |> fun z=>by rw [aV] at z;exact z
   |nx e=>exact (show Wp (ok D.ao s) Q from q) |> fun z=>by rw [aV] at z;exact z
   |bk e=>obtain ⟨_,_,e,_⟩:=q;cases e
   |ct e=>obtain ⟨_,_,e,_⟩:=q;cases e
  ·cases Z with
   |rt d=>exact Wp.ok q
   |nx e=>exact Wp.ok q
   |bk e=>exact q.elim
   |ct e=>exact q.elim
 ·rw [õ h]
  exact propext ⟨fun ⟨_,_,e,_⟩=>(by cases e),fun ⟨e,_⟩=>absurd e h⟩
def BD:xh Q (.rt d) s=Q d s:=rfl
def BE:xh Q (.nx env) s=Q .ao s:=rfl
def AY:Wp (dP nt cap it gd c f env s) Q=Wp (it env s) fun ds s=>ds.length<=Ö/\Wp (dJ nt (eD cap env) gd c f ds s) fun xs s=>Q (.lst xs) s:=by
 unfold dP;simp only [bq,my,aV]
def se:Wp (gr f l' h' env s) Q=Wp (f env s) fun d s=>Wp (l' env s) fun lo s=>Wp (h' env s) fun hi s=>Wp (lg d lo hi s) Q:=by unfold gr;simp only [bq]
def rH:Wp (gp env s) QO=QO none s:=by unfold gp;rw [aV]
def u0 {i:Int} (hi:f env s=ok (.int i) s):Wp (fX f env s) QO=QO (some i) s:=by unfold fX;rw [hi,eV,aV]
end
open DI.aO
def JB {cl:D} {th:aa->Res D} {r:Env} {s:aa}:nP cl th 0 (some cl::r) s=th s:=é rfl
def Co (b:SV Fl) (cl:D) (r:Res D) (s:aa):Res D:=aj (ke bg "told" (fun _ _=>r) 1 b [some cl,none,none] s) fun Z s=>match Z with
 | .rt d=>ok d s
 | .nx _=>ok .ao s
 |_=>none
def kT {cl:D} {th:aa->Res D} {s:aa} {b:SV Fl}:aP 1 3 (ke bg "told" (nP cl th 0) 1 b) [cl] s=Co b cl (th s) s:=by
 show aj (ke bg "told" (nP cl th 0) 1 b [some cl,none,none] s) _=_;unfold ke;rw [JB];rfl
def BF {cl d:D} {th:aa->Res D} {s s':aa} (h:th s=some (.ok d,s')):dO cl th [cl] s=ok (.tup [.str "told",d]) s':=by
 unfold dO;rw [kT,h];rfl
def tZ {cl:D} {th:aa->Res D} {s s':aa} (h:th s=some (.error ⟨"NoMarks",none⟩,s')):dO cl th [cl] s=ok (.tup [.str "refused",.int 0]) s':=by
 unfold dO;rw [kT,h]
 kernel_rfl
def uA {cl:D} {th:aa->Res D} {s s':aa} (h:th s=some (.error ⟨"NoHeap",none⟩,s')):dO cl th [cl] s=ok (.tup [.str "refused",.int 11]) s':=by
 unfold dO;rw [kT,h]
 kernel_rfl
def Ag (cl:D) (th:aa->Res D) (s:aa):dO cl th [cl] s=dO .ao th [.ao] s:=by
 cases h:th s with
 |none=>unfold dO;rw [kT,kT,h];rfl
 |some q =>
  obtain ⟨q,Y⟩:=q
  cases q with
  |ok d=>rw [BF h,BF h]
  |error x =>
   obtain ⟨c,m⟩:=x;by_cases Z:(decide (c∈bg)&&m.isNone)=true
   ·rw [Í,ß] at Z
    have e1:c="NoMarks"\/c="NoHeap":=by simpa [bg] using Z.1
    have e2:m=none:=Ż.mp Z.2;subst e2
    rcases e1 with rfl|rfl
    ·rw [tZ h,tZ h]
    ·rw [uA h,uA h]
   ·unfold dO
    rw [kT,kT,h];unfold Co ke;dsimp only;rw [õ Z,õ Z]
end DI
namespace DI.aO
open PySem L2 DI
noncomputable def top (i:Nat):SH:=PySem.Challenge.pw_twinmoulds_k43_a_sheet_more_and_those_ne.main.body.getD i (.Pass ⟨0,0,0,0⟩)
noncomputable abbrev pz:List Str:=[S9,"_law_k"]
noncomputable abbrev pA:List Str:=[Ta,Ti]
noncomputable abbrev Di:List Str:=[Ta,"_law_most_here"]
noncomputable abbrev xi:List Str:=[Td,Tb]
noncomputable abbrev xj:List Str:=[Tc,Td,Tb]
noncomputable abbrev Dj:List Str:=[Tc]
noncomputable abbrev xk:List Str:=["things"]
noncomputable abbrev fg:List Str:=["thing"]
noncomputable abbrev xl:List Str:=["thing","many"]
noncomputable abbrev xm:List Str:=["thing","most"]
noncomputable abbrev wj:List Str:=["marks","others"]
noncomputable abbrev Cp:List Str:=["heap","places","place"]
noncomputable abbrev sg:List Str:=["heap"]
noncomputable abbrev MV:List Str:=[Te,Tf]
noncomputable abbrev Cq:List Str:=["_law_e"]
noncomputable abbrev wk:List Str:=["heap","marks"]
noncomputable abbrev Cr:List Str:=["_law_call"]
noncomputable abbrev Ct:List Str:=[S9]
structure cy (K:ĉ) (mg:Str->Option Ä):Prop where
 Ez:mg "ValueError"=none
 rJ:mg "all"=none
 Lx:mg "any"=none
 u3:mg "bool"=none
 Ly:mg "int"=none
 bM:mg "isinstance"=none
 c8:mg "len"=none
 qX:mg "list"=none
 vI:mg "max"=none
 Lz:mg "min"=none
 jg:mg "range"=none
 LA:mg "set"=none
 GB:mg "sorted"=none
 jh:mg "tuple"=none
 BG:mg "zip"=none
 FK:cP K mg bg "NoMarks"
 FL:cP K mg bg "NoSheet"
 GC:cP K mg bg "NoPage"
 GD:cP K mg bg "NoBook"
 FN:cP K mg bg "NoMould"
 HS:cP K mg bg "NoDay"
 GF:cP K mg bg "NoSort"
 E5:cP K mg bg "NoNumber"
 E6:cP K mg bg "NoSheets"
 HU:cP K mg bg "NoRun"
 E7:cP K mg bg "NoLaying"
 GI:cP K mg bg "NoHeap"
 FO:cP K mg bg "NoCount"
 HV:cP K mg bg "Clash"
 GJ:cP K mg bg "NoDeed"
 GK:cP K mg bg "NoText"
 HW:cP K mg bg "NoRow"
 FP:cP K mg bg "TooMany"
 FQ:cP K mg bg "Lacking"
 EA:mC K bg (.type "ValueError") anyS
 FR:sC K mg "NoMarks"
 GN:sC K mg "NoHeap"
 EB:Eb K mg bg "MouldError"
 uB:∃t,mg "MARKS"=some (.int (8) t)
 u4:∃t,mg "HEAP"=some (.int (9) t)
 E8:GG K mg "_law_cell_at" (top 40) pz
 GO:GG K mg "_law_state" (top 41) pz
 kN:GG K mg "_law_take" (top 42) pA
 t5:GG K mg "_law_marks" (top 43) pA
 HX:GG K mg "_law_heap" (top 49) Di
 zp:GG K mg "_law_within" (top 47) xi
 HY:GG K mg "_law_akin" (top 48) xj
 uC:GG K mg "_law_most" (top 50) Dj
 ER:GG K mg "is_rising" (top 26) xk
 ES:GG K mg "is_number" (top 23) fg
 E9:GG K mg "is_below" (top 24) xl
 FT:GG K mg "is_mark" (top 25) fg
 zc:GG K mg "are_marks" (top 28) fg
 Eh:GG K mg "are_laid_marks" (top 30) xm
 zd:GG K mg "need_heap" (top 36) fg
 zq:GG K mg "has_all" (top 29) wj
 EC:GG K mg "is_strange" (top 37) Cp
 qp:GG K mg "most_strangers" (top 38) sg
 GP:GG K mg "needed" (top 35) sg
 H0:GG K mg "_law_same" (top 46) MV
 Fb:GG K mg "_law_classes" (top 44) Cq
 ED:GG K mg "need_marks" (top 31) fg
 tR:GG K mg "more_by" (top 34) wk
 AZ:GG K mg "_law_met" (top 45) Cr
section
variable {P:Û} {w:ú} {K:ĉ} {mg:Str->Option Ä} {base:ħ}
def Fc (F:cy K mg):dI P w K mg base "_law_cell_at" (top 40) pz 1 mw:=fun {_ _} G =>
 dR G pz (by kernel_rfl) fun Y _ _ _ _ _ _ Z=>(bb (dh (dA (pd Z) (ag 1) (bx df rfl F.c8 dg (aI (ag 0))) (cC _)) (aQ (bw (cW (ag 0) (ag 1)))) c9) (aQ (bw aL)))
def GQ (F:cy K mg):dI P w K mg base "_law_state" (top 41) pz 2 n5:=fun {_ _} G =>
 dR G [S9,"_law_k","_law_cell"] (by kernel_rfl) fun Z _ _ _ _ _ _ Y=>(bb (cA 2 Z (bB F.E8 (Fc F) Y (bc (ag 0) (ag 1)))) (bb (dh (dA CZ (ag 2) (bu B4 aL aL) (cC _)) (aQ (bw (mR (bc (bu v5 (ag 2) (bu B4 aL aL)) ik)))) c9) (aQ (bw (mR (bc (bu mT (ag 2) aL) ik))))))
def kO (F:cy K mg):dI P w K mg base "_law_take" (top 42) pA 1 fC:=fun {_ _} G =>
 dR G [Ta,Ti,"_law_found","_law_mixed"] (by kernel_rfl) fun Z _ _ _ _ _ _ Y=>(bb (dh (hV (cW (ag 0) aL)) (bb (cA 2 Z (bu mT (cW (ag 0) aL) (ag 1))) (bb (B5 (bu B3 (cW (ag 0) aL) (ag 1)) (ag 0) aL) (aQ (bw (ag 2))))) c9) (bb (B5 (bu mT (bu de (bu oC (cW (ag 0) aL) aL) aL) aL) (ag 0) aL) (bb (cA 3 Z (bu mT (bu de (bu de (bu oC (cW (ag 0) aL) (cW (ag 0) aL)) (bu oC aL (cW (ag 0) aL))) aL) aL)) (bb (cA 3 Z (bu mT (bu de (bu oC (ag 3) (ag 3)) (bu oC aL (ag 3))) aL)) (aQ (bw (bu mT (bu B3 (ag 3) aL) (ag 1))))))))
def t6 (F:cy K mg):dI P w K mg base "_law_marks" (top 43) pA 2 kM:=fun {_ _} G =>
 dR G pA (by kernel_rfl) fun Y _ _ _ _ _ _ Z=>(aQ (bw (qI uV rfl F.jh jU (aI (jC ["_law_mark",Ta] (jZ rfl F.jg (aI (ag 1))) (fun _ _ _ _ _ _=>⟨(oz (dA (km Z) (bB F.kN (kO F) Z (bc (ag 1) aL)) aL (cC _))),(ag 0)⟩))))))
def H9 (F:cy K mg):dI P w K mg base "_law_heap" (top 49) Di 3 qV:=fun {_ _} G =>
 dR G [Ta,"_law_most_here",Ti,"_law_way","_law_found","_law_turn","_law_marks_here",Tb] (by kernel_rfl) fun Y _ _ _ _ _ _ Z=>(bb (K3 2 3 rfl Y (bc (bu de aL (bB F.kN (kO F) Z (bc (ag 0) (ag 1)))) (bB F.kN (kO F) Z (bc (ag 0) aL)))) (bb (cA 4 Y (mR cR)) (bb (jo Ķ rfl (jZ rfl F.jg (aI (ag 2))) (jj 5 Y) (bb (cA 6 Y (bB F.t5 (t6 F) Z (bc (ag 0) (cW (gB (bJ aL (bJ aL (bJ aL (bJ aL cR))))) (ag 3))))) (bb (dh (PW.pt (w_and (dA (m8 Z) (ag 4) (gB cR) (cC _)) (Bh (dA (km Z) (bB F.kN (kO F) Z (bc (ag 0) aL)) aL (cC _))))) (bb (cA 7 Y (cW (ag 4) (bB F.kN (kO F) Z (bc (ag 0) (bx df rfl F.c8 dg (aI (ag 4))))))) (aQ (cA 6 Y (NY (dA (km Z) (bB F.kN (kO F) Z (bc (ag 0) aL)) aL (cC _)) (qI uV rfl F.jh jU (aI (FD (bu de (ag 7) (ag 6)) rfl rfl F.GB HB rfl F.LA Mt))) (ag 7))))) c9) (aQ (kZ (rS (ag 4) (ag 6))))))) (aQ (bw (qI uV rfl F.jh jU (aI (ag 4))))))))
def zr (F:cy K mg):dI P w K mg base "_law_within" (top 47) xi 1 nU:=fun {_ _} G =>
 dR G xi (by kernel_rfl) fun Y _ _ _ _ _ _ Z=>(aQ (bw (j5 (km Z) (jC ["_law_mark",Tb] (hW (ag 0)) (fun _ _ _ _ _ _=>⟨(oz (dA (AG Z) (ag 0) (ag 1) rfl)),(ag 0)⟩)) (gB cR) (cC _))))
def Ia (F:cy K mg):dI P w K mg base "_law_akin" (top 48) xj 2 qW:=fun {_ _} G =>
 dR G xj (by kernel_rfl) fun Y _ _ _ _ _ _ Z=>(aQ (bw (CS (bB F.zp (zr F) Z (bc (cW (ag 0) (ag 1)) (cW (ag 0) (ag 2)))) (lB (bB F.zp (zr F) Z (bc (cW (ag 0) (ag 2)) (cW (ag 0) (ag 1))))))))
def uD (F:cy K mg):dI P w K mg base "_law_most" (top 50) Dj 3 mE:=fun {_ _} G =>
 dR G [Tc,"_law_rows","_law_place","_law_row"] (by kernel_rfl) fun Z _ _ _ _ _ _ Y=>(bb (cA 1 Z (mR (aI (eY cR)))) (bb (jo Ķ rfl (jZ rfl F.jg (aI (bx df rfl F.c8 dg (aI (ag 0))))) (jj 2 Z) (aQ (jo Ķ rfl (hW (qI KZ rfl F.qX rl (aI (ag 1)))) (jj 3 Z) (aQ (dh (dA (km Y) (jC [Td,Tc,"_law_place"] (hW (ag 3)) (fun _ _ _ _ _ _=>⟨(oz (hV (bB F.HY (Ia F) Y (vt (ag 1) (ag 0) (ag 2))))),(ag 0)⟩)) (gB cR) (cC _)) (aQ (kZ (rS (ag 1) (bu de (ag 3) (eY (aI (ag 2))))))) c9))))) (aQ (bw (bx (My Y rfl) rfl F.vI v7 (aI (jC ["_law_row"] (hW (Mn (ag 1))) (fun _ _ _ _ _ _=>⟨lC,(bx df rfl F.c8 dg (aI (ag 0)))⟩))))))))
def ET (F:cy K mg):dI P w K mg base "is_rising" (top 26) xk 1 qx:=fun {_ _} G=>by
 have Z:(["ahead","behind"]:List Str).Nodup:=by decide +kernel
 exact dR G xk (by kernel_rfl) fun X _ _ _ _ _ _ Y=>(aQ (bw (bx (rR rfl) rfl F.rJ rT (aI (AK (N:=["ahead","behind"]) (nt:=2) (cap:=[]) rfl (rV (by kernel_rfl)) (Bj (qJ 0 (qJ 1 AD))) (Mo rfl F.BG (bc (ag 0) (pb (ag 0) (oG aL) o9))) (fun cl C s H ex W=>⟨(A7 rfl (qF (kP (i:=0) Z rfl (SU rfl)) (qF (kP (i:=1) Z rfl (SU rfl)) Ak))),lC,(j5 (pd Y) (ag 0) (ag 1) (cC _))⟩))))))
def EU (F:cy K mg):dI P w K mg base "is_number" (top 23) fg 1 tM:=fun {_ _} G =>
 dR G fg (by kernel_rfl) fun Z _ _ _ _ _ _ Y=>(aQ (bw (j6 (bx iO rfl F.bM fP (bc (ag 0) (iW Ms rfl F.Ly))) (j6 (BZ (bx iO rfl F.bM fP (bc (ag 0) (iW vm rfl F.u3)))) (lB (j5 CZ (ag 0) aL (cC _)))))))
def Fd (F:cy K mg):dI P w K mg base "is_below" (top 24) xl 2 qz:=fun {_ _} G =>
 dR G xl (by kernel_rfl) fun Y _ _ _ _ _ _ Z=>(aQ (bw (j6 (bB F.ES (EU F) Z (aI (ag 0))) (lB (j5 (pd Z) (ag 0) (ag 1) (cC _))))))
def FU (F:cy K mg):dI P w K mg base "is_mark" (top 25) fg 3 qD:=fun {_ _} G =>
 dR G fg (by kernel_rfl) fun Y _ _ _ _ _ _ Z=>(aQ (bw (bB F.E9 (Fd F) Z (bc (ag 0) (C0 F.uB rfl)))))
def ze (F:cy K mg):dI P w K mg base "are_marks" (top 28) fg 4 jf:=fun {_ _} G =>
 dR G fg (by kernel_rfl) fun Y _ _ _ _ _ _ Z=>(aQ (bw (j6 (bx iO rfl F.bM fP (bc (ag 0) (iW jU rfl F.jh))) (j6 (bx (rR rfl) rfl F.rJ rT (aI (jC ["mark"] (hW (ag 0)) (fun _ _ _ _ _ _=>⟨lC,(bB F.FT (FU F) Z (aI (ag 0)))⟩)))) (lB (bB F.ER (ET F) Z (aI (ag 0))))))))
def Ei (F:cy K mg):dI P w K mg base "are_laid_marks" (top 30) xm 5 qr:=fun {_ _} G =>
 dR G xm (by kernel_rfl) fun Y _ _ _ _ _ _ Z=>(aQ (bw (j6 (bx iO rfl F.bM fP (bc (ag 0) (iW jU rfl F.jh))) (j6 (Je CY CY aL (bx df rfl F.c8 dg (aI (ag 0))) (ag 1)) (lB (bx (rR rfl) rfl F.rJ rT (aI (jC ["marks"] (hW (ag 0)) (fun _ _ _ _ _ _=>⟨lC,(bB F.zc (ze F) Z (aI (ag 0)))⟩)))))))))
def zf (F:cy K mg):nQ P w K mg base "need_heap" (top 36) fg 6 mv:=fun {_ _} G =>
 rq G fg (by kernel_rfl) fun Y _ _ _ _ _ _ Z L=>(aQ (dh (oy (hV (bB F.Eh (Ei F) Z (bc (ag 0) (C0 F.u4 rfl))))) (aQ (AO L F.GN (aI jm))) c9))
def zt (F:cy K mg):dI P w K mg base "has_all" (top 29) wj 1 nT:=fun {_ _} G =>
 dR G wj (by kernel_rfl) fun Y _ _ _ _ _ _ Z=>(aQ (bw (bx (rR rfl) rfl F.rJ rT (aI (jC ["mark","marks"] (hW (ag 1)) (fun _ _ _ _ _ _=>⟨lC,(j5 (N1 Z) (ag 0) (ag 1) rfl)⟩))))))
def EE (F:cy K mg):dI P w K mg base "is_strange" (top 37) Cp 2 qv:=fun {_ _} G =>
 dR G ["heap","places","place","marks"] (by kernel_rfl) fun Y _ _ _ _ _ _ Z=>(bb (cA 3 Y (cW (ag 0) (ag 2))) (aQ (bw (BZ (bx (Mr rfl) rfl F.Lx Mu (aI (jC ["other","marks","heap"] (hW (ag 1)) (fun _ _ _ _ _ _=>⟨lC,(CS (bB F.zq (zt F) Z (bc (ag 1) (cW (ag 2) (ag 0)))) (lB (bB F.zq (zt F) Z (bc (cW (ag 2) (ag 0)) (ag 1)))))⟩))))))))
def qq (F:cy K mg):dI P w K mg base "most_strangers" (top 38) sg 4 kJ:=fun {_ _} G =>
 dR G ["heap","told","place"] (by kernel_rfl) fun Z _ _ _ _ _ _ Y=>(bb (cA 1 Z (gB (aI (eY cR)))) (bb (jo Ķ rfl (jZ rfl F.jg (aI (bx df rfl F.c8 dg (aI (ag 0))))) (jj 2 Z) (aQ (cA 1 Z (bu de (ag 1) (jC ["places","place","heap"] (hW (ag 1)) (fun _ _ _ _ _ _=>⟨(oz (hV (bB F.EC (EE F) Y (vt (ag 2) (ag 0) (ag 1))))),(bu de (ag 0) (eY (aI (ag 1))))⟩)))))) (aQ (bw (HD (ag 1) rfl rfl F.vI rfl F.c8)))))
def GR (F:cy K mg):nQ P w K mg base "needed" (top 35) sg 7 qM:=fun {_ _} G=>by
 have Y:(["place","many","heap"]:List Str).Nodup:=by decide +kernel
 exact rq G ["heap","many"] (by kernel_rfl) fun X _ _ _ _ _ _ Z L=>(bb (kZ (oO F.zd (zf F) (ot L) Z (aI (ag 0)))) (bb (dh (dA (km Z) (bx df rfl F.c8 dg (aI (ag 0))) aL (cC _)) (aQ (bw (mR cR))) c9) (bb (cA 1 X (bx df rfl F.c8 dg (aI (bB F.qp (qq F) Z (aI (ag 0)))))) (aQ (bw (HE (N:=["place","many","heap"]) (nt:=1) (cap:=[1,0]) rfl (rV (by kernel_rfl)) (AB 0) (jZ rfl F.jg (aI (bx df rfl F.c8 dg (aI (ag 0))))) (fun cl C s H ex W=>⟨(kP (i:=0) Y rfl (SU rfl)),(oz (dA (pd Z) (bx df rfl F.c8 dg (aI (bB F.qp (qq F) Z (aI (bu de (pb (ag 2) o9 (oG (ag 0))) (pb (ag 2) (oG (bu de (ag 0) aL)) o9)))))) (ag 1) (cC _))),(ag 0)⟩)))))))
def Ah:kQ [Te,Tf] [Te,Tf] (bN (top 46)):=⟨rfl,rfl,rfl,by decide +kernel,rfl,by decide +kernel,by decide +kernel⟩
theorem uE (F:cy K mg) {f:Ò} {fd:č} (G:Gd K mg "_law_same" (top 46) [Te,Tf] f fd):∀n,bT P w K mg base cg (1+n) f fd [Te,Tf] (gg K (iK n))
 |0=>Mw fun _ _=>rfl
 |n+1=>by
  have Y:([Td,Tb]:List Str).Nodup:=by decide +kernel
  have X:=Ah.nd;have ih:=uE F G n;exact B2 G.fn Ah fun W A outer s H E Z=>(bb (dh (hV (Jx (ag 1) rfl F.bM fP (qQ rfl F.jh jU rfl) (qQ rfl F.qX rl rfl))) (bb (dh (PW.pt (w_or (dA (m8 Z) (bx iO rfl F.bM fP (bc (ag 0) (iW rl rfl F.qX))) (bx iO rfl F.bM fP (bc (ag 1) (iW rl rfl F.qX))) (cC _)) (BY (dA (m8 Z) (bx iO rfl F.bM fP (bc (ag 0) (iW jU rfl F.jh))) (bx iO rfl F.bM fP (bc (ag 1) (iW jU rfl F.jh))) (cC _))))) (aQ (bw ik)) c9) (bb (dh (dA (m8 Z) (bx df rfl F.c8 dg (aI (ag 0))) (bx df rfl F.c8 dg (aI (ag 1))) (cC _)) (aQ (bw ik)) c9) (aQ (bw (j5 (AG Z) ik (HH (N:=[Td,Tb]) (nt:=2) (cap:=[]) rfl (rV (by kernel_rfl)) (Bj (qJ 0 (qJ 1 AD))) (Ld rfl F.BG (bc (ag 0) (ag 1))) (fun cl C s H ex V=>⟨(A7 rfl (qF (kP (i:=0) Y rfl (SU rfl)) (qF (kP (i:=1) Y rfl (SU rfl)) Ak))),lC,(rg ih Z rfl G.mg G.fn.kp G.b (bc (ag 0) (ag 1)))⟩)) rfl))))) c9) (aQ (bw (j6 (j5 (km Z) (bx iO rfl F.bM fP (bc (ag 0) (iW vm rfl F.u3))) (bx iO rfl F.bM fP (bc (ag 1) (iW vm rfl F.u3))) (cC _)) (lB (j5 (km Z) (ag 0) (ag 1) (cC _)))))))
def Fe (F:cy K mg):Ec P w K mg base "_law_classes" (top 44) Cq 1 zo:=fun {_ _} G =>
 MQ G ["_law_e","_law_found"] (by kernel_rfl) fun Z _ _ _ _ _ _ Y=>(bb (cA 1 Z (gB (bJ (cZ F.FK (ag 0) F.bM) (bJ (cZ F.FL (ag 0) F.bM) (bJ (cZ F.GC (ag 0) F.bM) (bJ (cZ F.GD (ag 0) F.bM) cR)))))) (bb (cA 1 Z (bu de (ag 1) (gB (bJ (cZ F.FN (ag 0) F.bM) (bJ (cZ F.HS (ag 0) F.bM) (bJ (cZ F.GF (ag 0) F.bM) (bJ (cZ F.E5 (ag 0) F.bM) cR))))))) (bb (cA 1 Z (bu de (ag 1) (gB (bJ (cZ F.E6 (ag 0) F.bM) (bJ (cZ F.HU (ag 0) F.bM) (bJ (cZ F.E7 (ag 0) F.bM) (bJ (cZ F.GI (ag 0) F.bM) cR))))))) (bb (cA 1 Z (bu de (ag 1) (gB (bJ (cZ F.FO (ag 0) F.bM) (bJ (cZ F.HV (ag 0) F.bM) (bJ (cZ F.GJ (ag 0) F.bM) (bJ (cZ F.GK (ag 0) F.bM) cR))))))) (aQ (bw (bu de (ag 1) (gB (vt (cZ F.HW (ag 0) F.bM) (cZ F.FP (ag 0) F.bM) (cZ F.FQ (ag 0) F.bM))))))))))
def EF (F:cy K mg):nQ P w K mg base "need_marks" (top 31) fg 5 je:=fun {_ _} G =>
 rq G fg (by kernel_rfl) fun Y _ _ _ _ _ _ Z L=>(aQ (dh (oy (hV (bB F.zc (ze F) Z (aI (ag 0))))) (aQ (AO L F.FR (aI jm))) c9))
def tU (F:cy K mg):nQ P w K mg base "more_by" (top 34) wk 7 fQ:=fun {_ _} G =>
 rq G wk (by kernel_rfl) fun Y _ _ _ _ _ _ Z L=>(bb (kZ (oO F.zd (zf F) (ot L) Z (aI (ag 0)))) (bb (kZ (oO F.ED (EF F) (ot L) Z (aI (ag 1)))) (aQ (bw (bu v5 (bx df rfl F.c8 dg (aI (bB F.qp (qq F) Z (aI (bu de (ag 0) (eY (aI (ag 1)))))))) (bx df rfl F.c8 dg (aI (bB F.qp (qq F) Z (aI (ag 0))))))))))
def A0 (F:cy K mg):D3 P w K mg "_law_met" (top 45) Cr 9 8 dO:=fun {_ _ _ _ _ _} T {_ _} G =>
 MK G ["_law_call","_law_e","_law_some"] (by kernel_rfl) fun Z _ _ _ _ _ _ X Y=>(aQ (Lu T X (Y.mono (by decide)) F.EB (fun _=>(bb (cA 2 Z (MR F.Fb (Fe F) (Y.h.held _) (aI (ag 1)))) (bb (dh (PW.pt (w_or (oy (hV (Lr F.EA (ag 1) F.bM F.Ez))) (BY (dA MS (Lp (ag 2)) aL (cC _))))) (aQ (bw (eY (bc jm BX)))) c9) (bb (dh (hV (cW (ag 2) aL)) (aQ (bw (eY (bc jm Dg)))) c9) (bb (dh (hV (cW (ag 2) aL)) (aQ (bw (eY (bc jm Dg)))) c9) (aQ (bw (eY (bc jm (MN (ag 2))))))))))) Z))
def LB (F:cy K mg) {c T:Ò} (ht:SQ K "law"=some (c,T)) (hC:PySem.W.codeHdIn K c T=true) (hB:base.BuiltinsAt mg T) {f:Ò} {fd:č} (G:Gd K mg "law" (top 51) Ct f fd) (hx:ï K Ó "law"=some (some (.ref f))):bT P w K mg base cg 10 f fd Ct (gg K sd):=by
 obtain ⟨_,_,X⟩:=F.H0;exact MO G hx ht [S9,"_law_k",Ta,Tc,Ti,"_law_some","_law_marks_here",Tf,"_law_place","_law_lap",Te,"_law_bad"] (by kernel_rfl) fun Y _ _ _ _ _ Z=>(bb (jo Ķ rfl (jZ rfl F.jg (aI (bx (KW rfl) rfl F.vI v7 (bc aL (bx (KY rfl) rfl F.Lz Mv (bc (bx df rfl F.c8 dg (aI (ag 0))) aL)))))) (jj 1 Y) (bb (cA 2 Y (bB F.GO (GQ F) Z (bc (ag 0) (ag 1)))) (bb (cA 3 Y (bB F.HX (H9 F) Z (bc (ag 2) aL))) (bb (cA 4 Y (bB F.uC (uD F) Z (aI (ag 3)))) (bb (cA 5 Y (gB (bJ (bB F.t5 (t6 F) Z (bc (ag 2) aL)) (bJ (bB F.t5 (t6 F) Z (bc (ag 2) aL)) (bJ (cW (ag 3) (bB F.kN (kO F) Z (bc (ag 2) (bx df rfl F.c8 dg (aI (ag 3)))))) (bJ (eY cR) (bJ (Lw (aI aL) rfl rfl F.jh rfl F.jg) cR))))))) (bb (jo Ķ rfl (hW (ag 5)) (jj 6 Y) (aQ (dh (oy (hV (rg (uE F X 8) (Z.mono (by decide)) rfl X.mg X.fn.kp X.b (bc (Ck F.tR (tU F) Z (bc (ag 3) (ag 6))) (bu v5 (bB F.uC (uD F) Z (aI (bu de (ag 3) (eY (aI (ag 6)))))) (ag 4)))))) (aQ (bw ik)) c9))) (bb (cA 7 Y (mR cR)) (bb (jo Ķ rfl (jZ rfl F.jg (aI (bx df rfl F.c8 dg (aI (ag 3))))) (jj 8 Y) (aQ (dh (PW.pt (w_and (dA wX (bx df rfl F.c8 dg (aI (ag 3))) aL (cC _)) (Bh (dA (pd Z) (bB F.uC (uD F) Z (aI (bu de (pb (ag 3) o9 (oG (ag 8))) (pb (ag 3) (oG (bu de (ag 8) aL)) o9)))) (ag 4) (cC _))))) (aQ (kZ (rS (ag 7) (ag 8)))) c9))) (bb (jo Ķ rfl (jZ rfl F.jg (aI aL)) (jj 9 Y) (bb (cA 10 Y (Ck F.GP (GR F) Z (aI (ag 3)))) (bb (dh (oy (hV (rg (uE F X 8) (Z.mono (by decide)) rfl X.mg X.fn.kp X.b (bc (ag 10) (ag 7))))) (aQ (bw ik)) c9) (aQ (kZ (rS (ag 10) aL)))))) (@aQ _ _ _ _ (@jo _ _ _ _ _ _ _ _ _ Ķ rfl (@hW _ _ _ _ _ (@wc _ _ 4 _ _ rfl)) (jj 11 Y) (bb (dh (dA (m8 Z) (Cf [Tc,"_law_bad"] rfl rfl ht hC hB F.AZ (A0 F) Ag Z (fun _ _ _ _ _ _ _ _ _ _ Z L=>(oO F.tR (tU F) (ot L) Z (bc (ag 0) (ag 1))))) (eY (bc jm aL)) (cC _)) (aQ (bw ik)) c9) (aQ (dh (dA (m8 Z) (Cf ["_law_bad"] rfl rfl ht hC hB F.AZ (A0 F) Ag Z (fun _ _ _ _ _ _ _ _ _ _ Z L=>(oO F.tR (tU F) (ot L) Z (bc (eY cR) (ag 0))))) (eY (bc jm aL)) (cC _)) (aQ (bw ik)) c9))) (fun _=>rfl)))))))))))) (aQ (bw ik)))
end
end DI.aO
namespace DI
open PySem L2
def iZ (s:aa) (k:Nat):Prop:=∃a b:Int,s[k]?=some (.lst [.int a,.int b])/\0<=a/\0<=b/\b<2147483647
structure Ex (k:Nat) (s s':aa):Prop where
 len:s.length<=s'.length
 val:∀j,j<s.length->j≠k->s'[j]?=s[j]?
def Ex.refl (k:Nat) (s:aa):Ex k s s:=⟨S0 _,fun _ _ _=>rfl⟩
theorem Ex.trans (h:Ex k a b) (g:Ex k b c):Ex k a c:=⟨â h.len g.len,fun j Z Y=>(g.val j (È Z h.len) Y).trans (h.val j Z Y)⟩
theorem Ex.set (k:Nat) (s:aa) (c:Cell):Ex k s (s.set k c):=⟨by simp,fun j _ Z=>Ü (ş Z)⟩
def Ex.app (k:Nat) (s:aa) (c:List Cell):Ex k s (s++c):=⟨by simp,fun j Z _=>Ú Z⟩
def iZ.lt (h:iZ s k):k<s.length:=by
 obtain ⟨a,b,e,_⟩:=h;exact (Å.mp e).1
def iZ.app (h:iZ s k) (c:List Cell):iZ (s++c) k:=by
 obtain ⟨a,b,e,r⟩:=h;exact ⟨a,b,by rw [Ú (Å.mp e).1];exact e,r⟩
theorem iZ.set (h:iZ s k) (hj:j≠k) (c:Cell):iZ (s.set j c) k:=by
 obtain ⟨a,b,e,r⟩:=h;exact ⟨a,b,by rw [Ü hj];exact e,r⟩
def tB (x y:D) (k:Nat) (s:aa) (h:s[k]?=some (.lst [x,y])):bj (.ax k) (.int 0) s=ok x s:=by
 simp [bj,mi,res,h,cL,ef,bz]
def yE (x y:D) (k:Nat) (s:aa) (h:s[k]?=some (.lst [x,y])):bj (.ax k) (.int 1) s=ok y s:=by
 simp [bj,mi,res,h,cL,ef,bz]
def xn (x y z:D) (k:Nat) (s:aa) (h:s[k]?=some (.lst [x,y])):iq (.ax k) (.int 0) z s=some (s.set k (.lst [z,y])):=by
 simp [iq,h,ef]
def Om (x y z:D) (k:Nat) (s:aa) (h:s[k]?=some (.lst [x,y])):iq (.ax k) (.int 1) z s=some (s.set k (.lst [x,z])):=by
 simp [iq,h,ef]
@[simp] theorem rL {a:D} {r:Env} {s:aa}:ae 0 (some a::r) s=ok a s:=rfl
@[simp] theorem rM {i:Nat} {a:Option D} {r:Env} {s:aa}:ae (i+1) (a::r) s=ae i r s:=rfl
def ltI (i j:Int) (s:aa):jy (.int i) (.int j) s=ok (.bl (decide (i<j))) s:=rfl
def yF (i j:Int) (s:aa):iU (.int i) (.int j) s=ok (.bl (decide (j<i))) s:=rfl
def Qr (i j:Int) (s:aa):o8 (.int i) (.int j) s=ok (.bl (decide (j<=i))) s:=rfl
def Qs (i j:Int) (s:aa):o7 (.int i) (.int j) s=ok (.bl (decide (i<=j))) s:=rfl
def Dk (i j:Int) (s:aa):br (.int i) (.int j) s=ok (.int (i+j)) s:=rfl
def xo (i j:Int) (s:aa):lD (.int i) (.int j) s=ok (.int (i-j)) s:=rfl
def Qt (i j:Int) (s:aa):dq (.int i) (.int j) s=ok (.bl (i==j)) s:=rfl
def Qu (i j:Int) (s:aa):dD (.int i) (.int j) s=ok (.bl (!(i==j))) s:=rfl
def nu {i j:Int} (s:aa) (h:0<j):eZ (.int i) (.int j) s=ok (.int (i % j)) s:=by
 simp [eZ,wU,h,bz]
def Dl (s:aa) (h:0<j) (h2:j<1073741824):lE (.int i) (.int j) s=ok (.int (i / j)) s:=by
 simp [lE,wV,h,h2,bz]
def pB (s:aa) (h:oB i j=true):dB (.int i) (.int j) s=ok (.int (i*j)) s:=by
 simp [dB,wR,h,bz]
def mulOk_of (h1:-(2 ^ 64)<i) (h2:i<2 ^ 64):oB i j=true:=by
 unfold oB;rw [à h1,à h2];rfl
def le_size (h:n<=1000000):n<=Ö:=â h (by decide)
def Ib (h1:-1000000<=j) (h2:j<=1000000):oA j=true:=by
 unfold oA;rw [à (show -(2 ^ 62)<=j by omega),à (show j<2 ^ 62 by omega)];rfl
def LC {α:Type} {xs:List α} {i:Int} (h0:0<=i) (h1:i<xs.length):∃x,cL xs i=some x/\xs[i.toNat]?=some x:=by
 have Z:i.toNat<xs.length:=by omega
 refine ⟨xs[i.toNat],?_,Ì Z⟩;unfold cL ef;rw [é h0,é h1];exact Ì Z
def JC {ns:List Int} {i:Int} {s:aa} (h0:0<=i):∃c:Int,mw [.bh ns,.int i] s=ok (.int c) s:=by
 by_cases h:i<(ns.length:Int)
 ·obtain ⟨x,Z,_⟩:=LC h0 h
  refine ⟨x,?_⟩;have Y:bj (.bh ns) (.int i) s=ok (.int x) s:=by simp [bj,mi,res,Z,bz]
  simp only [mw,aP,aD,bO,bY,e2,eB,af,ai,bt,ng,res,bz,rL,rM,eC,eV,ç,μ,ņ,œ,ø,Ė,ē,ltI,ff,à h,aW,Y,Ñ]
 ·refine ⟨0,?_⟩
  simp only [mw,aP,aD,bO,bY,e2,eB,af,ai,bt,ng,res,bz,rL,rM,eC,eV,ç,μ,ņ,œ,ø,Ė,ē,ltI,ff,ë h,Î,Ē,bZ,aW,Ñ]
structure bH (m:Nat) (ns:List Int):Prop where
 lo:∀x∈ns,0<=x/\x<m
 up:ns.Pairwise (· < ·)
noncomputable abbrev mD (ns:List Int):D:=.tup (ns.map D.int)
def bH.len (h:bH m ns):ns.length<=m:=by
 have key:∀(l:List Int) (b:Int),l.Pairwise (· < ·)->(∀x∈l,b<=x/\x<m)->(l.length:Int)<=m-b\/l=[]:=by
  intro l
  induction l with
  |nil=>intro b _ _;exact .inr rfl
  |cons x l ih =>
   intro b X Z;obtain ⟨W,V⟩:=Ĉ.mp X;have U:=Z x Ø;left
   rcases ih (x+1) V (fun y Y=>⟨by have:=W y Y;omega,(Z y (Õ _ Y)).2⟩) with h|h
   ·rw [ø];omega
   ·subst h
    simp;omega
 rcases key ns 0 h.up h.lo with h'|h'
 ·omega
 ·subst h';simp
def j4 (h:fa env s=ok [.int n] s1) (hn:n<=1000000):fN fa env s=ok (cb 0 n) s1:=by
 unfold fN;rw [h,eV]
 show (if oA (n:Int)=true then ok (cb 0 (n:Int).toNat) s1 else none)=_
 rw [é (Ib (by omega) (by omega)),ĥ]
def JD {n:Nat} {i:Int} (h:fa env s=ok [.int i] s1) (hi:i=n) (hn:n<=1000000):fN fa env s=ok (cb 0 n) s1:=by
 subst hi;exact j4 h hn
def vJ:Wp (jy (.int i) (.int j) s) Q=Q (.bl (decide (i<j))) s:=by rw [ltI,aV]
def vK:Wp (iU (.int i) (.int j) s) Q=Q (.bl (decide (j<i))) s:=by rw [yF,aV]
def BH:Wp (o8 (.int i) (.int j) s) Q=Q (.bl (decide (j<=i))) s:=by rw [Qr,aV]
def BI:Wp (o7 (.int i) (.int j) s) Q=Q (.bl (decide (i<=j))) s:=by rw [Qs,aV]
def u5:Wp (br (.int i) (.int j) s) Q=Q (.int (i+j)) s:=by rw [Dk,aV]
def A1:Wp (lD (.int i) (.int j) s) Q=Q (.int (i-j)) s:=by rw [xo,aV]
def BJ:Wp (dq (.int i) (.int j) s) Q=Q (.bl (i==j)) s:=by rw [Qt,aV]
def BK:Wp (dD (.int i) (.int j) s) Q=Q (.bl (!(i==j))) s:=by rw [Qu,aV]
end DI
local macro_rules | `(tactic| simp only [VC])=>`(tactic| simp only [DI.aV,DI.Bu,DI.we,DI.gQ,DI.gR,DI.jE,DI.Cm,DI.jr,DI.fR,DI.fy,DI.oP,DI.wp_call,DI.ow,DI.vF,DI.vG,DI.Bv,DI.mM,DI.mF,DI.vH,DI.uW,DI.uX,DI.Bw,DI.uY,DI.AR,DI.Bx,DI.AS,DI.By,DI.Bz,DI.kS,DI.AU,DI.qN,DI.Ae,DI.uZ,DI.gZ,DI.BA,DI.BB,DI.mO,DI.jV,DI.kg,DI.Cn,DI.AV,DI.Af,DI.AW,DI.BC,DI.jW,DI.AX,DI.rG,DI.wg,DI.BD,DI.BE,DI.AY,DI.se,DI.rH,List.map_cons,List.map_nil,List.cons_append,List.nil_append,List.length_cons,List.length_nil,List.set_cons_succ,List.set_cons_zero,List.replicate,true_and,Nat.reduceSub,Nat.reduceAdd,DI.vJ,DI.vK,DI.BH,DI.BI,DI.u5,DI.A1,DI.BJ,DI.BK])
local macro_rules | `(tactic| simp only [VC,$xs,*])=>`(tactic| simp only [DI.aV,DI.Bu,DI.we,DI.gQ,DI.gR,DI.jE,DI.Cm,DI.jr,DI.fR,DI.fy,DI.oP,DI.wp_call,DI.ow,DI.vF,DI.vG,DI.Bv,DI.mM,DI.mF,DI.vH,DI.uW,DI.uX,DI.Bw,DI.uY,DI.AR,DI.Bx,DI.AS,DI.By,DI.Bz,DI.kS,DI.AU,DI.qN,DI.Ae,DI.uZ,DI.gZ,DI.BA,DI.BB,DI.mO,DI.jV,DI.kg,DI.Cn,DI.AV,DI.Af,DI.AW,DI.BC,DI.jW,DI.AX,DI.rG,DI.wg,DI.BD,DI.BE,DI.AY,DI.se,DI.rH,List.map_cons,List.map_nil,List.cons_append,List.nil_append,List.length_cons,List.length_nil,List.set_cons_succ,List.set_cons_zero,List.replicate,true_and,Nat.reduceSub,Nat.reduceAdd,DI.vJ,DI.vK,DI.BH,DI.BI,DI.u5,DI.A1,DI.BJ,DI.BK,$xs,*])
namespace DI
open PySem L2
def SX {α:Type} {r:Res α} {d:α} {s:aa} (h:Wp r fun a s'=>a=d/\s'=s):r=DI.ok d s:=by
 obtain ⟨a,s',e,rfl,rfl⟩:=h;exact e
def mz {f:SV D} {env:Env} {s s1:aa} {ds:List D} (h:f env s=ok (.tup ds) s1):di f env s=ok ds s1:=by
 unfold di;rw [h];rfl
def n6 (h:f env s=ok (.lst ds) s1):di f env s=ok ds s1:=by
 unfold di;rw [h];rfl
theorem nV:∀(ns:List Int),b9 (ns.map D.int)=true
 | []=>rfl
 |n::ns=>by simp only [ç,b9,lay,nV ns,RM]
def A2 (x:Int) (ns:List Int):((ns.map D.int).any fun y=>beq y (.int x))=decide (x∈ns):=by
 induction ns with
 |nil=>simp
 |cons n ns ih =>
  simp only [ç,List.any_cons,ih,beq];by_cases h:n=x
  ·subst h;simp
  ·have Z:¬ x=n:=fun e=>h e.symm
   simp [h,Z]
def JE {x:Int} {ns:List Int} {s:aa}:nh (.int x) (mD ns) s=ok (.bl (decide (x∈ns))) s:=by
 have Z:lF 100 (.int x) (ns.map D.int)=true:=by simp only [lF,lay,nV,dep,RM,ċ,decide_true]
 have e:inD (.int x) (ns.map D.int)=some (decide (x∈ns)):=by unfold inD;rw [é Z,A2]
 unfold nh;rw [show lG (mD ns) s=some (ns.map D.int) from rfl];simp only [e];rfl
def FV:jT (.int x) (mD ns) s=ok (.bl (!decide (x∈ns))) s:=by
 have Z:lF 100 (.int x) (ns.map D.int)=true:=by simp only [lF,lay,nV,dep,RM,ċ,decide_true]
 have e:inD (.int x) (ns.map D.int)=some (decide (x∈ns)):=by unfold inD;rw [é Z,A2]
 unfold jT;rw [show lG (mD ns) s=some (ns.map D.int) from rfl];simp only [e];rfl
noncomputable def sub (a b:List Int):Bool:=a.all fun x=>decide (x∈b)
def qY {α:Type} (p:α->Bool) (xs:List α) (s:aa):kn [.lst (xs.map fun x=>D.bl (p x))] s=ok (.bl (xs.all p)) s:=by
 have e:eQ (xs.map fun x=>D.bl (p x))=some (xs.map p):=by
  have:=AF (bs:=xs.map p);rw [ο] at this;exact this
 show bz ((eQ (xs.map fun x=>D.bl (p x))).map fun (bs:List Bool)=>D.bl (bs.all id)) s=_;rw [e];show ok (D.bl ((xs.map p).all id)) s=_;rw [List.all_map];rfl
def filter_tt {α:Type} (xs:List α):xs.filter (fun _=>true)=xs:=by simp
def t9 {nt:Nat} {aB:Env} {g:D->Env->Option Env} {t:SV Bool} {f:SV D} {s:aa} (p:Int->Bool) (h:Int->D) (ns:List Int) (hh:∀n∈ns,∃env,g (.int n) (Ñ nt none++aB)=some env/\t env s=ok (p n) s/\(p n=true->f env s=ok (h n) s)) :
  dJ nt aB g t f (ns.map D.int) s=ok ((ns.filter p).map h) s:=by
 induction ns with
 |nil=>rfl
 |cons n ns ih =>
  obtain ⟨env,Y,X,W⟩:=hh n Ø;have ih:=ih fun V U=>hh V (Õ _ U);rw [ç];unfold dJ;rw [Y];simp only [X,j7,eV]
  cases Z:p n with
  |true=>simp only [ē,W Z,j7,eV,ih,ſ,Z,ç]
  |false=>simp only [Î,Ē,ih,ſ,Z]
def comp_map {α:Type} (d:α->D) (p:α->Bool) (h:α->D) (xs:List α) (hh:∀x∈xs,∃env,g (d x) (Ñ nt none++aB)=some env/\t env s=ok (p x) s/\(p x=true->f env s=ok (h x) s)) :
  dJ nt aB g t f (xs.map d) s=ok ((xs.filter p).map h) s:=by
 induction xs with
 |nil=>rfl
 |cons n T ih =>
  obtain ⟨env,Y,X,W⟩:=hh n Ø;have ih:=ih fun V U=>hh V (Õ _ U);rw [ç];unfold dJ;rw [Y];simp only [X,j7,eV]
  cases Z:p n with
  |true=>simp only [ē,W Z,j7,eV,ih,ſ,Z,ç]
  |false=>simp only [Î,Ē,ih,ſ,Z]
def zu {a b:List Int} {s:aa} (hb:b.length<=1000000):nT [mD a,mD b] s=ok (.bl (sub b a)) s:=by
 refine SX ?_;unfold nT;simp only [VC];refine SW (mz rfl) ⟨le_size (by rw [Ë];exact hb),?_⟩;refine SW (t9 (fun _=>true) (fun x=>.bl (decide (x∈a))) b fun n _=>⟨[some (.int n),some (mD a)],rfl,rfl,fun _=>?_⟩) ?_
 ·show e2 nh (ae 0) (ae 1) _ _=_
  exact JE
 ·rw [filter_tt]
  exact SW (qY _ _ _) ⟨rfl,rfl⟩
def GS:tM [.int i] s=ok (.bl (decide (0<=i))) s:=by
 rfl
def qH:qz [.int i,.int m] s=ok (.bl (decide (0<=i)&&decide (i<m))) s:=by
 refine SX ?_;unfold qz;simp only [VC,GS];by_cases h:0<=i
 ·simp [h]
 ·simp [h]
def JF:qD [.int i] s=ok (.bl (decide (0<=i)&&decide (i<8))) s:=by
 refine SX ?_;unfold qD;simp only [VC,qH,true_and]
def Ic (xs:List D):cutD xs (some 1) none=xs.drop 1:=by
 unfold cutD HT.aH
 cases xs with
 |nil=>simp
 |cons x xs =>
  simp only [ø]
  have e:(if (1:Int)<0 then (1+((xs.length+1:Nat):Int)).toNat else min (1:Int).toNat (xs.length+1))=1:=by simp
  simp
noncomputable def rise:List Int->Bool
 | []=>true
 | [_]=>true
 |a::b::r=>decide (a<b)&&rise (b::r)
def JG (h:ns.Pairwise (· < ·)):rise ns=true:=by
 induction ns with
 |nil=>rfl
 |cons a ns ih =>
  cases ns with
  |nil=>rfl
  |cons b r =>
   obtain ⟨Z,Y⟩:=Ĉ.mp h;simp only [rise,ih Y,Bool.and_true];exact à (Z b Ø)
theorem Ai:∀(ns:List Int),((ns.zip (ns.drop 1)).all fun p=>decide (p.1<p.2))=rise ns
 | []=>rfl
 | [_]=>rfl
 |a::b::r=>by
  have ih:=Ai (b::r);simp only [List.drop_succ_cons,List.drop_zero,ŋ,List.all_cons,rise] at ih |-;rw [ih]
def GU (xs ys:List Int):dX (xs.map D.int) (ys.map D.int)=(xs.zip ys).map fun p=>D.tup [.int p.1,.int p.2]:=by
 unfold dX;rw [List.zip_map,ο];rfl
def Ie (h:fa env s=ok [.tup xs,.tup ys] s1):m7 fa env s=ok (dX xs ys) s1:=by
 unfold m7;rw [h];rfl
def GV (hl:ns.length<=1000000):qx [mD ns] s=ok (.bl (rise ns)) s:=by
 refine SX ?_;unfold qx;simp only [VC];have Z:m7 (af (ae 0) (af (gr (ae 0) (fX (eC (.int 1))) gp) ai)) [some (mD ns)] s=ok (dX (ns.map D.int) ((ns.drop 1).map D.int)) s:=by
  refine Ie (SX ?_);simp only [VC];rw [u0 (i:=1) rfl]
  try simp only [VC]
  refine SW (show lg (mD ns) (some 1) none s=ok (.tup (cutD (ns.map D.int) (some 1) none)) s from rfl) ⟨?_,rfl⟩;rw [Ic,List.map_drop]
 refine SW Z ⟨le_size (by rw [qK];simp only [Ë];omega),?_⟩;rw [GU];refine SW (comp_map (fun p:Int×Int=>D.tup [.int p.1,.int p.2]) (fun _=>true) (fun p=>.bl (decide (p.1<p.2))) _ fun p _=>⟨[some (.int p.1),some (.int p.2)],rfl,rfl,fun _=>rfl⟩) ?_;rw [filter_tt];exact SW (qY _ _ _) ⟨by rw [Ai],rfl⟩
def zw (h:bH 8 ns):jf [mD ns] s=ok (.bl true) s:=by
 have Y:=h.len;refine SX ?_;unfold jf;simp only [VC];refine SW (show cm [mD ns,.ty "tuple"] s=ok (.bl true) s from rfl) ?_;simp only [VC,ē];refine SW (mz rfl) ⟨le_size (by rw [Ë];omega),?_⟩;refine SW (t9 (fun _=>true) (fun x=>.bl (decide (0<=x)&&decide (x<8))) ns fun n _=>⟨[some (.int n)],rfl,rfl,fun _=>?_⟩) ?_
 ·refine SX ?_
  simp only [VC,JF,true_and]
 ·rw [filter_tt]
  refine SW (qY _ _ _) ?_;have e:(ns.all fun x=>decide (0<=x)&&decide (x<8))=true:=by
   rw [ĭ];intro x Z;have:=h.lo x Z;simp only [Í,ß];omega
  rw [e];simp only [VC,ē];exact SW (GV (by omega)) ⟨by rw [JG h.up],rfl⟩
structure Oo (rs:List (List Int)):Prop where
 lo:1<=rs.length
 hi:rs.length<=10
 eT:∀r∈rs,bH 8 r
abbrev rD (rs:List (List Int)):D:=.tup (rs.map mD)
def LD {j:Nat} (h:xs[j]?=some d):bj (.tup xs) (.int j) s=ok d s:=by
 unfold bj mi;rw [show res (.tup xs) s=.tup xs from rfl];simp only [Aq h];rfl
def getD_some {α:Type} {xs:List α} {i:Nat} {d:α} (h:i<xs.length):xs[i]?=some (xs.getD i d):=by
 rw [List.getD_eq_getElem?_getD,Ì h];rfl
def nR {rs:List (List Int)} {i:Nat} {s:aa} (h:i<rs.length):bj (rD rs) (.int i) s=ok (mD (rs.getD i [])) s:=LD (by rw [è,getD_some (d:=[]) h];rfl)
def lS:bt [rD rs] s=ok (.int rs.length) s:=by
 show ok (D.int (rs.map mD).length) s=_;rw [Ë]
def JH (lo:Int) (n:Nat):cb lo n=(ć n).map fun i:Nat=>D.int (lo+i):=rfl
def LF (rs:List (List Int)) (laid:List Int) (m:Int):Bool:=((ć laid.length).filter fun i=>laid.getD i 0==m).all fun i=>sub (rs.getD i []) (rs.getD laid.length [])
def step (rs:List (List Int)) (told:List (List Int)):List (List Int):=told.flatMap fun laid=>([0,1].filter fun m=>LF rs laid m).map fun m=>laid++[m]
def C7 (h:a.length+b.length<=1000000):br (mD a) (mD b) s=ok (mD (a++b)) s:=by
 have e:iT (mD a) (mD b)=some (mD (a++b)):=by
  show (if fW (a.map D.int) (b.map D.int)=true then some (D.tup (a.map D.int++b.map D.int)) else none)=_
  have Z:fW (a.map D.int) (b.map D.int)=true:=by
   unfold fW;rw [Ë,Ë];exact à (le_size h)
  rw [é Z];show some (D.tup (a.map D.int++b.map D.int))=some (D.tup ((a++b).map D.int));rw [ū]
 show bz (iT (mD a) (mD b)) s=_;rw [e];rfl
noncomputable def brk (l:List Int):List Int:=((ć (l.length-1)).filter fun i=>l.getD (i+1) 0==l.getD i 0).map fun i:Nat=>1+(i:Int)
section
variable {α:Type} (r:α->α->Bool)
def jF (l:List α):Prop:=l.Pairwise fun a b=>r a b=false
structure fH (hs:List α) (m:Nat):Prop where
 ex:∃l,l.Sublist hs/\jF r l/\l.length=m
 le:∀l,l.Sublist hs->jF r l->l.length<=m
variable {r}
def fH.eq {hs:List α} {m m':Nat} (h:fH r hs m) (g:fH r hs m'):m=m':=by
 obtain ⟨l,Z,Y,W⟩:=h.ex;obtain ⟨X,g1,g2,g3⟩:=g.ex;have:=h.le X g1 g2;have:=g.le l Z Y;omega
def jF.perm (hr:∀a b,r a b=r b a) {l m:List α} (h:l.Perm m) (a:jF r l):jF r m:=h.pairwise a fun {x y} z=>(hr y x).trans z
theorem fH.perm (hr:∀a b,r a b=r b a) {hs gs:List α} {m:Nat} (p:hs.Perm gs) (h:fH r hs m):fH r gs m:=by
 obtain ⟨l,X,W,V⟩:=h.ex;obtain ⟨U,Z,T⟩:=List.exists_perm_sublist X p;refine ⟨⟨U,T,W.perm hr Z.symm,by rw [Z.length_eq];exact V⟩,fun k S R=>?_⟩;obtain ⟨Q,Y,P⟩:=List.exists_perm_sublist S p.symm;rw [<- Y.length_eq];exact h.le Q P (R.perm hr Y.symm)
theorem fH.map {β:Type} {r':β->β->Bool} {f:α->β} {hs:List α} {m:Nat} (hf:∀a∈hs,∀b∈hs,r' (f a) (f b)=r a b) (h:fH r hs m):fH r' (hs.map f) m:=by
 have key:∀l:List α,l.Sublist hs->(jF r' (l.map f)↔jF r l):=fun l X=>by
  unfold jF;rw [List.pairwise_map];have e:∀a∈l,∀b∈l,r' (f a) (f b)=r a b:=fun a Z b Y=>hf a (X.subset Z) b (X.subset Y);constructor
  ·exact fun z=>z.imp_of_mem fun {a b} Z Y q=>by rw [<- e a Z b Y];exact q
  ·exact fun z=>z.imp_of_mem fun {a b} Z Y q=>by rw [e a Z b Y];exact q
 obtain ⟨l,W,T,S⟩:=h.ex;refine ⟨⟨l.map f,W.map f,(key l W).mpr T,by rw [Ë];exact S⟩,fun k R Q=>?_⟩;obtain ⟨V,U,rfl⟩:=List.sublist_map_iff.mp R;rw [Ë];exact h.le V U ((key V U).mp Q)
def Ig {x:α} {l t:List α} (h:l.Sublist (x::t)):l.Sublist t\/∃l',l=x::l'/\l'.Sublist t:=by
 cases h with
 |cons _ h=>exact .inl h
 |cons_cons _ h=>exact .inr ⟨_,rfl,h⟩
def FW {hs:List α} {i:Nat} {x:α} (h:hs[i]?=some x):hs.Perm (x::hs.eraseIdx i):=by
 induction hs generalizing i with
 |nil=>simp at h
 |cons a t ih =>
  cases i with
  |zero=>cases h;exact .refl _
  |succ i =>
   rw [List.eraseIdx_cons_succ];exact ((ih (by simpa using h)).cons a).trans (List.Perm.swap x a _)
def fH.erase (hr:∀a b,r a b=r b a) {hs:List α} {i m m':Nat} {x:α} (hi:hs[i]?=some x) (h:fH r hs m) (g:fH r (hs.eraseIdx i) m'):m'<=m/\m<=m' + 1:=by
 obtain ⟨Y,g1,g2,g3⟩:=g.ex;refine ⟨by rw [<- g3];exact h.le Y (g1.trans (List.eraseIdx_sublist _ _)) g2,?_⟩;obtain ⟨l,X,Z,W⟩:=(h.perm hr (FW hi)).ex
 rcases Ig X with e | ⟨k,rfl,e⟩
 ·have:=g.le l e Z;omega
 ·have:=g.le k e (Ĉ.mp Z).2
  rw [ø] at W;omega
def fH.two {hs:List α} {m:Nat} {ms:List Int} (h:fH r hs m) (hl:ms.length=hs.length) (Qv:∀i∈ms,i=0\/i=1) (hp:(hs.zip ms).Pairwise fun a b=>a.2=b.2->r a.1 b.1=true):m<=2:=by
 obtain ⟨l,Y,Z,rfl⟩:=h.ex;have e:hs=(hs.zip ms).map Prod.fst:=by rw [List.map_fst_zip (by omega)]
 rw [e] at Y;obtain ⟨k,X,rfl⟩:=List.sublist_map_iff.mp Y;have q:=hp.sublist X;unfold jF at Z;rw [List.pairwise_map] at Z;have sorts:∀p∈k,p.2=0\/p.2=1:=fun p hp=>by
  have:=X.subset hp;exact Qv p.2 (RF (show (p.1,p.2)∈hs.zip ms from this)).2
 have d:k.Pairwise fun a b=>a.2≠b.2:=(q.and Z).imp fun {a b} z e=>by
  have:=z.1 e;rw [z.2] at this;cases this
 rw [Ë]
 match k,d,sorts with
 | [],_,_=>simp
 | [_],_,_=>simp
 | [_,_],_,_=>simp
 |a::b::c::_,d,s =>
  exfalso;obtain ⟨W,V⟩:=Ĉ.mp d;have e1:=W b (by simp);have e2:=W c (by simp);have U:=(Ĉ.mp V).1 c (by simp);have T:=s a (by simp);have S:=s b (by simp);have R:=s c (by simp);omega
end
def Cu {ns:List Int}:dq (.lst (ns.map D.int)) (.lst []) s=ok (.bl ns.isEmpty) s:=by
 have Z:lay (.lst (ns.map D.int))=true:=by simp only [lay,nV]
 have e:hX (.lst (ns.map D.int)) (.lst [])=some ns.isEmpty:=by
  unfold hX;rw [õ (show ¬ (jM (.lst _)&&jM (.lst _))=true from Ï),é (by rw [Z,show lay (.lst [])=true from rfl,à (â (Nat.min_le_right (dep (.lst (ns.map D.int))) (dep (.lst []))) (by decide))];rfl)]
  cases ns with
  |nil=>rfl
  |cons _ _=>rfl
 show (match hX (.lst (ns.map D.int)) (.lst []) with|some b=>ok (D.bl b) s|none=>none)=_
 rw [e]
def A3 {c:aa} {ds:List D} {x:D} (h:ds.length<=1000000):ip (.ax c.length) x (c++[.lst ds])=ok .ao (c++[.lst (ds++[x])]):=by
 unfold ip;have e:(c++[Cell.lst ds])[c.length]?=some (.lst ds):=by simp
 have Z:ds.length<Ö:=RO h (by decide);simp only [e,à Z,ē];rw [List.set_append_right _ _ (S0 _)];simp
def JI {c:aa} {ds:List D}:aN (.ax c.length) (c++[.lst ds])=ok (.lst ds) (c++[.dead]):=by
 unfold aN;have e:(c++[Cell.lst ds])[c.length]?=some (.lst ds):=by simp
 simp only [e];rw [List.set_append_right _ _ (S0 _)];simp
def Oq (h:xs.length+ys.length<=1000000):br (.lst xs) (.lst ys) s=ok (.lst (xs++ys)) s:=by
 have e:iT (.lst xs) (.lst ys)=some (.lst (xs++ys)):=by
  show (if fW xs ys=true then some (D.lst (xs++ys)) else none)=_
  have Z:fW xs ys=true:=à (le_size h);rw [é Z]
 show bz (iT (.lst xs) (.lst ys)) s=_;rw [e];rfl
def Ex.get (h:Ex k s s') (e:s[j]?=some c) (hj:j≠k):s'[j]?=some c:=by
 rw [h.val j (Å.mp e).1 hj];exact e
theorem Ex.hi (h:Ex k s s') (hj:s.length<=j) (c:Cell):Ex k s (s'.set j c):=⟨by rw [ô];exact h.len,fun i hi Z=>by rw [Ü (by omega)];exact h.val i hi Z⟩
def GW (ha:bH 8 a) (hb:bH 8 b):bH 8 (dQ (a++b)):=⟨fun x Z=>by
 rw [qB] at Z
 rcases û.mp Z with h|h
 ·exact ha.lo x h
 ·exact hb.lo x h,tH _⟩
structure RI (s0:aa) (k rh mh:Nat) (rs:List (List Int)) (s:aa):Prop where
 st:iZ s k
 ex:Ex k s0 s
 run:s[rh]?=some (.lst (rs.map mD))
 mo:∃a b,s[mh]?=some (.lst [mD a,mD b])/\bH 8 a/\bH 8 b
 eT:∀r∈rs,bH 8 r
 k1:k<s0.length
 r1:s0.length<=rh
 m1:s0.length<=mh
 ne:rh≠mh
def RI.draw (h:RI s0 k rh mh rs s) (g:iZ s' k) (x:Ex k s s'):RI s0 k rh mh rs s':=by
 have:=h.k1;have:=h.r1;have:=h.m1;obtain ⟨a,b,e,Z,Y⟩:=h.mo;exact ⟨g,h.ex.trans x,x.get h.run (by omega),⟨a,b,x.get e (by omega),Z,Y⟩,h.eT,h.k1,h.r1,h.m1,h.ne⟩
def RI.push (h:RI s0 k rh mh rs s) (hr:bH 8 r):RI s0 k rh mh (rs++[r]) (s.set rh (.lst (rs.map mD++[mD r]))):=by
 have:=h.k1;have:=h.r1;have:=h.m1;have:=h.ne;obtain ⟨a,b,e,Z,Y⟩:=h.mo;refine ⟨h.st.set (by omega) _,h.ex.hi (by omega) _,?_,⟨a,b,by rw [Ü (by omega)];exact e,Z,Y⟩,fun x hx=>?_,h.k1,h.r1,h.m1,h.ne⟩
 ·rw [Þ (Å.mp h.run).1,ū]
  rfl
 ·rcases û.mp hx with hx|hx
  ·exact h.eT x hx
  ·rw [Ă.mp hx];exact hr
def RI.put (h:RI s0 k rh mh rs s) (h0:at_=0\/at_=1):(∃a,bj (.ax mh) (.int at_) s=ok (mD a) s/\bH 8 a)/\∀c,bH 8 c->∃s',iq (.ax mh) (.int at_) (mD c) s=some s'/\RI s0 k rh mh rs s':=by
 have:=h.k1;have:=h.r1;have:=h.m1;have:=h.ne;obtain ⟨a,b,e,Z,Y⟩:=h.mo;have key:∀a b,bH 8 a->bH 8 b->RI s0 k rh mh rs (s.set mh (.lst [mD a,mD b])):=fun a b Z Y=>⟨h.st.set (by omega) _,h.ex.hi (by omega) _,by rw [Ü (by omega)];exact h.run,⟨a,b,Þ (Å.mp e).1,Z,Y⟩,h.eT,h.k1,h.r1,h.m1,h.ne⟩
 rcases h0 with rfl|rfl
 ·exact ⟨⟨a,tB _ _ _ _ e,Z⟩,fun c X=>⟨_,xn _ _ _ _ _ e,key _ _ X Y⟩⟩
 ·exact ⟨⟨b,yE _ _ _ _ e,Y⟩,fun c X=>⟨_,Om _ _ _ _ _ e,key _ _ Z X⟩⟩
def bH.Ed (h:bH n l) (hn:n<=8):bH 8 l:=⟨fun x Z=>by have:=h.lo x Z;omega,h.up⟩
def kI (a b:List Int):Bool:=sub b a||sub a b
def gw (rs:List (List Int)) (ps:List Nat) (k:Nat):Bool:=!(ps.any fun j=>kI (rs.getD k []) (rs.getD j []))
def bU (rs:List (List Int)):Nat->List (List Nat)
 |0=>[[]]
 |k+1=>bU rs k++((bU rs k).filter fun Z=>gw rs Z k).map fun Z=>Z++[k]
def uF (rs:List (List Int)) (k:Nat):(bU rs k).length<=2 ^ k:=by
 induction k with
 |zero=>exact S0 1
 |succ k ih =>
  have:=Ō (fun Z=>gw rs Z k) (bU rs k);rw [bU,ð,Ë,Nat.pow_succ];omega
def ua {rs:List (List Int)} (k:Nat):∀ps∈bU rs k,ps.length<=k/\∀p∈ps,p<k:=by
 induction k with
 |zero=>intro ps h;rw [Ă.mp h];exact ⟨S0 _,fun p hp=>absurd hp (ė)⟩
 |succ k ih =>
  intro ps h
  rcases û.mp h with h|h
  ·exact ⟨Nat.le_succ_of_le (ih ps h).1,fun p hp=>ÿ ((ih ps h).2 p hp)⟩
  ·obtain ⟨Z,Y,rfl⟩:=ξ.mp h
   have:=ih Z (ς.mp Y).1;refine ⟨by rw [ð];exact Nat.succ_le_succ this.1,fun p hp=>?_⟩
   rcases û.mp hp with hp|hp
   ·exact ÿ (this.2 p hp)
   ·rw [Ă.mp hp];exact Ņ _
noncomputable abbrev its (rs:List (List Int)) (ps:List Nat):List (List Int):=ps.map fun p=>rs.getD p []
noncomputable def foldM:List Nat->List (List Nat)->List Nat
 |b,[]=>b
 |b,y::Z=>if b.length<y.length then foldM y Z else foldM b Z
def longest:List (List Nat)->List Nat
 | []=>[]
 |x::Z=>foldM x Z
def mx (rs:List (List Int)):Nat:=(longest (bU rs rs.length)).length
def A4 (rs:List (List Int)) (k:Nat):∃x xs,bU rs k=x::xs:=by
 induction k with
 |zero=>exact ⟨[],[],rfl⟩
 |succ k ih =>
  obtain ⟨x,xs,e⟩:=ih;rw [bU,e];exact ⟨x,_,rfl⟩
noncomputable abbrev pD (ps:List Nat):D:=.tup (ps.map fun p:Nat=>D.int p)
structure GH (rs:List (List Int)):Prop where
 hi:rs.length<=10
 eT:∀r∈rs,bH 8 r
def GH.run {rs:List (List Int)} (h:GH rs) (h1:1<=rs.length):Oo rs:=⟨h1,by have:=h.hi;omega,h.eT⟩
def GH.at {rs:List (List Int)} (h:GH rs) (i:Nat):(rs.getD i []).length<=1000000:=by
 by_cases hi:i<rs.length
 ·have:=(h.eT _ (ě (getD_some (d:=[]) hi))).len
  omega
 ·rw [List.getD_eq_getElem?_getD,ĕ (by omega)]
  exact ċ _
def JJ {α:Type} (p:α->Bool) (xs:List α) (s:aa):sx [.lst (xs.map fun x=>D.bl (p x))] s=ok (.bl (xs.any p)) s:=by
 have e:eQ (xs.map fun x=>D.bl (p x))=some (xs.map p):=by
  have:=AF (bs:=xs.map p);rw [ο] at this;exact this
 show bz ((eQ (xs.map fun x=>D.bl (p x))).map fun (bs:List Bool)=>D.bl (bs.any id)) s=_;rw [e];show ok (D.bl ((xs.map p).any id)) s=_;rw [List.any_map];rfl
def GH.get {rs:List (List Int)} (h:GH rs) {i:Nat} (hi:i<rs.length) {s:aa}:bj (rD rs) (.int i) s=ok (mD (rs.getD i [])) s:=nR hi
def FX {rs:List (List Int)} {ps:List Nat} {k:Nat} {s:aa} (h:GH rs) (hk:k<rs.length) (hp:∀p∈ps,p<k) (hl:ps.length<=10):aO.qv [rD rs,pD ps,.int k] s=ok (.bl (gw rs ps k)) s:=by
 refine SX ?_;unfold aO.qv;simp only [VC,nR hk];refine SW (mz rfl) ⟨le_size (by rw [Ë];omega),?_⟩;refine SW (comp_map (fun p:Nat=>D.int p) (fun _=>true) (fun p=>.bl (kI (rs.getD k []) (rs.getD p []))) ps fun p Z=>⟨[some (.int p),some (mD (rs.getD k [])),some (rD rs)],rfl,rfl,fun _=>?_⟩) ?_
 ·have:=hp p Z
  refine SX ?_;simp only [VC,nR (show p<rs.length by omega),zu (h.at p),zu (h.at k)];unfold kI
  cases sub (rs.getD p []) (rs.getD k [])<;>simp
 ·rw [filter_tt]
  refine SW (JJ _ _ _) ?_;simp only [VC,and_true];rfl
def Dm {a b:List Nat} {s:aa} (h:a.length+b.length<=1000000):br (pD a) (pD b) s=ok (pD (a++b)) s:=by
 have e:iT (pD a) (pD b)=some (pD (a++b)):=by
  show (if fW (a.map fun p:Nat=>D.int p) (b.map fun p:Nat=>D.int p)=true then some (D.tup ((a.map fun p:Nat=>D.int p)++(b.map fun p:Nat=>D.int p))) else none)=_
  have Z:fW (a.map fun p:Nat=>D.int p) (b.map fun p:Nat=>D.int p)=true:=by
   unfold fW;rw [Ë,Ë];exact à (le_size h)
  rw [é Z];show some (D.tup ((a.map fun p:Nat=>D.int p)++(b.map fun p:Nat=>D.int p)))=some (D.tup ((a++b).map fun p:Nat=>D.int p));rw [ū]
 show bz (iT (pD a) (pD b)) s=_;rw [e];rfl
def lT {ps:List Nat} {s:aa}:bt [pD ps] s=ok (.int ps.length) s:=by
 show ok (D.int (ps.map fun p:Nat=>D.int p).length) s=_;rw [Ë]
def LG {s:aa} (ys:List (List Nat)):∀b,jz (fun d s=>bt [d] s) iU (pD b) (.int b.length) (ys.map pD) s=ok (pD (foldM b ys)) s:=by
 induction ys with
 |nil=>intro b;rfl
 |cons y ys ih =>
  intro b;rw [ç];unfold jz;simp only [lT,j7,eV,yF,foldM];by_cases h:b.length<y.length
  ·rw [à (show (b.length:Int)<y.length by omega),é h]
   exact ih y
  ·rw [ë (show ¬ (b.length:Int)<y.length by omega),õ h]
   exact ih b
def xp {k:Nat} (h:k<=10):2 ^ k<=1024:=by
 calc 2 ^ k<=2 ^ 10:=Nat.pow_le_pow_right (by decide) h
  _=1024:=by decide
def qZ {rs:List (List Int)} {s:aa} (h:GH rs):aO.kJ [rD rs] s=ok (pD (longest (bU rs rs.length))) s:=by
 have hi:=h.hi;refine SX ?_;unfold aO.kJ;simp only [VC];refine ⟨by decide,by decide,?_⟩;refine SW (j4 (s1:=s) (n:=rs.length) (SX (by simp only [VC,lS,ů])) (by omega)) ?_;refine Wp.jD (fun i env Y=>Y=s/\∃x,env=[some (rD rs),some (.lst ((bU rs i).map pD)),x]) _ ⟨rfl,_,rfl⟩ (fun i d env Y X W=>?_) (fun env Y W=>?_)
 ·obtain ⟨rfl,x,rfl⟩:=W
  rw [jR] at X;split at X
  ·rename_i S
   cases X;refine ⟨_,rfl,?_⟩;have Q:=uF rs i;have P:=xp (show i<=10 by omega);simp only [VC,Sd];refine SW (n6 rfl) ⟨le_size (by rw [Ë];omega),?_⟩;refine SW (comp_map pD (fun Z=>gw rs Z i) (fun Z=>pD (Z++[i])) (bU rs i) fun Z V=>⟨[some (pD Z),some (.int i),some (rD rs)],rfl,?_,fun _=>?_⟩) ?_
   ·obtain ⟨R,U⟩:=ua i Z V
    refine SX ?_;simp only [VC,FX h S U (show Z.length<=10 by omega),ů]
   ·obtain ⟨R,U⟩:=ua i Z V
    refine SX ?_;simp only [VC];refine ⟨by decide,?_⟩;exact SW (show br (pD Z) (.tup [.int i]) _=_ from Dm (b:=[i]) (by simp;omega)) ⟨rfl,rfl⟩
   ·have e:((bU rs i).map pD)++(((bU rs i).filter fun Z=>gw rs Z i).map fun Z=>pD (Z++[i]))=(bU rs (i+1)).map pD:=by
     rw [bU,ū,ο];rfl
    have O:=Ō (fun Z=>gw rs Z i) (bU rs i);refine SW (Oq (by simp only [Ë];omega)) ?_;rw [e];exact ⟨rfl,_,rfl⟩
  ·cases X
 ·obtain ⟨rfl,x,rfl⟩:=W
  rw [jS];simp only [VC];obtain ⟨y,T,e⟩:=A4 rs rs.length;rw [e,ç];show Wp (aj (ne (bt [pD y] Y)) fun k s=>jz (fun d s=>bt [d] s) iU (pD y) k (T.map pD) s) _;rw [lT,j7,eV];exact SW (LG T y) ⟨rfl,rfl⟩
def u6 {rs:List (List Int)} {s:aa} (h:GH rs) (h1:1<=rs.length) (h2:rs.length<=9):aO.mv [rD rs] s=ok .ao s:=by
 have Z:qr [rD rs,.int 9] s=ok (.bl true) s:=by
  refine SX ?_;unfold qr;simp only [VC];refine SW (show cm [rD rs,.ty "tuple"] s=ok (.bl true) s from rfl) ?_;simp only [VC,ē];refine SW (show bt [rD rs] s=ok (.int (rs.map mD).length) s from rfl) ?_;rw [Ë];simp only [VC];rw [à (show (1:Int)<=rs.length by omega),à (show (rs.length:Int)<=9 by omega)];simp only [VC,ē];refine SW (mz rfl) ⟨le_size (by rw [Ë];omega),?_⟩;refine SW (comp_map mD (fun _=>true) (fun _=>.bl true) rs fun r Y=>⟨[some (mD r)],rfl,rfl,fun _=>?_⟩) ?_
  ·refine SX ?_
   simp only [VC,zw (h.eT r Y),true_and]
  ·rw [filter_tt]
   exact SW (qY (fun _=>true) _ _) ⟨by simp,rfl⟩
 refine SX ?_;unfold aO.mv;simp only [VC,Z,ğ,Î,Ē,true_and]
def Ih {xs:List D} {k:Nat} (h:k<=xs.length):cutD xs none (some k)=xs.take k:=by
 unfold cutD;rw [HT.An];show (xs.drop 0).take (min k xs.length-0)=_;rw [Nat.min_eq_left h];rfl
def Ii {xs:List D} {k:Nat}:cutD xs (some k) none=xs.drop k:=by
 unfold cutD;rw [HT.An];show (xs.drop (min k xs.length)).take (xs.length-min k xs.length)=_;by_cases h:k<=xs.length
 ·rw [Nat.min_eq_left h]
  apply List.take_of_length_le;simp
 ·rw [Nat.min_eq_right (by omega),List.drop_of_length_le (S0 _),List.drop_of_length_le (by omega)]
  simp
def JK {env:Env} {f g:SV D} {xs:List D} {k:Nat} {s:aa} (hf:f env s=ok (.tup xs) s) (hg:g env s=ok (.int k) s) (h:k<=xs.length):gr f gp (fX g) env s=ok (.tup (xs.take k)) s:=by
 refine SX ?_;rw [se,hf,aV,rH,u0 hg];refine SW (show lg (.tup xs) none (some k) s=ok (.tup (cutD xs none (some k))) s from rfl) ⟨?_,rfl⟩;rw [Ih h]
def JL {env:Env} {f g:SV D} {xs:List D} {k:Nat} {s:aa} (hf:f env s=ok (.tup xs) s) (hg:g env s=ok (.int k) s):gr f (fX g) gp env s=ok (.tup (xs.drop k)) s:=by
 refine SX ?_;rw [se,hf,aV,u0 hg,rH];refine SW (show lg (.tup xs) (some k) none s=ok (.tup (cutD xs (some k) none)) s from rfl) ⟨?_,rfl⟩;rw [Ii]
def xq {a b:List (List Int)} {s:aa} (h:a.length+b.length<=1000000):br (rD a) (rD b) s=ok (rD (a++b)) s:=by
 have e:iT (rD a) (rD b)=some (rD (a++b)):=by
  show (if fW (a.map mD) (b.map mD)=true then some (D.tup (a.map mD++b.map mD)) else none)=_
  have Z:fW (a.map mD) (b.map mD)=true:=by
   unfold fW;rw [Ë,Ë];exact à (le_size h)
  rw [é Z];show some (D.tup (a.map mD++b.map mD))=some (D.tup ((a++b).map mD));rw [ū]
 show bz (iT (rD a) (rD b)) s=_;rw [e];rfl
def A5 {env:Env} {i j:Nat} {rs:List (List Int)} {p:Nat} {s:aa} (hi:ae i env s=ok (rD rs) s) (hj:ae j env s=ok (.int p) s) (hp:p<rs.length) (hl:rs.length<=9) :
  e2 br (gr (ae i) gp (fX (ae j))) (gr (ae i) (fX (e2 br (ae j) (eC (.int 1)))) gp) env s=ok (rD (rs.eraseIdx p)) s:=by
 refine SX ?_;rw [jr,JK hi hj (by rw [Ë];omega),aV,JL (k:=p+1) hi (SX (by rw [jr,hj,aV,jE,u5];exact ⟨rfl,rfl⟩)),aV];rw [<- List.map_take,<- List.map_drop];refine SW (xq (a:=rs.take p) (b:=rs.drop (p+1)) (by simp;omega)) ⟨?_,rfl⟩;rw [List.eraseIdx_eq_take_drop_succ]
def GH.less {rs:List (List Int)} (h:GH rs) (p:Nat):GH (rs.eraseIdx p):=⟨â (List.length_eraseIdx_le _ _) h.hi,fun r Z=>h.eT r ((List.eraseIdx_sublist rs p).subset Z)⟩
def iP (rs:List (List Int)):List Nat:=if rs.length=1 then [] else (ć rs.length).filter fun p=>decide (mx (rs.eraseIdx p)<mx rs)
def Sf (s:aa) (k:Nat):Prop:=∃(a:Int) (b:Bool),s[k]?=some (.lst [.int a,.bl b])/\0<=a/\(b=false->a<2147483647)
def Sf.lt {s:aa} {k:Nat} (h:Sf s k):k<s.length:=by
 obtain ⟨a,b,e,_⟩:=h;exact (Å.mp e).1
def Sf.app {s:aa} {k:Nat} (h:Sf s k) (c:List Cell):Sf (s++c) k:=by
 obtain ⟨a,b,e,r⟩:=h;exact ⟨a,b,by rw [Ú (Å.mp e).1];exact e,r⟩
theorem Sf.set {s:aa} {k j:Nat} (h:Sf s k) (hj:j≠k) (c:Cell):Sf (s.set j c) k:=by
 obtain ⟨a,b,e,r⟩:=h;exact ⟨a,b,by rw [Ü hj];exact e,r⟩
def lj {s:aa} {k:Nat} {m:Int} (h:Sf s k) (h1:0<m) (h2:m<1073741824):Wp (aO.fC [.ax k,.int m] s) fun d s'=>∃r:Int,d=.int r/\0<=r/\r<m/\Sf s' k/\Ex k s s':=by
 obtain ⟨a,b,e,V,Y⟩:=h;have X:=(Å.mp e).1
 cases b with
 |true =>
  have Z:(s.set k (.lst [.int (a / m),.bl true]))[k]?=some (.lst [.int (a / m),.bl true]):=Þ X;refine ⟨.int (a % m),s.set k (.lst [.int (a / m),.bl true]),?_,a % m,rfl,RQ _ (by omega),Ţ _ h1,⟨a / m,true,Z,Int.ediv_nonneg V (by omega),fun z=>by cases z⟩,Ex.set _ _ _⟩;simp only [aO.fC,aP,aD,bO,dC,truth,e2,rL,rM,eC,eV,ç,μ,ņ,œ,tB _ _ k s e,yE _ _ k s e,ø,Ė,ē,bA,gN,nu s h1,jw,Dl s h1 h2,xn _ _ _ k s e,aW,Ĝ,ĝ,Ñ]
 |false =>
  have Y:=Y rfl;have ex:0<=(a*48271+29) % 2147483647/\(a*48271+29) % 2147483647<2147483647:=⟨RQ _ (by decide),Ţ _ (by decide)⟩;generalize U:(a*48271+29) % 2147483647=x at ex;have Z:(s.set k (.lst [.int x,.bl false]))[k]?=some (.lst [.int x,.bl false]):=Þ X;generalize W:(x*x+39373*x+7) % 2147483629=y;have M:0<=y/\y<2147483629:=by rw [<- W];exact ⟨RQ _ (by decide),Ţ _ (by decide)⟩
  generalize T:(y*y+16807*y) % 2147483587=z;refine ⟨.int (z / 8 % m),s.set k (.lst [.int x,.bl false]),?_,_,rfl,RQ _ (by omega),Ţ _ h1,⟨x,false,Z,ex.1,fun _=>ex.2⟩,Ex.set _ _ _⟩;have S:dB (.int a) (.int 48271) s=ok (.int (a*48271)) s:=pB s (mulOk_of (by omega) (by omega));have R:∀s',dB (.int x) (.int x) s'=ok (.int (x*x)) s':=fun s'=>pB s' (mulOk_of (by omega) (by omega));have Q:∀s',dB (.int 39373) (.int x) s'=ok (.int (39373*x)) s':=fun s'=>pB s' (mulOk_of (by decide) (by decide));have P:∀s',dB (.int y) (.int y) s'=ok (.int (y*y)) s':=fun s'=>pB s' (mulOk_of (by omega) (by omega));have O:∀s',dB (.int 16807) (.int y) s'=ok (.int (16807*y)) s':=fun s'=>pB s' (mulOk_of (by decide) (by decide));have N:∀n:Int,bj (.ax k) (.int 0) (s.set k (.lst [.int x,.bl false]))=ok (.int x) (s.set k (.lst [.int x,.bl false])):=fun _=>tB _ _ k _ Z;simp only [aO.fC,aP,aD,bO,dC,truth,e2,rL,rM,eC,eV,ç,μ,ņ,œ,tB _ _ k s e,yE _ _ k s e,ø,Ė,Î,Ē,ē,bZ,bA,gN,jw,xn _ _ _ k s e,aW,Ĝ,ĝ,Ñ,S,R,Q,P,O,Dk,nu _ (show (0:Int)<2147483647 by decide),nu _ (show (0:Int)<2147483629 by decide),nu _ (show (0:Int)<2147483587 by decide),Dl _ (show (0:Int)<8 by decide) (by decide),nu _ h1,U,W,T,N 0]
def JM {ns:List Int} {i:Int} {s:aa} (h0:0<=i):Wp (aO.n5 [.bh ns,.int i] s) fun d s'=>d=.ax s.length/\Sf s' s.length/\∃c,s'=s++[c]:=by
 obtain ⟨c,Y⟩:=JC (ns:=ns) (s:=s) h0;have Z:∀s,mS (.int 10) (.int 18) s=ok (.int (10 ^ 18)) s:=fun s=>by
  have e:wW (.int 10) (.int 18)=some (.int (10 ^ 18)):=by
   show (if (decide ((0:Int)<=18)&&decide ((18:Int)<=1000000)&&decide ((10:Int).natAbs<2 ^ 64))=true then some (D.int (10 ^ (18:Int).toNat)) else none)=_
   rw [é (by decide)];rfl
  simp only [mS,e,bz]
 unfold aO.n5;simp only [VC,Y,Z];by_cases h:(10:Int) ^ 18<=c
 ·rw [à h]
  simp only [VC,Z,ē];exact ⟨by decide,⟨_,true,by simp;rfl,by omega,fun z=>by cases z⟩,_,rfl⟩
 ·rw [ë h]
  simp only [VC,Î,Ē,nu _ (show (0:Int)<2147483647 by decide)];exact ⟨by decide,⟨_,false,by simp;rfl,RQ _ (by decide),fun _=>Ţ _ (by decide)⟩,_,rfl⟩
def u7 {s:aa} {k n:Nat} (h:Sf s k) (hn:n<=8):Wp (aO.kM [.ax k,.int n] s) fun d s'=>∃ns,d=mD ns/\bH n ns/\Sf s' k/\Ex k s s':=by
 unfold aO.kM;simp only [VC];refine SW (j4 rfl (by omega)) ⟨by rw [jS];exact le_size (by omega),?_⟩;refine Wp.mono (Q:=fun T s'=>∃ns,T=ns.map D.int/\bH n ns/\Sf s' k/\Ex k s s') ?_ fun T O hx=>?_
 ·refine JA (fun i Z s'=>∃ns:List Int,Z=ns.map D.int/\bH i ns/\Sf s' k/\Ex k s s') (cb 0 n) ⟨[],rfl,⟨by simp,.nil⟩,h,Ex.refl _ _⟩ (fun i d Z s' X W=>?_) fun Z s' W=>?_
  ·obtain ⟨ns,rfl,Y,U,V⟩:=W
   rw [jR] at X;split at X
   ·cases X
    refine ⟨[some (.int (0+i)),some (.ax k)],rfl,?_⟩;simp only [VC];refine (lj U (by decide) (by decide)).mono fun d N X=>?_;obtain ⟨r,rfl,M,L,S,R⟩:=X;simp only [VC];split
    ·refine ⟨ns++[0+(i:Int)],by simp,⟨fun x hx=>?_,?_⟩,S,V.trans R⟩
     ·rcases û.mp hx with hx|hx
      ·have:=Y.lo x hx;omega
      ·rw [Ă.mp hx];omega
     ·refine List.pairwise_append.mpr ⟨Y.up,by simp,fun x hx y P=>?_⟩
      rw [Ă.mp P];have:=Y.lo x hx;omega
    ·exact ⟨ns,rfl,⟨fun x hx=>by have:=Y.lo x hx;omega,Y.up⟩,S,V.trans R⟩
   ·cases X
  ·rw [jS] at W
   exact W
 ·obtain ⟨ns,rfl,Y,U,V⟩:=hx
  exact SW rfl ⟨ns,rfl,Y,U,V⟩
def Qw {k:Int} {s:aa} (h0:0<=k) (h1:k<4):∃n:Nat,bj (.lst [.int 2,.int 3,.int 4,.int 8]) (.int k) s=ok (.int n) s/\n<=8:=by
 rcases (show k=0\/k=1\/k=2\/k=3 by omega) with rfl|rfl|rfl|rfl
 ·exact ⟨2,rfl,by decide⟩
 ·exact ⟨3,rfl,by decide⟩
 ·exact ⟨4,rfl,by decide⟩
 ·exact ⟨8,rfl,by decide⟩
def Ff {ns:List Int} {s:aa} (h:ns.length<64):nZ (mD ns) s=ok (.lst ((dQ ns).map D.int)) s:=by
 unfold nZ;simp only [Gq,à h,ē]
structure HI (s0:aa) (k rh:Nat) (rs:List (List Int)) (s:aa):Prop where
 st:Sf s k
 ex:Ex k s0 s
 run:s[rh]?=some (.lst (rs.map mD))
 eT:∀r∈rs,bH 8 r
 k1:k<s0.length
 r1:s0.length<=rh
def HI.draw {s0 s s':aa} {k rh:Nat} {rs:List (List Int)} (h:HI s0 k rh rs s) (g:Sf s' k) (x:Ex k s s'):HI s0 k rh rs s':=by
 have:=h.k1;have:=h.r1;exact ⟨g,h.ex.trans x,x.get h.run (by omega),h.eT,h.k1,h.r1⟩
def HI.push {s0 s:aa} {k rh:Nat} {rs:List (List Int)} {r:List Int} (h:HI s0 k rh rs s) (hr:bH 8 r):HI s0 k rh (rs++[r]) (s.set rh (.lst (rs.map mD++[mD r]))):=by
 have:=h.k1;have:=h.r1;refine ⟨h.st.set (by omega) _,h.ex.hi (by omega) _,?_,fun x hx=>?_,h.k1,h.r1⟩
 ·rw [Þ (Å.mp h.run).1,ū]
  rfl
 ·rcases û.mp hx with hx|hx
  ·exact h.eT x hx
  ·rw [Ă.mp hx];exact hr
def Qx {k i:Nat} {rs:List (List Int)} {s:aa} (h:s[k]?=some (.lst (rs.map mD))) (hi:i<rs.length):bj (.ax k) (.int i) s=ok (mD (rs.getD i [])) s:=by
 unfold bj mi res;simp only [h];rw [Aq (by rw [è,getD_some (d:=[]) hi];rfl)];rfl
def JN (L:List (List Int)):DI.b9 (L.map mD)=true:=by
 induction L with
 |nil=>rfl
 |cons a r ih=>simp only [ç,DI.b9,lay,nV,ih,RM]
def MX {k:Nat} {rs:List (List Int)} {s:aa} (h:s[k]?=some (.lst (rs.map mD))):dD (.ax k) (.lst []) s=ok (.bl (!rs.isEmpty)) s:=by
 have e1:res (.ax k) s=.lst (rs.map mD):=by unfold res;simp only [h]
 have e:hX (.lst (rs.map mD)) (.lst [])=some rs.isEmpty:=by
  unfold hX;rw [õ (show ¬ (jM (.lst _)&&jM (.lst _))=true from Ï),é (by simp only [lay,JN];simp [DI.b9,dep,dj])]
  cases rs<;>rfl
 unfold dD;rw [e1]
 show (match hX (.lst (rs.map mD)) (.lst []) with|some b=>ok (D.bl (!b)) s|none=>none)=_
 rw [e]
def Ot {k:Nat} {rs:List (List Int)} {s:aa} (h:s[k]?=some (.lst (rs.map mD))):bt [.ax k] s=ok (.int rs.length) s:=by
 unfold bt ng res;simp only [h,Ë];rfl
def LH {s:aa} {k:Nat} (h:Sf s k):Wp (aO.qV [.ax k,.int 9] s) fun d s'=>∃rs,d=rD rs/\1<=rs.length/\rs.length<=9/\GH rs/\Sf s' k/\Ex k s s':=by
 have A:=h.lt;unfold aO.qV;simp only [VC];refine (lj h (by decide) (by decide)).mono fun d s1 Z=>?_;obtain ⟨n,rfl,n0,n1,y,I⟩:=Z
 try simp only [VC]
 refine (lj y (by decide) (by decide)).mono fun d P Z=>?_;obtain ⟨way,rfl,x,w,v,H⟩:=Z
 try simp only [VC]
 refine ⟨by decide,?_⟩;have l1:=I.len;have l2:=H.len;have L:HI s k P.length [] (P++[.lst []]):=⟨v.app _,(I.trans H).trans (Ex.app _ _ _),by simp,by simp,A,by omega⟩;generalize hS:P++[.lst []]=S at L;generalize P.length=Y at L;refine SW (JD (n:=(1+n).toNat) (s1:=S) (i:=1+n) (SX (by simp only [VC,ů])) (by omega) (by omega)) ?_;refine Wp.jD (fun i env s'=>∃rs V U R,rs.length=i/\HI s k Y rs s'/\env=[some (.ax k),some (.int 9),some (.int (1+n)),some (.int way),some (.ax Y),V,U,R]) _ ⟨[],_,_,_,rfl,L,rfl⟩ (fun i d env s' Z K=>?_) (fun env s' K=>?_)
 ·obtain ⟨rs,V,U,R,J,T,rfl⟩:=K
  rw [jR] at Z;split at Z
  ·rename_i hi
   cases Z;refine ⟨_,rfl,?_⟩;simp only [VC];refine ⟨by decide,?_⟩;obtain ⟨q,u,G⟩:=Qw (s:=s') x w;rw [u];simp only [VC];refine (u7 T.st G).mono fun d t Z=>?_;obtain ⟨F,rfl,Q,r,p⟩:=Z;have Q:=Q.Ed G;have lm:=Q.len;have O:=T.draw r p;simp only [VC,MX O.run];have fin:∀(m:List Int) (X:aa) (R:Option D),bH 8 m->HI s k Y rs X->iV (.ax Y) X=true/\Wp (ip (.ax Y) (mD m) X) fun _ o=>∃rs V U l,rs.length=i+1/\HI s k Y rs o/\([some (.ax k),some (.int 9),some (.int (1+n)),some (.int way),some (.ax Y),some (.int (0+(i:Int))),some (mD m),R]:Env)=[some (.ax k),some (.int 9),some (.int (1+n)),some (.int way),some (.ax Y),V,U,l]:=fun m X R g W=>by
    refine ⟨by unfold iV;simp only [W.run],?_⟩;refine SW (show ip (.ax Y) (mD m) X=ok .ao (X.set Y (.lst (rs.map mD++[mD m]))) from ?_) ⟨rs++[m],_,_,_,by rw [ð,J];rfl,W.push g,rfl⟩;unfold ip;have f:(rs.map mD).length<Ö:=RO (show _<=1000000 by rw [Ë];omega) (by decide);simp only [W.run,à f,ē]
   refine ⟨ċ _,?_⟩;split
   ·rename_i E
    have e:rs≠[]:=by
     intro z;rw [z] at E;cases E
    have sD:=List.length_pos_iff.mpr e;refine (lj O.st (by decide) (by decide)).mono fun d c Z=>?_;obtain ⟨q1,rfl,_,_,b,a⟩:=Z;have N:=O.draw b a;simp only [VC];split
    ·rw [Ot N.run]
     simp only [VC];refine (lj N.st (by omega) (by omega)).mono fun d s5 Z=>?_;obtain ⟨j,rfl,j0,j1,h5,V⟩:=Z;have W:=N.draw h5 V;obtain ⟨M,rfl⟩:=Int.eq_ofNat_of_zero_le j0;have C:M < rs.length:=by omega
     rw [Qx W.run C];simp only [VC];have go:bH 8 (rs.getD M []):=W.eT _ (ě (getD_some (d:=[]) C));have lo:=go.len;refine (lj W.st (by decide) (by decide)).mono fun d X Z=>?_;obtain ⟨q2,rfl,_,_,h6,U⟩:=Z;have B:=W.draw h6 U;simp only [VC];split
     ·refine SW (C7 (by omega)) ?_
      refine SW (Ff (by rw [ð];omega)) ?_;refine SW (show jk [.lst ((dQ (rs.getD M []++F)).map D.int)] X=ok (mD (dQ (rs.getD M []++F))) X from rfl) ?_;exact fin _ X _ (GW go Q) B
     ·exact fin _ X _ go B
    ·exact fin _ c _ Q N
   ·simp only [Î,Ē]
    exact fin _ t _ Q O
  ·cases Z
 ·obtain ⟨rs,V,U,R,J,T,rfl⟩:=K
  rw [jS] at J;simp only [VC];refine SW (show jk [.ax Y] s'=ok (rD rs) s' from ?_) ⟨rs,rfl,by omega,by omega,⟨by omega,T.eT⟩,T.st,T.ex⟩;unfold jk res;simp only [T.run]
def Kp (s s':aa):Prop:=∀j,j<s.length->s'[j]?=s[j]?
def Kp.refl (s:aa):Kp s s:=fun _ _=>rfl
def Kp.len {s s':aa} (h:Kp s s'):s.length<=s'.length:=by
 cases hs:s.length with
 |zero=>exact ċ _
 |succ m =>
  have:=h m (by omega);rw [Ì (show m<s.length by omega)] at this;exact (Å.mp this).1
theorem Kp.trans {a b c:aa} (h:Kp a b) (g:Kp b c):Kp a c:=fun j Z=>(g j (È Z h.len)).trans (h j Z)
def Kp.app (s c:aa):Kp s (s++c):=fun j Z=>Ú Z
def Kp.get {s s':aa} (h:Kp s s') {k:Nat} {c:Cell} (e:s[k]?=some c):s'[k]?=some c:=by rw [h k (Å.mp e).1];exact e
def Kp.sf {s s':aa} {k:Nat} (h:Kp s s') (g:Sf s k):Sf s' k:=by
 obtain ⟨a,b,e,r⟩:=g;exact ⟨a,b,h.get e,r⟩
def zx {α:Type} (p:α->Bool) (l:List α):(l.filter fun x=>!p x).isEmpty=l.all p:=by
 induction l with
 |nil=>rfl
 |cons x r ih =>
  rw [ſ,List.all_cons];cases p x
  ·rfl
  ·exact ih
def zO {a b:List Int} {s:aa} (hl:a.length<=1000000):aO.nU [mD a,mD b] s=ok (.bl (sub a b)) s:=by
 refine SX ?_;unfold aO.nU;simp only [VC];refine SW (mz rfl) ⟨le_size (by rw [Ë];exact hl),?_⟩;refine SW (t9 (fun x=>!decide (x∈b)) D.int a fun n _=>⟨[some (.int n),some (mD b)],rfl,SX (by simp only [VC,FV,ů]),fun _=>rfl⟩) ?_;refine ⟨by decide,?_⟩;refine SW Cu ⟨?_,rfl⟩;rw [zx];rfl
def JO {rs:List (List Int)} (h:GH rs) {i j:Nat} {s:aa} (hi:i<rs.length) (hj:j<rs.length):aO.qW [rD rs,.int i,.int j] s=ok (.bl (kI (rs.getD j []) (rs.getD i []))) s:=by
 refine SX ?_;unfold aO.qW;simp only [VC,nR hi,nR hj,zO (h.at i),zO (h.at j)];unfold kI
 cases sub (rs.getD i []) (rs.getD j [])<;>simp
def LI {ps:List Nat} {s:aa}:dq (.lst (ps.map fun p:Nat=>D.int p)) (.lst []) s=ok (.bl ps.isEmpty) s:=by
 have:=Cu (ns:=ps.map fun p:Nat=>(p:Int)) (s:=s);rw [ο] at this;rw [show (ps.map fun p:Nat=>D.int p)=ps.map (D.int ∘ fun p:Nat=>(p:Int)) from rfl,this]
 cases ps<;>rfl
def LJ {s:aa} (ys:List (List Nat)):∀b:List Nat,jz (fun d s=>ok d s) iU (.int b.length) (.int b.length) (ys.map fun y=>D.int y.length) s=ok (.int (foldM b ys).length) s:=by
 induction ys with
 |nil=>intro b;rfl
 |cons y ys ih =>
  intro b;rw [ç];unfold jz;simp only [j7,eV,yF,foldM];by_cases h:b.length<y.length
  ·rw [à (show (b.length:Int)<y.length by omega),é h]
   exact ih y
  ·rw [ë (show ¬ (b.length:Int)<y.length by omega),õ h]
   exact ih b
def uG {rs:List (List Int)} (h:GH rs) {s:aa}:Wp (aO.mE [rD rs] s) fun d s'=>d=.int (mx rs)/\Kp s s':=by
 have hi:=h.hi;unfold aO.mE;simp only [VC];refine ⟨by decide,by decide,?_⟩;refine SW (j4 (s1:=s++[.lst [.tup []]]) (n:=rs.length) (SX (by simp only [VC,lS,ů])) (by omega)) ?_;refine Wp.jD (fun i env s'=>s'=s++[.lst ((bU rs i).map pD)]/\∃x y,env=[some (rD rs),some (.ax s.length),x,y]) _ ⟨rfl,_,_,rfl⟩ (fun i d env s' Y X=>?_) (fun env s' X=>?_)
 ·obtain ⟨rfl,x,y,rfl⟩:=X
  rw [jR] at Y;split at Y
  ·rename_i U
   cases Y;refine ⟨_,rfl,?_⟩;rw [Sd];have T:=uF rs i;have S:=xp (show i<=10 by omega);simp only [jW];refine SW (n6 (ds:=(bU rs i).map pD) (s1:=s++[.lst ((bU rs i).map pD)]) (SX ?_)) ?_
   ·simp only [VC]
    refine SW (show oF [.ax s.length] _=ok (.lst ((bU rs i).map pD)) _ from ?_) ⟨rfl,rfl⟩;unfold oF res;simp
   ·simp only [Ĝ,ĝ]
    refine Wp.jD (fun j env s'=>s'=s++[.lst ((bU rs i++(((bU rs i).take j).filter fun Z=>gw rs Z i).map fun Z=>Z++[i]).map pD)]/\∃y,env=[some (rD rs),some (.ax s.length),some (.int i),y]) _ ⟨by simp,_,rfl⟩ (fun j d env s' Y X=>?_) (fun env s' X=>?_)
    ·obtain ⟨rfl,y,rfl⟩:=X
     rw [è] at Y
     cases W:(bU rs i)[j]? with
     |none=>rw [W] at Y;cases Y
     |some Z =>
      rw [W] at Y;cases Y;obtain ⟨N,R⟩:=ua i Z (ě W);refine ⟨_,rfl,?_⟩;have lt:=Ō (fun Z=>gw rs Z i) ((bU rs i).take j);rw [ż] at lt;generalize V:bU rs i++(((bU rs i).take j).filter fun Z=>gw rs Z i).map (fun Z=>Z++[i])=A;have Q:A.length<=1000000:=by rw [<- V,ð,Ë];omega
      simp only [VC];refine SW (mz rfl) ⟨le_size (by rw [Ë];omega),?_⟩;refine SW (comp_map (fun p:Nat=>D.int p) (fun p=>kI (rs.getD i []) (rs.getD p [])) (fun p:Nat=>D.int p) Z fun p P=>⟨[some (.int p),some (rD rs),some (.int i)],rfl,?_,fun _=>rfl⟩) ?_
      ·have:=R p P
       refine SX ?_;simp only [VC,JO h (show p<rs.length by omega) U,ů]
      ·refine ⟨by decide,?_⟩
       rw [LI];simp only [VC];have O:(Z.filter fun p=>kI (rs.getD i []) (rs.getD p [])).isEmpty=gw rs Z i:=by
        have:=zx (fun p=>!kI (rs.getD i []) (rs.getD p [])) Z;simp only [Bool.not_not] at this;rw [this];unfold gw;rw [List.all_eq_not_any_not];simp only [Bool.not_not]
       rw [O]
       cases hs:gw rs Z i with
       |true =>
        simp only [VC,ē];refine ⟨by unfold iV;simp,by decide,?_⟩;refine SW (show br (pD Z) (.tup [.int i]) _=_ from Dm (b:=[i]) (by simp;omega)) ?_;refine SW (A3 (by rw [Ë];exact Q)) ⟨?_,_,rfl⟩;rw [List.take_succ,W,<- V];simp [List.filter_append,hs]
       |false =>
        simp only [VC,Î,Ē];refine ⟨?_,_,rfl⟩;rw [List.take_succ,W,<- V];simp [List.filter_append,hs]
    ·obtain ⟨rfl,y,rfl⟩:=X
     rw [Ë,List.take_length];exact ⟨rfl,_,_,rfl⟩
  ·cases Y
 ·obtain ⟨rfl,x,y,rfl⟩:=X
  rw [jS];simp only [VC];have T:=uF rs rs.length;have S:=xp hi;refine SW (n6 (s1:=s++[.dead]) (ds:=(bU rs rs.length).map pD) (SX (by simp only [VC];exact SW JI ⟨rfl,rfl⟩))) ⟨le_size (by rw [Ë];omega),?_⟩;refine SW (comp_map pD (fun _=>true) (fun Z=>D.int Z.length) _ fun Z _=>⟨[some (pD Z)],rfl,rfl,fun _=>SX (by simp only [VC,lT,ů])⟩) ?_;rw [filter_tt];obtain ⟨z,zs,e⟩:=A4 rs rs.length;have em:mx rs=(foldM z zs).length:=by unfold mx;rw [e];rfl
  rw [e,ç];exact SW (show sA [.lst (D.int z.length::zs.map fun Z=>D.int Z.length)] (s++[.dead])=ok (.int (foldM z zs).length) _ from LJ zs z) ⟨by rw [em],Kp.app _ _⟩
def uH {fn:List D->aa->Res D} {fa:SV (List D)} {env:Env} {s:aa} {Q:D->aa->Prop}:Wp (dM fn fa env s) Q=Wp (fa env s) fun ds s=>Wp (fn ds s) Q:=by unfold dM;rw [bq]
def Ij {nt:Nat} {cap:List Nat} {it:SV (List D)} {g:D->Env->Option Env} {t:SV Bool} {f:SV D} {env:Env} {s:aa} {Q:D->aa->Prop}:Wp (oj nt cap it g t f env s) Q=Wp (it env s) fun ds s=>ds.length<=Ö/\Wp (dJ nt (eD cap env) g t f ds s) fun xs s=>Q (.ax s.length) (s++[.lst xs]):=by
 unfold oj;simp only [bq,my,aV]
noncomputable abbrev nD (ps:List Nat):List D:=ps.map fun p:Nat=>D.int p
def GX {rs:List (List Int)} {s:aa} (h:GH rs) (h1:1<=rs.length) (h9:rs.length<=9):aO.qM [rD rs] s=ok (.ax s.length) (s++[.lst (nD (iP rs))]):=by
 have hi:=h.hi;refine SX ?_;unfold aO.qM iP;simp only [VC,uH,u6 h h1 h9,lS];by_cases e:rs.length=1
 ·rw [é e,e,show (((1:Nat):Int)==1)=true from rfl]
  simp only [VC,ē]
  exact ⟨by decide,by first|trivial|exact ⟨rfl,rfl⟩⟩
 ·rw [õ e,show ((rs.length:Int)==1)=false from beq_eq_false_iff_ne.mpr (by omega)]
  simp only [VC,Ij,Î,Ē,qZ h,lT];refine SW (j4 (s1:=s) (n:=rs.length) (SX (by simp only [VC,lS,ů])) (by omega)) ⟨le_size (by rw [jS];omega),?_⟩;rw [JH];refine SW (comp_map (fun i:Nat=>D.int (0+(i:Int))) (fun p=>decide (mx (rs.eraseIdx p)<mx rs)) (fun p:Nat=>D.int p) _ fun p Z=>⟨[some (.int (0+(p:Int))),some (.int (mx rs)),some (rD rs)],rfl,?_,fun _=>?_⟩) ⟨rfl,rfl⟩
  ·have Z:=Ĺ.mp Z
   rw [Sd];refine SX ?_;rw [mM,jr,oP,fy,wp_call,fy,A5 (rs:=rs) (p:=p) rfl rfl Z h9];simp only [VC,qZ (h.less p),lT,and_true];have:(((longest (bU (rs.eraseIdx p) (rs.eraseIdx p).length)).length:Int)<(mx rs:Int))↔mx (rs.eraseIdx p)<mx rs:=by
    unfold mx;omega
   exact decide_eq_decide.mpr this
  ·rw [Sd]
   rfl
def Ik {m:List Int} {s:aa} (h:bH 8 m):aO.je [mD m] s=ok .ao s:=by
 refine SX ?_;unfold aO.je;simp only [VC,zw h,ğ,Î,Ē,true_and]
def GH.more {rs:List (List Int)} {m:List Int} (h:GH rs) (h9:rs.length<=9) (hm:bH 8 m):GH (rs++[m]):=⟨by rw [ð];exact Nat.succ_le_succ h9,fun r Z=>by
 rcases û.mp Z with q|q
 ·exact h.eT r q
 ·rw [Ă.mp q];exact hm⟩
def JP {rs:List (List Int)} {m:List Int} {s:aa} (h:GH rs) (h1:1<=rs.length) (h9:rs.length<=9) (hm:bH 8 m):aO.fQ [rD rs,mD m] s=ok (.int ((mx (rs++[m]):Int)-mx rs)) s:=by
 refine SX ?_;unfold aO.fQ;simp only [VC,uH,u6 h h1 h9,Ik hm];refine ⟨by decide,?_⟩;refine SW (show br (rD rs) (.tup [mD m]) s=_ from xq (b:=[m]) (by simp;omega)) ?_;refine SW (qZ (h.more h9 hm)) ?_;refine SW lT ?_;refine SW (qZ h) ?_;refine SW lT ?_;exact SW (xo _ _ _) ⟨rfl,rfl⟩
def Il {rs:List (List Int)} {d:D} {s:aa} (h:GH rs) (h1:1<=rs.length) (h9:rs.length<=9) (e:jf [d] s=ok (.bl false) s):aO.fQ [rD rs,d] s=some (.error ⟨"NoMarks",none⟩,s):=by
 have e1:fG (dM aO.mv (af (ae 0) ai)) [some (rD rs),some d] s=ok (.nx [some (rD rs),some d]) s:=by
  refine SX ?_;simp only [VC,uH,u6 h h1 h9,ů]
 have e2:ib (dC (aU jf (af (ae 0) ai))) [some d] s=ok true s:=by
  refine SX ?_;simp only [VC];refine SW e ?_;simp only [VC,Bool.not_false,ů]
 have Z:aO.je [d] s=some (.error ⟨"NoMarks",none⟩,s):=by
  unfold aO.je aP;show aj (bO _ _ _ [some d] s) _=_;unfold bO;rw [e2];rfl
 have Y:fG (dM aO.je (af (ae 1) ai)) [some (rD rs),some d] s=some (.error ⟨"NoMarks",none⟩,s):=by
  unfold fG dM;show aj (aO.je [d] s) _=_;rw [Z];rfl
 unfold aO.fQ aP;show aj (aD _ _ [some (rD rs),some d] s) _=_;unfold aD;rw [e1];show aj (aj (fG (dM aO.je (af (ae 1) ai)) [some (rD rs),some d] s) _) _=_;rw [Y];rfl
def GY {d:D} {s:aa}:aO.fQ [.tup [],d] s=some (.error ⟨"NoHeap",none⟩,s):=by rfl
def Im {α:Type} {f:α->Bool} (xs:List α):DI.b9 (xs.map fun x=>D.bl (f x))=true:=by
 induction xs with
 |nil=>rfl
 |cons a r ih=>simp only [ç,DI.b9,lay,ih,RM]
def JQ {α:Type} {f:α->Bool} {xs:List α} {s:aa}:jT (.bl false) (.lst (xs.map fun x=>D.bl (f x))) s=ok (.bl (xs.all f)) s:=by
 unfold jT inD;rw [show lG (.lst (xs.map fun x=>D.bl (f x))) s=some (xs.map fun x=>D.bl (f x)) from rfl];simp only [];rw [é (by unfold lF;rw [Im];rfl)];show ok (D.bl (!(xs.map fun x=>D.bl (f x)).any fun y=>beq y (.bl false))) s=_;congr 3
 have e:∀b,beq (.bl b) (.bl false)=!b:=fun b=>by cases b<;>rfl
 rw [List.any_map];simp only [Function.comp_def,e,List.not_any_eq_all_not,Bool.not_not]
def BL {n:Nat} {i:Int} {s:aa}:aO.iK (n+1) [.int i,.int i] s=ok (.bl true) s:=by
 refine SX ?_;unfold aO.iK;simp only [VC];refine SW (show ni (.int i) s=ok (.bl false) s from rfl) ?_;simp only [VC,Î,Ē];refine SW (show cm [.int i,.ty "bool"] s=ok (.bl false) s from rfl) ?_;refine SW (show cm [.int i,.ty "bool"] s=ok (.bl false) s from rfl) ?_;refine SW (show dq (.bl false) (.bl false) s=ok (.bl true) s from rfl) ?_;simp only [VC,ē,Ž,ů]
def Io {nt:Nat} {cap:List Nat} {it:SV (List D×(aa->Prop))} {gd:D->Env->Option Env} {c:SV Bool} {f:SV D} {env:Env} {s:aa} {Q:D->aa->Prop} :
  Wp (oq nt cap it gd c f env s) Q=Wp (it env s) fun p s=>p.1.length<=Ö/\Wp (gP nt (eD cap env) gd c f p.2 p.1 s) fun xs s=>Q (.lst xs) s:=by
 unfold oq;simp only [bq,my,aV]
def GZ {α:Type} (d:α->D) {nt:Nat} {aB:Env} {g:D->Env->Option Env} {t:SV Bool} {f:SV D} {γ:aa->Prop} {s:aa} (jb:γ s) (h:α->D) (xs:List α) (hh:∀x∈xs,∃env,g (d x) (Ñ nt none++aB)=some env/\t env s=ok true s/\f env s=ok (h x) s) :
  gP nt aB g t f γ (xs.map d) s=ok (xs.map h) s:=by
 induction xs with
 |nil=>rw [μ];unfold gP;rw [é jb];rfl
 |cons n U ih =>
  obtain ⟨env,Z,Y,X⟩:=hh n Ø;have ih:=ih fun W V=>hh W (Õ _ V);rw [ç];unfold gP;rw [é jb,Z];simp only [Y,j7,eV,ē,X,ih,ç]
theorem zP:∀ds:List D,dX ds ds=ds.map fun d=>D.tup [d,d]
 | []=>rfl
 |d::ds=>by
  have:=zP ds;unfold dX at this |-;simp only [ŋ,ç,this]
def G0 {i j:Nat} {ps:List Nat} {s:aa} (ei:s[i]?=some (.lst (nD ps))) (ej:s[j]?=some (.lst (nD ps))) (hl:ps.length<=1000):aO.iK 8 [.ax i,.ax j] s=ok (.bl true) s:=by
 have Z:res (.ax i) s=.lst (nD ps):=by unfold res;simp only [ei]
 have Y:res (.ax j) s=.lst (nD ps):=by unfold res;simp only [ej]
 have V:kd (.ax i) s=some .lst:=by unfold kd;rw [Z]
 have W:kd (.ax j) s=some .lst:=by unfold kd;rw [Y]
 have X:∀{x:D},kd x s=some .lst->cm [x,.ty "list"] s=ok (.bl true) s/\cm [x,.ty "tuple"] s=ok (.bl false) s:=fun h=>by
  unfold cm;simp only [h];exact ⟨rfl,rfl⟩
 have len:∀{x:D},res x s=.lst (nD ps)->bt [x] s=ok (.int ps.length) s:=fun h=>by
  unfold bt ng;simp only [h,Ë];rfl
 refine SX ?_;unfold aO.iK;simp only [VC];refine SW (show ni (.ax j) s=ok (.bl true) s from by unfold ni;rw [W];rfl) ?_;simp only [VC,ē];refine SW (X V).1 (SW (X W).1 ?_);refine SW (show dD (.bl true) (.bl true) s=ok (.bl false) s from rfl) ?_;simp only [VC,Î,Ē];refine SW (X V).2 (SW (X W).2 ?_);refine SW (show dD (.bl false) (.bl false) s=ok (.bl false) s from rfl) ?_;simp only [VC,Î,Ē];refine SW (len Z) (SW (len Y) ?_);simp only [VC,Ž,ğ,Î,Ē,Io];refine SW (show jq (af (ae 0) (af (ae 1) ai)) [some (.ax i),some (.ax j)] s=ok (dX (nD ps) (nD ps),fun s=>res (.ax i) s=.lst (nD ps)/\res (.ax j) s=.lst (nD ps)) s from ?_) ⟨le_size (by rw [qK];simp only [Ë];omega),?_⟩
 ·show pk [.ax i,.ax j] s=_
  unfold pk;simp only [];rw [Z,Y]
 rw [zP];refine SW (GZ (fun d:D=>D.tup [d,d]) ⟨Z,Y⟩ (fun _=>.bl true) (nD ps) fun d U=>⟨[some d,some d],rfl,rfl,?_⟩) ?_
 ·obtain ⟨p,_,rfl⟩:=ξ.mp U
  refine SX ?_;simp only [VC,BL,ů]
 ·exact SW (JQ (f:=fun _=>true)) ⟨by simp,rfl⟩
open DI.aO
section
variable {rs:List (List Int)} {s:aa} {e0 e1 e2 e3 e4 e5 e6 e7 e8 e9 cj cQ:Option D} {d:D} {Q:Fl->aa->Prop}
def BM {aB:List Nat} {env:Env} {ds:List D} {fb:SV D} {r:D} (h0:s[0]?=some (.tb "law")) (ht:j9 env aB=some ds) (h:dO .ao (fb (ds.map some)) [.ao] s=ok r s):ku "law" aB fb dO env s=ok r s:=by
 unfold ku;rw [ht];dsimp only;rw [h0];dsimp only;rw [é (à rfl),h];rfl
def BN (i:Int):dD (.tup [.str "refused",.int i]) (.tup [.str "refused",.int i]) s=ok (.bl false) s:=by
 have e:PyData.strOk "refused"=true:=by decide +kernel
 unfold dD hX;simp [res,jM,beq,gF,lay,DI.b9,dep,dj,e]
def Ip (h:GH rs) (h1:1<=rs.length) (h9:rs.length<=9) (h0:s[0]?=some (.tb "law")) (hd:jf [d] s=ok (.bl false) s) (hQ:Q (.nx [e0,e1,e2,some (rD rs),e4,e5,e6,e7,e8,e9,cj,some d]) s) :
  Wp (vD [e0,e1,e2,some (rD rs),e4,e5,e6,e7,e8,e9,cj,some d] s) Q:=by
 have Z:ku "law" [3,11] (dM fQ (af (ae 0) (af (ae 1) ai))) dO [e0,e1,e2,some (rD rs),e4,e5,e6,e7,e8,e9,cj,some d] s=ok (.tup [.str "refused",.int 0]) s :=
  BM h0 (ds:=[rD rs,d]) rfl (tZ (show (dM fQ (af (ae 0) (af (ae 1) ai))) [some (rD rs),some d] s=_ from Il h h1 h9 hd))
 have Y:ku "law" [11] (dM fQ (af (cV ai) (af (ae 0) ai))) dO [e0,e1,e2,some (rD rs),e4,e5,e6,e7,e8,e9,cj,some d] s=ok (.tup [.str "refused",.int 11]) s :=
  BM h0 (ds:=[d]) rfl (uA (show (dM fQ (af (cV ai) (af (ae 0) ai))) [some d] s=_ from GY (d:=d)))
 unfold vD;refine SY fun R X=>?_;rw [mO,mM,jr];refine SW Z ?_;simp only [ow,fy,fR,jE];refine ⟨le_size (n:=2) (by decide),?_⟩;refine SW (BN 0) ?_;simp only [mF,Î,Ē,kS,gZ];subst X;rw [mO,mM,jr];refine SW Y ?_;simp only [ow,fy,fR,jE];refine ⟨le_size (n:=2) (by decide),?_⟩;refine SW (BN 11) ?_;simp only [mF,Î,Ē,kS];exact hQ
def G1 {m:List Int} (h:GH rs) (h1:1<=rs.length) (h9:rs.length<=9) (hm:bH 8 m) (hQ:∀s',Kp s s'->Q (.nx [e0,e1,e2,some (rD rs),some (.int (mx rs)),e5,some (mD m),e7,e8,e9,cj,cQ]) s') :
  Wp (vA [e0,e1,e2,some (rD rs),some (.int (mx rs)),e5,some (mD m),e7,e8,e9,cj,cQ] s) Q:=by
 unfold vA;simp only [VC];refine SW (JP h h1 h9 hm) ?_;refine ⟨by decide,?_⟩;refine SW (show br (rD rs) (.tup [mD m]) s=_ from xq (b:=[m]) (by simp;omega)) ?_;refine (uG (h.more h9 hm)).mono fun x Z Y=>?_;obtain ⟨rfl,X⟩:=Y;refine SW (xo _ _ _) ?_;refine SW BL ?_;simp only [VC,ğ,Î,Ē];exact hQ Z X
def js (rs:List (List Int)) (p:Nat):Bool:=decide (1<rs.length)&&decide (mx (rs.eraseIdx p)<mx rs)
def G2 (h1:1<=rs.length):(ć rs.length).filter (js rs)=iP rs:=by
 unfold iP;by_cases e:rs.length=1
 ·rw [é e,List.filter_eq_nil_iff]
  intro p _;unfold js;rw [ë (by omega),SI];exact Ï
 ·rw [õ e]
  refine List.filter_congr fun p _=>?_;unfold js;rw [à (by omega),Bool.true_and]
def G3 {j p:Nat} {ds:List D} (h:GH rs) (h9:rs.length<=9) (hp:p<rs.length) (hj:s[j]?=some (.lst ds)) (hl:ds.length<=100)
  (hQ:∀s',Kp s s'->Q (.nx [e0,e1,e2,some (rD rs),some (.int (mx rs)),e5,e6,some (.ax j),some (.int p),e9,cj,cQ]) (if js rs p=true then s'.set j (.lst (ds++[.int p])) else s')) :
  Wp (vB [e0,e1,e2,some (rD rs),some (.int (mx rs)),e5,e6,some (.ax j),some (.int p),e9,cj,cQ] s) Q:=by
 unfold vB;simp only [mO,uX,mM,jr,oP,fy,fR,gQ,gR,jE,lS,aV,vK,mF];by_cases e:1<rs.length
 ·rw [à (show (1:Int)<rs.length by omega)]
  simp only [ē,wp_call,fy,fR];rw [A5 (rs:=rs) (p:=p) rfl rfl hp h9];simp only [aV];refine (uG (h.less p)).mono fun x Z W=>?_;obtain ⟨rfl,Y⟩:=W;simp only [vJ,mF];have q:=hQ Z Y;unfold js at q;rw [à e,Bool.true_and] at q;by_cases e2:mx (rs.eraseIdx p)<mx rs
  ·rw [à (show (mx (rs.eraseIdx p):Int)<mx rs by omega)]
   rw [à e2,é rfl] at q;simp only [ē,qN,rG,gQ,gR];have X:=Y.get hj;refine ⟨by unfold iV;simp only [X],?_⟩;refine SW (show ip (.ax j) (.int p) Z=ok .ao (Z.set j (.lst (ds++[.int p]))) from ?_) q;unfold ip;simp only [X,à (RO hl (show 100<Ö by decide)),ē]
  ·rw [ë (show ¬ (mx (rs.eraseIdx p):Int)<mx rs by omega)]
   rw [ë e2,õ Ï] at q;simp only [Î,Ē,kS];exact q
 ·rw [ë (show ¬ (1:Int)<rs.length by omega)]
  simp only [Î,Ē,kS];have q:=hQ s (Kp.refl s);unfold js at q;rw [ë e,SI,õ Ï] at q;exact q
def G4 (rs:List (List Int)):(iP rs).length<=rs.length:=by
 unfold iP;split
 ·exact ċ _
 ·exact â (Ō _ _) (by rw [R5];exact S0 _)
def G5 {j:Nat} (h:GH rs) (h1:1<=rs.length) (h9:rs.length<=9) (hj:s[j]?=some (.lst (nD (iP rs))))
  (hQ:∀cj s',Kp s s'->Q (.nx [e0,e1,e2,some (rD rs),e4,e5,e6,some (.ax j),e8,e9,cj,cQ]) s') :
  Wp (vC [e0,e1,e2,some (rD rs),e4,e5,e6,some (.ax j),e8,e9,cj,cQ] s) Q:=by
 have nl:=G4 rs;unfold vC;refine SY fun R Z=>?_;simp only [jV,kg,wp_call,fy,fR,gQ,gR,Ĝ,ĝ];refine SW (GX h h1 h9) ?_;rw [gZ];subst Z;refine SY fun R Z=>?_;have Y:=Kp.app s [.lst (nD (iP rs))];simp only [mO,uY,vH,wp_call,fy,fR,gQ,gR];refine SW (G0 (ps:=iP rs) (by simp) (Y.get hj) (by omega)) ?_;simp only [uW,ğ,Î,Ē,kS,gZ];subst Z;simp only [qN,rG,gQ,gR,jE];refine ⟨by unfold iV;simp,?_⟩;refine SW (A3 (by rw [Ë];omega)) ?_;exact hQ _ _ (Kp.app _ _)
noncomputable def xr:List D:=[.ao,.lst [.int 0],.tup [.int 8],.tup [.int 1,.int 0],.tup [.int 0,.int 0],.tup [.bl true],.str "0",.tup [.tup [.int 0]],.tup [.int (-1)]]
def JR {d:D} (hd:d∈xr) (s:aa):jf [d] s=ok (.bl false) s:=by
 simp only [xr,Ù,ė,or_false] at hd
 rcases hd with rfl|rfl|rfl|rfl|rfl|rfl|rfl|rfl|rfl<;>kernel_rfl
def Ou:bH 8 [0,1,2,3,4,5,6,7]:=⟨by decide,by decide⟩
def LK {ns:List Int} {i:Int} (hi:0<=i) (h0:s[0]?=some (.tb "law")) (hQ:∀e2 e3 e4 e5 e6 e7 e8 e9 cj cQ s',s'[0]?=some (.tb "law")->Q (.nx [some (.bh ns),some (.int i),e2,e3,e4,e5,e6,e7,e8,e9,cj,cQ]) s') :
  Wp (vE [some (.bh ns),some (.int i),e2,e3,e4,e5,e6,e7,e8,e9,cj,cQ] s) Q:=by
 have u:0<s.length:=(Å.mp h0).1;unfold vE;refine SY fun R Y=>?_;simp only [jV,kg,wp_call,fy,fR,gQ,gR,Ĝ,ĝ];refine (JM hi).mono fun d s1 Z=>?_;obtain ⟨rfl,K,E,rfl⟩:=Z;have O:(0:Nat)≠s.length:=by omega
 have g1:(s++[E])[0]?=some (.tb "law"):=by rw [Ú u];exact h0
 generalize s++[E]=S1 at K g1;generalize s.length=k at K O;rw [gZ];subst Y;refine SY fun R Y=>?_;simp only [jV,kg,wp_call,fy,fR,gQ,gR,jE,Ĝ,ĝ];refine (LH K).mono fun d J Z=>?_;obtain ⟨rs,rfl,N,M,h,q,p⟩:=Z;have g2:=p.get g1 O;rw [gZ];subst Y;refine SY fun R Y=>?_;simp only [jV,kg,wp_call,fy,fR,gQ,gR,Ĝ,ĝ];refine (uG h).mono fun d s3 Z=>?_;obtain ⟨rfl,W⟩:=Z;have g3:=W.get g2;have o:=W.sf q;rw [gZ];subst Y;refine SY fun R Y=>?_;simp only [jV,kg,vF,wp_call,fy,fR,gQ,gR,jE,jr,oP,ow,Ĝ,ĝ];refine (u7 (n:=4) o (by decide)).mono fun d s4 Z=>?_;obtain ⟨T,rfl,l,f,e⟩:=Z;refine (u7 (n:=8) f (by decide)).mono fun d s5 Z=>?_;obtain ⟨S,rfl,c,b,a⟩:=Z;refine SW lS ?_;refine (lj b (by omega) (by omega)).mono fun d L Z=>?_;obtain ⟨r,rfl,r0,r1,RC,x6⟩:=Z;have g6:=x6.get (a.get (e.get g3 O) O) O;obtain ⟨I,rfl⟩:=Int.eq_ofNat_of_zero_le r0;have D:I < rs.length:=by omega
 refine SW (nR D) ?_;have C:bH 8 (rs.getD I []):=h.eT _ (ě (getD_some (d:=[]) D));generalize rs.getD I []=P at C;refine ⟨by decide,?_⟩;refine SW (show rZ [.int 8] L=ok (mD [0,1,2,3,4,5,6,7]) L from rfl) ?_;refine ⟨le_size (n:=5) (by decide),?_⟩;rw [gZ];subst Y;refine SY fun R Y=>?_;rw [jW];refine SW (show di (ae 5) _ L=ok [mD T,mD S,mD P,mD [],mD [0,1,2,3,4,5,6,7]] L from n6 rfl) ?_;refine Wp.jD (fun _ env s'=>s'[0]?=some (.tb "law")/\∃e6,env=[some (.bh ns),some (.int i),some (.ax k),some (rD rs),some (.int (mx rs)),some (.lst [mD T,mD S,mD P,mD [],mD [0,1,2,3,4,5,6,7]]),e6,e7,e8,e9,cj,cQ]) _ ⟨g6,_,rfl⟩ (fun t d env s' Z X=>?_) (fun env U X=>?_)
 ·obtain ⟨g,e6,rfl⟩:=X
  have B:=ě Z;have H:∃m,d=mD m/\bH 8 m:=by
   simp only [Ù,ė,or_false] at B
   rcases B with rfl|rfl|rfl|rfl|rfl
   ·exact ⟨T,rfl,l.Ed (by decide)⟩
   ·exact ⟨S,rfl,c⟩
   ·exact ⟨P,rfl,C⟩
   ·exact ⟨[],rfl,by simp,List.Pairwise.nil⟩
   ·exact ⟨_,rfl,Ou⟩
  obtain ⟨m,rfl,H⟩:=H;refine ⟨_,rfl,?_⟩;exact G1 h N M H fun J W=>⟨W.get g,_,rfl⟩
 obtain ⟨A,e6,rfl⟩:=X;subst Y;refine SY fun R Y=>?_;simp only [jV,kg,vG,fR,Ĝ,ĝ];refine ⟨le_size (n:=0) (by decide),?_⟩;have G:(U++[Cell.lst []])[U.length]?=some (.lst []):=by simp
 have z:(U++[Cell.lst []])[0]?=some (.tb "law"):=(Kp.app U _).get A;have y:(0:Nat)≠U.length:=by have:=(Å.mp A).1;omega
 generalize U++[Cell.lst []]=S8 at G z;generalize U.length=j at G y;rw [gZ];subst Y;refine SY fun R Y=>?_;rw [jW];refine SW (j4 (s1:=S8) (n:=rs.length) (SX (by simp only [VC,lS,ů])) (by omega)) ?_;refine Wp.jD (fun t env s'=>s'[0]?=some (.tb "law")/\s'[j]?=some (.lst (nD ((ć t).filter (js rs))))/\∃e8,env=[some (.bh ns),some (.int i),some (.ax k),some (rD rs),some (.int (mx rs)),some (.lst [mD T,mD S,mD P,mD [],mD [0,1,2,3,4,5,6,7]]),e6,some (.ax j),e8,e9,cj,cQ]) _ ⟨z,G,_,rfl⟩ (fun t d env s' Z X=>?_) (fun env s9 X=>?_)
 ·obtain ⟨g,V,e8,rfl⟩:=X
  rw [jR] at Z;split at Z
  ·rename_i ht
   cases Z;refine ⟨_,rfl,?_⟩;rw [Sd];have lt:=Ō (js rs) (ć t);rw [R5] at lt;refine G3 h M ht V (by rw [Ë];omega) fun J W=>?_;have x:=W.get V;have jl:=(Å.mp x).1;rw [List.range_succ,List.filter_append]
   cases w:js rs t with
   |true =>
    rw [é rfl];refine ⟨by rw [Ü (ş y)];exact W.get g,?_,_,rfl⟩;rw [Þ jl];simp [w]
   |false =>
    rw [õ Ï];refine ⟨W.get g,?_,_,rfl⟩;rw [x];simp [w]
  ·cases Z
 obtain ⟨g9,V,e8,rfl⟩:=X;rw [jS,G2 N] at V;subst Y;refine SY fun R Y=>?_;rw [jW];refine SW (j4 (n:=2) rfl (by decide)) ?_;refine Wp.jD (fun t env s'=>s'[0]?=some (.tb "law")/\s'[j]?=some (.lst (nD (iP rs)))/\∃e9 cj,env=[some (.bh ns),some (.int i),some (.ax k),some (rD rs),some (.int (mx rs)),some (.lst [mD T,mD S,mD P,mD [],mD [0,1,2,3,4,5,6,7]]),e6,some (.ax j),e8,e9,cj,cQ]) _ ⟨g9,V,_,_,rfl⟩ (fun t d env s' Z X=>?_) (fun env F X=>?_)
 ·obtain ⟨g,V,e9,cj,rfl⟩:=X
  rw [jR] at Z;split at Z
  ·cases Z
   refine ⟨_,rfl,?_⟩;exact G5 h N M V fun cj J W=>⟨W.get g,W.get V,_,_,rfl⟩
  ·cases Z
 obtain ⟨v,V,e9,cj,rfl⟩:=X;subst Y;rw [gZ,jW];refine SW (show di _ _ F=ok xr F from n6 rfl) ?_;refine Wp.jD (fun t env s'=>s'=F/\∃cQ,env=[some (.bh ns),some (.int i),some (.ax k),some (rD rs),some (.int (mx rs)),some (.lst [mD T,mD S,mD P,mD [],mD [0,1,2,3,4,5,6,7]]),e6,some (.ax j),e8,e9,cj,cQ]) _ ⟨rfl,_,rfl⟩ (fun t d env s' Z X=>?_) (fun env s' X=>?_)
 ·obtain ⟨rfl,cQ,rfl⟩:=X
  refine ⟨_,rfl,?_⟩;exact Ip h N M v (JR (ě Z) _) ⟨rfl,_,rfl⟩
 obtain ⟨rfl,cQ,rfl⟩:=X;exact hQ _ _ _ _ _ _ _ _ _ _ _ v
end
def Iq (ns:List Int) (hn:ns.length<=63):∃s,aO.sd [.bh ns] [.tb "law"]=some (.ok (.bl true),s):=by
 suffices h:Wp (aO.sd [.bh ns] [.tb "law"]) fun d _=>d=.bl true by
  obtain ⟨d,s,e,rfl⟩:=h;exact ⟨s,e⟩
 unfold aO.sd;refine wg.symm ▸ ⟨rfl,SY fun R M=>?_⟩;rw [jW];have O:∃n:Nat,fN (af (eB mU (af (eC (.int 1)) (af (eB oE (af (eB bt (af (ae 0) ai)) (af (eC (.int 2)) ai))) ai))) ai) [some (.bh ns),none,none,none,none,none,none,none,none,none,none,none] [.tb "law"]=ok (cb 0 n) [.tb "law"]:=by
  have e:∃n:Nat,n<=1000/\(af (eB mU (af (eC (.int 1)) (af (eB oE (af (eB bt (af (ae 0) ai)) (af (eC (.int 2)) ai))) ai))) ai) [some (.bh ns),none,none,none,none,none,none,none,none,none,none,none] [.tb "law"]=ok [.int n] [.tb "law"]:=by
   refine ⟨(if (if (2:Int)<ns.length then (2:Int) else ns.length) > 1 then (if (2:Int)<ns.length then (2:Int) else ns.length) else 1).toNat,by split<;>split<;>omega,?_⟩
   rw [Int.toNat_of_nonneg (by split<;>split<;>omega)]
   rfl
  obtain ⟨n,J,L⟩:=e;exact ⟨n,j4 L (by omega)⟩
 obtain ⟨n,O⟩:=O;refine SW O ?_;refine Wp.jD (fun i env s=>s[0]?=some (.tb "law")/\∃e1 e2 Z Y X W V U T S Q,env=[some (.bh ns),e1,e2,Z,Y,X,W,V,U,T,S,Q]) _ ⟨rfl,_,_,_,_,_,_,_,_,_,_,_,rfl⟩ (fun i d env s P N=>?_) (fun env s N=>?_)
 ·obtain ⟨g,e1,e2,Z,Y,X,W,V,U,T,S,Q,rfl⟩:=N
  rw [jR] at P;split at P
  ·cases P
   refine ⟨_,rfl,?_⟩;rw [Sd];exact LK (by omega) g fun e2 Z Y X W V U T S Q I K=>⟨K,_,_,_,_,_,_,_,_,_,_,_,rfl⟩
  ·cases P
 ·obtain ⟨g,e1,e2,Z,Y,X,W,V,U,T,S,Q,rfl⟩:=N
  subst M;simp only [VC]
end DI
end
namespace DI.aO
open PySem L2 DI
noncomputable def MY:List Str:=["NoMarks","NoSheet","NoPage","NoBook","NoMould","NoDay","NoSort","NoNumber","NoSheets","NoRun","NoLaying","NoHeap","NoCount","Clash","NoDeed","NoText","NoRow","TooMany","Lacking"]
def Df (K:ĉ) (x:Str) (st:SH):Prop:=∃(f:Ò) (Z:Ä) (Y:Option Ò) (X:Array (Option Ä)) (kV W pm:Ä) (an:Option Ò) (cd V:Ä),ï K Ó x=some (some (.ref f))/\K.lookup f=some ⟨Z,Y,.func (Ļ x x (kR st) (fB st) (bN st) .none kV W pm an cd V),X⟩/\Ŵ K cd x=true/\Ĩ K (.ref f)=true
def MZ {K:ĉ} {x:Str} {st:SH} {f:Ò} {oc:Ä} {od:Option Ò} {sl:Array (Option Ä)} {kV dc pm:Ä} {an:Option Ò} {cd ct:Ä} (a:ï K Ó x=some (some (.ref f))) (l:K.lookup f=some ⟨oc,od,.func (Ļ x x (kR st) (fB st) (bN st) .none kV dc pm an cd ct),sl⟩) (c:Ŵ K cd x=true) (k:Ĩ K (.ref f)=true):Df K x st:=⟨f,oc,od,sl,kV,dc,pm,an,cd,ct,a,l,c,k⟩
def Cv {K:ĉ} {x:Str} {i:Int} {t:Tok} (e:ï K Ó x=some (some (.int i t))):∃t,ï K Ó x=some (some (.int i t)):=⟨t,e⟩
def cB {K:ĉ} {h:ħ} {mg:Str->Option Ä} {x:Str} {st:SH} {ps:List Str} (X:K.In h) (G:h.Ns Ó mg) (D:Df K x st) (hb:∀(kV doc pm:Ä) (an:Option Ò) (aG ct:Ä) (us:List Ä),us.length=ps.length->bindArgs (Ļ x x (kR st) (fB st) (bN st) .none kV doc pm an aG ct) ⟨us,[]⟩=pure (ps.zip us)):∃f fd,Gd K mg x st ps f fd:=by
 obtain ⟨f,Z,Y,W,kV,V,pm,an,cd,ct,a,l,c,k⟩:=D;have F:=Bc (st:=st) l c k;exact ⟨f,_,RP X G a,F,F.binds hb⟩
def gC {P:List Ä->Prop} (h:∀a0:Ä,P [a0]) (us:List Ä) (hl:us.length=1):P us:=by
 cases us with
 |nil=>simp at hl
 |cons a0 Z =>
 cases Z with
 |cons _ _=>simp at hl
 |nil =>
 exact h a0
def ia {P:List Ä->Prop} (h:∀a0 a1:Ä,P [a0,a1]) (us:List Ä) (hl:us.length=2):P us:=by
 cases us with
 |nil=>simp at hl
 |cons a0 Z =>
 cases Z with
 |nil=>simp at hl
 |cons a1 Y =>
 cases Y with
 |cons _ _=>simp at hl
 |nil =>
 exact h a0 a1
def Cw {P:List Ä->Prop} (h:∀a0 a1 a2:Ä,P [a0,a1,a2]) (us:List Ä) (hl:us.length=3):P us:=by
 cases us with
 |nil=>simp at hl
 |cons a0 Z =>
 cases Z with
 |nil=>simp at hl
 |cons a1 Y =>
 cases Y with
 |nil=>simp at hl
 |cons a2 X =>
 cases X with
 |cons _ _=>simp at hl
 |nil =>
 exact h a0 a1 a2
def all_mk {P:Û} {w:ú} {K:ĉ} {h:ħ} {mg:Str->Option Ä} {fa:Ò} (X:K.In h) (G:h.Ns Ó mg) (QH:mg "law"=some (.ref fa))
  (d0:Df K "_law_cell_at" (top 40))
  (d1:Df K "_law_state" (top 41))
  (d2:Df K "_law_take" (top 42))
  (d3:Df K "_law_marks" (top 43))
  (d4:Df K "_law_heap" (top 49))
  (d5:Df K "_law_within" (top 47))
  (d6:Df K "_law_akin" (top 48))
  (d7:Df K "_law_most" (top 50))
  (d8:Df K "is_rising" (top 26))
  (d9:Df K "is_number" (top 23))
  (yK:Df K "is_below" (top 24))
  (yL:Df K "is_mark" (top 25))
  (yM:Df K "are_marks" (top 28))
  (yN:Df K "are_laid_marks" (top 30))
  (yO:Df K "need_heap" (top 36))
  (yP:Df K "has_all" (top 29))
  (yQ:Df K "is_strange" (top 37))
  (yR:Df K "most_strangers" (top 38))
  (yS:Df K "needed" (top 35))
  (yT:Df K "_law_same" (top 46))
  (yU:Df K "_law_classes" (top 44))
  (yV:Df K "need_marks" (top 31))
  (yW:Df K "more_by" (top 34))
  (yX:Df K "_law_met" (top 45))
  (dl:Df K "law" (top 51))
  (u9:∃t,ï K Ó "MARKS"=some (some (.int (8) t)))
  (vL:∃t,ï K Ó "HEAP"=some (some (.int (9) t)))
  (tI:ï K Ó "ValueError"=some none)
  (wo:ï K Ó "all"=some none)
  (wq:ï K Ó "any"=some none)
  (vM:ï K Ó "bool"=some none)
  (wt:ï K Ó "int"=some none)
  (tJ:ï K Ó "isinstance"=some none)
  (wu:ï K Ó "len"=some none)
  (vN:ï K Ó "list"=some none)
  (wx:ï K Ó "max"=some none)
  (wy:ï K Ó "min"=some none)
  (va:ï K Ó "range"=some none)
  (wz:ï K Ó "set"=some none)
  (uJ:ï K Ó "sorted"=some none)
  (vd:ï K Ó "tuple"=some none)
  (wA:ï K Ó "zip"=some none)
  (xf:iM K bg MY "MouldError"=true) (tf:vw K "law"=true)
  : ∃(c T:Ò) (fd:č),SQ K "law"=some (c,T)/\K.lookup T=none/\(∀(s:Ã) (v:Ä),BindsTo s fd ⟨[v],[]⟩ [(S9,v)])/\∀base:ħ,K.In base->base.Ns Ó mg->base.BuiltinsAt mg T->bT P w K mg base cg 10 fa fd [S9] (rF K T):=by
 have Y:=cB (ps:=[S9,"_law_k"]) X G d0 fun _ _ _ _ _ _=>ia fun _ _=>rfl;have g1:=cB (ps:=[S9,"_law_k"]) X G d1 fun _ _ _ _ _ _=>ia fun _ _=>rfl;have g2:=cB (ps:=[Ta,Ti]) X G d2 fun _ _ _ _ _ _=>ia fun _ _=>rfl;have g3:=cB (ps:=[Ta,Ti]) X G d3 fun _ _ _ _ _ _=>ia fun _ _=>rfl;have W:=cB (ps:=[Ta,"_law_most_here"]) X G d4 fun _ _ _ _ _ _=>ia fun _ _=>rfl;have V:=cB (ps:=[Td,Tb]) X G d5 fun _ _ _ _ _ _=>ia fun _ _=>rfl;have U:=cB (ps:=[Tc,Td,Tb]) X G d6 fun _ _ _ _ _ _=>Cw fun _ _ _=>rfl;have S:=cB (ps:=[Tc]) X G d7 fun _ _ _ _ _ _=>gC fun _=>rfl;have R:=cB (ps:=["things"]) X G d8 fun _ _ _ _ _ _=>gC fun _=>rfl;have Q:=cB (ps:=["thing"]) X G d9 fun _ _ _ _ _ _=>gC fun _=>rfl;have O:=cB (ps:=["thing","many"]) X G yK fun _ _ _ _ _ _=>ia fun _ _=>rfl;have N:=cB (ps:=["thing"]) X G yL fun _ _ _ _ _ _=>gC fun _=>rfl;have M:=cB (ps:=["thing"]) X G yM fun _ _ _ _ _ _=>gC fun _=>rfl;have L:=cB (ps:=["thing","most"]) X G yN fun _ _ _ _ _ _=>ia fun _ _=>rfl;have J:=cB (ps:=["thing"]) X G yO fun _ _ _ _ _ _=>gC fun _=>rfl;have I:=cB (ps:=["marks","others"]) X G yP fun _ _ _ _ _ _=>ia fun _ _=>rfl;have H:=cB (ps:=["heap","places","place"]) X G yQ fun _ _ _ _ _ _=>Cw fun _ _ _=>rfl;have E:=cB (ps:=["heap"]) X G yR fun _ _ _ _ _ _=>gC fun _=>rfl;have D:=cB (ps:=["heap"]) X G yS fun _ _ _ _ _ _=>gC fun _=>rfl;have C:=cB (ps:=[Te,Tf]) X G yT fun _ _ _ _ _ _=>ia fun _ _=>rfl;have B:=cB (ps:=["_law_e"]) X G yU fun _ _ _ _ _ _=>gC fun _=>rfl;have A:=cB (ps:=["thing"]) X G yV fun _ _ _ _ _ _=>gC fun _=>rfl;have z:=cB (ps:=["heap","marks"]) X G yW fun _ _ _ _ _ _=>ia fun _ _=>rfl;have y:=cB (ps:=["_law_call"]) X G yX fun _ _ _ _ _ _=>gC fun _=>rfl;have x:∃t,mg "MARKS"=some (.int (8) t):=by obtain ⟨t,e⟩:=u9;exact ⟨t,RP X G e⟩
 have u:∃t,mg "HEAP"=some (.int (9) t):=by obtain ⟨t,e⟩:=vL;exact ⟨t,RP X G e⟩
 have r:=ñ X G tI;have q:=ñ X G wo;have p:=ñ X G wq;have o:=ñ X G vM;have n:=ñ X G wt;have m:=ñ X G tJ;have j:=ñ X G wu;have i:=ñ X G vN;have g:=ñ X G wx;have d:=ñ X G wy;have b:=ñ X G va;have Nb:=ñ X G wz;have Ir:=ñ X G uJ;have JT:=ñ X G vd;have Nc:=ñ X G wA;obtain ⟨f,oc,od,sl,kV,dc,pm,an,cd,ct,a,l,c,k⟩:=dl;have e:=QH.symm.trans (RP X G a);cases e;have F:=Bc (st:=(top 51)) l c k;have GL:Gd K mg "law" (top 51) [S9] _ _:=⟨RP X G a,F,F.binds fun _ _ _ _ _ _=>gC fun _=>rfl⟩;obtain ⟨c0,T0,Z,hC,hT⟩:=Jw tf;exact ⟨c0,T0,_,Z,hT,fun s v=>.of_eq rfl,fun base _ _ hB=>Jv (LB ⟨r,q,p,o,n,m,j,i,g,d,b,Nb,Ir,JT,Nc,dt X G xf (by decide +kernel),dt X G xf (by decide +kernel),dt X G xf (by decide +kernel),dt X G xf (by decide +kernel),dt X G xf (by decide +kernel),dt X G xf (by decide +kernel),dt X G xf (by decide +kernel),dt X G xf (by decide +kernel),dt X G xf (by decide +kernel),dt X G xf (by decide +kernel),dt X G xf (by decide +kernel),dt X G xf (by decide +kernel),dt X G xf (by decide +kernel),dt X G xf (by decide +kernel),dt X G xf (by decide +kernel),dt X G xf (by decide +kernel),dt X G xf (by decide +kernel),dt X G xf (by decide +kernel),dt X G xf (by decide +kernel),MP xf,De X G xf (by decide +kernel),De X G xf (by decide +kernel),Oj X G xf,x,u,Y,g1,g2,g3,W,V,U,S,R,Q,O,N,M,L,J,I,H,E,D,C,B,A,z,y⟩ Z hC hB GL a) Z Iq⟩
def walk {l:PySem.W.OpenLaw} {q:Û} {loose:List Str} {XP:(Str->Option Ä)->ħ->Prop} {YP:ú->ħ->Prop} {d:DefRec} {K:Params->ĉ} (hn:l.most=some 63) (pP:d.params.defaults=[]) (hd:(PyProof.Rows.recsOf q).find? (fun e=>e.name==d.name)=some d)
  (hY:∀(w:ú) (h:ħ),YP w h->(K w.params).In h)
  (F:∀(w:ú) (mg:Str->Option Ä) (fa:Ò) (h:ħ),(K w.params).In h->h.Ns Ó mg->mg d.name=some (.ref fa) ->
   ∃(c T:Ò) (fd:č),SQ (K w.params) d.name=some (c,T)/\(K w.params).lookup T=none/\(∀(s:Ã) (u:Ä),BindsTo s fd ⟨[u],[]⟩ [(S9,u)])/\∀base:ħ,(K w.params).In base->base.Ns Ó mg->base.BuiltinsAt mg T->bT l.prog w (K w.params) mg base cg 10 fa fd [S9] (rF (K w.params) T)) :
  PySem.W.WalkO q loose XP YP l.row.toRowW d [] (fun f vs=>PySem.call f vs) :=
 L2.Lq (n:=63) (k:=10) (x:= S9) (CX:=fun _=>cg) (sp:=fun w=>rF (K w.params)) hn (by decide) pP ⟨rfl,by decide,by decide,rfl⟩ hY hd F (fun _ _ _ a Z Y X V=>⟨a,Z,rfl,V,Y,X,fun _=>rfl⟩) fun _ _ _ _ _ z=>z
end DI.aO
open PySem PySem.W PyProof.Rows
namespace PySem.W.Fast
def te7165751736913414354:=trivial
def te16261478707831599065:=trivial
def te11193912589734260150:=trivial
def te8403559534865787773:=trivial
def te15500001179271910561:=trivial
def te4678103353419205127:=trivial
end PySem.W.Fast
set_option maxRecDepth 100000 in
set_option maxHeartbeats 0 in
theorem PySem.Challenge.cw_twinmoulds_k43_a_sheet_more_and_those_ne_holds : PySem.Challenge.rw_twinmoulds_k43_a_sheet_more_and_those_ne.Holds := by
 w_on;o_law;k_head;(case hw=>w_witness2)
 k_fill
 refine DI.aO.walk (l:=PySem.Challenge.rw_twinmoulds_k43_a_sheet_more_and_those_ne) rfl rfl rfl (fun w h Y=>PySem.W.km_in_of Y) ?F
 case F =>
  intro w V U h Z G X;refine' DI.aO.all_mk Z G X ?d0 ?d1 ?d2 ?d3 ?d4 ?d5 ?d6 ?d7 ?d8 ?d9 ?yK ?yL ?yM ?yN ?yO ?yP ?yQ ?yR ?yS ?yT ?yU ?yV ?yW ?yX ?dl ?u9 ?vL ?tI ?wo ?wq ?vM ?wt ?tJ ?wu ?vN ?wx ?wy ?va ?wz ?uJ ?vd ?wA ?xf ?tf
  (case d0|d1|d2|d3|d4|d5|d6|d7|d8|d9|yK|yL|yM|yN|yO|yP|yQ|yR|yS|yT|yU|yV|yW|yX|dl=>refine' DI.aO.MZ ?a ?l ?c ?k;(case a=>k_is);(case l=>k_is);(case c=>k_is);(case k=>k_is))
  (case u9=>refine' DI.aO.Cv ?e;(case e=>k_is))
  (case vL=>refine' DI.aO.Cv ?e;(case e=>k_is))
  (case tI|wo|wq|vM|wt|tJ|wu|vN|wx|wy|va|wz|uJ|vd|wA=>k_is)
  (case xf=>kernel_rfl)
  (case tf=>kernel_rfl)
