import PyProof.Rows.All
import Wide.All
import OpenK.AllK
import Wide.FinOn
import Lean
import PyProof.EqAt
import PyProof.EqKinds
import PyProof.TupleCall
import PyProof.NeData
import PyProof.P3In
import PyProof.FactsAll.set
import PyProof.CollectWalk
import PyProof.FactsAll.range
import PyProof.MinMaxWalk
import KE.KMinKey
import PyProof.WalkInts
import PyProof.Rows.CallKwBuiltin
import KE.KLam
import KE.KSortTup
import PyProof.Rows.Range3
import PyProof.ListRange
import PyProof.DictCompW
import PyProof.DictWalks
import PyProof.Rows.CompDC
import PyProof.SumAny
import PyProof.TupleOfGen
import PyProof.CollectIter
import KE.KTryMore
import OpenK.KOwn
import PyProof.ExcBaseAll.ValueError
import KE.KNestM
import PyProof.NsDelKeeps
import PyProof.ExcAttrAll.ValueError
import PySem.Challenge.RW_twinmoulds_k10_layings_looked_at
set_option bootstrap.genMatcherCode false
set_option genInjectivity false
set_option genSizeOfSpec false
set_option Elab.async false
set_option linter.all false
set_option maxRecDepth 100000
set_option maxHeartbeats 4000000
open PySem renaming wpAny_bind→À,wpAny_pure→Â,Shared→Ã,Value→Ä,starEach→Ê,mainGlobals→Ò,Addr→Ó,sizeLine→Ø,wpAny→Ù,model→ß,Program→á,bootBuiltins→ì,wpAny_callSpecial?_slot→ï,Around→ó,wpAny_newObj_type→ô,wpAny_call_entry→ø,foldedSetIterable→þ,World→Ą,wpAny_holding→ą,compareOp→ć,wpAny_field→Ċ,wpAny_setField_rec→č,wpAny_seqItems→Ē,FuncData→ė,Expr→ę,wpAny_mono→ğ,mem_of_lookup→ģ,codeAny_builtin→ī,Heap→Į,backTo→į,binaryOp→ĳ,sysModules→ĸ,eval→ĺ,wpAny_attempt→Ľ,wpAny_truthy_bool→ŀ,letOwnedTupleGo→ł,intKind→ń,wpAny_rule→Ň,wpAny_askSetting→Ŋ,wpAny_standAt→Ō,NameKind→Ő,assignEach→œ,pyNext→Ŕ,Builtin→Ř,wpAny_setState_of→ř,codeAny_mono→ŝ,wpAny_setEntries_of→ş,plainId_quiet→Š,rawInt→Ţ,pickOrder→Ŧ,wpAny_setField→Ū,wpAny_tryCatch→ū,codeAny→Ŭ,wpAny_pyIter_tuple→ŭ,wpAny_Call_Name_kw→Ů,wpAny_loadPart'→ŵ,Scope→ŷ,wpAny_pyIter_list→Ÿ,fits_of_scanBound→ź,cellsFrom→ž,PyData→γ,IsPair→δ,scanBound→ε,sizeLine_eq→ο,keywordEach→ς,wpAny_letGo→χ,wpAny_execs_nil→U8,holding→U9,wpAny_passesOwn→Vb,behindInMarks→Vc,attributeBase→Ve,wpAny_updateSeq→Vl,assign→Vo,Keyword→Vt,sliceBounds→Vv,wpAny_storeSet_of→VA,swapsWith→VI,wpAny_typeOf→VJ,wpAny_isInstance→VN,swapsWithSole→VR,swappedStores→VS,standAt→VU,Stmt→Wc
open PySem.Heap renaming get?_push_of_some→Á,lt_size→É,get?_push_size→Ì,size_push→î,get?_update_self→ü,get?_update_other→ĉ,SameBut→Ĥ,ExtBut→υ
open List renaming mem_append_right→Å,getElem?_eq_some_iff→È,length_map→Í,replicate→Î,mem_cons_of_mem→Ï,getElem?_eq_getElem→Ð,mem_cons_self→Ô,size_toArray→Õ,mem_cons→Ö,getElem?_append_left→Û,getElem?_set_ne→Ü,length_cons→Ý,getElem?_map→à,length_append→ä,mem_append→æ,map_cons→ç,length_nil→è,getElem?_set_self→é,getElem?_append_right→ë,mem_singleton→ð,all_eq_true→õ,mem_append_left→ù,length_set→Ć,mem_range→Č,lookup_cons→Đ,mem_of_getElem?→Ė,getElem?_replicate→ě,pairwise_cons→Ğ,not_mem_nil→Ģ,getElem?_eq_none→ħ,nil_append→ĩ,set_cons_succ→Ĭ,set_cons_zero→ĭ,length_take→İ,replicate_succ→Ĳ,mem_map→ķ,range→Ĺ,cons_append→ļ,append_nil→Ń,map_nil→ō,mem_filter→ő,flatten_cons→Ŗ,length_drop→ţ,getD→ť,filter_cons→ŧ,zip_cons_cons→ů,nodup_cons→ű,length_replicate→Ų,append_assoc→Ź,drop_eq_getElem_cons→ζ,getElem?_zip_eq_some→η,isEmpty_nil→μ,filterMap_cons→ξ,mem_filterMap→Va,forIn_cons→Vf,length_eq_zero_iff→Vk,ext_getElem?→Vx,pairwise_append→VO,getElem?_of_mem→VQ,getElem_of_mem→VX,getElem?_range→VZ,map_append→V3,map_map→V5
open Nat renaming lt_of_lt_of_le→Æ,ne_of_lt→Þ,lt_irrefl→â,le_trans→ã,lt_succ_of_lt→Ĕ,zero_le→Ě,ne_of_gt→ĝ,lt_succ_self→ŋ,le_of_eq→Ŷ,le_of_not_lt→ι,le_succ→ψ,mul_le_mul_right→VP
open Bool renaming false_eq_true→Ç,and_eq_true→Ë,false_ne_true→Ñ,not_true→ď,and_self→Ŀ,eq_iff_iff→ŕ,not_eq_true'→ś,not_false→VG,or_eq_true→V0
open PySem.NameKind renaming free→å
open PySem.W renaming nsIn→í,mg_none_of→ñ,Frag→Ĉ,keepIn→Ĵ,fnOf→Ş,mg_of→Ż,hideAll_get→ν,cellsFrom_some→Vp,findIn→VD,codeIn→VE,methodObj→V9,tabIn→We,excIn→Wf
open PySem.Builtin.SmallTypes renaming nextOf→ö,ownedTupleIsFree→ā,ownedTupleHandOut→ġ
open PySem.SetTable renaming below→ý,grown→VF
open PySem.Obj renaming data_mapFields→ÿ,isFreed_of_fields→Ķ,mapSeq→Ł,cls_mapFields→Vw
open Array renaming length_toList→Ā,getElem?_toList→Ŏ,toList_push→Vz
open PySem.Str renaming ofString→Ă
open PyProof.Rows renaming slot_tuple_getitem→ċ,callWith_type1→Ĩ,firstMet→ľ,envOfC→š,IntsAre→Vu,AllBare→Wb
open PySem.Heap.SameBut renaming update→Ď
open PySem.PyData renaming eqv→đ,depthAll→Ś,weightAll→Ũ,showable→Vh,hasDictAll→VB,leavesShortAll→VM,showableAll→V7,leavesShort→V8,weight→Wg
open PySem.Around renaming under_plainId→Ĝ
open PySem.F renaming plain_min_loop→Ġ,slot_tuple_iterator_next→Ņ,isi_meta_tuple→ň,isi_meta_list→ŗ,called_set→ų,slot_enumerate_next→Ŵ,args_tuple_add_2→ω,entry_tuple_add→Vd,plainAttrs_list→Vm,slot_tuple_add→Vq,entry_min_loop→Vr,slot_int_rmul→VW,slot_zip_next→VY
open False renaming elim→ĥ
open Int renaming toNat_natCast→Ħ,emod_lt_of_pos→Ű,emod_nonneg→Vn,zero_add→V6
open ForInStep renaming yield→Ī
open PySem.Builtin.Tuple renaming tupleExact→Ļ,tupleItemsOf→ż,tupleIsExact→Ž
open PySem.Value renaming bool→ņ,type→ũ,ref→VH,int→VT
open PySem.Builtin.Slice renaming slicePlaces→ŏ,sliceAdjust→ſ,sliceApplied→V4
open Ne renaming symm→Œ
open PySem.PassesOwn renaming never→Ŝ
open Option renaming isNone_iff_eq_none→θ,map_some→Vg
open PySem.Builtin.List renaming listTooLong→U7,listExtendWith→V1
open Or renaming inl→Vi
open PyProof.Rows.F renaming plain_set_update_loop→Vj
open Sum renaming inr→Vs
open PySem.SetTable.below renaming go→Vy
open List.Pairwise renaming sublist→VL
open PySem.Builtin.Builtins renaming bindParams→V2
open PySem.SetTable.probe renaming go→Wa
def Ú:=@decide_eq_true_eq
def ê:=@if_pos
def ò:=@decide_eq_true
def ú:=@if_neg
def û:=@if_false
def ă:=@if_true
def ē:=@bne_self_eq_false
def ĕ:=@of_decide_eq_true
def Ę:=@decide_eq_false
def ı:=@congrArg
def ĵ:=@and_self
def Ť:=@beq_self_eq_true
def Wl:=@Nat.le_refl
def Wm:=@Option.some.inj
abbrev Wn:PySem.Str:="_law_state_here"
abbrev Wo:PySem.Str:="_law_script"
abbrev Wq:PySem.Str:="_law_found"
abbrev Wr:PySem.Str:="_law_run"
abbrev Ws:PySem.Str:="_law_thing"
abbrev Wt:PySem.Str:="_law_due"
abbrev Wu:PySem.Str:="_law_laying"
abbrev Wv:PySem.Str:="_law_mark"
abbrev Ww:PySem.Str:="_law_place"
abbrev Wx:PySem.Str:="_law_error"
noncomputable section
local macro_rules | `(tactic| omega) => `(tactic| lia)
open PySem.W (Frag)
namespace L2
open PySem PySem.Spec PyProof.Rows
noncomputable abbrev Key:=Sum Int Str
def mf:Key->Ä->Bool
 | .inl k,v=>Value.isInt k v
 | .inr x,v=>Value.isStrOf x v
def Qf (w:Ą):Key->Int
 | .inl k=>hashInt k
 | .inr x=>hashStr w x
def jn:∀{k:Key} {v:Ä},mf k v=true->(∃i t,k=Sum.inl i/\v=VT i t)\/(∃x t,k=Vs x/\v=Value.str x t)
 | .inl i,v,h=>by
  obtain ⟨t,e⟩:=Value.isInt_shape (k:=i) (v:=v) h;exact .inl ⟨i,t,rfl,e⟩
 | .inr x,v,h=>by
  obtain ⟨t,e⟩:=Value.isStrOf_shape (x:=x) (v:=v) h;exact .inr ⟨x,t,rfl,e⟩
def Js (i:Int) (t:Tok):mf (.inl i) (.int i t)=true:=by simp [mf,Value.isInt]
def Jt (x:Str) (t:Tok):mf (.inr x) (.str x t)=true:=by simp [mf,Value.isStrOf]
def M6 (a b:Int):decide ((Sum.inl a:Key)=Sum.inl b)=(a==b):=by
 by_cases e:a=b
 ·subst e;simp
 ·have h:¬ (Sum.inl a:Key)=Sum.inl b:=fun q=>e (Sum.inl.inj q)
  rw [Ę h];exact (beq_eq_false_iff_ne.mpr e).symm
def M7 (a b:Str):decide ((Vs a:Key)=Vs b)=decide (a=b):=by
 by_cases e:a=b
 ·subst e;simp
 ·have h:¬ (Vs a:Key)=Vs b:=fun q=>e (Sum.inr.inj q)
  rw [Ę h,Ę e]
def M8 (a:Int) (b:Str):decide ((Sum.inl a:Key)=Vs b)=false:=Ę (fun q=>nomatch q)
def M9 (a:Str) (b:Int):decide ((Vs a:Key)=Sum.inl b)=false:=Ę (fun q=>nomatch q)
def hV (prog:á) (w:Ą):PySem.KeyKind prog w Key where
 is:=mf
 hash:=Qf w
 inj:=fun v a b X Y=>by
  rcases jn X with ⟨i,t,rfl,rfl⟩ | ⟨x,t,rfl,rfl⟩
  ·rcases jn Y with ⟨j,u,rfl,e⟩ | ⟨y,u,rfl,e⟩
   ·injection e with e1 _;rw [e1]
   ·exact nomatch e
  ·rcases jn Y with ⟨j,u,rfl,e⟩ | ⟨y,u,rfl,e⟩
   ·exact nomatch e
   ·injection e with e1 _;rw [e1]
 byValue:=fun k v h=>by
  rcases jn h with ⟨i,t,rfl,rfl⟩ | ⟨x,t,rfl,rfl⟩<;>rfl
 pyHash:=fun Z h=>by
  rcases jn Z with ⟨i,t,rfl,rfl⟩ | ⟨x,t,rfl,rfl⟩
  ·exact wpAny_pyHash_int h
  ·exact wpAny_pyHash_str h
 eqBool:=fun W Z h=>by
  rcases jn W with ⟨i,t,rfl,rfl⟩ | ⟨x,t,rfl,rfl⟩
  ·rcases jn Z with ⟨j,u,rfl,rfl⟩ | ⟨y,u,rfl,rfl⟩
   ·rw [M6] at h;exact wpAny_eqBool_int h
   ·rw [M8] at h;exact SeqAt.EqAt.int_str i t y u _ _ _ _ h
  ·rcases jn Z with ⟨j,u,rfl,rfl⟩ | ⟨y,u,rfl,rfl⟩
   ·rw [M9] at h;exact SeqAt.EqAt.str_int x t j u _ _ _ _ h
   ·rw [M7] at h;exact wpAny_eqBool_str h
 «strs»:=fun k x t v h=>by
  rcases jn h with ⟨i,u,rfl,e⟩ | ⟨y,u,rfl,e⟩
  ·exact nomatch e
  ·injection e with e1 _
   subst e1
   cases v<;>rfl
def HS (prog:á) (w:Ą) (i:Int) (t:Tok):(hV prog w).is (.inl i) (.int i t)=true:=Js i t
def HU (prog:á) (w:Ą) (x:Str) (t:Tok):(hV prog w).is (.inr x) (.str x t)=true:=Jt x t
set_option genInjectivity true in
inductive V where
 |aq|bl (b:Bool)|int (i:Int)|str (x:Str)|gL (b:Array UInt8)|rB (b:UInt64)|ref (a:Ó)|ty (n:String)
 deriving DecidableEq
def RelV:V->Ä->Prop
 | .aq,u=>u=Value.none
 | .bl b,u=>u=ņ b
 | .int i,u=>∃t,u=VT i t
 | .str x,u=>∃t,u=Value.str x t
 | .gL b,u=>∃t,u=Value.bytes b t
 | .rB b,u=>∃t,u=Value.float b t
 | .ref a,u=>u=VH a
 | .ty n,u=>u=ũ n
abbrev Vals:List V->List Ä->Prop:=Paired RelV
theorem Vals.length (r:Vals xs us):xs.length=us.length:=Paired.length r
theorem Vals.get:∀{xs:List V} {us:List Ä} {i:Nat} {x:V},Vals xs us->xs[i]?=some x->∃u,us[i]?=some u/\RelV x u
 |_,_,_,_,.nil,e=>by simp at e
 |_,_,0,_,.cons r _,e=>by simp at e;subst e;exact ⟨_,rfl,r⟩
 |_,_,i+1,x,.cons _ t,e=>by
  obtain ⟨u,Z,Y⟩:=Vals.get (i:=i) (x:=x) t (by simpa using e);exact ⟨u,by simpa using Z,Y⟩
theorem Vals.set (r:RelV x u):∀{xs:List V} {us:List Ä} (i:Nat),Vals xs us->Vals (xs.set i x) (us.set i u)
 |_,_,_,.nil=>.nil
 |_,_,0,.cons _ t=>.cons r t
 |_,_,i+1,.cons q t=>.cons q (Vals.set r i t)
theorem Vals.append:∀{xs ys:List V} {us ws:List Ä},Vals xs us->Vals ys ws->Vals (xs++ys) (us++ws)
 |_,_,_,_,.nil,s=>s
 |_,_,_,_,.cons r t,s=>.cons r (Vals.append t s)
theorem Vals.take:∀{xs:List V} {us:List Ä} (n:Nat),Vals xs us->Vals (xs.take n) (us.take n)
 |_,_,0,_=>.nil
 |_,_,_ + 1,.nil=>.nil
 |_,_,n+1,.cons r t=>.cons r (Vals.take n t)
theorem Vals.drop:∀{xs:List V} {us:List Ä} (n:Nat),Vals xs us->Vals (xs.drop n) (us.drop n)
 |_,_,0,r=>r
 |_,_,_ + 1,.nil=>.nil
 |_,_,n+1,.cons _ t=>Vals.drop n t
def E5:Option V->Option Ä->Prop
 |some v,some u=>RelV v u
 |none,none=>True
 |_,_=>False
def KV {κ:Type}:List (κ×V)->List (κ×Ä)->Prop:=Paired fun (p:κ×V) (q:κ×Ä)=>p.1=q.1/\RelV p.2 q.2
def kV:Key->V
 | .inl i=>.int i
 | .inr x=>.str x
inductive HO where
 |lst (xs:List V)
 |tup (xs:List V)
 |dK (ao:List (Key×V))|dT (ao:List (List Key×V))
 |set (S:Int->Bool) (n:Nat)
 |ins (C dx:Ó) (fs:List (Str×V))
 |own (x:Ó)
 |xd (fs:List (Str×V))
 |met (f x:Ó)
 |bV (lo hi:Int)
 |aN (o:Obj) (u:HO)
 |cD (ps:Array Ä)
 |ext (φ:Į->Prop)
noncomputable abbrev Hp:=Ó->Option HO
def upd (H:Hp) (a:Ó) (o:HO):Hp:=fun b=>if b=a then some o else H b
def bO:upd H a o a=some o:=by unfold upd;rw [ê rfl]
def aI (h:b≠a):upd H a o b=H b:=by unfold upd;rw [ú h]
def bX {H:Hp} {a b:Ó} {o:HO} (h:H a=some o) (h':H b=none):a≠b:=by
 intro e;subst e;rw [h] at h';cases h'
section
variable (P:á) (w:Ą)
def bM (H:Hp) (h:Į) (a:Ó):HO->Prop
 | .lst Y=>Y.length<=Ø/\∃(Z:List Ä) (n:Nat),Vals Y Z/\h.get? a=some { cls:=.type "list",data:=.seq Z.toArray n }
 | .tup Y=>Y.length<=Ø/\∃Z:List Ä,Vals Y Z/\IsTup h a Z.toArray
 | .dK U=>U.length<=Ø/\(a==ĸ)=false/\∃Q,KV U Q/\h.DictOf (hV P w) a Q
 | .dT U=>U.length<=Ø/\(a==ĸ)=false/\∃Y:List (List Key×Ó×Ä),
   Paired (fun (p:List Key×V) (q:List Key×Ó×Ä)=>p.1=q.1/\H q.2.1=some (.tup (p.1.map kV))/\RelV p.2 q.2.2) U Y /\
   ∃o O L,h.get? a=some o/\o.ExactDict/\o.data=.dict O L/\O.toList=Y.map (entryOfKey (tupleKind (hV P w)))/\(Y.map (·.1)).Nodup
 | .set S n=>h.SetOf (ń P w) a S n
 | .ins C T fs=>H T=some (.own a)/\fs.length<=1000/\T≠a/\h.get? a=some (PySem.W.instObj C T) /\
   ∃X,h.Ns1 T X/\(∀f,E5 (fs.lookup f) (X f))/\PySem.Within X (fs.map (·.1))
 | .own _=>∃o,h.get? a=some o
 | .xd fs=>∃X,h.Ns1 a X/\∀f,E5 (fs.lookup f) (X f)
 | .bV lo hi=>∃t u v,h.get? a=some { cls:=.type "range",data:=.fields #[.int lo t,.int hi u,.int 1 v] }
 | .aN o u=>h.get? a=some o/\bM H h a u
 | .cD K=>h.get? a=some { cls:=.none,data:=.fields K }
 | .met f x=>h.get? a=some (V9 (.ref f) (.ref x))
 | .ext R=>R h/\(∃o,h.get? a=some o)/\∀N M:Į,R N->(∀o,N.get? a=some o->M.get? a=some o)->R M
def bB (H:Hp) (h:Į):Prop:=∀a o,H a=some o->bM P w H h a o
end
section
variable {P:á} {w:Ą} {H H':Hp} {h h':Į} {a:Ó} {o:HO}
theorem bM.lt (x:bM P w H h a o):a<h.objs.size:=by
 cases o with
 |lst Z=>obtain ⟨_,_,_,_,e⟩:=x;exact É e
 |tup Z=>obtain ⟨_,_,_,p⟩:=x;exact p.lt
 |dK Y=>obtain ⟨_,_,_,_,o,_,_,e,_⟩:=x;exact É e
 |dT Y=>obtain ⟨_,_,_,_,o,_,_,e,_⟩:=x;exact É e
 |set S n=>obtain ⟨o,_,_,_,e,_⟩:=x;exact É e
 |ins C X fs=>obtain ⟨_,_,_,e,_⟩:=x;exact É e
 |own y=>obtain ⟨_,e⟩:=x;exact É e
 |xd fs=>obtain ⟨_,⟨_,_,_,e,_⟩,_⟩:=x;exact É e
 |bV lo hi=>obtain ⟨_,_,_,e⟩:=x;exact É e
 |aN W u=>obtain ⟨e,_⟩:=x;exact É e
 |cD V=>exact É (show h.get? a=some _ from x)
 |met f y=>exact É (show h.get? a=some _ from x)
 |ext U=>obtain ⟨_,⟨_,e⟩,_⟩:=x;exact É e
theorem Paired.E6 {α β:Type} {F G:α->β->Prop}:∀{E7:List α} {E8:List β},Paired F E7 E8->(∀a b,F a b->G a b)->Paired G E7 E8
 |_,_,.nil,_=>.nil
 |_,_,.cons r t,f=>.cons (f _ _ r) (Paired.E6 t f)
def bM.cO (x:bM P w H h a o) (k:∀b u,(b=a\/H b=some (.own a))->h.get? b=some u->h'.get? b=some u)
  (ho:∀b,H b=some (.own a)->H' b=some (.own a)) (ht:∀b xs,H b=some (.tup xs)->H' b=some (.tup xs)):bM P w H' h' a o:=by
 induction o with
 |lst xs=>obtain ⟨z,W,n,r,e⟩:=x;exact ⟨z,W,n,r,k _ _ (.inl rfl) e⟩
 |tup xs=>obtain ⟨z,W,r,Z,e,c⟩:=x;exact ⟨z,W,r,Z,k _ _ (.inl rfl) e,c⟩
 |dK Q=>obtain ⟨z,y,O,r,Z,Y,X,e,c⟩:=x;exact ⟨z,y,O,r,Z,Y,X,k _ _ (.inl rfl) e,c⟩
 |dT Q =>
  obtain ⟨z,y,xs,r,Z,Y,X,e,c⟩:=x;exact ⟨z,y,xs,Paired.E6 r fun p q z=>⟨z.1,ht _ _ z.2.1,z.2.2⟩,Z,Y,X,k _ _ (.inl rfl) e,c⟩
 |set S n=>obtain ⟨Z,Y,X,t,e,c⟩:=x;exact ⟨Z,Y,X,t,k _ _ (.inl rfl) e,c⟩
 |ins C N fs =>
  obtain ⟨d,z,ne,e,V,⟨U,Y,X,e2,c⟩,r⟩:=x;exact ⟨ho _ d,z,ne,k _ _ (.inl rfl) e,V,⟨U,Y,X,k _ _ (.inr d) e2,c⟩,r⟩
 |own y=>obtain ⟨Z,e⟩:=x;exact ⟨Z,k _ _ (.inl rfl) e⟩
 |xd fs=>obtain ⟨V,⟨U,Y,X,e,c⟩,r⟩:=x;exact ⟨V,⟨U,Y,X,k _ _ (.inl rfl) e,c⟩,r⟩
 |bV lo hi=>obtain ⟨t,u,v,e⟩:=x;exact ⟨t,u,v,k _ _ (.inl rfl) e⟩
 |aN Z u ih=>obtain ⟨e,q⟩:=x;exact ⟨k _ _ (.inl rfl) e,ih q⟩
 |cD T =>
  have e:h.get? a=some { cls:=.none,data:=.fields T }:=x;show h'.get? a=some { cls:=.none,data:=.fields T };exact k a _ (.inl rfl) e
 |met f y =>
  have e:h.get? a=some (V9 (.ref f) (.ref y)):=x;show h'.get? a=some (V9 (.ref f) (.ref y));exact k a _ (.inl rfl) e
 |ext M=>obtain ⟨p,⟨o,e⟩,R⟩:=x;exact ⟨R _ _ p fun o q=>k _ _ (.inl rfl) q,⟨o,k _ _ (.inl rfl) e⟩,R⟩
theorem bB.lt (x:bB P w H h) (e:H a=some o):a<h.objs.size:=(x a o e).lt
def bB.fresh (x:bB P w H h) (e:h.objs.size<=a):H a=none:=by
 cases q:H a with
 |none=>rfl
 |some u=>exact absurd (Æ (x.lt q) e) (â _)
def bB.kept (x:bB P w H h) (k:∀b u,h.get? b=some u->h'.get? b=some u):bB P w H h':=fun a o e =>
 (x a o e).cO (fun b u _ q=>k b u q) (fun _ q=>q) fun _ _ q=>q
def bB.laid (x:bB P w H h) (k:∀b u,h.get? b=some u->h'.get? b=some u) (hp:h.objs.size<=a) (new:bM P w (upd H a o) h' a o):bB P w (upd H a o) h':=fun b u e=>by
 have Z:=x.fresh hp;by_cases Y:b=a
 ·subst Y;rw [bO] at e;cases e;exact new
 ·rw [aI Y] at e
  exact (x b u e).cO (fun c v _ q=>k c v q) (fun c q=>by rw [aI (bX q Z)];exact q) fun c X q=>by rw [aI (bX q Z)];exact q
end
def Rd (H:Hp) (a:Ó) (u:HO):Prop:=H a=some u\/∃o,H a=some (.aN o u)
def Rd.ok (r:Rd H a u) (x:bB P w H h):bM P w H h a u:=by
 rcases r with r | ⟨o,r⟩
 ·exact x a u r
 ·obtain ⟨_,q⟩:=x a _ r
  exact q
def rE:Option HO->Prop
 |some (.lst _)=>True
 |some (.dK _)=>True
 |some (.dT _)=>True
 |some (.set _ _)=>True
 |some (.ins _ _ _)=>True
 |some (.ext _)=>True
 |_=>False
section
variable {P:á} {w:Ą} {H:Hp} {h h':Į} {x e:Ó} {o':HO}
def bB.write (ok:bB P w H h) (mu:rE (H x)) (he:e=x\/H e=some (.own x)) (k:∀b u,b≠e->h.get? b=some u->h'.get? b=some u) (pd:∃u,h'.get? e=some u)
  (new:bM P w (upd H x o') h' x o'):bB P w (upd H x o') h':=fun b u q=>by
 have W:∀c y,H c=some (.own y)->c≠x:=fun c y r z=>by subst z;rw [r] at mu;exact mu
 have U:∀c Z,H c=some (.tup Z)->c≠x:=fun c Z r z=>by subst z;rw [r] at mu;exact mu
 by_cases Y:b=x
 ·subst Y;rw [bO] at q;cases q;exact new
 ·rw [aI Y] at q
  by_cases X:b=e
  ·have V:H b=some (.own x):=by
    rcases he with z|z
    ·exact absurd (X.trans z) Y
    ·rw [X];exact z
   rw [q] at V;cases V;obtain ⟨v,T⟩:=pd;exact ⟨v,by rw [X];exact T⟩
  ·refine (ok b u q).cO (fun c v hc r=>k c v ?_ r) (fun c r=>by rw [aI (W c b r)];exact r) fun c Z r=>by rw [aI (U c Z r)];exact r
   rcases hc with rfl|hc
   ·exact X
   ·rintro rfl
    rcases he with z|z
    ·exact W c b hc z
    ·rw [hc] at z;cases z;exact Y rfl
end
structure Un (fs ex:List Ó) (H H':Hp) (h h':Į):Prop where
 keep:∀b o,h.get? b=some o->H b=none->b∉fs->b∉ex->h'.get? b=some o
 slot:∀b o,h.get? b=some o->H b=none->b∈fs->b∉ex->∃sl,h'.get? b=some { o with slots:=sl }
 free:∀b o,h.get? b=some o->H b=none->b∉ex->H' b=none
 there:∀b o,h.get? b=some o->b∉ex->∃o',h'.get? b=some o'
 df:∀b xs,H b=some (.tup xs)->H' b=some (.tup xs)
 cP:∀b o u,H b=some (.aN o u)->H' b=some (.aN o u)
 dg:∀b ps,H b=some (.cD ps)->∃more,H' b=some (.cD (ps++more))
section
variable {fs Ro ex UG:List Ó} {H H1 H2:Hp} {h h1 h2 h':Į} {a x e:Ó} {o:HO}
def Un.any (u:Un fs ex H H1 h h1) (q:h.get? b=some ob) (n:H b=none) (hx:b∉ex):∃sl,h1.get? b=some { ob with slots:=sl }:=by
 by_cases Z:b∈fs
 ·exact u.slot b ob q n Z hx
 ·exact ⟨ob.slots,u.keep b ob q n Z hx⟩
def Un.kept (k:∀b u,h.get? b=some u->h'.get? b=some u):Un fs ex H H h h' :=
 ⟨fun b Z q _ _ _=>k b Z q,fun b Z q _ _ _=>⟨Z.slots,k b Z q⟩,fun _ _ _ n _=>n,fun b Z q _=>⟨Z,k b Z q⟩,fun _ _ q=>q,fun _ _ _ q=>q,fun _ Y q=>⟨#[],by rw [q];simp⟩⟩
def Un.refl:Un fs ex H H h h:=Un.kept fun _ _ q=>q
def Un.laid (k:∀b u,h.get? b=some u->h'.get? b=some u) (hp:h.objs.size<=a) (hn:H a=none):Un fs ex H (upd H a o) h h' where
 keep:=fun b u q _ _ _=>k b u q
 slot:=fun b u q _ _ _=>⟨u.slots,k b u q⟩
 free:=fun b u q n _=>by rw [aI (Þ (Æ (É q) hp))];exact n
 there:=fun b u q _=>⟨u,k b u q⟩
 df:=fun b Z q=>by rw [aI (bX q hn)];exact q
 cP:=fun b u Z q=>by rw [aI (bX q hn)];exact q
 dg:=fun b Y q=>⟨#[],by rw [aI (bX q hn),q];simp⟩
def Un.write (mu:rE (H x)) (he:e=x\/H e=some (.own x)) (k:∀b u,b≠e->h.get? b=some u->h'.get? b=some u) (pd:∃u,h'.get? e=some u):Un fs ex H (upd H x o) h h':=by
 have Y:∀b,H b=none->b≠x:=fun b n z=>by subst z;rw [n] at mu;exact mu
 have X:∀b,H b=none->b≠e:=fun b n z=>by
  subst z
  rcases he with r|r
  ·exact Y b n r
  ·rw [n] at r;cases r
 have Z:∀b u,H b=some u->¬ rE (some u)->b≠x:=fun b u q nm z=>by subst z;rw [q] at mu;exact nm mu
 refine ⟨fun b u q n _ _=>k b u (X b n) q,fun b u q n _ _=>⟨u.slots,k b u (X b n) q⟩,fun b u q n _=>by rw [aI (Y b n)];exact n,fun b u q _=>?_,
  fun b V q=>by rw [aI (Z b _ q fun z=>z)];exact q,fun b u V q=>by rw [aI (Z b _ q fun z=>z)];exact q,fun b U q=>⟨#[],by rw [aI (Z b _ q fun z=>z),q];simp⟩⟩
 by_cases W:b=e
 ·subst W;exact pd
 ·exact ⟨u,k b u W q⟩
end
def pf (h:Į) (H:Hp):List Ó:=(Ĺ h.objs.size).filter fun a=>(H a).isSome
def ki (h:Į) (H:Hp):Į:=PySem.W.hideAll h (pf h H)
def Ju (h:Į) (H:Hp):(ki h H).objs.size=h.objs.size:=PySem.W.hideAll_size _ _
def wY (e:h.get? b=some o) (n:H b=none):(ki h H).get? b=some o :=
 ν _ e fun Z=>by
  have q:(H b).isSome=true:=(ő.mp Z).2;rw [n] at q;simp at q
def LM (e:(ki h H).get? b=some o):h.get? b=some o/\H b=none:=by
 have Z:h.get? b=some o:=PySem.W.of_hideAll (pf h H) e;refine ⟨Z,?_⟩
 cases q:H b with
 |none=>rfl
 |some x =>
  have Y:b∈pf h H:=ő.mpr ⟨Č.mpr (É Z),by simp [q]⟩;have z:(ki h H).get? b=none:=PySem.W.hideAll_none (pf h H) Y;rw [z] at e;cases e
noncomputable def LN (g h:Į) (L:Ó):List (Ó×Obj):=(Ĺ h.objs.size).filterMap fun a=>if a=L\/(g.get? a).isSome=true then none else (h.get? a).map fun o=>(a,o)
def rest (g h:Į) (L d:Ó):List (Ó×Obj):=(LN g h L).filter fun p=>decide (p.1≠d)
structure Mod (K:Ĉ) (mg:Str->Option Ä) (base:Į):Prop where
 kq:K.In base
 glob:base.Ns Ò mg
 blt:∃mb,base.Ns builtinsNs mb/\∀x:Str,x≠"__name__"->mb x=ì x
 nolimit:base.NoLimit
structure Cx where
 prog:á
 w:Ą
 K:Ĉ
 mg:Str->Option Ä
 base:Į
 A:ó
 N:List Str
 bR:Ã
 jF:Hp
 env:Env
 outer:List Env
 stack:List Env
 ex:List Ó
 fn:Str->Bool
 calm:Bool
 pn:List (Ó×Obj)
 xe:Ä->Ã->Prop
noncomputable def bE (l:List Env):List Ó:=l.filterMap (·.frame)
abbrev Cx.fs (X:Cx):List Ó:=bE X.outer
def mR (sc:ŷ) (x:Str):Prop:=sc.names.lookup x=some .local\/sc.names.lookup x=some .cell\/sc.names.lookup x=some .free
def Loc (sc:ŷ) (x:Str):Prop:=sc.names.lookup x=some .local\/sc.names.lookup x=some .cell
def Look (env:Env) (h:Į) (m:Str->Option Ä) (x:Str) (u:Ä):Prop :=
 (env.kindOf x=some .local/\m x=some u)\/((env.kindOf x=some .cell\/env.kindOf x=some .free)/\∃c,env.cells.lookup x=some c/\h.IsCell c (some u))
structure Cx.Ok (X:Cx):Prop where
 mod:Mod X.K X.mg X.base
 kind:X.env.scope.kind=.function
 glob:X.env.globals=Ò
 blt:X.env.builtins=builtinsNs
 above:X.bR.heap.objs.size<=X.env.locals
 inj:∀x y c,X.env.cells.lookup x=some c->X.env.cells.lookup y=some c->x=y
 has:∀x,(X.env.kindOf x=some .cell\/X.env.kindOf x=some .free)->∃c,X.env.cells.lookup x=some c
 lE:∀x c,X.fn x=true->X.env.cells.lookup x=some c->X.bR.heap.objs.size<=c
 hd:X.calm=true->X.A.handled=none
 frames:X.A.frames=some X.stack
 iu:X.stack=X.outer\/(X.stack=X.env::X.outer/\X.env.frame=some X.env.locals)
 vJ:∀b∈X.ex,b≠X.env.locals/\∀x c,X.env.cells.lookup x=some c->c≠b
 bs:∀b o,X.base.get? b=some o->X.bR.heap.get? b=some o/\X.jF b=none
 fz:X.base.objs.size<=X.bR.heap.objs.size
 jG:∀b o,X.base.get? b=some o->b∉X.ex
 oA:∀b∈X.ex,b∉X.fs
 fv:X.bR.heap.FunFrames X.base X.outer
 jb:∀b∈X.fs,X.jF b=none
structure Inv (X:Cx) (π:List (Ó×Obj)) (σ:List (Option V)) (H:Hp) (s:Ã):Prop where
 ok:X.Ok
 os:s.os=X.bR.os
 bare:Wb s.gens
 base:Un X.fs X.ex X.jF H X.bR.heap s.heap
 loc:∃m,s.heap.Ns X.env.locals m/\∀(i:Nat) (x:Str) (v:V),X.N[i]?=some x->σ[i]?=some (some v)->mR X.env.scope x->∃u,RelV v u/\Look X.env s.heap m x u
 cell:∀x c,X.env.cells.lookup x=some c->∃v,s.heap.IsCell c v
 free:H X.env.locals=none
 fq:∀x c,X.env.cells.lookup x=some c->H c=none
 pin:∀p∈X.pn++π,s.heap.get? p.1=some p.2/\H p.1=none/\p.1≠X.env.locals/\p.1∉X.fs/\∀v,p.2.data≠.cell v
 au:bB X.prog X.w H s.heap
 len:σ.length=X.N.length
section
variable {X:Cx} {π:List (Ó×Obj)} {σ:List (Option V)} {H H':Hp} {s:Ã} {h':Į}
def Cx.Ok.Qh (ok:X.Ok) (e:X.base.get? b=some o):b∉X.fs:=fun Z=>by
 have:=(ok.fv.mem Z).1;rw [e] at this;cases this
theorem Inv.bs (I:Inv X π σ H s):∀b o,X.base.get? b=some o->s.heap.get? b=some o/\H b=none:=fun b o e =>
 ⟨I.base.keep b o (I.ok.bs b o e).1 (I.ok.bs b o e).2 (I.ok.Qh e) (I.ok.jG b o e),I.base.free b o (I.ok.bs b o e).1 (I.ok.bs b o e).2 (I.ok.jG b o e)⟩
def Inv.bk (I:Inv X π σ H s):∀b o,X.base.get? b=some o->s.heap.get? b=some o:=fun b o e=>(I.bs b o e).1
theorem Inv.mod (I:Inv X π σ H s):Mod X.K X.mg X.base:=I.ok.mod
def Inv.iw (I:Inv X π σ H s):X.K.In s.heap:=I.ok.mod.kq.keeps I.bk
theorem Inv.lt (I:Inv X π σ H s):X.env.locals<s.heap.objs.size:=let ⟨_,Z,_⟩:=I.loc;Z.lt
def Inv.sz (I:Inv X π σ H s):X.bR.heap.objs.size<=s.heap.objs.size:=ã I.ok.above (Nat.le_of_lt I.lt)
def Inv.oB (I:Inv X π σ H s) {a:Ó} (h:s.heap.objs.size<=a):a∉X.fs:=fun Z=>by
 obtain ⟨_,o,Y,_⟩:=I.ok.fv.mem Z;exact absurd (Æ (É Y) (ã I.sz h)) (â _)
def Inv.ix (I:Inv X π σ H s):∀x c,X.env.cells.lookup x=some c->c≠X.env.locals:=fun x c e z=>by
 obtain ⟨v,o,Z,Y⟩:=I.cell x c e;obtain ⟨m,⟨U,T,S,W,V,_⟩,_⟩:=I.loc;rw [z,W] at Z;cases Z;rw [V] at Y;cases Y
theorem Inv.fv (I:Inv X π σ H s):s.heap.FunFrames X.base X.outer:=by
 have all:∀(l:List Env),(∀b∈bE l,b∈X.fs)->X.bR.heap.FunFrames X.base l->s.heap.FunFrames X.base l:=by
  intro l
  induction l with
  |nil=>intro _ _;trivial
  |cons env r ih =>
   intro V U;obtain ⟨T,⟨L,o,Z,S,R,Q⟩,P⟩:=U;have Y:L∈X.fs:=V L (by unfold bE;rw [ξ,Z];exact Ô);obtain ⟨O,e⟩:=I.base.slot L o R (I.ok.jb L Y) Y fun z=>I.ok.oA L z Y;exact ⟨T,⟨L,_,Z,S,e,Q⟩,ih (fun b W=>V b (by unfold bE;rw [ξ,Z];exact Ï _ W)) P⟩
 exact all X.outer (fun _ W=>W) I.ok.fv
theorem Inv.stack (I:Inv X π σ H s):s.heap.FunFrames X.base X.stack:=by
 rcases I.ok.iu with e | ⟨e,Z⟩
 ·rw [e];exact I.fv
 ·rw [e]
  obtain ⟨m,Y,_⟩:=I.loc;refine .cons (by rw [I.ok.kind];decide) Z Y ?_ I.fv;exact Heap.get?_none_of_le (ã I.ok.fz I.ok.above)
def Inv.iP (I:Inv X π σ H s):∀b∈bE X.stack,b∈X.env.locals::X.fs:=fun b Z=>by
 rcases I.ok.iu with e | ⟨e,Y⟩
 ·rw [e] at Z;exact Ï _ Z
 ·rw [e] at Z
  unfold bE at Z;rw [ξ,Y] at Z;exact Z
def Inv.qd (I:Inv X π σ H s):∀b∈bE X.stack,H b=none:=fun b hb=>by
 rcases Ö.mp (I.iP b hb) with e|hb
 ·rw [e];exact I.free
 ·obtain ⟨_,o,Z,_⟩:=I.ok.fv.mem hb
  exact I.base.free b o Z (I.ok.jb b hb) fun z=>I.ok.oA b z hb
def Inv.step {g':Array GenState} {t':Nat} {d':Drawn} {ch:List Ó} (I:Inv X π σ H s)
  (jL:∀b∈ch,(b∈X.ex\/X.bR.heap.objs.size<=b)/\b≠X.env.locals/\(∀x c,X.env.cells.lookup x=some c->c≠b)/\∀p∈X.pn++π,p.1≠b)
  (keep:∀b o,b≠X.env.locals->b∉X.fs->b∉ch->s.heap.get? b=some o->H b=none->h'.get? b=some o)
  (slot:∀b o,b≠X.env.locals->b∈X.fs->b∉ch->s.heap.get? b=some o->H b=none->∃sl,h'.get? b=some { o with slots:=sl }) (free:∀b o,b∉ch->s.heap.get? b=some o->H b=none->H' b=none)
  (there:∀b o,b∉ch->s.heap.get? b=some o->∃o',h'.get? b=some o')
  (df:∀b xs,H b=some (.tup xs)->H' b=some (.tup xs)) (cP:∀b o u,H b=some (.aN o u)->H' b=some (.aN o u)) (dg:∀b ps,H b=some (.cD ps)->∃more,H' b=some (.cD (ps++more)))
  (ns:∀m,s.heap.Ns X.env.locals m->h'.Ns X.env.locals m) (au:bB X.prog X.w H' h') (hg:Wb g') :
  Inv X π σ H' { s with heap:=h',gens:=g',drawn:=d',toks:=t' }:=by
 have S:∀b o,X.bR.heap.get? b=some o->b≠X.env.locals:=fun b o e=>Þ (Æ (É e) I.ok.above);have U:∀b o,X.bR.heap.get? b=some o->b∉X.ex->b∉ch:=fun b o e Z Y=>by
  rcases (jL b Y).1 with z|z
  ·exact Z z
  ·exact absurd (Æ (É e) z) (â _)
 have cellK:∀x c,X.env.cells.lookup x=some c->∀v,s.heap.IsCell c v->h'.IsCell c v:=fun x c e v ⟨o,W,T⟩=>by
  have V:c∉ch:=fun z=>(jL c z).2.2.1 x c e rfl;by_cases R:c∈X.fs
  ·obtain ⟨sl,q⟩:=slot c o (I.ix x c e) R V W (I.fq x c e)
   exact ⟨_,q,T⟩
  ·exact ⟨o,keep c o (I.ix x c e) R V W (I.fq x c e),T⟩
 refine ⟨I.ok,I.os,hg,⟨fun b o e n Y Z=>?_,fun b o e n Y Z=>?_,fun b o e n Z=>?_,fun b o e Z=>?_,fun b xs e=>df b xs (I.base.df b xs e),fun b o xs e=>cP b o xs (I.base.cP b o xs e),fun b ps e=>?_⟩,?_,fun x c e=>?_,?_,fun x c e=>?_,fun p Q=>?_,au,I.len⟩
 ·exact keep b o (S b o e) Y (U b o e Z) (I.base.keep b o e n Y Z) (I.base.free b o e n Z)
 ·obtain ⟨sl,e1⟩:=I.base.slot b o e n Y Z
  obtain ⟨O,e2⟩:=slot b _ (S b o e) Y (U b o e Z) e1 (I.base.free b o e n Z);exact ⟨O,e2⟩
 ·obtain ⟨o',e1⟩:=I.base.there b o e Z
  exact free b o' (U b o e Z) e1 (I.base.free b o e n Z)
 ·obtain ⟨o',e1⟩:=I.base.there b o e Z
  exact there b o' (U b o e Z) e1
 ·obtain ⟨N,e1⟩:=I.base.dg b ps e
  obtain ⟨M,e2⟩:=dg b _ e1;exact ⟨N++M,by rw [e2,Array.append_assoc]⟩
 ·obtain ⟨m,L,K⟩:=I.loc
  refine ⟨m,ns m L,fun i x v e1 e2 J=>?_⟩;obtain ⟨u,r,l⟩:=K i x v e1 e2 J;refine ⟨u,r,?_⟩
  rcases l with l | ⟨k,c,e,z⟩
  ·exact .inl l
  ·exact .inr ⟨k,c,e,cellK x c e _ z⟩
 ·obtain ⟨v,z⟩:=I.cell x c e
  exact ⟨v,cellK x c e v z⟩
 ·obtain ⟨m,⟨o,_,_,W,_⟩,_⟩:=I.loc
  exact free _ o (fun z=>(jL _ z).2.1 rfl) W I.free
 ·obtain ⟨v,o,W,T⟩:=I.cell x c e
  exact free c o (fun z=>(jL c z).2.2.1 x c e rfl) W (I.fq x c e)
 ·obtain ⟨e,n,ne,P,d⟩:=I.pin p Q
  have V:p.1∉ch:=fun z=>(jL p.1 z).2.2.2 p Q rfl;exact ⟨keep p.1 p.2 ne P V e n,free p.1 p.2 V e n,ne,P,d⟩
def Inv.un {t':Nat} (I:Inv X π σ H s) (u:Un X.fs [] H H' s.heap h') (au:bB X.prog X.w H' h'):Inv X π σ H' { s with heap:=h',toks:=t' }:=by
 obtain ⟨m,⟨o,Q,P,Y,r⟩,_⟩:=id I.loc;obtain ⟨O,V⟩:=u.any Y I.free (by simp)
 exact I.step (g':=s.gens) (d':=s.drawn) (ch:=[]) (fun _ z=>nomatch z) (fun b o _ Z _ e n=>u.keep b o e n Z (by simp)) (fun b o _ Z _ e n=>u.slot b o e n Z (by simp)) (fun b o _ e n=>u.free b o e n (by simp)) (fun b o _ e=>u.there b o e (by simp)) u.df u.cP u.dg (fun N U=>by
  obtain ⟨M,T,S,W,R⟩:=U;rw [Y] at W;cases W;exact ⟨_,T,S,V,R⟩) au I.bare
def Inv.call {g':Array GenState} {t':Nat} {d':Drawn} {ch:List Ó} (I:Inv X π σ H s) (u:Un (bE X.stack) ch H H' s.heap h') (au:bB X.prog X.w H' h') (hg:Wb g')
  (jL:∀b∈ch,(b∈X.ex\/X.bR.heap.objs.size<=b)/\b≠X.env.locals/\(∀x c,X.env.cells.lookup x=some c->c≠b)/\∀p∈X.pn++π,p.1≠b) :
  Inv X π σ H' { s with heap:=h',gens:=g',drawn:=d',toks:=t' }:=by
 obtain ⟨m,⟨o,P,O,W,r⟩,_⟩:=id I.loc;obtain ⟨N,Y⟩:=u.any W I.free fun z=>(jL _ z).2.1 rfl;exact I.step (ch:=ch) jL (fun b o Y U Z e n=>u.keep b o e n (fun z=>(Ö.mp (I.iP b z)).elim Y U) Z) (fun b o _ _ Z e n=>u.any e n Z) (fun b o Z e n=>u.free b o e n Z) (fun b o Z e=>u.there b o e Z) u.df u.cP u.dg (fun M T=>by
  obtain ⟨L,S,R,V,Q⟩:=T;rw [W] at V;cases V;exact ⟨_,S,R,Y,Q⟩) au hg
def Inv.turned {t':Nat} {it:Ó} (I:Inv X π σ H s) (k:∀b o,b≠it->s.heap.get? b=some o->h'.get? b=some o) (hn:H it=none) (hL:it≠X.env.locals)
  (h1:it∈X.ex\/X.bR.heap.objs.size<=it) (h2:∀x c,X.env.cells.lookup x=some c->c≠it) (h3:∀p∈X.pn++π,p.1≠it):Inv X π σ H { s with heap:=h',toks:=t' }:=by
 have Y:∀b u,H b=some u->b≠it:=fun b u e z=>by rw [z,hn] at e;cases e
 refine I.step (g':=s.gens) (d':=s.drawn) (ch:=[it]) (fun b W=>?_) (fun b o _ _ Z e _=>k b o (fun z=>Z (by simp [z])) e) (fun b o _ _ Z e _=>⟨o.slots,k b o (fun z=>Z (by simp [z])) e⟩) (fun _ _ _ _ n=>n)
  (fun b o Z e=>⟨o,k b o (fun z=>Z (by simp [z])) e⟩) (fun _ _ e=>e) (fun _ _ _ e=>e) (fun b R e=>⟨#[],by rw [e];simp⟩) (fun m V=>?_) (fun b u e=>?_) I.bare
 ·have e:b=it:=by simpa using W
  subst e;exact ⟨h1,hL,h2,h3⟩
 ·obtain ⟨o,U,T,S,r⟩:=V
  exact ⟨o,U,T,k _ o (Œ hL) S,r⟩
 ·refine (I.au b u e).cO (fun c v Z q=>k c v ?_ q) (fun _ q=>q) fun _ _ q=>q
  rcases Z with z|z
  ·rw [z];exact Y b u e
  ·exact Y c _ z
def Inv.tok (I:Inv X π σ H s) (t:Nat):Inv X π σ H { s with toks:=t }:=I.un (h':=s.heap) (t':=t) Un.refl I.au
theorem Inv.kept (I:Inv X π σ H s) (k:∀b u,s.heap.get? b=some u->h'.get? b=some u):Inv X π σ H { s with heap:=h',toks:=t' }:=I.un (Un.kept k) (I.au.kept k)
theorem Inv.laid {a:Ó} {o:HO} {t':Nat} (I:Inv X π σ H s) (k:∀b u,s.heap.get? b=some u->h'.get? b=some u) (hp:s.heap.objs.size<=a) (new:bM X.prog X.w (upd H a o) h' a o) :
  Inv X π σ (upd H a o) { s with heap:=h',toks:=t' }:=I.un (Un.laid k hp (I.au.fresh hp)) (I.au.laid k hp new)
theorem Inv.write (I:Inv X π σ H s) (mu:rE (H x)) (he:e=x\/H e=some (.own x)) (k:∀b u,b≠e->s.heap.get? b=some u->h'.get? b=some u) (pd:∃u,h'.get? e=some u)
 (new:bM X.prog X.w (upd H x o) h' x o):Inv X π σ (upd H x o) { s with heap:=h',toks:=t' }:=I.un (Un.write mu he k pd) (I.au.write mu he k pd new)
def Inv.gu (I:Inv X π σ H s) (h:∀p∈pins',s.heap.get? p.1=some p.2/\H p.1=none/\p.1≠X.env.locals/\p.1∉X.fs/\∀v,p.2.data≠.cell v):Inv X pins' σ H s :=
 ⟨I.ok,I.os,I.bare,I.base,I.loc,I.cell,I.free,I.fq,fun p Z=>(æ.mp Z).elim (fun z=>I.pin p (ù _ z)) (h p),I.au,I.len⟩
def wZ {N:List Str} (hN:N.Nodup) {i j:Nat} {x:Str} (a:N[i]?=some x) (b:N[j]?=some x):i=j:=by
 obtain ⟨Z,e1⟩:=È.mp a;obtain ⟨Y,e2⟩:=È.mp b;exact (List.getElem_inj hN).mp (e1.trans e2.symm)
def Jv {M:Model} {A:ó} {E:Ä->Ã->Prop} {i:Nat} {x:Str} {v:V} {u:Ä} {Q:Unit->Ã->Prop} (I:Inv X π σ H s) (hN:X.N.Nodup) (hi:X.N[i]?=some x) (hx:Loc X.env.scope x) (r:RelV v u)
  (h:∀s',Inv X π (σ.set i (some v)) H s'->(∃a,Ĥ a s.heap s'.heap/\(a=X.env.locals\/X.env.cells.lookup x=some a))->Q () s') (hf:X.fn x=true\/X.env.scope.names.lookup x=some .local:=by first|exact .inl rfl|exact .inr rfl|assumption):Ù M A (storeName X.env x u) Q E s:=by
 obtain ⟨m,S,C⟩:=id I.loc;have qW:(X.env.scope.kind==.class||(X.env.scope.kind==.module&&X.env.locals != X.env.globals))=false:=by rw [I.ok.kind];rfl
 have B:i < σ.length:=by rw [I.len];exact (È.mp hi).1
 have ix:=I.ix;have tracked:∀{a:Ó} {h':Į},(∃o,s.heap.get? a=some o/\H a=none)->Ĥ a s.heap h'->bB X.prog X.w H h':=fun {a h'} ha Z b ob e=>by
  obtain ⟨_,_,t⟩:=ha;refine (I.au b ob e).cO (fun c U hc q=>(Z.2 c ?_).trans q) (fun _ q=>q) fun _ _ q=>q;rintro rfl
  rcases hc with rfl|hc
  ·rw [t] at e;cases e
  ·rw [t] at hc;cases hc
 rcases hx with hk|hk
 ·refine wpAny_storeName_local hk S (fun h' iy Z=>?_) qW
  obtain ⟨oL,_,_,ph,_⟩:=id S;refine h _ ⟨I.ok,I.os,I.bare,⟨fun b o e n Y hx=>?_,fun b o e n Y hx=>?_,I.base.free,fun b o e hx=>?_,I.base.df,I.base.cP,I.base.dg⟩,⟨_,iy,fun j y R e1 e2 P=>?_⟩,fun y c e=>?_,I.free,I.fq,fun p O=>?_,tracked ⟨oL,ph,I.free⟩ Z,by simpa using I.len⟩ ⟨_,Z,.inl rfl⟩
  ·exact (Z.2 b (Þ (Æ (É e) I.ok.above))).trans (I.base.keep b o e n Y hx)
  ·obtain ⟨L,e1⟩:=I.base.slot b o e n Y hx
   exact ⟨L,(Z.2 b (Þ (Æ (É e) I.ok.above))).trans e1⟩
  ·obtain ⟨K,e1⟩:=I.base.there b o e hx
   exact ⟨K,(Z.2 b (Þ (Æ (É e) I.ok.above))).trans e1⟩
  ·by_cases W:j=i
   ·subst W
    rw [hi] at e1;cases e1;rw [é B] at e2;cases e2;exact ⟨u,r,.inl ⟨hk,by simp⟩⟩
   ·rw [Ü (Œ W)] at e2
    obtain ⟨J,G,q⟩:=C j y R e1 e2 P;refine ⟨J,G,?_⟩
    rcases q with ⟨k,e⟩ | ⟨k,c,e,z⟩
    ·refine .inl ⟨k,?_⟩
     have:y≠x:=fun e=>W (wZ hN e1 (e ▸ hi));simp [this,e]
    ·exact .inr ⟨k,c,e,z.sameBut Z (ix y c e)⟩
  ·obtain ⟨U,z⟩:=I.cell y c e
   exact ⟨U,z.sameBut Z (ix y c e)⟩
  ·obtain ⟨e,n,ne,F,d⟩:=I.pin p O
   exact ⟨(Z.2 p.1 ne).trans e,n,ne,F,d⟩
 ·have D:X.fn x=true:=by
   rcases hf with z|z
   ·exact z
   ·rw [z] at hk;cases hk
  obtain ⟨c,hc⟩:=I.ok.has x (.inl hk);obtain ⟨U,z⟩:=I.cell x c hc;refine wpAny_storeName_cell I.ok.kind hk hc z (fun h' l Z=>?_);obtain ⟨g,f,Qi⟩:=id z
  refine h { s with heap:=h' } ⟨I.ok,I.os,I.bare,⟨fun b o e n Y hx=>?_,fun b o e n Y hx=>?_,I.base.free,fun b o e hx=>?_,I.base.df,I.base.cP,I.base.dg⟩,⟨m,S.sameBut Z (Œ (ix x c hc)),fun j y R e1 e2 P=>?_⟩,fun y T e=>?_,I.free,I.fq,fun p O=>?_,tracked ⟨g,f,I.fq x c hc⟩ Z,by simpa using I.len⟩ ⟨c,Z,.inr hc⟩
  ·exact (Z.2 b (Þ (Æ (É e) (I.ok.lE x c D hc)))).trans (I.base.keep b o e n Y hx)
  ·obtain ⟨L,e1⟩:=I.base.slot b o e n Y hx
   exact ⟨L,(Z.2 b (Þ (Æ (É e) (I.ok.lE x c D hc)))).trans e1⟩
  ·obtain ⟨K,e1⟩:=I.base.there b o e hx
   exact ⟨K,(Z.2 b (Þ (Æ (É e) (I.ok.lE x c D hc)))).trans e1⟩
  ·by_cases W:j=i
   ·subst W
    rw [hi] at e1;cases e1;rw [é B] at e2;cases e2;exact ⟨u,r,.inr ⟨.inl hk,c,hc,l⟩⟩
   ·rw [Ü (Œ W)] at e2
    obtain ⟨J,G,q⟩:=C j y R e1 e2 P;refine ⟨J,G,?_⟩
    rcases q with q | ⟨k,T,e,z'⟩
    ·exact .inl q
    ·refine .inr ⟨k,T,e,z'.sameBut Z ?_⟩
     rintro rfl;exact W (wZ hN e1 (I.ok.inj _ _ _ e hc ▸ hi))
  ·by_cases vM:T=c
   ·subst vM;exact ⟨_,l⟩
   ·obtain ⟨w2,z2⟩:=I.cell y T e
    exact ⟨w2,z2.sameBut Z vM⟩
  ·obtain ⟨e,n,ne,F,d⟩:=I.pin p O
   refine ⟨(Z.2 p.1 ?_).trans e,n,ne,F,d⟩;intro q;rw [q,f] at e;have q':g=p.2:=Wm e;exact d U (by rw [<- q'];exact Qi)
def lV (I:Inv X π σ H s) (hN:X.N.Nodup) (hi:X.N[i]?=some x) (hx:Loc X.env.scope x) (r:RelV v u)
 (h:∀s',Inv X π (σ.set i (some v)) H s'->Q () s') (hf:X.fn x=true\/X.env.scope.names.lookup x=some .local:=by first|exact .inl rfl|exact .inr rfl|assumption):Ù M A (storeName X.env x u) Q E s :=
 Jv I hN hi hx r (fun s' Z _=>h s' Z) hf
def Inv.qA (I:Inv X π σ H s) (ho:s'.os=s.os) (u:Un (bE X.stack) ch H H' s.heap s'.heap) (au:bB X.prog X.w H' s'.heap) (hg:Wb s'.gens)
 (jL:∀b∈ch,(b∈X.ex\/X.bR.heap.objs.size<=b)/\b≠X.env.locals/\(∀x c,X.env.cells.lookup x=some c->c≠b)/\∀p∈X.pn++π,p.1≠b):Inv X π σ H' s':=by
 obtain ⟨h',g',d',t',Z⟩:=s';have e:Z=s.os:=ho;subst e;exact I.call (g':=g') (t':=t') (d':=d') u au hg jL
end
abbrev XK:=Ä->Option Ó->Hp->Prop
noncomputable abbrev St:=List (Option V)
abbrev VK:=V->Hp->Prop
abbrev TE:=St->Hp->VK->Prop
abbrev TT:=St->Hp->(Bool->Hp->Prop)->Prop
abbrev TA:=St->Hp->(List V->Hp->Prop)->Prop
structure Ends where
 nx:St->Hp->Prop
 rt:VK
 bk:St->Hp->Prop:=fun _ _=>False
 ct:St->Hp->Prop:=fun _ _=>False
abbrev TS:=Ends->St->Hp->Prop
def EP (X:Cx) (π:List (Ó×Obj)) (σ:St) (Q:VK) (u:Ä) (s':Ã):Prop:=∃v Z,Inv X π σ Z s'/\RelV v u/\Q v Z
def TP (X:Cx) (π:List (Ó×Obj)) (σ:St) (Q:Bool->Hp->Prop) (b:Bool) (s':Ã):Prop:=∃Z,Inv X π σ Z s'/\Q b Z
def AP (X:Cx) (π:List (Ó×Obj)) (σ:St) (Q:List V->Hp->Prop) (us:List Ä) (s':Ã):Prop:=∃Z Y,Inv X π σ Y s'/\Vals Z us/\Q Z Y
def SP (X:Cx) (π:List (Ó×Obj)) (D:Ends) (f:Flow) (s':Ã):Prop :=
 match f with
 | .next=>∃ Y Z,Inv X π Y Z s'/\D.nx Y Z
 | .brk=>∃ Y Z,Inv X π Y Z s'/\D.bk Y Z
 | .cont=>∃ Y Z,Inv X π Y Z s'/\D.ct Y Z
 | .ret u=>∃v Y Z,Inv X π Y Z s'/\RelV v u/\D.rt v Z
def PE (X:Cx) (e:ę) (t:TE):Prop :=
 ∀(Z:List (Ó×Obj)) (s:Ã) (σ:St) (H:Hp) (Q:VK),Inv X Z σ H s->t σ H Q->Ù (ß X.prog X.w) X.A (ĺ e X.env) (EP X Z σ Q) X.xe s
def PT (X:Cx) (e:ę) (t:TT):Prop :=
 ∀(Z:List (Ó×Obj)) (s:Ã) (σ:St) (H:Hp) (Q:Bool->Hp->Prop),Inv X Z σ H s->t σ H Q->Ù (ß X.prog X.w) X.A (isTrue e X.env (ĺ e X.env)) (TP X Z σ Q) X.xe s
def PW (X:Cx) (e:ę) (t:TT):Prop :=
 ∀(whole:Sem Ä) (Z:List (Ó×Obj)) (s:Ã) (σ:St) (H:Hp) (Q:Bool->Hp->Prop),Inv X Z σ H s->t σ H Q->Ù (ß X.prog X.w) X.A (isTrue e X.env whole) (TP X Z σ Q) X.xe s
def PW.pt (h:PW X e t):PT X e t:=h _
def PA (X:Cx) (es:List ę) (t:TA):Prop :=
 ∀(pos:Pos) (Z:List (Ó×Obj)) (s:Ã) (σ:St) (H:Hp) (Q:List V->Hp->Prop),Inv X Z σ H s->t σ H Q->Ù (ß X.prog X.w) X.A (spliced (į pos (Ê es X.env))) (AP X Z σ Q) X.xe s
def PS (X:Cx) (st:Wc) (t:TS):Prop :=
 ∀(Z:List (Ó×Obj)) (s:Ã) (σ:St) (H:Hp) (D:Ends),Inv X Z σ H s->t D σ H->Ù (ß X.prog X.w) X.A (exec st X.env) (SP X Z D) X.xe s
def cb (X:Cx) (st:List Wc) (t:TS):Prop :=
 ∀(Z:List (Ó×Obj)) (s:Ã) (σ:St) (H:Hp) (D:Ends),Inv X Z σ H s->t D σ H->Ù (ß X.prog X.w) X.A (execs st X.env) (SP X Z D) X.xe s
def aA {α:Type} {t:Sem α} {Q Q':α->Ã->Prop} {M:Model} {A:ó} {E:Ä->Ã->Prop} {s:Ã} (h:Ù M A t Q E s) (hQ:∀a s,Q a s->Q' a s):Ù M A t Q' E s:=ğ h hQ fun _ _ x=>x
section
variable {X:Cx}
def Qj (i:Nat):TE:=fun σ H Q=>∃v,σ[i]?=some (some v)/\Q v H
def tC (v:V):TE:=fun _ H Q=>Q v H
def Dq {i:Nat} {x:Str} {pos:Pos} (hN:X.N[i]?=some x) (hv:mR X.env.scope x) (hd:(x==("__debug__":Str))=false:=by decide) (dC:(x==("__classdict__":Str))=false:=by decide):PE X (.Name x pos) (Qj i):=by
 intro W s σ H Q I h;obtain ⟨v,e,h⟩:=h;obtain ⟨m,V,U⟩:=I.loc;obtain ⟨u,r,l⟩:=U i x v hN e hv;have fin:EP X W σ Q u s:=⟨v,H,I,r,h⟩
 rcases l with ⟨hk,T⟩ | ⟨hk,c,Z,Y⟩
 ·exact wpAny_Name (wpAny_loadName_local I.ok.kind hk V T fin) hd
 ·rcases hk with hk|hk
  ·exact wpAny_Name (wpAny_loadName_cell I.ok.kind hk Z Y fin) hd
  ·exact wpAny_Name (wpAny_loadName_free I.ok.kind hk Z Y fin dC) hd
def Dr {i j pos}:PE X (.Constant (.int i) j pos) (tC (.int i)):=fun _ _ _ H _ I h=>wpAny_Constant_int ⟨.int i,H,I.tok _,⟨_,rfl⟩,h⟩
def yt {b j pos}:PE X (.Constant (.bool b) j pos) (tC (.bl b)):=fun _ _ _ H _ I h=>Constant_bool ⟨.bl b,H,I,rfl,h⟩
def Ds {j pos}:PE X (.Constant .none j pos) (tC .aq):=fun _ _ _ H _ I h=>Constant_none ⟨.aq,H,I,rfl,h⟩
def Dt {x j pos}:PE X (.Constant (.str x) j pos) (tC (.str x)):=fun _ _ _ H _ I h=>Calls.Constant_str ⟨.str x,H,I.tok _,⟨_,rfl⟩,h⟩
def Gl (X:Cx) (x:Str):Prop:=X.env.kindOf x=some .globalImplicit
def qe {E:Ä->Ã->Prop} {π:List (Ó×Obj)} {s:Ã} {σ:St} {H:Hp} {x:Str} {u:Ä} {pos:Pos} {Q:Ä->Ã->Prop} (I:Inv X π σ H s) (hg:Gl X x) (hm:X.mg x=some u) (h:Q u s)
  (hd:(x==("__debug__":Str))=false:=by decide):Ù (ß X.prog X.w) X.A (ĺ (.Name x pos) X.env) Q E s :=
 Calls.Name_function_global I.ok.kind hg (Calls.loadGlobal_global (by rw [I.ok.glob];exact I.mod.glob.keeps I.bk) hm h) hd
def kQ {E:Ä->Ã->Prop} {π:List (Ó×Obj)} {s:Ã} {σ:St} {H:Hp} {x:Str} {u:Ä} {pos:Pos} {Q:Ä->Ã->Prop} (I:Inv X π σ H s) (hg:Gl X x) (hm:X.mg x=none) (hv:ì x=some u) (h:Q u s)
  (hn:x≠"__name__":=by decide) (hd:(x==("__debug__":Str))=false:=by decide):Ù (ß X.prog X.w) X.A (ĺ (.Name x pos) X.env) Q E s:=by
 obtain ⟨W,Z,Y⟩:=I.mod.blt;exact Calls.Name_function_global I.ok.kind hg (Calls.loadGlobal_builtin (by rw [I.ok.glob];exact I.mod.glob.keeps I.bk) hm (by rw [I.ok.blt];exact Z.keeps I.bk) ((Y x hn).trans hv) h) hd
def xp (hg:Gl X x) (hm:X.mg x=some u) (r:RelV v u) (hd:(x==("__debug__":Str))=false:=by decide):PE X (.Name x pos) (tC v) :=
 fun _ _ _ H _ I h=>qe I hg hm ⟨v,H,I,r,h⟩ hd
def tL {x:Str} {v:V} {u:Ä} {pos:Pos} (hg:Gl X x) (hm:X.mg x=none) (hv:ì x=some u) (r:RelV v u) (hn:x≠"__name__":=by decide) (hd:(x==("__debug__":Str))=false:=by decide):PE X (.Name x pos) (tC v) :=
 fun _ _ _ H _ I h=>kQ I hg hm hv ⟨v,H,I,r,h⟩ hn hd
variable {a b:ę} {ta tb:TE} {pos:Pos}
variable {tA vN:TT} {rest:List ę}
def oE (t u:TT):TT:=fun σ H Q=>t σ H fun c Z=>if c=true then u σ Z Q else Q false Z
def fX (t u:TT):TT:=fun σ H Q=>t σ H fun c Z=>if c=true then Q true Z else u σ Z Q
def fQ (t:TT):TT:=fun σ H Q=>t σ H fun c Z=>Q (!c) Z
def LO (ha:PT X a tA):PW X (.BoolOp .And [a] pos) tA:=by
 intro Y Z s σ H Q I h;refine isTrue_and (aA (ha Z s σ H Q I h) fun c W e=>?_)
 cases c with
 |true=>exact isTrue_and_nil e
 |false=>exact e
def Na (ha:PT X a tA):PW X (.BoolOp .Or [a] pos) tA:=by
 intro Y Z s σ H Q I h;refine isTrue_or (aA (ha Z s σ H Q I h) fun c W e=>?_)
 cases c with
 |false=>exact isTrue_or_nil e
 |true=>exact e
def Nb (ha:PT X a tA) (hb:PW X (.BoolOp .And (b::rest) pos) vN):PW X (.BoolOp .And (a::b::rest) pos) (oE tA vN):=by
 intro U Z s σ H Q I h;refine isTrue_and (aA (ha Z s σ H _ I h) fun c T ⟨Y,W,V⟩=>?_)
 cases c with
 |true=>exact hb U Z T σ Y Q W V
 |false=>exact ⟨Y,W,V⟩
def OK (ha:PT X a tA) (hb:PW X (.BoolOp .Or (b::rest) pos) vN):PW X (.BoolOp .Or (a::b::rest) pos) (fX tA vN):=by
 intro U Z s σ H Q I h;refine isTrue_or (aA (ha Z s σ H _ I h) fun c T ⟨Y,W,V⟩=>?_)
 cases c with
 |true=>exact ⟨Y,W,V⟩
 |false=>exact hb U Z T σ Y Q W V
def Nc (ha:PT X a tA):PT X (.UnaryOp .Not a pos) (fQ tA):=by
 intro Z s σ H Q I h;exact isTrue_not (ha Z s σ H (fun c Y=>Q (!c) Y) I h)
def OL (ta tb:TE):TE:=fun σ H Q=>ta σ H fun x Z=>∃c,x=.bl c/\if c=true then tb σ Z Q else Q (.bl false) Z
def OM (ta:TE):TE:=fun σ H Q=>ta σ H fun x Z=>∃c,x=.bl c/\Q (.bl (!c)) Z
def Nd {op} (h:PE X a t):PE X (.BoolOp op [a] pos) t:=fun Z s σ H Q I hw=>BoolOp_one (h Z s σ H Q I hw)
def Nf (ha:PE X a ta) (hb:PE X (.BoolOp .And (b::rest) pos) tb):PE X (.BoolOp .And (a::b::rest) pos) (OL ta tb):=by
 intro Y s σ H Q I h;refine BoolOp_and (aA (ha Y s σ H _ I h) fun v U ⟨x,W,V,T,Z⟩=>?_);obtain ⟨c,rfl,Z⟩:=Z;cases T;refine ŀ ?_
 cases c with
 |true=>exact hb Y U σ W Q V Z
 |false=>exact ⟨.bl false,W,V,rfl,Z⟩
def Ng (ha:PE X a ta):PE X (.UnaryOp .Not a pos) (OM ta):=by
 intro Y s σ H Q I h;refine UnaryOp_ (aA (ha Y s σ H _ I h) fun v T ⟨x,W,V,U,Z⟩=>?_);obtain ⟨c,rfl,Z⟩:=Z;cases U;exact not_of (ŀ ⟨.bl (!c),W,V,rfl,Z⟩)
def Rp (t:TT) (ta tb:TE):TE:=fun σ H Q=>t σ H fun c Z=>if c=true then ta σ Z Q else tb σ Z Q
def Ko {c:ę} (hc:PT X c tA) (ha:PE X a ta) (hb:PE X b tb):PE X (.IfExp c a b pos) (Rp tA ta tb):=by
 intro Z s σ H Q I h;refine wpAny_IfExp (aA (hc Z s σ H _ I h) fun d Y ⟨W,V,U⟩=>?_)
 cases d with
 |true=>exact ha Z Y σ W Q V U
 |false=>exact hb Z Y σ W Q V U
end
def bo (K:Ĉ) (H:Hp) (a:Ó) (xs:List V):Prop :=
 Rd H a (.lst xs) \/
  ∃(o:Obj) (Z:Array Ä) (n:Nat),K.lookup a=some o/\o.cls=.type "list"/\o.dict=none/\o.data=.seq Z n/\Z.size<=Ø/\Vals xs Z.toList
def aP (K:Ĉ) (H:Hp) (a:Ó) (xs:List V):Prop :=
 Rd H a (.tup xs) \/
  ∃(o:Obj) (Z:Array Ä) (n:Nat),K.lookup a=some o/\o.cls=.type "tuple"/\o.data=.seq Z n/\Z.size<=Ø/\Vals xs Z.toList
noncomputable def Qk:Ä->Option V
 | .none=>some .aq
 | .bool b=>some (.bl b)
 | .int i _=>some (.int i)
 | .str x _=>some (.str x)
 | .bytes b _=>some (.gL b)
 | .float b _=>some (.rB b)
 | .ref a=>some (.ref a)
 | .type n=>some (.ty n)
 |_=>none
def RelV.abs (r:RelV x u):Qk u=some x:=by
 cases x with
 |aq=>cases r;rfl
 |bl _=>cases r;rfl
 |int _=>obtain ⟨t,rfl⟩:=r;rfl
 |str _=>obtain ⟨t,rfl⟩:=r;rfl
 |gL _=>obtain ⟨t,rfl⟩:=r;rfl
 |rB _=>obtain ⟨t,rfl⟩:=r;rfl
 |ref _=>cases r;rfl
 |ty _=>cases r;rfl
def RelV.inj (r:RelV x u) (q:RelV y u):x=y:=Wm (r.abs.symm.trans q.abs)
theorem Vals.inj:∀{xs ys:List V} {us:List Ä},Vals xs us->Vals ys us->xs=ys
 |_,_,_,.nil,.nil=>rfl
 |_,_,_,.cons r t,.cons Z Y=>by rw [r.inj Z,Vals.inj t Y]
section
variable {X:Cx} {π:List (Ó×Obj)} {σ:St} {H:Hp} {s:Ã} {a:Ó} {xs ys:List V}
def bo.of {K:Ĉ} (h:H a=some (.lst xs)):bo K H a xs:=.inl (.inl h)
def aP.of {K:Ĉ} (h:H a=some (.tup xs)):aP K H a xs:=.inl (.inl h)
def Inv.list (I:Inv X π σ H s) (h:bo X.K H a xs):∃its:List Ä,Vals xs its/\PlainL s.heap a its.toArray/\xs.length<=Ø:=by
 rcases h with h | ⟨o,its,n,Z,Y,W,V,U,r⟩
 ·obtain ⟨z,its,n,r,e⟩:=h.ok I.au
  exact ⟨its,r,⟨_,n,e,rfl,rfl,rfl⟩,z⟩
 ·refine ⟨its.toList,r,⟨o,n,I.iw a o Z,Y,W,by simpa using V⟩,?_⟩
  have e:=r.length;simp only [Ā] at e;omega
def Inv.tuple (I:Inv X π σ H s) (h:aP X.K H a xs):∃its:List Ä,Vals xs its/\IsTup s.heap a its.toArray/\xs.length<=Ø:=by
 rcases h with h | ⟨o,its,n,Z,Y,W,V,r⟩
 ·obtain ⟨z,its,r,p⟩:=h.ok I.au
  exact ⟨its,r,p,z⟩
 ·refine ⟨its.toList,r,⟨o,I.iw a o Z,Y,n,by simpa using W⟩,?_⟩
  have e:=r.length;simp only [Ā] at e;omega
def Inv.Ck (I:Inv X π σ H s) (h:bo X.K H a xs) (h':bo X.K H a ys):xs=ys:=by
 obtain ⟨Y,r,⟨o,n,e,_,_,d⟩,_⟩:=I.list h;obtain ⟨Z,U,⟨S,R,W,_,_,V⟩,_⟩:=I.list h';rw [e] at W;cases W;rw [d] at V
 injection V with T _
 have:Y=Z:=by simpa using ı Array.toList T
 subst this;exact r.inj U
def Inv.wJ (I:Inv X π σ H s) (h:aP X.K H a xs) (h':aP X.K H a ys):xs=ys:=by
 obtain ⟨Y,r,⟨o,e,_,n,d⟩,_⟩:=I.tuple h;obtain ⟨Z,U,⟨S,W,_,R,V⟩,_⟩:=I.tuple h';rw [e] at W;cases W;rw [d] at V
 injection V with T _
 have:Y=Z:=by simpa using ı Array.toList T
 subst this;exact r.inj U
end
noncomputable abbrev Cx.ia (X:Cx) (E:Ä->Ã->Prop):Cx:={ X with xe:=E }
noncomputable abbrev Cx.kr (X:Cx):Cx:=X.ia fun _ _=>False
theorem Cx.Ok.ia {X:Cx} (ok:X.Ok) (E:Ä->Ã->Prop):(X.ia E).Ok :=
 ⟨ok.mod,ok.kind,ok.glob,ok.blt,ok.above,ok.inj,ok.has,ok.lE,ok.hd,ok.frames,ok.iu,ok.vJ,ok.bs,ok.fz,ok.jG,ok.oA,ok.fv,ok.jb⟩
def Cx.Ok.j5 {X:Cx} {E:Ä->Ã->Prop} (ok:(X.ia E).Ok):X.Ok :=
 ⟨ok.mod,ok.kind,ok.glob,ok.blt,ok.above,ok.inj,ok.has,ok.lE,ok.hd,ok.frames,ok.iu,ok.vJ,ok.bs,ok.fz,ok.jG,ok.oA,ok.fv,ok.jb⟩
section
variable {X:Cx} {π:List (Ó×Obj)} {σ:St} {H:Hp} {s:Ã} {E:Ä->Ã->Prop}
theorem Inv.ia (I:Inv X π σ H s) (E:Ä->Ã->Prop):Inv (X.ia E) π σ H s:=⟨I.ok.ia E,I.os,I.bare,I.base,I.loc,I.cell,I.free,I.fq,I.pin,I.au,I.len⟩
theorem Inv.j5 (I:Inv (X.ia E) π σ H s):Inv X π σ H s:=⟨I.ok.j5,I.os,I.bare,I.base,I.loc,I.cell,I.free,I.fq,I.pin,I.au,I.len⟩
theorem SP.j5 (h:SP (X.ia E) π D f s'):SP X π D f s':=by
 cases f with
 |next=>obtain ⟨Z,Y,I,q⟩:=h;exact ⟨Z,Y,I.j5,q⟩
 |brk=>obtain ⟨Z,Y,I,q⟩:=h;exact ⟨Z,Y,I.j5,q⟩
 |cont=>obtain ⟨Z,Y,I,q⟩:=h;exact ⟨Z,Y,I.j5,q⟩
 |ret u=>obtain ⟨v,Z,Y,I,r,q⟩:=h;exact ⟨v,Z,Y,I.j5,r,q⟩
theorem cb.kr {st:List Wc} {t:TS} (h:cb X.kr st t):cb X st t:=fun π s σ H D I hw =>
 ğ (h π s σ H D (I.ia _) hw) (fun _ _ q=>q.j5) fun _ _ z=>ĥ z
end
section
variable {X:Cx} {st:Wc} {rest:List Wc} {t u:TS} {e:ę} {te:TE} {pos:Pos}
def ON:TS:=fun D σ H=>D.nx σ H
def Ql (t u:TS):TS:=fun D σ H=>t { D with nx:=u D } σ H
def LP:cb X [] ON:=fun _ _ σ H _ I h=>U8 ⟨σ,H,I,h⟩
def Kp (h1:PS X st t) (h2:cb X rest u):cb X (st::rest) (Ql t u):=by
 intro Z s σ H D I h
 refine wpAny_execs_cons (aA (h1 Z s σ H { D with nx:=u D } I h) fun f Y q=>?_)
 cases f with
 |next =>
  obtain ⟨W,V,U,q⟩:=q;exact h2 Z Y W V D U q
 |ret v=>exact q
 |brk=>exact q
 |cont=>exact q
def LQ (h1:PS X st t):cb X [st] t:=by
 intro Z s σ H D I h;refine wpAny_execs_cons (aA (h1 Z s σ H D I h) fun f Y q=>?_)
 cases f with
 |next=>exact U8 q
 |ret v=>exact q
 |brk=>exact q
 |cont=>exact q
def Inv.quiet {π:List (Ó×Obj)} {σ:St} {H:Hp} {s:Ã} (I:Inv X π σ H s):interactive X.env=false:=by simp [interactive,I.ok.kind]
def OO (te:TE):TS:=fun D σ H=>te σ H fun _ Z=>D.nx σ Z
def LR (he:PE X e te) (hs:VI e none pos.line X.env=pure false:=by rfl):PS X (.Expr e pos) (OO te):=by
 intro Z s σ H D I h;exact wpAny_Expr_any (aA (he Z s σ H _ I h) fun v U ⟨x,Y,W,T,V⟩=>⟨σ,Y,W,V⟩) I.quiet hs
def Qm (te:TE):TS:=fun D σ H=>te σ H D.rt
def Nh (he:PE X e te):PS X (.Return (some e) pos) (Qm te):=by
 intro Z s σ H D I h;exact wpAny_Return_some (aA (he Z s σ H _ I h) fun v T ⟨x,Y,W,V,U⟩=>⟨x,σ,Y,W,V,U⟩)
def Qn (c:TT) (t u:TS):TS:=fun D σ H=>c σ H fun b Z=>if b=true then t D σ Z else u D σ Z
def OP {c:ę} {a b:List Wc} {tc:TT} (hc:PT X c tc) (ha:cb X a t) (hb:cb X b u):PS X (.If c a b pos) (Qn tc t u):=by
 intro Z s σ H D I h;refine wpAny_If (aA (hc Z s σ H _ I h) fun d Y ⟨W,V,U⟩=>?_)
 cases d with
 |true=>exact ha Z Y σ W D V U
 |false=>exact hb Z Y σ W D V U
end
abbrev TG:=V->St->Hp->(St->Hp->Prop)->Prop
abbrev jd:=List V->St->Hp->(St->Hp->Prop)->Prop
def PG (X:Cx) (target:ę) (t:TG):Prop :=
 ∀(Z:List (Ó×Obj)) (s:Ã) (σ:St) (H:Hp) (v:V) (u:Ä) (Q:St->Hp->Prop),Inv X Z σ H s->RelV v u->t v σ H Q ->
  Ù (ß X.prog X.w) X.A (Vo target X.env u) (fun _ U=>∃ Y W,Inv X Z Y W U/\Q Y W) X.xe s
def jM (X:Cx) (ts:List ę) (t:jd):Prop :=
 ∀(Z:List (Ó×Obj)) (s:Ã) (σ:St) (H:Hp) (Y:List V) (W:List Ä) (Q:St->Hp->Prop),Inv X Z σ H s->Vals Y W->t Y σ H Q ->
  Ù (ß X.prog X.w) X.A (assignInOrder ((œ ts X.env).map (·.2)) W) (fun _ S=>∃ U T,Inv X Z U T S/\Q U T) X.xe s
abbrev yV:=V->V->V->Hp->(Hp->Prop)->Prop
def Fc (X:Cx) (t:yV):Prop :=
 ∀(Z:List (Ó×Obj)) (s:Ã) (σ:St) (H:Hp) (o i v:V) (Y W u:Ä) (Q:Hp->Prop),Inv X Z σ H s->RelV o Y->RelV i W->RelV v u->t o i v H Q ->
  Ù (ß X.prog X.w) X.A (setItem Y W u) (fun _ T=>∃U,Inv X Z σ U T/\Q U) X.xe s
section
variable {X:Cx} {pos:Pos}
def iV (i:Nat):TG:=fun v σ H Q=>Q (σ.set i (some v)) H
def iO (hN:X.N.Nodup) (hi:X.N[i]?=some x) (hx:Loc X.env.scope x) (hf:X.fn x=true\/X.env.scope.names.lookup x=some .local:=by first|exact .inl rfl|exact .inr rfl|assumption):PG X (.Name x pos) (iV i):=by
 intro Y s σ H v u Q I r h;exact wpAny_assign_Name (lV I hN hi hx r (fun W Z=>⟨_,H,Z,h⟩) hf)
def yW:jd:=fun Z σ H Q=>Z=[]/\Q σ H
def yu (t:TG) (u:jd):jd:=fun Z σ H Q=>∃v r,Z=v::r/\t v σ H fun Y X=>u r Y X Q
def xq:jM X [] yW:=by
 intro Z s σ H Y W Q I r h;obtain ⟨e,h⟩:=h;subst e;cases r;exact assignInOrder_nil ⟨σ,H,I,h⟩
def pX {e:ę} {es:List ę} {t:TG} {u:jd} (h1:PG X e t) (h2:jM X es u)
  (hs:(œ (e::es) X.env).map (·.2)=Vo e X.env::(œ es X.env).map (·.2):=by rfl):jM X (e::es) (yu t u):=by
 intro Z s σ H R P Q I r h;obtain ⟨v,O,e1,h⟩:=h;subst e1
 cases r with
 |cons r Y =>
  rw [hs];refine assignInOrder_cons (aA (h1 Z s σ H _ _ _ I r h) fun _ W ⟨V,U,T,S⟩=>?_);exact h2 Z W V U _ _ Q T Y S
def yX (K:Ĉ) (n:Nat) (t:jd):TG:=fun v σ H Q=>∃a Z,v=.ref a/\aP K H a Z/\Z.length=n/\t Z σ H Q
def xS {k:Nat} {n:Nat} (hc:X.calm=true) (h:jM X es t)
 (hn:(œ es X.env).length=n:=by rfl) (mS:(œ es X.env).findIdx? (·.1)=none:=by rfl):PG X (.Tuple es k pos) (yX X.K n t):=by
 intro Z s σ H v u Q I r hw;obtain ⟨a,W,e1,V,U,hw⟩:=hw;subst e1;cases r;obtain ⟨T,Y,S,N⟩:=I.tuple V;refine assign_Tuple_tuple (I.ok.hd hc) S (by simp [hn,<- U,Y.length]) mS fun R P=>?_
 have O:Inv X Z σ H { s with heap:=R }:=I.kept (t':=s.toks) fun b o e=>P b o (Þ (É e)) e
 exact h Z _ σ H W _ Q O (by simpa using Y) hw
def Qo (to ti:TE) (t:yV):TG:=fun v σ H Q=>to σ H fun o Z=>ti σ Z fun i Y=>t o i v Y fun X=>Q σ X
def Ni {o i:ę} {to ti:TE} {t:yV} (ho:PE X o to) (hi:PE X i ti) (hs:Fc X t)
  (ha:∀v,Vo (.Subscript o i pos) X.env v=(do
   let ov <- U9 [v] (ĺ o X.env)
   let iv <- U9 [v,ov] (ĺ i X.env)
   VU pos
   U9 [v,ov,iv] (setItem ov iv v)
   release [v,ov,iv] []):=by intro _;rfl):PG X (.Subscript o i pos) (Qo to ti t):=by
 intro Z s σ H v u Q I r h;rw [ha];refine À (ą (aA (ho Z s σ H _ I h) fun ov Y ⟨x,W,V,U,T⟩=>?_));refine À (ą (aA (hi Z Y σ W _ V T) fun iv S ⟨y,R,P,O,N⟩=>?_));refine À (Ō (À (ą (aA (hs Z S σ R x y v ov iv u _ P U O r N) fun _ J ⟨M,L,K⟩=>?_))));exact wpAny_release ⟨σ,M,L,K⟩
def mC (te:TE) (g:TG):TS:=fun D σ H=>te σ H fun x Z=>g x σ Z D.nx
def Du {tg e:ę} {te:TE} {g:TG} (he:PE X e te) (hg:PG X tg g) (hs:VR [tg] e pos.line X.env=pure false:=by rfl) (hw:VS [tg] e X.env=pure none:=by rfl)
  (h1:(œ [tg] X.env).map (·.2)=[Vo tg X.env]:=by rfl):PS X (.Assign [tg] e pos) (mC te g):=by
 intro Z s σ H D I h;refine wpAny_Assign_stores (aA (he Z s σ H _ I h) fun v Y ⟨x,W,V,U,T⟩=>?_) hs hw;rw [h1];exact aA (hg Z Y σ W x v _ V U T) fun _ S q=>q
def Nj {i:Nat} {x:Str} {e:ę} {te:TE} {pos':Pos} (hN:X.N.Nodup) (hi:X.N[i]?=some x) (hx:Loc X.env.scope x) (he:PE X e te) (hs:VI e (some (.Name x pos')) pos.line X.env=pure false:=by rfl) (hf:X.fn x=true\/X.env.scope.names.lookup x=some .local:=by first|exact .inl rfl|exact .inr rfl|assumption) :
  PS X (.Assign [.Name x pos'] e pos) (mC te (iV i)):=by
 intro Z s σ H D I h;refine wpAny_Assign_Name (aA (he Z s σ H _ I h) fun v S ⟨y,Y,W,V,U⟩=>?_) hs;exact lV W hN hi hx V (fun R T=>⟨_,Y,T,U⟩) hf
def Qp (i j:Nat) (ta:TA):TS:=fun D σ H=>ta σ H fun Z Y=>∃v w,Z=[v,w]/\D.nx ((σ.set i (some v)).set j (some w)) Y
def Nk {i j:Nat} {x y:Str} {a b:ę} {ta:TA} {px py pt:Pos} {kt k2 mT} (hc:X.calm=true) (hN:X.N.Nodup) (hi:X.N[i]?=some x) (hj:X.N[j]?=some y) (ku:i≠j)
  (hx:X.env.scope.names.lookup x=some .local) (hy:X.env.scope.names.lookup y=some .local) (ha:PA X [a,b] ta)
  (hw:VS [.Tuple [.Name x px,.Name y py] kt pt] (.Tuple [a,b] k2 mT) X.env=pure (some [x,y]))
  (hs:VR [.Tuple [.Name x px,.Name y py] kt pt] (.Tuple [a,b] k2 mT) pos.line X.env=pure false:=by rfl) :
  PS X (.Assign [.Tuple [.Name x px,.Name y py] kt pt] (.Tuple [a,b] k2 mT) pos) (Qp i j ta):=by
 intro U s σ H D I h;rw [exec_Assign_arm];refine À (Ō ?_);rw [hs];refine À (Â ?_);rw [ú (by decide)];refine À (Tuple_ (aA (ha _ U s σ H _ I h) fun R Z ⟨C,T,Q,P,V⟩=>?_));obtain ⟨v,w,e1,V⟩:=V;subst e1;obtain ⟨Y,W,rfl,O,M⟩:∃Y W,R=[Y,W]/\RelV v Y/\RelV w W:=by
  cases P with
  |cons p q =>
   cases q with
   |cons L K =>
    cases K;exact ⟨_,_,rfl,p,L⟩
 refine ô ?_ (by show 2<=Ø;decide)
 have J:Inv X U σ T { Z with heap:=Z.heap.push { cls:=.type "tuple",data:=.seq [Y,W].toArray } }:=Q.kept (t':=Z.toks) fun b o e=>Á _ e
 rw [hw];refine À (Â ?_)
 show Ù (ß X.prog X.w) X.A (do rule "assign.swapped-stores";let items <- unpackItems (.ref Z.heap.objs.size) 2 none;assignInOrder [fun v=>bindName X.env y v,fun v=>bindName X.env x v] items.reverse;pure Flow.next) _ _ _
 refine À (Ň (À (unpackItems_tuple (items:=#[Y,W]) (I.ok.hd hc) (IsTup.new Z.heap _) fun h' G=>?_)));have F:=J.kept (h':=h') (t':=Z.toks) fun b o e=>G b o (Þ (É e)) e
 show Ù _ _ (assignInOrder [fun v=>bindName X.env y v,fun v=>bindName X.env x v] [W,Y] >>= fun _=>pure Flow.next) _ _ _
 refine À (assignInOrder_cons (wpAny_bindName (lV F hN hj (.inl hy) M (fun B E=>?_) (.inr hy))));refine assignInOrder_cons (wpAny_bindName (lV E hN hi (.inl hx) O (fun z S=>assignInOrder_nil (Â ?_)) (.inr hx)));rw [List.set_comm _ _ (Œ ku)] at S;exact ⟨_,T,S,V⟩
end
section
variable {X:Cx} {pos:Pos}
end
structure It where
 go:Nat->Hp->Prop
 rJ:Nat->Hp->V->Hp->Prop
 stop:Nat->Hp->Prop
def cx (X:Cx) (π:List (Ó×Obj)) (H:Hp) (b:Ó):Prop :=
 H b=none/\b≠X.env.locals/\b∉X.fs/\(b∈X.ex\/X.bR.heap.objs.size<=b)/\(∀x c,X.env.cells.lookup x=some c->c≠b)/\∀p∈X.pn++π,p.1≠b
def Inv.mE {X:Cx} {π:List (Ó×Obj)} {σ:St} {H H':Hp} {s:Ã} {b:Ó} (I:Inv X π σ H s) (hb:s.heap.objs.size<=b) (hn:H' b=none):cx X π H' b:=by
 refine ⟨hn,ĝ (Æ I.lt hb),I.oB hb,.inr (ã I.sz hb),fun x c e z=>?_,fun p Z z=>?_⟩
 ·obtain ⟨v,q⟩:=I.cell x c e
  exact absurd (Æ q.lt (by rw [z];exact hb)) (â _)
 ·exact absurd (Æ (É (I.pin p Z).1) (by rw [z];exact hb)) (â _)
structure Turn (P:á) (w:Ą) (K:Ĉ) (tg:ę) (J:It) (fp:List Ó) (it:Ó) (tn:Nat->Į->Prop):Prop where
 mem:it∈fp
 obj:∀i h,tn i h->∀b∈fp,∃o,h.get? b=some o/\∀v,o.data≠.cell v
 keep:∀i h h',tn i h->(∀b∈fp,∀o,h.get? b=some o->h'.get? b=some o)->tn i h'
 item:∀(X:Cx),X.prog=P->X.w=w->X.K=K->X.calm=true->∀(i:Nat) (π:List (Ó×Obj)) (s:Ã) (σ:St) (H:Hp) (E:Ä->Ã->Prop),Inv X π σ H s->(∀b∈fp,cx X π H b)->tn i s.heap->J.go i H ->
  Ù (ß P w) X.A (Ŕ (.ref it)) (fun r s1=>∃u,r=some u /\
   Ù (ß P w) X.A (ł tg (.ref it) u) (fun _ s2=>∃x H',Inv X π σ H' s2/\RelV x u/\J.rJ i H x H'/\tn (i+1) s2.heap/\∀b∈fp,H' b=none) E s1) E s
 done:∀(X:Cx),X.prog=P->X.w=w->X.K=K->X.calm=true->∀(i:Nat) (π:List (Ó×Obj)) (s:Ã) (σ:St) (H:Hp) (E:Ä->Ã->Prop),Inv X π σ H s->(∀b∈fp,cx X π H b)->tn i s.heap->J.stop i H ->
  Ù (ß P w) X.A (Ŕ (.ref it)) (fun r s1=>r=none/\Inv X π σ H s1) E s
 self:∀(A:ó) (i:Nat) (s:Ã) (Q:Ä->Ã->Prop) (E:Ä->Ã->Prop),tn i s.heap->Q (.ref it) s->Ù (ß P w) A (pyIter (.ref it)) Q E s
abbrev TI:=St->Hp->(It->Hp->Prop)->Prop
def FW (X:Cx) (π:List (Ó×Obj)) (σ:St) (tg:ę) (R:It->Hp->Prop) (eO:Ä) (s2:Ã):Prop :=
 ∃(it:Ó) (Y:List Ó) (W:Nat->Į->Prop) (J:It) (Z:Hp),eO=.ref it/\Inv X π σ Z s2/\Turn X.prog X.w X.K tg J Y it W/\W 0 s2.heap/\(∀b∈Y,cx X π Z b)/\R J Z
def PI (X:Cx) (tg iter:ę) (wi:TI):Prop :=
 ∀(Z:List (Ó×Obj)) (s:Ã) (σ:St) (H:Hp) (R:It->Hp->Prop),Inv X Z σ H s->wi σ H R ->
  Ù (ß X.prog X.w) X.A (ĺ iter X.env) (fun v Y=>Ù (ß X.prog X.w) X.A (pyIter v) (FW X Z σ tg R) X.xe Y) X.xe s
def yv (ho:s.heap.get? it=some o) (hc:o.cls=.type n) (hd:o.data=.fields vs)
 (hn:["enumerate","zip","dict_itemiterator","dict_reverseitemiterator","odict_iterator","itertools.zip_longest","itertools.pairwise"].contains n=false) (hQ:Q () s):Ù M A (ł tg (.ref it) u) Q E s:=by
 unfold ł
 cases tg<;>first
  |exact Â hQ
  |(cases u<;>first
    |exact Â hQ
    |(refine À (wpAny_load ho ?_)
      rw [hc,hd]
      show Ù M A (if (["enumerate","zip","dict_itemiterator","dict_reverseitemiterator","odict_iterator","itertools.zip_longest","itertools.pairwise"].contains n&&vs[0]?==some (Ţ _))=true then _ else _) Q E s
      rw [ú (by intro h;rw [hn,Bool.false_and] at h;cases h)];exact Â hQ))
noncomputable def zL (K:Ĉ) (a:Ó):It :=
 ⟨fun i H=>∃Z x,bo K H a Z/\Z[i]?=some x,fun i H x Y=>Y=H/\∀Z,bo K H a Z->Z[i]?=some x,fun i H=>∃Z,bo K H a Z/\Z.length<=i⟩
noncomputable def zM (K:Ĉ) (a:Ó):It :=
 ⟨fun i H=>∃Z x,aP K H a Z/\Z[i]?=some x,fun i H x Y=>Y=H/\∀Z,aP K H a Z->Z[i]?=some x,fun i H=>∃Z,aP K H a Z/\Z.length<=i⟩
noncomputable def rL (lo:Int) (n:Nat):It:=⟨fun i _=>i<n,fun i H x Z=>Z=H/\x=.int (lo+i),fun i _=>n<=i⟩
def Jw {P:á} {w:Ą} {K:Ĉ} {tg:ę} (a it:Ó):Turn P w K tg (zL K a) [it] it (fun i h=>h.IsListIter it a i) where
 mem:=by simp
 obj:=fun i h Z b Y=>by
  have e:b=it:=by simpa using Y
  subst e;obtain ⟨o,e,c,d⟩:=Z;exact ⟨o,e,fun v z=>by rw [d] at z;cases z⟩
 keep:=fun i h W Z k=>Z.at fun o e=>k it (by simp) o e
 item:=by
  intro X T hw S J i G s σ H E I V Z R;subst T hw S;obtain ⟨D,x,U,Q⟩:=R;obtain ⟨O,N,p,C⟩:=I.list U;obtain ⟨u,B,A⟩:=N.get Q;obtain ⟨f0,f1,f2,M,f4,L⟩:=V it (by simp);refine wpAny_pyNext_list_item Z p.isList (x:=u) (by simpa using B) fun W F y=>?_
  have t:Inv X G σ H { s with heap:=W }:=I.turned (t':=s.toks) (fun b o Y e=>(y.2 b Y).trans e) f0 f1 M f4 L
  obtain ⟨o,e,c,d⟩:=id F
  exact ⟨u,rfl,yv (s:={ s with heap:=W }) e c d (by decide) ⟨x,H,t,A,⟨rfl,fun n r=>by rw [I.Ck r U];exact Q⟩,F,fun b Y=>(V b Y).1⟩⟩
 done:=by
  intro X T hw S J i G s σ H E I V Z R;subst T hw S;obtain ⟨D,U,Q⟩:=R;obtain ⟨O,N,p,C⟩:=I.list U;obtain ⟨f0,f1,f2,M,f4,L⟩:=V it (by simp);have m:=N.length;exact wpAny_pyNext_list_end (I.ok.hd J) Z p.isList (by simp;omega) fun W q=>⟨rfl,I.turned (t':=s.toks) (fun b o Y e=>q b o Y e) f0 f1 M f4 L⟩
 self:=fun _ _ _ _ _ Z h=>wpAny_pyIter_listiter Z h
def Ir {P:á} {w:Ą} {K:Ĉ} {tg:ę} (a it:Ó):Turn P w K tg (zM K a) [it] it (fun i h=>h.IsTupleIter it a i) where
 mem:=by simp
 obj:=fun i h Z b Y=>by
  have e:b=it:=by simpa using Y
  subst e;obtain ⟨o,e,c,d⟩:=Z;exact ⟨o,e,fun v z=>by rw [d] at z;cases z⟩
 keep:=fun i h V Z k=>Z.at fun o e=>k it (by simp) o e
 item:=by
  intro X S hw R J i G s σ H E I U Z Q;subst S hw R;obtain ⟨D,x,T,O⟩:=Q;obtain ⟨W,N,p,C⟩:=I.tuple T;obtain ⟨u,B,A⟩:=N.get O;obtain ⟨f0,f1,f2,M,f4,L⟩:=U it (by simp);refine wpAny_pyNext_tuple_item Z (show s.heap.IsTuple a W.toArray from p) (x:=u) (by simpa using B) fun V F y=>?_
  have t:Inv X G σ H { s with heap:=V }:=I.turned (t':=s.toks) (fun b o Y e=>(y.2 b Y).trans e) f0 f1 M f4 L
  obtain ⟨o,e,c,d⟩:=id F
  exact ⟨u,rfl,yv (s:={ s with heap:=V }) e c d (by decide) ⟨x,H,t,A,⟨rfl,fun n r=>by rw [I.wJ r T];exact O⟩,F,fun b Y=>(U b Y).1⟩⟩
 done:=by
  intro X S hw R J i G s σ H E I U Z Q;subst S hw R;obtain ⟨D,T,O⟩:=Q;obtain ⟨W,N,p,C⟩:=I.tuple T;obtain ⟨f0,f1,f2,M,f4,L⟩:=U it (by simp);have m:=N.length;exact wpAny_pyNext_tuple_end (I.ok.hd J) Z (show s.heap.IsTuple a W.toArray from p) (by simp;omega) fun V q=>⟨rfl,I.turned (t':=s.toks) (fun b o Y e=>q b o Y e) f0 f1 M f4 L⟩
 self:=fun _ _ _ _ _ Z h=>wpAny_pyIter_tupleiter Z h
def Iu {P:á} {w:Ą} {K:Ĉ} {tg:ę} (it:Ó) (lo:Int) (n:Nat):Turn P w K tg (rL lo n) [it] it (fun i h=>IsRangeIter h it (lo+(i:Nat)*1) ((n:Int)-(i:Nat)) 1) where
 mem:=by simp
 obj:=fun i h Z b Y=>by
  have e:b=it:=by simpa using Y
  subst e;exact ⟨_,Z,fun v z=>by
   have G:Data.fields _=Data.cell v:=z;cases G⟩
 keep:=fun i h V Z k=>k it (by simp) _ Z
 item:=by
  intro X T hw S R i M s σ H E I U Z Q;subst T hw S;obtain ⟨f0,f1,f2,O,f4,N⟩:=U it (by simp);have W:=Walks.range (prog:=X.prog) (w:=X.w) (I.ok.hd R) it lo 1 n;refine W.item i s _ _ Q Z fun v V L F J D=>?_;obtain ⟨t,rfl⟩:=F
  have C:Inv X M σ H { s with heap:=V,toks:=L }:=I.turned (fun b o Y e=>D b o (by simpa using Y) e) f0 f1 O f4 N
  refine ⟨_,rfl,yv (s:={ s with heap:=V,toks:=L }) (n:="range_iterator") J rfl rfl (by decide) ⟨.int (lo+i),H,C,⟨t,?_⟩,⟨rfl,rfl⟩,J,fun b Y=>(U b Y).1⟩⟩
  rw [Int.mul_one]
 done:=by
  intro X T hw S R i M s σ H E I U Z Q;subst T hw S;obtain ⟨f0,f1,f2,O,f4,N⟩:=U it (by simp);exact wpAny_pyNext_range_end (I.ok.hd R) Z (by have:n<=i:=Q;omega) fun V B=>⟨rfl,I.turned (t':=s.toks) (fun b o Y e=>B b o Y e) f0 f1 O f4 N⟩
 self:=fun _ _ _ _ _ Z h=>wpAny_pyIter_rangeiter Z h
section
variable {X:Cx} {tg:ę}
def Em (K:Ĉ) (tl:TE):TI:=fun σ H R=>tl σ H fun x Z=>∃a,x=.ref a/\(∃Y,bo K Z a Y)/\R (zL K a) Z
def Fd (K:Ĉ) (tl:TE):TI:=fun σ H R=>tl σ H fun x Z=>∃a,x=.ref a/\(∃Y,aP K Z a Y)/\R (zM K a) Z
def LS {l:ę} {tl:TE} (hl:PE X l tl):PI X tg l (Em X.K tl):=by
 intro W s σ H R I h;refine aA (hl W s σ H _ I h) fun v Z ⟨x,V,Y,U,T⟩=>?_;obtain ⟨a,e,⟨O,S⟩,q⟩:=T;subst e;cases U;obtain ⟨Q,N,p,M⟩:=Y.list S;refine Ÿ p.isList ?_;refine ⟨Z.heap.objs.size,[Z.heap.objs.size],_,_,V,rfl,Y.kept (t':=Z.toks) fun b o e=>Á _ e,Jw a _,⟨_,Ì _ rfl,rfl,rfl⟩,fun b P=>?_,q⟩;have e:b=Z.heap.objs.size:=by simpa using P
 subst e;exact Y.mE (Wl _) (Y.au.fresh (Wl _))
def Nl {l:ę} {tl:TE} (hl:PE X l tl):PI X tg l (Fd X.K tl):=by
 intro V s σ H R I h;refine aA (hl V s σ H _ I h) fun v Z ⟨x,U,Y,T,S⟩=>?_;obtain ⟨a,e,⟨O,Q⟩,q⟩:=S;subst e;cases T;obtain ⟨W,N,p,M⟩:=Y.tuple Q;refine ŭ (show Z.heap.IsTuple a W.toArray from p) ?_;refine ⟨Z.heap.objs.size,[Z.heap.objs.size],_,_,U,rfl,Y.kept (t':=Z.toks) fun b o e=>Á _ e,Ir a _,⟨_,Ì _ rfl,rfl,rfl⟩,fun b P=>?_,q⟩;have e:b=Z.heap.objs.size:=by simpa using P
 subst e;exact Y.mE (Wl _) (Y.au.fresh (Wl _))
def Cm {π:List (Ó×Obj)} {σ:St} {H:Hp} {s:Ã} {R:It->Hp->Prop} {E:Ä->Ã->Prop} {lo hi:Int} {t u v:Tok} {tk:Nat} (I:Inv X π σ H s) (h1:-(2 ^ 62)<=lo) (h2:lo<2 ^ 62) (h3:-(2 ^ 62)<=hi) (h4:hi<2 ^ 62)
  (q:R (rL lo (hi-lo).toNat) H):Ù (ß X.prog X.w) X.A (pyIter (.ref s.heap.objs.size)) (FW X π σ tg R) E { s with heap:=s.heap.push { cls:=.type "range",data:=.fields #[.int lo t,.int hi u,.int 1 v] },toks:=tk }:=by
 refine wpAny_pyIter_range (IsRange.new ..) (small_one h1 h2 h3 h4) ?_
 have Z:Inv X π σ H { s with heap:=s.heap.push { cls:=.type "range",data:=.fields #[.int lo t,.int hi u,.int 1 v] },toks:=tk }:=I.kept fun b o e=>Á _ e
 refine ⟨(s.heap.push { cls:=.type "range",data:=.fields #[.int lo t,.int hi u,.int 1 v] }).objs.size,[(s.heap.push { cls:=.type "range",data:=.fields #[.int lo t,.int hi u,.int 1 v] }).objs.size],_,_,H,rfl,
  Z.kept (t':=tk) fun b o e=>Á _ e,Iu _ lo (hi-lo).toNat,?_,fun b Y=>?_,q⟩
 ·have e1:lo+((0:Nat):Int)*1=lo:=by simp
  have e2:(((hi-lo).toNat:Nat):Int)-((0:Nat):Int)=Builtin.Range.rangeSize lo hi 1:=by rw [rangeSize_one];split<;>omega
  show IsRangeIter _ _ (lo+((0:Nat):Int)*1) ((((hi-lo).toNat:Nat):Int)-((0:Nat):Int)) 1;rw [e1,e2];exact Ì _ rfl
 ·have e:b=(s.heap.push { cls:=.type "range",data:=.fields #[.int lo t,.int hi u,.int 1 v] }).objs.size:=by simpa using Y
  subst e;exact Z.mE (Wl _) (Z.au.fresh (Wl _))
def OQ (ta:TA):TI:=fun σ H R=>ta σ H fun Z Y=>∃j:Int,Z=[.int j]/\-(2 ^ 62)<=j/\j<2 ^ 62/\R (rL 0 j.toNat) Y
def OR (ta:TA):TI:=fun σ H R=>ta σ H fun Z Y=>∃i j:Int,Z=[.int i,.int j]/\(-(2 ^ 62)<=i/\i<2 ^ 62/\-(2 ^ 62)<=j/\j<2 ^ 62)/\R (rL i (j-i).toNat) Y
def Jx {a:ę} {ta:TA} {p pos:Pos} (hg:Gl X "range") (hm:X.mg "range"=none) (ha:PA X [a] ta) (hs:Ê [a] X.env=[(false,ĺ a X.env)]:=by rfl):PI X tg (.Call (.Name "range" p) [a] [] pos) (OQ ta):=by
 intro Y s σ H R I h;refine Call_ (kQ I hg hm boot_range (Ĩ (aA (ha pos Y s σ H _ I h) fun S Q ⟨P,O,W,V,Z⟩=>?_) hs rfl));obtain ⟨j,e,Z,U,q⟩:=Z;subst e
 cases V with
 |cons r T =>
  cases T;obtain ⟨t,rfl⟩:=r;exact call_range_1 (Cm W (by omega) (by omega) Z U (by simpa using q))
def Jy {a b:ę} {ta:TA} {p pos:Pos} (hg:Gl X "range") (hm:X.mg "range"=none) (ha:PA X [a,b] ta) (hs:Ê [a,b] X.env=[(false,ĺ a X.env),(false,ĺ b X.env)]:=by rfl) (fC:Ê [b] X.env=[(false,ĺ b X.env)]:=by rfl) :
  PI X tg (.Call (.Name "range" p) [a,b] [] pos) (OR ta):=by
 intro W s σ H R I h;refine Call_ (kQ I hg hm boot_range (Ĩ (aA (ha pos W s σ H _ I h) fun O N ⟨M,L,V,U,Z⟩=>?_) (by rw [hs,fC]) (by rw [fC];rfl)));obtain ⟨i,j,e,⟨Z,T,S,Q⟩,q⟩:=Z;subst e
 cases U with
 |cons r Y =>
  cases Y with
  |cons P Y =>
   cases Y;obtain ⟨t,rfl⟩:=r;obtain ⟨K,rfl⟩:=P;exact call_range_2 (Cm V Z T S Q q)
def Fe (wi:TI) (g:TG) (tb:TS):TS:=fun D σ H=>wi σ H fun J V=>∃W:Nat->Nat->St->Hp->Prop,(∃m,W 0 m σ V)/\∀i m σ H,W i m σ H ->
 (J.stop i H/\D.nx σ H)\/(J.go i H/\∃N:St->Hp->Prop,(∀ Y Z,N Y Z->∃X,X < m/\W (i+1) X Y Z)/\∀x Z,J.rJ i H x Z->g x σ Z fun U T=>tb { D with nx:=N,ct:=N,bk:=D.nx } U T)
noncomputable def kR (fp:List Ó) (h:Į):List (Ó×Obj):=fp.filterMap fun b=>(h.get? b).map fun o=>(b,o)
def nE (hb:b∈fp) (e:h.get? b=some o):(b,o)∈kR fp h:=Va.mpr ⟨b,hb,by rw [e];rfl⟩
def BW (hp:p∈kR fp h):p.1∈fp/\h.get? p.1=some p.2:=by
 obtain ⟨b,Z,e⟩:=Va.mp hp
 cases q:h.get? b with
 |none=>rw [q] at e;cases e
 |some o =>
  rw [q] at e;have Y:(b,o)=p:=Wm e;subst Y;exact ⟨Z,q⟩
def Inv.pinned {π:List (Ó×Obj)} {σ:St} {H:Hp} {s:Ã} {fp:List Ó} (I:Inv X π σ H s) (hf:∀b∈fp,cx X π H b) (ho:∀b∈fp,∃o,s.heap.get? b=some o/\∀v,o.data≠.cell v):Inv X (π++kR fp s.heap) σ H s :=
 I.gu fun p W=>(æ.mp W).elim (fun z=>I.pin p (Å _ z)) fun z=>by
  obtain ⟨Z,e⟩:=BW z;obtain ⟨f0,f1,f2,_⟩:=hf p.1 Z;obtain ⟨o,Y,d⟩:=ho p.1 Z;rw [e] at Y;cases Y;exact ⟨e,f0,f1,f2,d⟩
def Inv.iN {π pl:List (Ó×Obj)} {σ:St} {H:Hp} {s:Ã} (I:Inv X (π++pl) σ H s):Inv X π σ H s:=I.gu fun p Z=>I.pin p (Å _ (ù _ Z))
def Nm {iter:ę} {body:List Wc} {wi:TI} {g:TG} {tb:TS} {pos:Pos} (hp:PassesOwn (ß X.prog X.w) X.A X.env X.xe) (hc:X.calm=true) (hi:PI X tg iter wi) (hg:PG X tg g) (hb:cb X body tb)
  (hs:∀x,þ iter X.env x=pure x:=by intro _;rfl):PS X (.For tg iter body [] pos) (Fe wi g tb):=by
 intro R s σ H D I h;refine wpAny_For (aA (hi R s σ H _ I h) fun v s1 p=>aA p fun eO s2 l=>?_) hs;obtain ⟨it,Q,E,J,k,e,j,T,c,f2,W,⟨m0,a⟩,turn⟩:=l;subst e;have stat:∀{U:Hp},(∀b∈Q,U b=none)->∀b∈Q,cx X R U b:=fun hn b hb=>⟨hn b hb,(f2 b hb).2⟩;refine codeAny_forLoop_any (fun n C=>∃i P U,Inv X R P U C/\E i C.heap/\(∀b∈Q,U b=none)/\W i n P U) ?_ m0 ⟨0,σ,k,j,c,fun b hb=>(f2 b hb).1,a⟩;rintro n B ⟨i,O,L,z,y,t,w3⟩
 rcases turn i n O L w3 with ⟨stop,qn⟩ | ⟨go,N,hN,step⟩
 ·refine Vb hp (aA (T.done X rfl rfl rfl hc i R B O L X.xe z (stat t) y stop) fun r s4 ⟨K,I4⟩=>?_)
  subst K;exact U8 ⟨O,L,I4,qn⟩
 ·refine Vb hp (aA (T.item X rfl rfl rfl hc i R B O L X.xe z (stat t) y go) fun r s4 ⟨u,K,h4⟩=>?_)
  subst K;refine Vb hp (aA h4 fun _ s5 ⟨x,q,I5,r5,y5,G,rM⟩=>?_);have rN:=I5.pinned (stat rM) (T.obj _ _ G);refine Vb hp (aA (hg _ s5 O q x u _ rN r5 (step x q y5)) fun _ s6 ⟨Rq,H6,I6,q6⟩=>?_);refine Vb hp (aA (hb _ s6 Rq H6 _ I6 q6) fun f F S=>?_);have again:∀{Z:St} {Y:Hp},Inv X (R++kR Q s5.heap) Z Y F->N Z Y->∃m,m<n/\∃i P U,Inv X R P U F/\E i F.heap/\(∀b∈Q,U b=none)/\W i m P U:=fun {Z Y} V M=>by
   obtain ⟨m',hm,w7⟩:=hN Z Y M;refine ⟨m',hm,i+1,Z,Y,V.iN,T.keep _ _ _ G fun b hb o e=>(V.pin (b,o) (Å _ (Å _ (nE hb e)))).1,fun b hb=>?_,w7⟩;obtain ⟨o,e,d⟩:=T.obj _ _ G b hb;exact (V.pin (b,o) (Å _ (Å _ (nE hb e)))).2.1
  cases f with
  |next=>obtain ⟨Z,Y,V,M⟩:=S;exact again V M
  |cont=>obtain ⟨Z,Y,V,M⟩:=S;exact again V M
  |brk=>obtain ⟨Z,Y,V,S⟩:=S;exact ⟨Z,Y,V.iN,S⟩
  |ret v=>obtain ⟨x7,Z,Y,V,r7,S⟩:=S;exact ⟨x7,Z,Y,V.iN,r7,S⟩
end
abbrev R2:=V->V->Hp->VK->Prop
def aU (X:Cx) (f:Ä->Ä->Sem Ä) (r:R2):Prop :=
 ∀(Z:List (Ó×Obj)) (s:Ã) (σ:St) (H:Hp) (x y:V) (v u:Ä) (Q:VK),Inv X Z σ H s->RelV x v->RelV y u->r x y H Q ->
  Ù (ß X.prog X.w) X.A (f v u) (EP X Z σ Q) X.xe s
def rP (X:Cx) (f:Ä->Sem Ä) (r:V->Hp->VK->Prop):Prop :=
 ∀(Z:List (Ó×Obj)) (s:Ã) (σ:St) (H:Hp) (x:V) (v:Ä) (Q:VK),Inv X Z σ H s->RelV x v->r x H Q ->
  Ù (ß X.prog X.w) X.A (f v) (EP X Z σ Q) X.xe s
def bQ (X:Cx) (f:Ä) (r:List V->Hp->VK->Prop):Prop :=
 ∀(Z:List (Ó×Obj)) (s:Ã) (σ:St) (H:Hp) (Y:List V) (W:List Ä) (Q:VK),Inv X Z σ H s->Vals Y W->r Y H Q ->
  Ù (ß X.prog X.w) X.A (call f W) (EP X Z σ Q) X.xe s
def Qq (X:Cx) (r:V->Hp->(Bool->Hp->Prop)->Prop):Prop :=
 ∀(Z:List (Ó×Obj)) (s:Ã) (σ:St) (H:Hp) (x:V) (v:Ä) (Q:Bool->Hp->Prop),Inv X Z σ H s->RelV x v->r x H Q ->
  Ù (ß X.prog X.w) X.A (truthy v) (TP X Z σ Q) X.xe s
def rQ (r:R2) (ta tb:TE):TE:=fun σ H Q=>ta σ H fun x Z=>tb σ Z fun y Y=>r x y Y Q
def Rr (r:V->Hp->VK->Prop) (ta:TE):TE:=fun σ H Q=>ta σ H fun x Z=>r x Z Q
def rI (C:Int->Int->Prop) (g:Int->Int->V):R2:=fun x y H Q=>∃i j,x=.int i/\y=.int j/\C i j/\Q (g i j) H
def mU (g:Int->Int->V):R2:=fun x y H Q=>∃i j,x=.int i/\y=.int j/\Q (g i j) H
def rU (g:Int->V):V->Hp->VK->Prop:=fun x H Q=>∃i,x=.int i/\Q (g i) H
section
variable {X:Cx} {a b c:ę} {ta tb tc:TE} {pos:Pos}
def yY (ha:PE X a ta) (hb:PE X b tb) {π:List (Ó×Obj)} {s:Ã} {σ:St} {H:Hp} {R:V->V->Hp->Prop} (I:Inv X π σ H s)
  (h:ta σ H fun x H1=>tb σ H1 fun y H2=>R x y H2) {Q:Ä->Ã->Prop} {f:Ä->Ä->Sem Ä}
  (hf:∀v u s2 x y H2,Inv X π σ H2 s2->RelV x v->RelV y u->R x y H2->Ù (ß X.prog X.w) X.A (f v u) Q X.xe s2) :
  Ù (ß X.prog X.w) X.A (ĺ a X.env) (fun v bb=>Ù (ß X.prog X.w) X.A (ĺ b X.env) (fun u oF=>Ù (ß X.prog X.w) X.A (f v u) Q X.xe oF) X.xe bb) X.xe s:=by
 refine aA (ha π s σ H _ I h) fun v Z ⟨x,H1,Y,W,U⟩=>?_;refine aA (hb π Z σ H1 _ Y U) fun u s2 ⟨y,H2,T,S,P⟩=>?_;exact hf v u s2 x y H2 T W S P
def OS (ho:aU X (ĳ op) r) (ha:PE X a ta) (hb:PE X b tb):PE X (.BinOp a op b pos) (rQ r ta tb):=by
 intro Z s σ H Q I h;exact wpAny_BinOp (yY ha hb I h fun v u Y x y W V U T q=>ho Z Y σ W x y v u Q V U T q)
def OT {op:UnaryOp} {r:V->Hp->VK->Prop} (ho:rP X (unaryOp op) r) (ha:PE X a ta):PE X (.UnaryOp op a pos) (Rr r ta):=by
 intro Z s σ H Q I h;exact UnaryOp_ (aA (ha Z s σ H _ I h) fun v Y ⟨x,W,U,T,S⟩=>ho Z Y σ W x v Q U T S)
def vO {C:Int->Int->Prop} {g:Int->Int->Int}
 (rule:∀(i j:Int) (t u:Tok) (s:Ã) (Q:Ä->Ã->Prop) (E:Ä->Ã->Prop),C i j->Q (.int (g i j) s.toks) { s with toks:=s.toks+1 }->Ù (ß X.prog X.w) X.A (f (.int i t) (.int j u)) Q E s) :
  aU X f (rI C fun i j=>.int (g i j)):=by
 intro U s σ H x y v u Q I Z Y h;obtain ⟨i,j,rfl,rfl,W,q⟩:=h;obtain ⟨t,rfl⟩:=Z;obtain ⟨V,rfl⟩:=Y;exact rule i j t V s _ _ W ⟨.int (g i j),H,I.tok _,⟨_,rfl⟩,q⟩
def Ff {g:Int->Int->Int}
 (rule:∀(i j:Int) (t u:Tok) (s:Ã) (Q:Ä->Ã->Prop) (E:Ä->Ã->Prop),Q (.int (g i j) s.toks) { s with toks:=s.toks+1 }->Ù (ß X.prog X.w) X.A (f (.int i t) (.int j u)) Q E s) :
  aU X f (mU fun i j=>.int (g i j)):=by
 intro V s σ H x y v u Q I Z Y h;obtain ⟨i,j,rfl,rfl,q⟩:=h;obtain ⟨t,rfl⟩:=Z;obtain ⟨W,rfl⟩:=Y;exact rule i j t W s _ _ ⟨.int (g i j),H,I.tok _,⟨_,rfl⟩,q⟩
def yZ {g:Int->Int->Bool}
 (rule:∀(i j:Int) (t u:Tok) (s:Ã) (Q:Ä->Ã->Prop) (E:Ä->Ã->Prop),Q (.bool (g i j)) s->Ù (ß X.prog X.w) X.A (f (.int i t) (.int j u)) Q E s) :
  aU X f (mU fun i j=>.bl (g i j)):=by
 intro V s σ H x y v u Q I Z Y h;obtain ⟨i,j,rfl,rfl,q⟩:=h;obtain ⟨t,rfl⟩:=Z;obtain ⟨W,rfl⟩:=Y;exact rule i j t W s _ _ ⟨.bl (g i j),H,I,rfl,q⟩
def Qr (i j:Int):Prop:=0<j/\j<1073741824
def Qs (i j:Int):Prop:=0<=j/\j<=1000000/\i.natAbs<2 ^ 64
def va (i j:Int):Prop:=(-(2 ^ 64)<i/\i<2 ^ 64)\/(-(2 ^ 64)<j/\j<2 ^ 64)
def va.ok (h:va i j):IntMulOk i j:=by
 rcases h with ⟨Z,Y⟩ | ⟨Z,Y⟩
 ·exact .of_left (intBits_le_64 Z Y)
 ·exact .of_right (intBits_le_64 Z Y)
def Nn:aU X (ĳ .Add) (mU fun i j=>.int (i+j)):=Ff fun _ _ _ _ _ _ _ q=>add_int q
def Np:aU X (ĳ .Sub) (mU fun i j=>.int (i-j)):=Ff fun _ _ _ _ _ _ _ q=>sub_int q
def Nq:aU X (ĳ .Mult) (rI va fun i j=>.int (i*j)):=vO fun _ _ _ _ _ _ _ Z q=>mul_int q Z.ok
def LU:aU X (ĳ .FloorDiv) (rI Qr fun i j=>.int (i / j)):=vO fun i j _ _ _ _ _ Z q=>by
 have Y:(0:Int)<j:=Z.1;have W:j<1073741824:=Z.2;exact floordiv_int (by omega) (by rw [Int.fdiv_eq_ediv_of_nonneg i (by omega)];exact q) (.inl (PyProof.noPylong_small (by omega)))
def Nr:aU X (ĳ .Mod) (rI (fun _ j=>0<j) fun i j=>.int (i % j)):=vO fun i j _ _ _ _ _ Z q=>by
 have Y:(0:Int)<j:=Z;exact mod_int' (by omega) (by rw [Int.fmod_eq_emod_of_nonneg i (by omega)];exact q)
def Nt:aU X (ĳ .Pow) (rI Qs fun i j=>.int (i ^ j.toNat)):=vO fun _ _ _ _ _ _ _ Z q=>pow_int_small Z.1 Z.2.1 Z.2.2 q
def Rt {g:Int->Int}
 (rule:∀(i:Int) (t:Tok) (s:Ã) (Q:Ä->Ã->Prop) (E:Ä->Ã->Prop),Q (.int (g i) s.toks) { s with toks:=s.toks+1 }->Ù (ß X.prog X.w) X.A (f (.int i t)) Q E s) :
  rP X f (rU fun i=>.int (g i)):=by
 intro Y s σ H x v Q I Z h;obtain ⟨i,rfl,q⟩:=h;obtain ⟨t,rfl⟩:=Z;exact rule i t s _ _ ⟨.int (g i),H,I.tok _,⟨_,rfl⟩,q⟩
def Nu:rP X (unaryOp .USub) (rU fun i=>.int (-i)):=Rt fun _ _ _ _ _ q=>neg_int q
end
noncomputable def y0:V->V->Bool
 | .aq,.aq=>true | .aq,.int _=>true | .int _,.aq=>true | .aq,.bl _=>true | .bl _,.aq=>true | .aq,.str _=>true | .str _,.aq=>true
 | .int _,.int _=>true | .bl _,.bl _=>true | .str _,.str _=>true | .gL _,.gL _=>true
 | .int _,.str _=>true | .str _,.int _=>true | .bl _,.str _=>true | .str _,.bl _=>true
 |_,_=>false
def Ru:R2:=fun x y H Q=>y0 x y=true/\Q (.bl (decide (x=y))) H
def Rv:R2:=fun x y H Q=>y0 x y=true/\Q (.bl (!decide (x=y))) H
def CL:decide (V.int i=V.int j)=(i==j):=by
 rw [ŕ];simp
def Dv:decide (V.bl i=V.bl j)=(i==j):=by
 rw [ŕ];simp
def xr:decide (V.str i=V.str j)=(i==j):=by
 rw [ŕ];simp
def CN:decide (V.gL i=V.gL j)=(i.toList==j.toList):=by
 rw [ŕ];cases i;cases j;simp
section
variable {X:Cx} {a b c:ę} {ta tb tc:TE} {pos:Pos}
def bL {π:List (Ó×Obj)} {σ:St} {H:Hp} {s:Ã} {Q:VK} {k k':Bool} (I:Inv X π σ H s) (q:Q (.bl k) H) (e:k=k'):EP X π σ Q (.bool k') s:=by
 subst e;exact ⟨.bl k,H,I,rfl,q⟩
def OU:aU X (ć .Eq) Ru:=by
 intro T s σ H x y v u Q I U Z h;obtain ⟨V,q⟩:=h
 cases x with
 |aq =>
  cases U
  cases y with
  |aq=>cases Z;exact PySem.EqNone.eq_none_none (bL I q (by simp))
  |bl j=>cases Z;exact PySem.EqNone.eq_none_bool (bL I q (by simp))
  |int j=>obtain ⟨Y,rfl⟩:=Z;exact PySem.EqNone.eq_none_int (bL I q (by simp))
  |str j=>obtain ⟨Y,rfl⟩:=Z;exact PySem.EqNone.eq_none_str (bL I q (by simp))
  |_=>exact absurd (show false=true from V) Ñ
 |bl i =>
  cases U
  cases y with
  |aq=>cases Z;exact PySem.EqNone.eq_bool_none (bL I q (by simp))
  |bl j=>cases Z;exact eq_bool (bL I q Dv)
  |str j=>obtain ⟨Y,rfl⟩:=Z;exact PySem.EqMixed.eq_bool_str (bL I q (by simp))
  |_=>exact absurd (show false=true from V) Ñ
 |int i =>
  obtain ⟨t,rfl⟩:=U
  cases y with
  |aq=>cases Z;exact PySem.EqNone.eq_int_none (bL I q (by simp))
  |int j=>obtain ⟨Y,rfl⟩:=Z;exact eq_int (bL I q CL)
  |str j=>obtain ⟨Y,rfl⟩:=Z;exact PySem.EqMixed.eq_int_str (bL I q (by simp))
  |_=>exact absurd (show false=true from V) Ñ
 |str i =>
  obtain ⟨t,rfl⟩:=U
  cases y with
  |aq=>cases Z;exact PySem.EqNone.eq_str_none (bL I q (by simp))
  |bl j=>cases Z;exact PySem.EqMixed.eq_str_bool (bL I q (by simp))
  |int j=>obtain ⟨Y,rfl⟩:=Z;exact PySem.EqMixed.eq_str_int (bL I q (by simp))
  |str j=>obtain ⟨Y,rfl⟩:=Z;exact eq_str (bL I q xr)
  |_=>exact absurd (show false=true from V) Ñ
 |gL i =>
  obtain ⟨t,rfl⟩:=U
  cases y with
  |gL j=>obtain ⟨Y,rfl⟩:=Z;exact PySem.W.eq_bytes (bL I q CN)
  |_=>exact absurd (show false=true from V) Ñ
 |_=>cases y<;>exact absurd (show false=true from V) Ñ
def OV:aU X (ć .NotEq) Rv:=by
 intro T s σ H x y v u Q I U Z h;obtain ⟨V,q⟩:=h
 cases x with
 |aq =>
  cases U
  cases y with
  |aq=>cases Z;exact PySem.EqNone.ne_none_none (bL I q (by simp))
  |bl j=>cases Z;exact PySem.EqNone.ne_none_bool (bL I q (by simp))
  |int j=>obtain ⟨Y,rfl⟩:=Z;exact PySem.EqNone.ne_none_int (bL I q (by simp))
  |str j=>obtain ⟨Y,rfl⟩:=Z;exact PySem.EqNone.ne_none_str (bL I q (by simp))
  |_=>exact absurd (show false=true from V) Ñ
 |bl i =>
  cases U
  cases y with
  |aq=>cases Z;exact PySem.EqNone.ne_bool_none (bL I q (by simp))
  |bl j=>cases Z;exact ne_bool (bL I q (ı not Dv))
  |str j=>obtain ⟨Y,rfl⟩:=Z;exact PySem.EqMixed.ne_bool_str (bL I q (by simp))
  |_=>exact absurd (show false=true from V) Ñ
 |int i =>
  obtain ⟨t,rfl⟩:=U
  cases y with
  |aq=>cases Z;exact PySem.EqNone.ne_int_none (bL I q (by simp))
  |int j=>obtain ⟨Y,rfl⟩:=Z;exact ne_int (bL I q (ı not CL))
  |str j=>obtain ⟨Y,rfl⟩:=Z;exact PySem.EqMixed.ne_int_str (bL I q (by simp))
  |_=>exact absurd (show false=true from V) Ñ
 |str i =>
  obtain ⟨t,rfl⟩:=U
  cases y with
  |aq=>cases Z;exact PySem.EqNone.ne_str_none (bL I q (by simp))
  |bl j=>cases Z;exact PySem.EqMixed.ne_str_bool (bL I q (by simp))
  |int j=>obtain ⟨Y,rfl⟩:=Z;exact PySem.EqMixed.ne_str_int (bL I q (by simp))
  |str j=>obtain ⟨Y,rfl⟩:=Z;exact ne_str (bL I q (ı not xr))
  |_=>exact absurd (show false=true from V) Ñ
 |gL i =>
  obtain ⟨t,rfl⟩:=U
  cases y with
  |gL j=>obtain ⟨Y,rfl⟩:=Z;exact PySem.W.ne_bytes (bL I q (ı not CN))
  |_=>exact absurd (show false=true from V) Ñ
 |_=>cases y<;>exact absurd (show false=true from V) Ñ
def OW:aU X (ć .LtE) (mU fun i j=>.bl (decide (i<=j))):=yZ fun _ _ _ _ _ _ _ q=>le_int q
def OX:aU X (ć .Gt) (mU fun i j=>.bl (decide (j<i))):=yZ fun _ _ _ _ _ _ _ q=>gt_int q
def OY:aU X (ć .GtE) (mU fun i j=>.bl (decide (j<=i))):=yZ fun _ _ _ _ _ _ _ q=>ge_int q
def Nv:aU X (ć .Is) (fun x y H Q=>y=.aq/\Q (.bl (decide (x=.aq))) H):=by
 intro W s σ H x y v u Q I Z Y h;obtain ⟨rfl,q⟩:=h;cases Y;refine is_none_gen (bL I q ?_)
 cases x<;>first
  |(cases Z;rfl)
  |(obtain ⟨t,rfl⟩:=Z;rfl)
def bP (b:ę) (h:op≠.In:=by decide) (h2:op≠.NotIn:=by decide):Vc op b=false:=by
 have e1:(op==CmpOp.In)=false:=by cases op<;>first|rfl|exact absurd rfl h
 have e2:(op==CmpOp.NotIn)=false:=by cases op<;>first|rfl|exact absurd rfl h2
 cases b<;>simp [Vc,e1,e2]
def LV (ho:aU X (ć op) r) (ha:PE X a ta) (hb:PE X b tb) (hm:Vc op b=false):PE X (.Compare a [op] [b] pos) (rQ r ta tb):=by
 intro Z s σ H Q I h;exact wpAny_Compare1 (yY ha hb I h fun v u Y x y W V U T q=>ho Z Y σ W x y v u Q V U T q) hm
def uV (t:TE):TT:=fun σ H Q=>t σ H fun x Z=>∃k,x=.bl k/\Q k Z
def LW {op:CmpOp} {r:R2} (ho:aU X (ć op) r) (ha:PE X a ta) (hb:PE X b tb) (hm:Vc op b=false):PT X (.Compare a [op] [b] pos) (uV (rQ r ta tb)):=by
 intro Z s σ H Q I h;refine wpAny_isTrue_Compare1 (aA (ha Z s σ H _ I h) fun v Y ⟨x,W,V,U,T⟩=>aA (hb Z Y σ W _ V T) fun u S ⟨y,R,P,O,N⟩ =>
  aA (ho Z S σ R x y v u _ P U O N) fun c G ⟨z,M,L,K,k,e,J⟩=>?_) hm
 subst e;cases K;exact ŀ ⟨M,L,J⟩
def Dw (r r':R2) (ta tb tc:TE):TE:=fun σ H Q=>ta σ H fun x Y=>tb σ Y fun y X=>r x y X fun z Z=>∃k,z=.bl k /\
 (if k=true then tc σ Z fun W V=>r' y W V Q else Q (.bl false) Z)
def Kq {op pk:CmpOp} {r r':R2} (ho:aU X (ć op) r) (jc:aU X (ć pk) r') (ha:PE X a ta) (hb:PE X b tb) (hc:PE X c tc)
  (hm:lastMarks [op,pk] [b,c]=false:=by with_unfolding_all rfl):PE X (.Compare a [op,pk] [b,c] pos) (Dw r r' ta tb tc):=by
 intro Z s σ H Q I h;refine Compare_chain (aA (ha Z s σ H _ I h) fun v T ⟨x,S,R,P,O⟩=>chain_link (aA (hb Z T σ S _ R O) fun u N ⟨y,M,L,Y,K⟩ =>
  aA (ho Z N σ M x y v u _ L P Y K) fun d J ⟨z,W,V,G,k,e,U⟩=>?_)) hm
 subst e;cases G;refine ŀ ?_
 cases k with
 |false=>exact ite_ff ⟨.bl false,W,V,rfl,U⟩
 |true=>exact ite_tt (chain_last (aA (hc Z J σ W _ V U) fun F E ⟨D,C,B,A,w⟩=>jc Z E σ C y D u F Q B Y A w))
def qX (K:Ĉ) (x:V) (H:Hp) (k:Bool):Prop :=
 match x with
 | .aq=>k=false
 | .bl b=>k=b
 | .int i=>k=(i != 0)
 | .str y=>y.length<=Ø/\k=((y.length:Int) != 0)
 | .gL y=>y.size<=Ø/\k=((y.size:Int) != 0)
 | .ref p=>(∃Z,bo K H p Z/\k=!Z.isEmpty)\/(∃Z,aP K H p Z/\k=!Z.isEmpty)\/∃Y,H p=some (.dK Y)/\k=!Y.isEmpty
 |_=>False
def Iv {κ:Type} {ao:List (κ×V)} {vs:List (κ×Ä)} (r:KV ao vs):(!vs.isEmpty)=!ao.isEmpty:=by
 cases r<;>rfl
def BH (r:Vals xs its):(!its.toArray.isEmpty)=!xs.isEmpty:=by
 cases r<;>simp
def l0:(Ø:Nat)<2 ^ 63:=by rw [ο];decide
def Nw:Qq X (fun x H Q=>∃k,qX X.K x H k/\Q k H):=by
 intro G s σ H x v Q I U h;obtain ⟨k,e,q⟩:=h;have F:=l0;have E:Ø=16777216:=ο
 cases x with
 |aq =>
  cases U;have Z:k=false:=e;subst Z;exact truthy_none ⟨H,I,q⟩
 |bl b =>
  cases U;have Z:k=b:=e;subst Z;exact ŀ ⟨H,I,q⟩
 |int i =>
  obtain ⟨t,rfl⟩:=U;have Z:k=(i != 0):=e;subst Z;exact PySem.P.truthy_int ⟨H,I,q⟩
 |str y =>
  obtain ⟨t,rfl⟩:=U;obtain ⟨L,Z⟩:y.length<=Ø/\k=((y.length:Int) != 0):=e;subst Z;exact PySem.P.truthy_str (by omega) ⟨H,I.tok _,q⟩
 |gL y =>
  obtain ⟨t,rfl⟩:=U;obtain ⟨L,Z⟩:y.size<=Ø/\k=((y.size:Int) != 0):=e;subst Z;exact PySem.W.truthy_bytes (by omega) ⟨H,I.tok _,q⟩
 |ref p =>
  cases U;have Z:(∃V,bo X.K H p V/\k=!V.isEmpty)\/(∃V,aP X.K H p V/\k=!V.isEmpty)\/∃T,H p=some (.dK T)/\k=!T.isEmpty:=e
  rcases Z with ⟨V,S,Z⟩ | ⟨V,S,Z⟩ | ⟨T,S,Z⟩
  ·subst Z
   obtain ⟨O,r,N,M⟩:=I.list S;have Y:=r.length;exact wpAny_truthy_list N.isList (by simp only [Õ];omega) ⟨H,I.tok _,by rw [BH r];exact q⟩
  ·subst Z
   obtain ⟨O,r,N,M⟩:=I.tuple S;have Y:=r.length;exact truthy_tuple N (by simp only [Õ];omega) ⟨H,I.tok _,by rw [BH r];exact q⟩
  ·subst Z
   obtain ⟨M,J,R,r,m⟩:T.length<=Ø/\(p==ĸ)=false/\∃R,KV T R/\s.heap.DictOf (hV X.prog X.w) p R:=I.au p _ S;have Y:T.length=R.length:=Paired.length r;exact wpAny_truthy_dict J m (by omega) ⟨H,I.tok _,by rw [Iv r];exact q⟩
 |_=>exact (show False from e).elim
def Kr (ha:PE X a ta) (he:∀whole,isTrue a X.env whole=(do let v <- whole;VU a.pos;U9 [v] (truthy v))) :
  PT X a (fun σ H Q=>ta σ H fun x H'=>∃k,qX X.K x H' k/\Q k H'):=by
 intro Z s σ H Q I h;exact isTrue_plain (aA (ha Z s σ H _ I h) fun v Y ⟨x,W,V,U,T⟩=>Nw Z Y σ W x v Q V U T) (he _)
def Iw:aU X (ĳ .Add) (fun x y H Q=>∃i j,x=.str i/\y=.str j/\i.length+j.length<=Ø/\Q (.str (i++j)) H):=by
 intro U s σ H x y v u Q I Z Y h;obtain ⟨i,j,rfl,rfl,W,q⟩:=h;obtain ⟨t,rfl⟩:=Z;obtain ⟨V,rfl⟩:=Y;exact add_str (fun V T=>⟨.str (i++j),H,I.tok _,⟨_,rfl⟩,q⟩) W
def vals1 (r:Vals [x] us):∃u,us=[u]/\RelV x u:=by
 cases r with
 |cons Z Y=>cases Y;exact ⟨_,rfl,Z⟩
def vals2 (r:Vals [x,y] us):∃u w',us=[u,w']/\RelV x u/\RelV y w':=by
 cases r with
 |cons Z Y =>
  cases Y with
  |cons X W=>cases W;exact ⟨_,_,rfl,Z,X⟩
def Jz (hc:X.calm=true):bQ X (.builtin "max") (fun xs H Q=>∃i j,xs=[.int i,.int j]/\Q (.int (if j > i then j else i)) H):=by
 intro Y s σ H xs W Q I r h;obtain ⟨i,j,rfl,q⟩:=h;obtain ⟨u,V,rfl,⟨t,rfl⟩,⟨U,rfl⟩⟩:=vals2 r;refine max_two_ints (I.ok.hd hc) fun T S k=>⟨_,H,I.kept k,?_,q⟩;by_cases Z:j > i
 ·rw [ê Z,ê Z];exact ⟨_,rfl⟩
 ·rw [ú Z,ú Z];exact ⟨_,rfl⟩
def JA (hc:X.calm=true):bQ X (.builtin "min") (fun xs H Q=>∃i j,xs=[.int i,.int j]/\Q (.int (if j<i then j else i)) H):=by
 intro Y s σ H xs W Q I r h;obtain ⟨i,j,rfl,q⟩:=h;obtain ⟨u,V,rfl,⟨t,rfl⟩,⟨U,rfl⟩⟩:=vals2 r;refine min_two_ints (I.ok.hd hc) fun T S k=>⟨_,H,I.kept k,?_,q⟩;by_cases Z:j<i
 ·rw [ê Z,ê Z];exact ⟨_,rfl⟩
 ·rw [ú Z,ú Z];exact ⟨_,rfl⟩
end
structure UA (h:Į) (x dx C:Ó) (mA:Str->Option Ä):Prop where
 obj:h.get? x=some (PySem.W.instObj C dx)
 ns:h.Ns1 dx mA
 ne:dx≠x
section
variable {prog:á} {w:Ą} {A:ó} {E:Ä->Ã->Prop} {s:Ã} {K:Ĉ} {x dx C f:Ó} {mA:Str->Option Ä} {name:Str} {v:Ä}
end
section
variable {P:á} {w:Ą} {H H':Hp} {h h':Į} {a C dx:Ó} {fs Ro:List (Str×V)}
end
structure Rw (K:Ĉ) (C:Ó):Prop where
 pg:PySem.W.plainGet K C Str.empty=true
 hd:PySem.W.hasDictIn K C=true
 po:PySem.W.plainOver K C=true
 sa:VD K (.ref C) "__setattr__"=some (some (.builtin "object.__setattr__"))
structure UH (K:Ĉ) (C:Ó) (f:Str) (v:V) (u:Ä):Prop where
 at_:VD K (.ref C) f=some (some u)
 rel:RelV v u
 get:PySem.W.specialIn K u "__get__"=some none
 cp:PySem.W.copiedNames.contains f=false
structure Meth (K:Ĉ) (C:Ó) (m:Str) (f:Ó):Prop where
 at_:VD K (.ref C) m=some (some (.ref f))
 fn:PySem.W.isFn K (.ref f)=true
 kp:Ĵ K (.ref f)=true
section
variable {X:Cx} {π:List (Ó×Obj)} {σ:St} {H:Hp} {s:Ã} {a C dx:Ó} {fs:List (Str×V)} {f:Str} {v:V} {A:ó} {E:Ä->Ã->Prop}
end
section
variable {X:Cx} {o e value:ę} {f:Str} {pos pos' oG:Pos} {ta tv:TE}
end
section
variable {X:Cx} {π:List (Ó×Obj)} {σ:St} {H:Hp} {s:Ã} {A:ó} {E:Ä->Ã->Prop} {Q:Ä->Ã->Prop} {c:Ä} {b:Bool}
inductive iY (K:Ĉ) (H:Hp):V->Ä->Prop where
 |aq:iY K H .aq (.type "NoneType")
 |bl (x:Bool):iY K H (.bl x) (.type "bool")
 |int (i:Int):iY K H (.int i) (.type "int")
 |str (x:Str):iY K H (.str x) (.type "str")
 |rB (x:UInt64):iY K H (.rB x) (.type "float")
 |lst {a:Ó} {xs:List V} (e:H a=some (.lst xs)):iY K H (.ref a) (.type "list")
 |aN {a:Ó} {o:Obj} {xs:List V} (e:H a=some (.aN o (.lst xs))):iY K H (.ref a) (.type "list")
 |tup {a:Ó} {xs:List V} (e:H a=some (.tup xs)):iY K H (.ref a) (.type "tuple")
 |dK {a:Ó} {ao:List (Key×V)} (e:H a=some (.dK ao)):iY K H (.ref a) (.type "dict")
 |dT {a:Ó} {ao:List (List Key×V)} (e:H a=some (.dT ao)):iY K H (.ref a) (.type "dict")
 |ins {a C dx:Ó} {fs:List (Str×V)} (e:H a=some (.ins C dx fs)) (cl:Rw K C) (ha:VD K (.ref C) "__class__"=some (some (.builtin "object.__class__")))
   (hn:PySem.W.specialIn K (.builtin "object.__class__") "__get__"=some (some (.builtin "getset_descriptor.__get__"))) (UI:PySem.W.takesIn K (.builtin "object.__class__")=some true)
   (hm:PySem.W.mroIn K C (.type "object")=some true):iY K H (.ref a) (.ref C)
end
structure bg (k:Nat) (A:ó):Prop where
 hd:A.handled=none
 dp:A.depth+3*k+5<recursionLimit
 un:A.units+16*k+200<cLine
 gd:A.guards=some []
def bg.mono (r:bg k A) (h:j<=k):bg j A:=⟨r.hd,by have:=r.dp;omega,by have:=r.un;omega,r.gd⟩
theorem bg.deeper (r:bg (k+1) A) (env:Env):bg k (A.deeper env) :=
 ⟨r.hd,by have:=r.dp;show A.depth+1+3*k+5 < _;omega,by have:=r.un;show A.units+3+16*k+200 < _;omega,r.gd⟩
theorem bg.in1 (r:bg (k+1) A):bg k A.in1 :=
 ⟨r.hd,by have:=r.dp;show A.depth+3*k+5 < _;omega,by have:=r.un;show A.units+1+16*k+200 < _;omega,r.gd⟩
theorem bg.depth (r:bg k A):A.depth<recursionLimit:=by have:=r.dp;omega
def y7:TA:=fun _ H Q=>Q [] H
def uW (ta:TE) (tr:TA):TA:=fun σ H Q=>ta σ H fun x Z=>tr σ Z fun Y X=>Q (x::Y) X
section
variable {X:Cx} {e:ę} {es:List ę} {te:TE} {t:TA} {pos:Pos}
def js:PA X [] y7:=fun _ _ _ _ H Q I h=>Calls.spliced_nil ⟨[],H,I,.nil,h⟩
def gv (ha:PE X e te) (hr:PA X es t) (hs:Ê (e::es) X.env=(false,ĺ e X.env)::Ê es X.env:=by rfl):PA X (e::es) (uW te t):=by
 intro pos Z s σ H Q I h;rw [hs];show Ù _ _ (spliced ((false,ĺ e X.env)::į pos (Ê es X.env))) _ _ s;refine Calls.spliced_cons (aA (ha Z s σ H _ I h) fun u Y ⟨x,W,V,U,T⟩=>?_);exact aA (hr pos Z Y σ W _ V T) fun M L ⟨S,R,P,O,N⟩=>⟨x::S,R,P,.cons U O,N⟩
def Qt (t:TA):TE:=fun σ H Q=>t σ H fun Z Y=>Z.length<=Ø/\∀p,Y p=none->Q (.ref p) (upd Y p (.tup Z))
def Qu (t:TA):TE:=fun σ H Q=>t σ H fun Z Y=>Z.length<=Ø/\∀p,Y p=none->Q (.ref p) (upd Y p (.lst Z))
def Nx {x1} (h:PA X es t):PE X (.Tuple es x1 pos) (Qt t):=by
 intro V s σ H Q I U;refine wpAny_Tuple_spliced (aA (h pos V s σ H _ I U) fun T Z ⟨S,Y,W,r,z,q⟩=>⟨by rw [<- r.length];exact z,?_⟩);have R:Y Z.heap.objs.size=none:=W.au.fresh (Wl _);refine ⟨.ref Z.heap.objs.size,upd Y Z.heap.objs.size (.tup S),W.laid (t':=Z.toks) (fun b u e=>Á _ e) (Wl _) ?_,rfl,q _ R⟩;exact ⟨z,T,r,⟨_,Ì _ rfl,rfl,_,rfl⟩⟩
def Dx (h:PA X es t):PE X (.List es pos) (Qu t):=by
 intro V s σ H Q I U;refine wpAny_List_spliced (aA (h pos V s σ H _ I U) fun T Z ⟨S,Y,W,r,z,q⟩=>⟨by rw [<- r.length];exact z,?_⟩);have R:Y Z.heap.objs.size=none:=W.au.fresh (Wl _);refine ⟨.ref Z.heap.objs.size,upd Y Z.heap.objs.size (.lst S),W.laid (t':=Z.toks) (fun b u e=>Á _ e) (Wl _) ?_,rfl,q _ R⟩;exact ⟨z,T,0,r,Ì _ rfl⟩
end
abbrev Sp:=List V->Hp->VK->XK->Prop
abbrev gM:=List Env->Hp->Ã->XK->Ä->Ã->Prop
structure qY (P:á) (w:Ą) (K:Ĉ) (mg:Str->Option Ä) (base:Į) (A:ó) (outer:List Env) (s:Ã) (H:Hp):Prop where
 frames:A.frames=some outer
 mod:Mod K mg base
 bs:∀b o,base.get? b=some o->s.heap.get? b=some o/\H b=none
 fz:base.objs.size<=s.heap.objs.size
 fv:s.heap.FunFrames base outer
 jb:∀b∈bE outer,H b=none
 au:bB P w H s.heap
 bare:Wb s.gens
def CE (outer:List Env) (P:á) (w:Ą) (H:Hp) (s:Ã) (Q:VK) (u:Ä) (s':Ã):Prop :=
 ∃v Z,s'.os=s.os/\Wb s'.gens/\Un (bE outer) [] H Z s.heap s'.heap/\bB P w Z s'.heap/\RelV v u/\Q v Z
def CR (CX:gM) (outer:List Env) (P:á) (w:Ą) (H:Hp) (s:Ã) (Q:VK) (E:XK) (r:Result) (s':Ã):Prop :=
 match r with
 | .ok (.ret u)=>CE outer P w H s Q u s'
 | .ok _=>False
 | .error e=>CX outer H s E e s'
structure bN (P:á) (w:Ą) (K:Ĉ) (mg:Str->Option Ä) (base:Į) (CX:gM) (k:Nat) (f:Ó) (fd:ė) (ps:List Str) (sp:Sp):Prop where
 len:∀vs H Q E,sp vs H Q E->vs.length=ps.length
 run:∀(A:ó) (outer:List Env) (s:Ã) (H:Hp) (args:Args) (us:List Ä) (vs:List V) (Q:VK) (E:XK),bg k A->qY P w K mg base A outer s H->BindsTo s fd args (ps.zip us)->Vals vs us->sp vs H Q E ->
  Ŭ (ß P w) A (.call (.ref f) args) (CR CX outer P w H s Q E) s
def bN.imp {P:á} {w:Ą} {K:Ĉ} {mg:Str->Option Ä} {base:Į} {CX:gM} {k:Nat} {f:Ó} {fd:ė} {ps:List Str} {sp FX:Sp} (F:bN P w K mg base CX k f fd ps sp)
  (h:∀vs H Q E,FX vs H Q E->sp vs H Q E):bN P w K mg base CX k f fd ps FX :=
 ⟨fun vs H Q E q=>F.len vs H Q E (h _ _ _ _ q),fun A outer s H args Z vs Q E Y X W V U=>F.run A outer s H args Z vs Q E Y X W V (h _ _ _ _ U)⟩
section
variable {X:Cx} {π:List (Ó×Obj)} {σ:St} {H:Hp} {s s':Ã}
def Inv.lu (I:Inv X π σ H s):qY X.prog X.w X.K X.mg X.base X.A X.stack s H :=
 ⟨I.ok.frames,I.ok.mod,I.bs,ã I.ok.fz I.sz,I.stack,I.qd,I.au,I.bare⟩
def Inv.after (I:Inv X π σ H s) (h:CE X.stack X.prog X.w H s Q u s'):EP X π σ Q u s':=by
 obtain ⟨v,Z,os,bare,un,Y,r,q⟩:=h;obtain ⟨W,g,d,t,V⟩:=s';obtain rfl:V=s.os:=os;exact ⟨v,Z,I.call (h':=W) (g':=g) (d':=d) (t':=t) (ch:=[]) un Y bare (fun b z=>absurd z (by simp)),r,q⟩
end
def OZ (sp:Sp) (ai:List V) (E:XK) (t:TA):TE:=fun σ H Q=>t σ H fun Z Y=>sp (Z++ai) Y Q E
def Binds (K:Ĉ) (fd:ė) (ps:List Str) (ds:List Ä):Prop :=
 ∀(s:Ã) (Z:List Ä),K.In s.heap->(Z++ds).length=ps.length->BindsTo s fd ⟨Z,[]⟩ (ps.zip (Z++ds))
def Binds.all {K:Ĉ} {fd:ė} {ps:List Str} (h:∀us:List Ä,us.length=ps.length->bindArgs fd ⟨us,[]⟩=pure (ps.zip us)):Binds K fd ps []:=fun s us _ Z=>by
 rw [Ń] at Z |-;exact .of_eq (h us Z)
def Passes (CX:gM) (X:Cx) (E:XK):Prop:=∀(Y:List (Ó×Obj)) (σ:St) (H:Hp) (s:Ã) (e:Ä) (Z:Ã),Inv X Y σ H s->CX X.stack H s E e Z->X.xe e Z
section
variable {X:Cx} {CX:gM} {k:Nat} {f C:Ó} {fd:ė} {ps:List Str} {sp:Sp} {ai:List V} {ds:List Ä} {E:XK} {x m:Str} {p pos apos:Pos} {e o:ę} {es:List ę} {ta:TE} {t:TA}
def Dy {π:List (Ó×Obj)} {σ:St} {H:Hp} {s:Ã} {Q:VK} {us:List Ä} {vs:List V} (F:bN X.prog X.w X.K X.mg X.base CX k f fd ps sp) (hr:bg k X.A) (hb:Binds X.K fd ps ds) (hd:Vals ai ds) (hx:Passes CX X E)
  (I:Inv X π σ H s) (r:Vals vs us) (h:sp (vs++ai) H Q E):Ù (ß X.prog X.w) X.A (call (.ref f) us) (EP X π σ Q) X.xe s:=by
 have Y:Vals (vs++ai) (us++ds):=r.append hd;have W:(us++ds).length=ps.length:=by rw [<- Y.length];exact F.len _ _ _ _ h
 refine wpAny_call (ŝ (F.run X.A X.stack s H ⟨us,[]⟩ (us++ds) (vs++ai) Q E hr I.lu (hb s us I.iw W) Y h) fun r U Z=>?_)
 cases r with
 |error e=>exact hx π σ H s e U I Z
 |ok T =>
  cases T with
  |ret u=>exact I.after Z
  |next=>exact ĥ Z
  |brk=>exact ĥ Z
  |cont=>exact ĥ Z
def xt (F:bN X.prog X.w X.K X.mg X.base CX k f fd ps sp) (hr:bg k X.A) (hg:Gl X x) (hm:X.mg x=some (.ref f)) (hk:Ĵ X.K (.ref f)=true) (hb:Binds X.K fd ps ds) (hd:Vals ai ds) (hx:Passes CX X E)
  (ha:PA X (e::es) t) (cJ:(x==("__debug__":Str))=false:=by decide) (he:Ê (e::es) X.env=(false,ĺ e X.env)::Ê es X.env:=by rfl) (aQ:(į pos (Ê es X.env)).any (·.1)=false:=by rfl) :
  PE X (.Call (.Name x p) (e::es) [] pos) (OZ sp ai E t):=by
 intro Y s σ H Q I h;refine Ů (qe I hg hm ?_ cJ);refine PySem.W.callWith_K (h₀:=X.base) I.ok.mod.kq hk (aA (ha pos Y s σ H _ I h) fun V U ⟨T,S,Z,r,q⟩=>⟨Z.iw,?_⟩) he aQ;exact Dy F hr hb hd hx Z r q
structure Mk (K:Ĉ) (C f:Ó):Prop where
 makes:PySem.W.makesIn K C=true
 init:VD K (.ref C) "__init__"=some (some (.ref f))
 fn:PySem.W.isFn K (.ref f)=true
 kp:Ĵ K (.ref C)=true
end
def PK (X:Cx) (rR:List Vt) (t:TA):Prop :=
 ∀(pos:Pos) (Z:List (Ó×Obj)) (s:Ã) (σ:St) (H:Hp) (Q:List V->Hp->Prop),Inv X Z σ H s->t σ H Q->Ù (ß X.prog X.w) X.A (evalAll ((backToKw pos (ς rR X.env)).map (·.2))) (AP X Z σ Q) X.xe s
section
variable {X:Cx} {CX:gM} {k:Nat} {f C:Ó} {fd:ė} {ps ks:List Str} {sp:Sp} {E:XK} {x m:Str} {p pos apos vd:Pos} {e o:ę} {es:List ę} {rR:List Vt} {te ta:TE} {t tk:TA} {nm:Option Str}
def Ny:PK X [] y7:=fun _ _ _ _ H Q I h=>wpAny_evalAll_nil ⟨[],H,I,.nil,h⟩
def CO (ha:PE X e te) (hr:PK X rR t):PK X (⟨nm,e,vd⟩::rR) (uW te t):=by
 intro pos Z s σ H Q I h
 show Ù _ _ (evalAll ((do let v <- ĺ e X.env;VU pos;pure v)::(backToKw pos (ς rR X.env)).map (·.2))) _ _ s
 refine wpAny_evalAll_cons (À (aA (ha Z s σ H _ I h) fun u Y ⟨x,W,V,U,T⟩=>À (Ō (Â ?_))));exact aA (hr pos Z Y σ W _ V T) fun M L ⟨S,R,P,O,N⟩=>⟨x::S,R,P,.cons U O,N⟩
structure Uy (K:Ĉ) (fd:ė) (ps ks:List Str) (g:List Ä->List Ä->List Ä) (gV:List V->List V->List V):Prop where
 to:∀(s:Ã) (us ws:List Ä),K.In s.heap->(g us ws).length=ps.length->BindsTo s fd ⟨us,ks.zip ws⟩ (ps.zip (g us ws))
 rel:∀{vs:List V} {us:List Ä} {zs:List V} {ws:List Ä},Vals vs us->Vals zs ws->Vals (gV vs zs) (g us ws)
variable {g:List Ä->List Ä->List Ä} {gV:List V->List V->List V}
end
structure nJ (N P:List Str) (sc:ŷ):Prop where
 kind:sc.kind=.function
 co:sc.isCoroutine=false
 gen:sc.isGenerator=false
 nd:N.Nodup
 pre:N.take P.length=P
 par:∀x∈P,sc.names.lookup x=some .local\/sc.names.lookup x=some .cell
 Nz:∀y∈sc.names,y.2≠.free
theorem BX {kindOf:Str->Option Ő} {x:Str}:∀{binds:List (Str×Ä)} {m:Str->Option Ä},(∀v,(x,v)∉binds)->bindL kindOf binds m x=m x
 | [],_,_=>rfl
 |(n,v)::r,m,h=>by
  unfold bindL;rw [BX fun w hw=>h w (Ï _ hw)];split
  ·have:x≠n:=by rintro rfl;exact h v Ô
   simp [this]
  ·rfl
theorem BY {kindOf:Str->Option Ő} {x:Str}:∀{binds:List (Str×Ä)} {m:Str->Option Ä},(∀v,(x,v)∉binds)->bindC kindOf binds m x=m x
 | [],_,_=>rfl
 |(n,v)::r,m,h=>by
  unfold bindC;rw [BY fun w hw=>h w (Ï _ hw)];split
  ·rfl
  ·have:x≠n:=by rintro rfl;exact h v Ô
   simp [this]
theorem BZ {kindOf:Str->Option Ő} {x:Str} {v:Ä}:∀{P:List Str} {vs:List Ä} {i:Nat} {m:Str->Option Ä},P.Nodup->P[i]?=some x->vs[i]?=some v->kindOf x=some .local ->
  bindL kindOf (P.zip vs) m x=some v
 | [],_,_,_,_,h,_,_=>by simp at h
 |_::_,[],_,_,_,_,h,_=>by simp at h
 |p::P,w::vs,0,m,X,Z,Y,W=>by
  simp at Z Y;subst Z;subst Y;show bindL kindOf ((p,w)::P.zip vs) m p=_;unfold bindL;rw [BX fun v V=>(ű.mp X).1 (List.of_mem_zip V).1,ê W];simp
 |p::P,w::vs,i+1,m,X,Z,Y,W=>by
  show bindL kindOf ((p,w)::P.zip vs) m x=_;unfold bindL;exact BZ (i:=i) (ű.mp X).2 (by simpa using Z) (by simpa using Y) W
theorem B0 {kindOf:Str->Option Ő} {x:Str} {v:Ä}:∀{P:List Str} {vs:List Ä} {i:Nat} {m:Str->Option Ä},P.Nodup->P[i]?=some x->vs[i]?=some v->kindOf x≠some .local ->
  bindC kindOf (P.zip vs) m x=some v
 | [],_,_,_,_,h,_,_=>by simp at h
 |_::_,[],_,_,_,_,h,_=>by simp at h
 |p::P,w::vs,0,m,X,Z,Y,W=>by
  simp at Z Y;subst Z;subst Y;show bindC kindOf ((p,w)::P.zip vs) m p=_;unfold bindC;rw [BY fun v V=>(ű.mp X).1 (List.of_mem_zip V).1,ú W];simp
 |p::P,w::vs,i+1,m,X,Z,Y,W=>by
  show bindC kindOf ((p,w)::P.zip vs) m x=_;unfold bindC;exact B0 (i:=i) (ű.mp X).2 (by simpa using Z) (by simpa using Y) W
def start (N:List Str) (vs:List V):St:=vs.map some++Î (N.length-vs.length) none
def ic (CX:gM) (P:á) (w:Ą) (K:Ĉ) (mg:Str->Option Ä) (base:Į) (N:List Str) (qual:Str) (scope:ŷ) (f:Ó) (cd:Ä) (A:ó) (outer:List Env) (s:Ã) (H:Hp) (E:XK):Cx where
 prog:=P
 w:=w
 K:=K
 mg:=mg
 base:=base
 A:=A.deeper (envOfC qual scope s.heap.objs.size f cd)
 N:=N
 bR:=s
 jF:=H
 env:=envOfC qual scope s.heap.objs.size f cd
 outer:=outer
 stack:=envOfC qual scope s.heap.objs.size f cd::outer
 ex:=[]
 calm:=true
 fn:=fun _=>true
 pn:=[]
 xe:=fun e Y=>Ù (ß P w) (A.deeper (envOfC qual scope s.heap.objs.size f cd)) (leaving (envOfC qual scope s.heap.objs.size f cd) e) (fun _ Z=>CX outer H s E e Z) (fun X Z=>CX outer H s E X Z) Y
def Cn {sc:ŷ} {n:Nat} {x:Str} (h:sc.names.lookup x=some .cell):∃c,(ž n sc.names []).lookup x=some c:=by
 have q:=Vp sc.names n [] (.inl h);exact Option.isSome_iff_exists.mp q
def JB {CX:gM} {P:á} {w:Ą} {K:Ĉ} {mg:Str->Option Ä} {base:Į} {N ps:List Str} {qual:Str} {scope:ŷ} {f:Ó} {cd:Ä} {A:ó} {outer:List Env} {s s1:Ã} {H:Hp} {E:XK} {us:List Ä} {vs:List V}
  (S:nJ N ps scope) (hd:A.handled=none) (e0:qY P w K mg base A outer s H) (hl:vs.length=ps.length) (r:Vals vs us)
  (x:InCallC s s.heap.objs.size (bindL (envOfC qual scope s.heap.objs.size f cd).kindOf (ps.zip us) fun _=>none) (ž (s.heap.objs.size+1) scope.names []) (bindC (envOfC qual scope s.heap.objs.size f cd).kindOf (ps.zip us) fun _=>none) s1) :
  Inv (ic CX P w K mg base N qual scope f cd A outer s H E) [] (start N vs) H s1:=by
 have M:ps.length<=N.length:=by have:=ı List.length S.pre;rw [İ] at this;omega
 obtain ⟨X,L,rfl,U⟩:=x.done;have W:∀b:Ó,b∉(ic CX P w K mg base N qual scope f cd A outer s H E).ex:=fun b z=>absurd (show b∈([]:List Ó) from z) (by simp);refine ⟨⟨e0.mod,S.kind,rfl,rfl,Wl _,fun y z c X Z=>?_,fun y hy=>?_,fun y c _ h=>?_,fun _=>hd,Around.frames_deeper e0.frames,.inr ⟨rfl,rfl⟩,fun b z=>absurd z (W b),e0.bs,e0.fz,fun b _ _=>W b,fun b z=>absurd z (W b),e0.fv,e0.jb⟩,
  rfl,e0.bare,Un.kept U,⟨_,x.toInCall.ns,fun i y v X Z J=>?_⟩,fun y c h=>⟨_,x.cell y c h⟩,e0.au.fresh (Wl _),fun y c h=>?_,fun p Y=>absurd (show p∈([]:List (Ó×Obj)) from Y) (by simp),e0.au.kept U,?_⟩
 ·exact name_of_addr x.apart (ģ X) (ģ Z)
 ·have hy:scope.names.lookup y=some .cell\/scope.names.lookup y=some .free:=hy
  rcases hy with hy|hy
  ·exact Cn hy
  ·exact absurd rfl (S.Nz _ (ģ hy))
 ·exact Nat.le_of_lt (x.above y c (ģ h))
 ·have hi:i<vs.length:=by
   unfold start at Z;by_cases hi:i<vs.length
   ·exact hi
   ·rw [ë (by simpa using hi)] at Z
    rw [ě] at Z
    split at Z<;>cases Z
  have Q:vs[i]?=some v:=by
   unfold start at Z;rw [Û (by simpa using hi),à] at Z
   cases e:vs[i]? with
   |none=>rw [e] at Z;cases Z
   |some a=>rw [e] at Z;cases Z;rfl
  obtain ⟨u,T,O⟩:=r.get Q;have Y:ps[i]?=some y:=by
   rw [<- S.pre,List.getElem?_take_of_lt (by omega)];exact X
  have R:ps.Nodup:=by rw [<- S.pre];exact S.nd.sublist (List.take_sublist _ _)
  refine ⟨u,O,?_⟩
  rcases S.par y (Ė Y) with k|k
  ·exact .inl ⟨k,BZ R Y T k⟩
  ·obtain ⟨c,e⟩:=Cn (n:=s.heap.objs.size+1) k
   refine .inr ⟨.inl k,c,e,?_⟩;have q:=x.cell y c e;rw [B0 R Y T (by show scope.names.lookup y≠_;rw [k];decide)] at q;exact q
 ·exact e0.au.fresh (Nat.le_of_lt (x.above y c (ģ h)))
 ·unfold start
  show _=N.length;rw [ä,Í,Ų];omega
def yw {CX:gM} {P:á} {w:Ą} {K:Ĉ} {mg:Str->Option Ä} {base:Į} {k:Nat} {f:Ó} {name qual:Str} {params:Arguments} {body:List Wc} {scope:ŷ} {dV kV doc pm ba ct oc:Ä} {an od:Option Ó}
  {jO:Array (Option Ä)} {N ps:List Str} {sp:Sp} (lk:K.lookup f=some ⟨oc,od,.func (Ş name qual params body scope dV kV doc pm an ba ct),jO⟩) (dC:VE K ba qual=true) (S:nJ N ps scope)
  (len:∀vs H Q E,sp vs H Q E->vs.length=ps.length)
  (kc:∀(A:ó) (outer:List Env) (s:Ã) (H:Hp) (vs:List V) (Q:VK) (E:XK),bg k (A.deeper (envOfC qual scope s.heap.objs.size f ba))->sp vs H Q E ->
   ∃t,cb (ic CX P w K mg base N qual scope f ba A outer s H E) body t/\t { nx:=fun _ H'=>Q .aq H',rt:=Q } (start N vs) H) :
  bN P w K mg base CX (k+1) f (Ş name qual params body scope dV kV doc pm an ba ct) ps sp:=by
 refine ⟨len,fun A outer s H args G vs Q E U Y F r O=>?_⟩;have D:=len _ _ _ _ O;have M:K.In s.heap:=Y.mod.kq.keeps fun b o e=>(Y.bs b o e).1;have lim:s.heap.NoLimit:=Y.mod.nolimit.keeps fun b o e=>(Y.bs b o e).1;have C:∀y∈ps.zip G,scope.names.lookup y.1=some .local\/(scope.names.lookup y.1=some .cell/\((ž (s.heap.objs.size+1) scope.names []).lookup y.1).isSome=true):=fun ⟨n,v⟩ B=>by
  rcases S.par n (List.of_mem_zip B).1 with q|q
  ·exact .inl q
  ·exact .inr ⟨q,Vp _ _ _ (.inl q)⟩
 refine codeAny_call_function U.depth (M _ _ lk) rfl S.co S.gen rfl (PySem.W.codeRec_of M dC) (F _ _ _ _ ?_);refine wpAny_newFunctionEnv_cells S.kind C fun env z L x=>?_;subst z;refine ⟨lim.keeps x.toInCall.keep,codeAny_func ?_⟩;obtain ⟨t,p,m⟩:=kc A outer s H vs Q E (U.deeper _) O;have I:Inv (ic CX P w K mg base N qual scope f ba A outer s H E) [] (start N vs) H L:=JB S U.hd Y D r x;refine ğ (p [] L (start N vs) H _ I m) (fun l T Z=>?_) fun e T Z=>Z;have fin:∀{X:St} {H':Hp} {v:V} {u:Ä},Inv (ic CX P w K mg base N qual scope f ba A outer s H E) [] X H' T->RelV v u->Q v H'->CE outer P w H s Q u T :=
  fun {X H' v u} J R q=>⟨v,H',J.os,J.bare,J.base,J.au,R,q⟩
 cases l with
 |ret u =>
  obtain ⟨v,X,H',J,R,q⟩:=Z;exact fin J R q
 |next =>
  obtain ⟨X,H',J,q⟩:=Z;exact fin (v:=V.aq) (u:=Value.none) J rfl q
 |brk =>
  obtain ⟨_,_,_,q⟩:=Z;exact ĥ q
 |cont =>
  obtain ⟨_,_,_,q⟩:=Z;exact ĥ q
section
variable {X:Cx} {x:Str} {p pos:Pos} {e:ę} {es:List ę} {t:TA} {id T:String} {r:List V->Hp->VK->Prop}
def zO (r:List V->Hp->VK->Prop) (t:TA):TE:=fun σ H Q=>t σ H fun Z Y=>r Z Y Q
def tB (hc:bQ X (.builtin id) r) (hg:Gl X x) (hm:X.mg x=none) (hv:ì x=some (.builtin id)) (ha:PA X (e::es) t) (hn:x≠"__name__":=by decide) (cJ:(x==("__debug__":Str))=false:=by decide)
  (he:Ê (e::es) X.env=(false,ĺ e X.env)::Ê es X.env:=by rfl) (aQ:(į pos (Ê es X.env)).any (·.1)=false:=by rfl):PE X (.Call (.Name x p) (e::es) [] pos) (zO r t):=by
 intro Z s σ H Q I h;refine Ů (kQ I hg hm hv ?_ hn cJ);exact PyProof.Rows.callWith_builtin1 (aA (ha pos Z s σ H _ I h) fun Y W ⟨V,U,T,S,R⟩=>hc Z W σ U V Y Q T S R) he aQ
def B1 (hc:bQ X (.type T) r) (hg:Gl X x) (hm:X.mg x=none) (hv:ì x=some (.type T)) (ha:PA X (e::es) t) (hn:x≠"__name__":=by decide) (cJ:(x==("__debug__":Str))=false:=by decide)
  (he:Ê (e::es) X.env=(false,ĺ e X.env)::Ê es X.env:=by rfl) (aQ:(į pos (Ê es X.env)).any (·.1)=false:=by rfl):PE X (.Call (.Name x p) (e::es) [] pos) (zO r t):=by
 intro Z s σ H Q I h;refine Ů (kQ I hg hm hv ?_ hn cJ);exact Ĩ (aA (ha pos Z s σ H _ I h) fun Y W ⟨V,U,S,R,P⟩=>hc Z W σ U V Y Q S R P) he aQ
end
end L2
namespace HT
open PySem PyProof.Rows
def Ks (A:ó) (s:Ã) (a:Int) (t:Tok) (c:Int) (u:Tok) (prog:á) (w:Ą) (E:Ä->Ã->Prop) (Q:Ä->Ã->Prop) (h:Q (.bool (decide (a<c))) s) :
  Ù (ß prog w) A (richCompare .Lt (.int a t) (.int c u)) Q E s :=
 (PyProof.Rows.lt_int h:Ù (ß prog w) A (ć .Lt (.int a t) (.int c u)) Q E s)
section
open PySem.SeqAt
open PySem.AutoSeq1 (wpAny_loadPart')
open PySem.MeetsSeq PySem.MeetsSeq2 PySem.MeetsSeq3
end
section
variable {prog:á} {w:Ą} {A:ó} {E:Ä->Ã->Prop} {s:Ã}
def LX (ht:IsTup s.heap t vs.toArray) (hb:IsTup s.heap b ws.toArray) (hv:vs≠[])
 (h1:ws=[]->Q (.ref t) s) (h2:ws≠[]->Q (.ref s.heap.objs.size) { s with heap:=s.heap.push { cls:=.type "tuple",data:=.seq (vs++ws).toArray } })
 (hsz:vs.length+ws.length<=Ø):Ù (ß prog w) A (ĳ .Add (.ref t) (.ref b)) Q E s:=by
 obtain ⟨⟨cls,X,data,W⟩,Z,V,n,U⟩:=id ht;obtain ⟨⟨O,T,data2,S⟩,Y,R,P,hd2⟩:=id hb;simp only at V U R hd2;subst V U R hd2;have e:vs.toArray++ws.toArray=(vs++ws).toArray:=by simp
 by_cases hw:ws=[]
 ·exact concat_meets ⟨_,Z,rfl⟩ ⟨_,Y,rfl⟩ noFill_tuple_add seq_tuple_add Vq Vd (ω _ _)
   (tuple_addW1 t b vs.toArray ws.toArray n P X T W S (by simpa using hv) (by simp [hw])) ⟨Z,Y,h1 hw⟩
 ·refine concat_meets ⟨_,Z,rfl⟩ ⟨_,Y,rfl⟩ noFill_tuple_add seq_tuple_add Vq Vd (ω _ _)
   (tuple_addW2 t b vs.toArray ws.toArray n P X T W S (by simpa using hv) (by simpa using hw) (by rw [Õ,Õ];exact hsz)) ⟨Z,Y,?_⟩
  rw [e];exact h2 hw
noncomputable def aJ (n d:Nat):Option Int->Nat
 |none=>d
 |some v=>if v<0 then (v+(n:Int)).toNat else min v.toNat n
def CP (n d k:Nat):aJ n d (some (k:Int))=min k n:=by
 show (if (k:Int)<0 then ((k:Int)+(n:Int)).toNat else min (k:Int).toNat n)=min k n
 rw [ú (by omega),Ħ]
def NA (n d:Nat) (hd:d<=n) (o:Option Int):aJ n d o<=n:=by
 cases o with
 |none=>exact hd
 |some v =>
  show (if v<0 then (v+(n:Int)).toNat else min v.toNat n)<=n
  by_cases Z:v<0
  ·rw [ê Z];omega
  ·rw [ú Z];exact Nat.min_le_right _ _
def CQ (v:Int) (n d:Nat):(if v<0 then max (v+(n:Int)) 0 else min v (n:Int))=((aJ n d (some v):Nat):Int):=by
 show (if v<0 then max (v+(n:Int)) 0 else min v (n:Int))=(((if v<0 then (v+(n:Int)).toNat else min v.toNat n):Nat):Int)
 by_cases Z:v<0
 ·simp only [ê Z];omega
 ·simp only [ú Z];omega
def Iy (lo hi:Option Int) (n:Nat):ſ lo hi 1 (n:Int)=(((aJ n 0 lo:Nat):Int),((aJ n n hi:Nat):Int)):=by
 have Z:¬ ((1:Int)<0):=by omega
 unfold ſ;simp only [Z,û];refine Prod.ext ?_ ?_
 ·cases lo with
  |none=>rfl
  |some v=>exact CQ v n 0
 ·cases hi with
  |none=>rfl
  |some v=>exact CQ v n n
def Iz (i j:Nat):ŏ (i:Int) (j:Int) 1=j-i:=by
 unfold ŏ;have Z:(1:Int) > 0:=by omega
 simp only [Z,ă,Int.ediv_one]
 split<;>omega
def BI (p:IsPart v o) (h:Q o s):Ù (ß prog w) A (Builtin.Slice.slicePartIndex v) Q E s:=by
 cases p with
 |none=>exact slicePart_none h
 |int i t=>exact slicePart_int h
def Br {lo hi:Option Int} {n:Nat} {Q:Int×Int×Nat->Ã->Prop} (hs:s.heap.IsSliceOf sl vl vu .none) (pl:IsPart vl lo) (pu:IsPart vu hi)
 (h:Q (((aJ n 0 lo:Nat):Int),1,aJ n n hi-aJ n 0 lo) s):Ù (ß prog w) A (V4 (.ref sl) (pure (n:Int))) Q E s:=by
 obtain ⟨os,Z,X,Y⟩:=id hs;unfold V4 Builtin.Slice.sliceFields;refine À (À (Ċ Z Y (x:=vl) rfl (À (Ċ Z Y (x:=vu) rfl (À (Ċ Z Y (x:=.none) rfl (Â ?_)))))));refine À (slicePart_none ?_)
 show Ù _ _ (if ((1:Int)==0)=true then _ else _) _ _ s
 rw [ú (by decide)];refine À (BI pl (À (BI pu (À (Â ?_)))))
 show Ù _ _ (match ſ lo hi 1 (n:Int) with | (lo,hi)=>pure (lo,(1:Int),ŏ lo hi 1)) _ _ s
 rw [Iy lo hi n];show Ù _ _ (pure (((aJ n 0 lo:Nat):Int),(1:Int),ŏ ((aJ n 0 lo:Nat):Int) ((aJ n n hi:Nat):Int) 1)) _ _ s;rw [Iz];exact Â h
def Kt (xs:Array Ä) (i k:Nat):((Ĺ k).filterMap fun (m:Nat)=>xs[((i:Int)+(m:Int)*1).toNat]?).toArray=((xs.toList.drop i).take k).toArray:=by
 have e:(fun (m:Nat)=>xs[((i:Int)+(m:Int)*1).toNat]?)=fun m=>xs[i+m]?:=by
  funext m;have:((i:Int)+(m:Int)*1).toNat=i+m:=by omega
  rw [this]
 rw [e];have:=pick_run xs i k;rw [List.filterMap_map] at this;have e2:((fun x=>xs[x]?) ∘ fun x=>i+x)=fun m=>xs[i+m]?:=rfl;rw [e2] at this;rw [this]
def G9 {lo hi:Option Int} {Q:Ä->Ã->Prop} (ht:IsTup s.heap t items) (hs:s.heap.IsSliceOf sl vl vu .none) (pl:IsPart vl lo) (pu:IsPart vu hi)
 (hw:¬ (aJ items.size 0 lo=0/\aJ items.size items.size hi=items.size))
 (h:Q (.ref s.heap.objs.size) { s with heap:=s.heap.push { cls:=.type "tuple",data:=.seq ((items.toList.drop (aJ items.size 0 lo)).take (aJ items.size items.size hi-aJ items.size 0 lo)).toArray } })
 (hsz:items.size<=Ø):Ù (ß prog w) A (getItem (.ref t) (.ref sl)) Q E s:=by
 have Z:sizeOk (.seq ((items.toList.drop (aJ items.size 0 lo)).take (aJ items.size items.size hi-aJ items.size 0 lo)).toArray):=by
  show ((items.toList.drop (aJ items.size 0 lo)).take (aJ items.size items.size hi-aJ items.size 0 lo)).toArray.size<=Ø;rw [Õ,İ,ţ,Ā];omega
 have U:aJ items.size items.size hi<=items.size:=NA _ _ (Wl _) hi;obtain ⟨os,Y,X,T⟩:=id hs;have W:s.TypeIs (.ref sl) "slice":=⟨os,Y,X⟩;unfold getItem
 try with_reducible refine ą ?_
 first|refine À (Â ?_)|skip
 refine À (wpAny_sequenceKey ht.typeIs (by decide) ?_);refine À (ï (name:=Ă "__getitem__") ht.typeIs ċ
  (ø ċ ht.typeIs entry_tuple_getitem ?_ (args_tuple_getitem _ _)))
 show Ù _ _ (ż (.ref t) >>= _) _ _ s;refine À (tupleItemsOf_ ht ?_);refine À (VJ W ?_);rw [ê (by decide)];refine À (Br hs pl pu ?_);have V:¬ ((((aJ items.size 0 lo:Nat):Int)==0&&(1:Int)==1&&(aJ items.size items.size hi-aJ items.size 0 lo)==items.size)=true):=by
  intro q;rw [Ë,Ë] at q;have S:((aJ items.size 0 lo:Nat):Int)=0:=eq_of_beq q.1.1;have R:aJ items.size items.size hi-aJ items.size 0 lo=items.size:=eq_of_beq q.2;exact hw ⟨by omega,by omega⟩
 show Ù _ _ (if (((aJ items.size 0 lo:Nat):Int)==0&&(1:Int)==1&&(aJ items.size items.size hi-aJ items.size 0 lo)==items.size)=true then _ else _) _ _ s
 rw [ú V,Kt]
 first
  |exact À (m:=Ļ _) (ô (Â ⟨_,rfl,Â h⟩) Z)
  |exact À (m:=Ļ _) (ô (À (Â (Â ⟨_,rfl,Â h⟩))) Z)
  |exact À (À (m:=Ļ _) (ô (Â (Â ⟨_,rfl,Â h⟩)) Z))
  |exact À (À (m:=Ļ _) (ô (Â ⟨_,rfl,Â h⟩) Z))
end
end HT
namespace L2
open PySem PySem.Spec PyProof.Rows
abbrev TO:=St->Hp->(Option Int->Hp->Prop)->Prop
def PO (X:Cx) (e:Option ę) (t:TO):Prop :=
 ∀(Z:List (Ó×Obj)) (s:Ã) (σ:St) (H:Hp) (Q:Option Int->Hp->Prop),Inv X Z σ H s->t σ H Q ->
  Ù (ß X.prog X.w) X.A (evalPart e X.env) (fun u W=>∃o Y,Inv X Z σ Y W/\IsPart u o/\Q o Y) X.xe s
def LY:TO:=fun _ H Q=>Q none H
def O1 (t:TE):TO:=fun σ H Q=>t σ H fun x Z=>∃i,x=.int i/\Q (some i) Z
def intsAre_of:∀{us:List Ä},Vals (ns.map V.int) us->Vu us ns:=by
 induction ns with
 |nil=>intro us r;rw [ō] at r;cases r;exact .nil
 |cons n ns ih =>
  intro us r;rw [ç] at r
  cases r with
  |cons Z Y =>
   obtain ⟨t,e⟩:=Z;subst e;exact .cons n t (ih Y)
section
variable {X:Cx} {e:ę} {te:TE} {lo hi:Option ę} {tl th:TO} {pos p2:Pos}
def LZ:PO X none LY:=by
 intro Z s σ H Q I h;rw [evalPart_none];exact Â ⟨none,H,I,.none,h⟩
def L0 (h:PE X e te):PO X (some e) (O1 te):=by
 intro Z s σ H Q I hw;rw [evalPart_some];refine aA (h Z s σ H _ I hw) fun u T ⟨x,Y,W,V,U⟩=>?_;obtain ⟨i,rfl,q⟩:=U;obtain ⟨t,rfl⟩:=V;exact ⟨some i,Y,W,.int i t,q⟩
def rS (X:Cx) (r:V->Option Int->Option Int->Hp->VK->Prop):Prop :=
 ∀(Z:List (Ó×Obj)) (s:Ã) (σ:St) (H:Hp) (x:V) (v Y W:Ä) (lo hi:Option Int) (U:Ó) (Q:VK),Inv X Z σ H s->RelV x v->s.heap.IsSliceOf U Y W .none->IsPart Y lo->IsPart W hi->r x lo hi H Q ->
  ∃T id,typeLookup (.type T) "__getitem__"=pure (some (.builtin id))/\s.TypeIs v T/\Ù (ß X.prog X.w) X.A (getItem v (.ref U)) (EP X Z σ Q) X.xe s
def Rx (r:V->Option Int->Option Int->Hp->VK->Prop) (te:TE) (tl th:TO):TE:=fun σ H Q=>te σ H fun x Z=>tl σ Z fun l Y=>th σ Y fun u X=>r x l u X Q
def Ku (hr:rS X r) (he:PE X e te) (hl:PO X lo tl) (hu:PO X hi th):PE X (.Subscript e (.Slice lo hi none p2) pos) (Rx r te tl th):=by
 intro Y s σ H Q I h;refine Subscript_ (aA (he Y s σ H _ I h) fun v S ⟨x,R,P,O,N⟩=>?_);refine wpAny_Slice (aA (hl Y S σ R _ P N) fun W M ⟨l,L,K,J,G⟩=>aA (hu Y M σ L _ K G) fun V Z ⟨u,U,F,pu,E⟩=>?_);rw [evalPart_none];refine Â ?_
 have D:Inv X Y σ U { Z with heap:=Z.heap.push { cls:=.type "slice",data:=.fields #[W,V,.none] } }:=F.kept (t':=Z.toks) fun b y q=>Á _ q
 obtain ⟨T,id,C,B,z⟩:=hr Y { Z with heap:=Z.heap.push { cls:=.type "slice",data:=.fields #[W,V,.none] } } σ U x v W V l u Z.heap.objs.size Q D O (Heap.IsSliceOf.new ..) J pu E
 show Ù (ß X.prog X.w) X.A (subscriptTail e (.Slice lo hi none p2) v (.ref Z.heap.objs.size)) (EP X Y σ Q) X.xe { Z with heap:=Z.heap.push { cls:=.type "slice",data:=.fields #[W,V,.none] } }
 exact tail_any (ops:=[.ref Z.heap.objs.size,v]) B C z (by with_unfolding_all rfl)
noncomputable def iZ (xs:List V) (lo hi:Option Int):List V:=(xs.drop (HT.aJ xs.length 0 lo)).take (HT.aJ xs.length xs.length hi-HT.aJ xs.length 0 lo)
def BD (xs:List V) (lo hi:Option Int):(iZ xs lo hi).length<=xs.length:=by
 unfold iZ;rw [İ,ţ];omega
def Qv (K:Ĉ):V->Option Int->Option Int->Hp->VK->Prop:=fun x lo hi H Q=>∃a Z,x=.ref a/\aP K H a Z /\
 ¬ (HT.aJ Z.length 0 lo=0/\HT.aJ Z.length Z.length hi=Z.length)/\∀p,H p=none->Q (.ref p) (upd H p (.tup (iZ Z lo hi)))
def Dz:rS X (Qv X.K):=by
 intro O s σ H x v N M lo hi L Q I T S R pu h;obtain ⟨a,Y,rfl,P,hw,q⟩:=h;cases T;obtain ⟨W,r,V,U⟩:=I.tuple P;have Z:W.toArray.size=Y.length:=by rw [Õ];exact r.length.symm
 refine ⟨"tuple",_,ċ.lookup,V.typeIs,?_⟩;refine HT.G9 V S R pu (by rw [Z];exact hw) ?_ (by rw [Z];exact U);rw [Z];refine ⟨.ref s.heap.objs.size,_,I.laid (t':=s.toks) (o:=.tup (iZ Y lo hi)) (fun b J q=>Á _ q) (Wl _) ?_,rfl,q _ (I.au.fresh (Wl _))⟩;exact ⟨ã (BD Y lo hi) U,_,(r.drop (HT.aJ Y.length 0 lo)).take (HT.aJ Y.length Y.length hi-HT.aJ Y.length 0 lo),IsTup.new _ _⟩
def O2 (K:Ĉ):R2:=fun x y H Q=>∃a b Y Z,x=.ref a/\y=.ref b/\aP K H a Y/\aP K H b Z/\Y≠[]/\Y.length+Z.length<=Ø /\
 (Z=[]->Q (.ref a) H)/\(Z≠[]->∀p,H p=none->Q (.ref p) (upd H p (.tup (Y++Z))))
def Vals.xu (r:Vals xs us):us=[]↔xs=[]:=by
 cases r with
 |nil=>simp
 |cons _ _=>simp
def L3:aU X (ĳ .Add) (O2 X.K):=by
 intro G s σ H x y v u Q I V U h;obtain ⟨a,b,T,S,rfl,rfl,R,P,O,W,N,M⟩:=h;cases V;cases U;obtain ⟨L,Y,J,_⟩:=I.tuple R;obtain ⟨F,Z,p2,_⟩:=I.tuple P;refine HT.LX J p2 (fun z=>O (Y.xu.mp z)) (fun z=>⟨.ref a,H,I,rfl,N (Z.xu.mp z)⟩) (fun z=>?_) (by rw [<- Y.length,<- Z.length];exact W);refine ⟨.ref s.heap.objs.size,_,I.laid (t':=s.toks) (o:=.tup (T++S)) (fun b E q=>Á _ q) (Wl _) ?_,rfl,M (fun w=>z (Z.xu.mpr w)) _ (I.au.fresh (Wl _))⟩;exact ⟨by rw [ä];exact W,_,Y.append Z,IsTup.new _ _⟩
end
noncomputable def eR (n:Nat) (i:Int):Option Nat:=if 0<=i then (if i<n then some i.toNat else none) else if -(n:Int)<=i then some (i+n).toNat else none
def cW {α:Type} (xs:List α) (i:Int):Option α:=(eR xs.length i).bind fun j=>xs[j]?
def CS (h:eR n i=some j):seqIndex? i n=some j/\j<n/\-(n:Int)<=i/\i<n:=by
 unfold eR at h;by_cases Y:0<=i
 ·rw [ê Y] at h
  by_cases Z:i<n
  ·rw [ê Z] at h
   have e:i.toNat=j:=Wm h;exact ⟨by rw [seqIndex_of Y Z,e],by omega,by omega,Z⟩
  ·rw [ú Z] at h;cases h
 ·rw [ú Y] at h
  by_cases Z:-(n:Int)<=i
  ·rw [ê Z] at h
   have e:(i+n).toNat=j:=Wm h;exact ⟨by rw [seqIndex_neg (by omega) Z,e],by omega,Z,by omega⟩
  ·rw [ú Z] at h;cases h
def xw {α:Type} {xs:List α} {i:Int} {v:α} (h:cW xs i=some v):∃j,seqIndex? i xs.length=some j/\xs[j]?=some v/\j<xs.length/\-(xs.length:Int)<=i/\i<xs.length:=by
 unfold cW at h
 cases e:eR xs.length i with
 |none=>rw [e] at h;cases h
 |some j =>
  rw [e] at h;obtain ⟨Z,Y,X,W⟩:=CS e;exact ⟨j,Z,h,Y,X,W⟩
def L4 {α:Type} {xs:List α} {j:Nat} {v:α} (h:xs[j]?=some v):cW xs (j:Int)=some v:=by
 have Z:j<xs.length:=(È.mp h).1;have e:eR xs.length (j:Int)=some j:=by
  unfold eR;rw [ê (by omega),ê (by omega)];simp
 unfold cW;rw [e];exact h
def CU (b:ę):Prop:=∀o i,subscripted b false o i=operate [o,i] (getItem o i)
def rT (X:Cx) (r:R2):Prop :=
 ∀(value slice:ę) (Z:List (Ó×Obj)) (s:Ã) (σ:St) (H:Hp) (x y:V) (v u:Ä) (Q:VK),Inv X Z σ H s->RelV x v->RelV y u->r x y H Q ->
  subscripted slice false v u=operate [v,u] (getItem v u)->Ù (ß X.prog X.w) X.A (subscriptTail value slice v u) (EP X Z σ Q) X.xe s
def zQ (X:Cx) (id:String) (r:V->List V->Hp->VK->Prop):Prop :=
 ∀(Z:List (Ó×Obj)) (s:Ã) (σ:St) (H:Hp) (x:V) (Y:List V) (v:Ä) (W:List Ä) (Q:VK),Inv X Z σ H s->RelV x v->Vals Y W->r x Y H Q ->
  Ù (ß X.prog X.w) X.A (call (.builtin id) (v::W)) (EP X Z σ Q) X.xe s
section
variable {X:Cx} {a b:ę} {ta tb:TE} {pos:Pos}
def O3 (hr:rT X r) (ha:PE X a ta) (hb:PE X b tb) (hs:CU b):PE X (.Subscript a b pos) (rQ r ta tb):=by
 intro Z s σ H Q I h;exact Subscript_ (yY ha hb I h fun v u Y x y W V U T q=>hr a b Z Y σ W x y v u Q V U T q (hs _ _))
def Qw (K:Ĉ):R2:=fun x y H Q=>∃p Z i v,x=.ref p/\y=.int i/\bo K H p Z/\cW Z i=some v/\Q v H
def Qx (K:Ĉ):R2:=fun x y H Q=>∃p Z i v,x=.ref p/\y=.int i/\aP K H p Z/\cW Z i=some v/\Q v H
def Qy:R2:=fun x y H Q=>∃z i c,x=.str z/\y=.int i/\z.length<=Ø/\cW z.cps.toList i=some c/\Q (.str ⟨#[c]⟩) H
def CV:rT X (Qw X.K):=by
 intro value slice U s σ H x y v u Q I P O h T;obtain ⟨p,C,i,z,rfl,rfl,N,M,q⟩:=h;cases P;obtain ⟨t,rfl⟩:=O;obtain ⟨Y,r,W,B⟩:=I.list N;obtain ⟨j,Z,L,A,J,G⟩:=xw M;obtain ⟨w,S,F⟩:=r.get L;have E:=r.length;have o:=l0;have fin:EP X U σ Q w s:=⟨z,H,I,F,q⟩;by_cases R:0<=i
 ·have V:i.toNat=j:=by
   rw [seqIndex_of R G] at Z;exact Wm Z
  exact item_listR W.isList R (by omega) (by rw [V];simpa using S) fin T
 ·have V:(i+(Y.toArray.size:Int)).toNat=j:=by
   rw [seqIndex_neg (by omega) J] at Z;rw [Õ,<- E];exact Wm Z
  exact subscriptTail_builtinR (x:=w) W.isList.typeIs slot_list_getitem.lookup
   (wpAny_getItem_list_neg (Q:=fun r D=>r=w/\EP X U σ Q r D) W.isList (by omega) (by rw [Õ]<;>omega) (by omega) (by rw [V];simpa using S) ⟨rfl,fin⟩) T
def NB:rT X (Qx X.K):=by
 intro value slice Z s σ H x y v u Q I W V h U;obtain ⟨p,G,i,z,rfl,rfl,T,S,q⟩:=h;cases W;obtain ⟨t,rfl⟩:=V;obtain ⟨R,r,Y,F⟩:=I.tuple T;obtain ⟨j,P,O,E,D,C⟩:=xw S;obtain ⟨w,N,M⟩:=r.get O;have L:=r.length;have B:=l0;have fin:EP X Z σ Q w s:=⟨z,H,I,M,q⟩;exact subscriptTail_builtinR (x:=w) Y.typeIs slot_tuple_getitem.lookup
  (getItem_tuple (j:=j) (Q:=fun r J=>r=w/\EP X Z σ Q r J) Y (by omega) (by omega) (by rw [Õ,<- L];exact P) (by simpa using N) ⟨rfl,fin⟩) U
def NC:rT X Qy:=by
 intro value slice O s σ H x y v u Q I Y W h V;obtain ⟨z,i,c,rfl,rfl,N,U,q⟩:=h;obtain ⟨t,rfl⟩:=Y;obtain ⟨M,rfl⟩:=W;obtain ⟨j,Z,T,L,S,R⟩:=xw U;have P:z.cps.toList.length=z.length:=by simp [Str.length]
 rw [P] at Z S R;have K:=l0;exact tail_any (typeIs_str s z t) slot_str_getitem.lookup (getItem_str (c:=c) (by
  have e1:decide (i < -(2 ^ 63:Int))=false:=Ę (by omega);have e2:decide (i ≥ 2 ^ 63)=false:=Ę (by omega);rw [e1,e2,Bool.or_false]) (by rw [Z];simpa using T) ⟨.str ⟨#[c]⟩,H,I.tok _,⟨_,rfl⟩,q⟩) V
def IA (its:List Ä) (n j:Nat) (u:Ä):Ł (·.setIfInBounds j u) { cls:=.type "list",data:=.seq its.toArray n }={ cls:=.type "list",data:=.seq (its.set j u).toArray n }:=by
 simp [Ł]
theorem Inv.lst {π:List (Ó×Obj)} {σ:St} {H:Hp} {s:Ã} {p:Ó} {xs:List V} (I:Inv X π σ H s) (h:H p=some (.lst xs)) :
  ∃(its:List Ä) (n:Nat),Vals xs its/\s.heap.get? p=some { cls:=.type "list",data:=.seq its.toArray n }/\xs.length<=Ø:=by
 obtain ⟨z,its,n,r,e⟩:=I.au p _ h;exact ⟨its,n,r,e,z⟩
def Inv.ND {π:List (Ó×Obj)} {σ:St} {H:Hp} {s:Ã} {p:Ó} {xs ys:List V} {its its':List Ä} {n n':Nat} {f:Obj->Obj} (I:Inv X π σ H s) (h:H p=some (.lst xs))
  (ho:s.heap.get? p=some { cls:=.type "list",data:=.seq its.toArray n }) (hf:f { cls:=.type "list",data:=.seq its.toArray n }={ cls:=.type "list",data:=.seq its'.toArray n' }) (r:Vals ys its') (hz:ys.length<=Ø) (t:Nat) :
  Inv X π σ (upd H p (.lst ys)) { s with heap:=s.heap.update p f,toks:=t }:=by
 have e:(s.heap.update p f).get? p=some { cls:=.type "list",data:=.seq its'.toArray n' }:=by
  rw [ü f ho (by rw [hf]<;>rfl),hf]
 refine I.write (x:=p) (e:=p) (by rw [h];trivial) (.inl rfl) (fun b u Z q=>(ĉ _ _ (Œ Z)).trans q) ⟨_,e⟩ ?_;exact ⟨hz,its',n',r,e⟩
def O4:V->V->V->Hp->(Hp->Prop)->Prop:=fun o i v H Q=>∃p Z k j,o=.ref p/\i=.int k/\H p=some (.lst Z)/\eR Z.length k=some j/\Q (upd H p (.lst (Z.set j v)))
def set_list:Fc X O4:=by
 intro M s σ H o i v D C u Q I L K J h;obtain ⟨p,G,k,j,rfl,rfl,S,F,q⟩:=h;cases L;obtain ⟨t,rfl⟩:=K;obtain ⟨Z,n,r,V,E⟩:=I.lst S;obtain ⟨Y,B,R,P⟩:=CS F;have U:=r.length;have A:=l0
 have O:Inv X M σ (upd H p (.lst (G.set j v))) { s with heap:=s.heap.update p (Ł (·.setIfInBounds j u)) } :=
  I.ND S V (IA Z n j u) (r.set J j) (by rw [Ć];exact E) s.toks
 by_cases N:0<=k
 ·have T:k.toNat=j:=by
   rw [seqIndex_of N P] at Y;exact Wm Y
  exact PySem.W.ki_setAt V N (by omega) (by rw [Õ,<- U];exact P) (by rw [T];exact ⟨_,O,q⟩)
 ·have T:(k+(Z.toArray.size:Int)).toNat=j:=by
   rw [seqIndex_neg (by omega) R] at Y;rw [Õ,<- U];exact Wm Y
  exact PySem.W.ki_setBack V (by omega) (by rw [Õ,<- U];exact R) (by omega) (by rw [T];exact ⟨_,O,q⟩)
def Hu (lo hi:Option Int) (n:Nat):(Vv lo hi none n).1=((HT.aJ n 0 lo:Nat):Int)/\(Vv lo hi none n).2.1=((HT.aJ n n hi:Nat):Int)/\(Vv lo hi none n).2.2=1:=by
 refine ⟨?_,?_,rfl⟩
 ·cases lo with
  |none=>simp [Vv,HT.aJ]
  |some i =>
   simp only [Vv,HT.aJ,Option.getD_none,show (1:Int) > 0 by decide,ă];by_cases h:i<0
   ·simp only [h,ă]<;>omega
   ·simp only [h,û]<;>omega
 ·cases hi with
  |none=>simp [Vv,HT.aJ]
  |some i =>
   simp only [Vv,HT.aJ,Option.getD_none,show (1:Int) > 0 by decide,ă];by_cases h:i<0
   ·simp only [h,ă]<;>omega
   ·simp only [h,û]<;>omega
def Hk (its:List Ä) (lo hi:Option Int):slicePick its.toArray lo hi none=((its.drop (HT.aJ its.length 0 lo)).take (HT.aJ its.length its.length hi-HT.aJ its.length 0 lo)).toArray:=by
 obtain ⟨Z,Y,X⟩:=Hu lo hi its.toArray.size;unfold slicePick;rw [Z,Y,X]
 simp only [sliceRange_one,pick_run,Õ]<;>rfl
def Qz (K:Ĉ):V->Option Int->Option Int->Hp->VK->Prop:=fun x lo hi H Q=>∃a Z,x=.ref a/\bo K H a Z/\∀p,H p=none->Q (.ref p) (upd H p (.lst (iZ Z lo hi)))
def L5:rS X (Qz X.K):=by
 intro O s σ H x v N M lo hi L Q I V U T pu h;obtain ⟨a,Z,rfl,S,q⟩:=h;cases V;obtain ⟨R,r,W,P⟩:=I.list S;have Y:=r.length;refine ⟨"list",_,slot_list_getitem.lookup,W.isList.typeIs,?_⟩
 refine wpAny_getItem_list_slice W.isList U T pu .none (by simp) ?_ (by rw [Õ]<;>omega)
 rw [Hk,<- Y];refine ⟨.ref s.heap.objs.size,_,I.laid (t':=s.toks) (o:=.lst (iZ Z lo hi)) (fun b J q=>Á _ q) (Wl _) ?_,rfl,q _ (I.au.fresh (Wl _))⟩;exact ⟨ã (BD Z lo hi) P,_,0,(r.drop (HT.aJ Z.length 0 lo)).take (HT.aJ Z.length Z.length hi-HT.aJ Z.length 0 lo),Ì _ rfl⟩
def wx:bQ X (.builtin "len") (fun xs H Q=>∃p ys,xs=[.ref p]/\(bo X.K H p ys\/aP X.K H p ys)/\Q (.int ys.length) H):=by
 intro S s σ H xs R Q I r h;obtain ⟨p,ys,rfl,hq,q⟩:=h;obtain ⟨u,rfl,U⟩:=vals1 r;cases U;have P:=l0
 rcases hq with hq|hq
 ·obtain ⟨Y,W,V,T⟩:=I.list hq
  have Z:=W.length
  exact Calls.call_len_list V.isList (by simp only [Õ]<;>omega) ⟨.int ys.length,H,I.tok _,⟨s.toks+1,by rw [Õ,Z]⟩,q⟩
 ·obtain ⟨Y,W,V,T⟩:=I.tuple hq
  have Z:=W.length
  exact len_tuple V (by simp only [Õ]<;>omega) ⟨.int ys.length,H,I.tok _,⟨s.toks+1,by rw [Õ,Z]⟩,q⟩
def Hv:bQ X (.builtin "len") (fun xs H Q=>∃z,xs=[.str z]/\z.length<=Ø/\Q (.int z.length) H):=by
 intro Z s σ H xs Y Q I r h;obtain ⟨z,rfl,W,q⟩:=h;obtain ⟨u,rfl,t,rfl⟩:=vals1 r;have V:=l0;exact len_str (by omega) ⟨.int z.length,H,I.tok _,⟨_,rfl⟩,q⟩
def Bv:bQ X (.type "list") (fun xs H Q=>∃p ys,xs=[.ref p]/\(bo X.K H p ys\/aP X.K H p ys)/\∀l,H l=none->Q (.ref l) (upd H l (.lst ys))):=by
 intro L s σ H xs G Q I r h;obtain ⟨p,ys,rfl,hq,q⟩:=h;obtain ⟨u,rfl,J⟩:=vals1 r;cases J;have fin:∀(Z:List Ä),Vals ys Z->ys.length<=Ø->∀(Y:Į) (W:Nat),(∀b M,s.heap.get? b=some M->Y.get? b=some M) ->
   Y.get? s.heap.objs.size=some { cls:=.type "list",dict:=none,data:=.seq Z.toArray W,slots:=#[] }->EP X L σ Q (.ref s.heap.objs.size) { s with heap:=Y }:=fun Z V U Y W T e =>
  ⟨.ref s.heap.objs.size,_,I.laid (t':=s.toks) T (Wl _) (show bM X.prog X.w _ Y _ (.lst ys) from ⟨U,Z,W,V,e⟩),rfl,q _ (I.au.fresh (Wl _))⟩
 rcases hq with hq|hq
 ·obtain ⟨Z,V,R,U⟩:=I.list hq
  have S:=V.length;obtain ⟨o,P,O,n,N⟩:=R.isList
  exact call_list_seq p (.inl rfl) P O N (fun Y W T e=>fin Z V U Y W T e) (by simp only [Õ]<;>omega)
 ·obtain ⟨Z,V,R,U⟩:=I.tuple hq
  have S:=V.length;obtain ⟨o,P,O,n,N⟩:=R
  exact call_list_seq p (.inr rfl) P O N (fun Y W T e=>fin Z V U Y W T e) (by simp only [Õ]<;>omega)
def Bs:bQ X (.type "tuple") (fun xs H Q=>∃p ys,xs=[.ref p]/\((bo X.K H p ys/\∀l,H l=none->Q (.ref l) (upd H l (.tup ys)))\/(aP X.K H p ys/\Q (.ref p) H))):=by
 intro T s σ H xs L Q I r h;obtain ⟨p,ys,rfl,h⟩:=h;obtain ⟨u,rfl,O⟩:=vals1 r;cases O
 rcases h with ⟨W,q⟩ | ⟨W,q⟩
 ·obtain ⟨Z,V,U,S⟩:=I.list W
  have R:=V.length
  refine call_tuple_list U.isList (fun Y N=>?_) (by simp only [Õ]<;>omega)
  have P:Inv X T σ H { s with heap:=Y }:=I.kept (t':=s.toks) N
  have M:Inv X T σ (upd H Y.objs.size (.tup ys)) { s with heap:=Y.push { cls:=.type "tuple",data:=.seq Z.toArray } } :=
   P.laid (t':=s.toks) (fun b o e=>Á _ e) (Wl _) (show bM X.prog X.w _ _ _ (.tup ys) from ⟨S,Z,V,IsTup.new _ _⟩)
  exact ⟨.ref Y.objs.size,_,M,rfl,q _ (P.au.fresh (Wl _))⟩
 ·obtain ⟨Z,V,U,S⟩:=I.tuple W
  exact call_tuple_same U ⟨.ref p,H,I,rfl,q⟩
def FZ (K:Ĉ) (T:String) (x:V) (H:Hp):Prop:=match x with
 | .str _=>T="str"
 | .int _=>T="int"
 | .ref p=>(T="list"/\∃Y,bo K H p Y)\/(T="tuple"/\∃o,K.lookup p=some o/\o.cls=.type "tuple"/\o.dict=none) \/
   (T="dict"/\((∃Z,H p=some (.dK Z))\/∃Z,H p=some (.dT Z)))\/(T="set"/\∃S n,H p=some (.set S n))
 |_=>False
def NF {π:List (Ó×Obj)} {σ:St} {H:Hp} {s:Ã} {T:String} {x:V} {v:Ä} (I:Inv X π σ H s) (r:RelV x v) (ty:FZ X.K T x H) :
  s.TypeIs v T/\∀a,v=.ref a->∃ob,s.heap.get? a=some ob/\ob.dict=none:=by
 cases x with
 |str z =>
  obtain ⟨t,rfl⟩:=r;cases (show T="str" from ty)
  exact ⟨typeIs_str s z t,fun _ e=>nomatch e⟩
 |int i =>
  obtain ⟨t,rfl⟩:=r;cases (show T="int" from ty)
  exact ⟨typeIs_int s i t,fun _ e=>nomatch e⟩
 |ref p =>
  cases r
  rcases ty with ⟨rfl,O,U⟩ | ⟨rfl,o,Z,R,Y⟩ | ⟨rfl,Z⟩ | ⟨rfl,S,n,Z⟩
  ·obtain ⟨Q,_,W,_⟩:=I.list U
   refine ⟨W.isList.typeIs,fun a e=>?_⟩;cases e;obtain ⟨o,n,e,c,Y,_⟩:=W;exact ⟨o,e,Y⟩
  ·refine ⟨⟨o,I.iw p o Z,R⟩,fun a e=>?_⟩
   cases e;exact ⟨o,I.iw _ o Z,Y⟩
  ·have z:∃o,s.heap.get? p=some o/\o.ExactDict:=by
    rcases Z with ⟨P,Z⟩ | ⟨P,Z⟩
    ·obtain ⟨_,_,_,_,o,_,_,e,ex,_⟩:=I.au p _ Z
     exact ⟨o,e,ex⟩
    ·obtain ⟨_,_,_,_,o,_,_,e,ex,_⟩:=I.au p _ Z
     exact ⟨o,e,ex⟩
   obtain ⟨o,e,ex⟩:=z;refine ⟨⟨o,e,ex.1⟩,fun a e2=>?_⟩;cases e2;exact ⟨o,e,ex.2.1⟩
  ·obtain ⟨o,_,_,_,e,ex,_⟩:=I.au p _ Z
   refine ⟨⟨o,e,ex.1⟩,fun a e2=>?_⟩;cases e2;exact ⟨o,e,ex.2.1⟩
 |_=>exact ĥ ty
def Ry (K:Ĉ) (T:String) (r:V->List V->Hp->VK->Prop) (to:TE) (t:TA):TE:=fun σ H Q=>to σ H fun x Z=>FZ K T x Z/\t σ Z fun Y X=>r x Y X Q
variable {o e:ę} {es:List ę} {to:TE} {t:TA} {name:Str} {apos bh:Pos} {T id:String} {r:V->List V->Hp->VK->Prop}
def yx (pa:PlainAttrs T) (slot:Slot T name id) (Rz:typeOf (.builtin id)=pure (.type "method_descriptor")) (hm:zQ X id r) (ho:PE X o to) (ha:PA X (e::es) t)
  (mi:Ve o name X.env (ĺ o X.env)=ĺ o X.env:=by rfl)
  (mG:((į bh (Ê (e::es) X.env)).all (fun x=>!x.1)&&(backToKw bh (ς [] X.env)).all (fun x=>x.1.isSome)
   && decide ((e::es).length+([]:List Vt).length+(if ([]:List Vt).isEmpty then 0 else 1)<30))=true:=by rfl)
  (mj:(apos.endLine==bh.line)=true:=by rfl) (hs:Ê (e::es) X.env=(false,ĺ e X.env)::Ê es X.env:=by rfl) (iQ:(į bh (Ê es X.env)).any (·.1)=false:=by rfl) :
  PE X (.Call (.Attribute o name apos) (e::es) [] bh) (Ry X.K T r to t):=by
 intro Z s σ H Q I h;refine wpAny_Call_method_late mi mG mj rfl (aA (ho Z s σ H _ I h) fun v U ⟨x,S,Y,W,ty,R⟩=>?_);obtain ⟨P,O⟩:=NF Y W ty;refine ⟨T,id,pa,slot,Rz,P,O,?_⟩;have V:=ha bh Z U σ S _ Y R;rw [hs] at V |-
 refine Calls.callWith_builtin (by show (false||(į bh (Ê es X.env)).any (·.1))=false;rw [iQ]<;>rfl) (Calls.evalArgs_plain ?_)
 exact aA V fun N M ⟨L,J,G,F,E⟩=>hm Z M σ J x L v N Q G W F E
end
def RA (X:Cx) (id:String) (r:V->List V->Hp->VK->Prop):Prop :=
 ∀(Z:List (Ó×Obj)) (s:Ã) (σ:St) (H:Hp) (x:V) (Y:List V) (v:Ä) (W:List Ä) (Q:VK),Inv X Z σ H s->RelV x v->Vals Y W->r x Y H Q ->
  Ù (ß X.prog X.w) X.A (call (.builtin id) (v::W)) (EP X Z σ Q) X.xe s
def Vals.one:∀{x:V} {us:List Ä},Vals [x] us->∃u,us=[u]/\RelV x u
 |_,_,.cons r .nil=>⟨_,rfl,r⟩
theorem Vals.rep (h:Vals xs us):∀k:Nat,Vals (Î k xs).flatten (Î k us).flatten
 |0=>.nil
 |k+1=>by
  rw [Ĳ,Ĳ,Ŗ,Ŗ];exact Vals.append h (Vals.rep h k)
theorem foldl_rep (its:List Ä):∀(k:Nat) (acc:List Ä),
  List.foldl (fun x1 x2=>x1++x2) acc.toArray (Î k its.toArray)=(acc++(Î k its).flatten).toArray
 |0,acc=>by simp
 |k+1,acc=>by
  have e:acc.toArray++its.toArray=(acc++its).toArray:=by simp
  have e2:(acc++its)++(Î k its).flatten=acc++(Î (k+1) its).flatten:=by
   rw [Ĳ,Ŗ,Ź]
  rw [<- e2,<- foldl_rep its k (acc++its),<- e,Ĳ,List.foldl_cons]
section
variable {X:Cx} {π:List (Ó×Obj)} {σ:St} {H:Hp} {s:Ã} {l b:Ó} {xs ys zs:List V}
def Inv.QA {its its':List Ä} {n:Nat} {f:Array Ä->Array Ä} {t':Nat} (I:Inv X π σ H s) (hH:H l=some (.lst xs))
  (e:s.heap.get? l=some { cls:=.type "list",data:=.seq its.toArray n }) (hf:f its.toArray=its'.toArray) (hv:Vals ys its') (hz:ys.length<=Ø) :
  Inv X π σ (upd H l (.lst ys)) { s with heap:=s.heap.update l (Ł f),toks:=t' }:=by
 have q:=PySem.IsL.update e f;rw [hf] at q;refine I.write (x:=l) (e:=l) (by rw [hH];exact trivial) (.inl rfl) (fun W u Z Y=>(ĉ s.heap (Ł f) (Œ Z)).trans Y) ⟨_,q⟩ ?_;exact ⟨hz,its',_,hv,q⟩
def Inv.Fh (I:Inv X π σ H s) (hv:Vals ys its) (hz:ys.length<=Ø) :
  Inv X π σ (upd H s.heap.objs.size (.lst ys)) { s with heap:=s.heap.push { cls:=.type "list",data:=.seq its.toArray },toks:=t' } :=
 I.laid (fun _ _ q=>Á _ q) (Wl _) ⟨hz,its,0,hv,Ì _ rfl⟩
theorem Inv.fresh (I:Inv X π σ H s):H s.heap.objs.size=none:=I.au.fresh (Wl _)
def Inv.ve (I:Inv X π σ H s) (hH:H l=some (.lst xs)):xs.length<=Ø/\∃(its:List Ä) (n:Nat),Vals xs its/\xs.length=its.length/\s.heap.get? l=some { cls:=.type "list",data:=.seq its.toArray n }:=by
 obtain ⟨z,its,n,r,e⟩:=I.au l _ hH;exact ⟨z,its,n,r,r.length,e⟩
def Kv (h:n<=Ø):U7 n=false:=by
 unfold U7;exact Ę (by omega)
end
section
variable {X:Cx}
def L6:V->List V->Hp->VK->Prop:=fun x Y H Q=>∃l Z y,x=.ref l/\Y=[y]/\H l=some (.lst Z)/\Z.length<Ø/\Q .aq (upd H l (.lst (Z++[y])))
def JC:RA X "list.append" L6:=by
 intro T s σ H x S v R Q I W V h;obtain ⟨l,P,y,rfl,rfl,Y,O,q⟩:=h;cases W;obtain ⟨u,rfl,U⟩:=V.one;obtain ⟨z,Z,n,r,N,e⟩:=I.ve Y;refine call_meets F.slot_list_append ⟨_,e,rfl⟩ F.entry_list_append (F.args_list_append_2 _ _) (PySem.list_append l Z.toArray n u (by rw [Õ];omega)) ⟨e,?_⟩;refine ⟨.aq,_,I.QA (its':=Z++[u]) Y e (by simp) (r.append (.cons U .nil)) ?_,rfl,q⟩;rw [ä,List.length_singleton];omega
def QC:R2:=fun x y H Q=>∃l b Z zs,x=.ref l/\y=.ref b/\H l=some (.lst Z)/\H b=some (.lst zs)/\Z.length+zs.length<=Ø/\∀p,H p=none->Q (.ref p) (upd H p (.lst (Z++zs)))
def NG:aU X (ĳ .Add) QC:=by
 intro O s σ H x y v u Q I W V h;obtain ⟨l,b,N,zs,rfl,rfl,U,T,M,q⟩:=h;cases W;cases V;obtain ⟨z,Z,n,r,L,e⟩:=I.ve U;obtain ⟨K,Y,J,S,G,e2⟩:=I.ve T;refine PySem.P.add_list e e2 ?_ (by rw [Õ,Õ];omega);have R:Z.toArray++Y.toArray=(Z++Y).toArray:=by simp
 rw [R];exact ⟨.ref _,_,I.Fh (t':=s.toks) (r.append S) (by rw [ä];omega),rfl,q _ I.fresh⟩
def QD:R2:=fun x y H Q=>∃l k Z,x=.ref l/\y=.int k/\H l=some (.lst Z)/\-(2 ^ 63)<=k/\k<2 ^ 63/\Z.length*k.toNat<=Ø /\
 ∀p,H p=none->Q (.ref p) (upd H p (.lst (Î k.toNat Z).flatten))
def len_rep {α:Type} (xs:List α) (k:Nat):(Î k xs).flatten.length=k*xs.length:=by
 induction k with
 |zero=>simp
 |succ k ih=>rw [Ĳ,Ŗ,ä,ih,Nat.succ_mul,Nat.add_comm]
def NH:aU X (ĳ .Mult) QD:=by
 intro C s σ H x y v u Q I R P h;obtain ⟨l,k,B,rfl,rfl,O,N,M,S,q⟩:=h;cases R;obtain ⟨t,rfl⟩:=P;obtain ⟨z,Z,n,r,L,e⟩:=I.ve O;have Y:Z.toArray.size*k.toNat<=Ø:=by rw [Õ,<- L];exact S
 have K:¬ Z.toArray.size*k.toNat > (2 ^ 63-1) / 8:=by
  have:(Ø:Nat)<=(2 ^ 63-1) / 8:=by decide
  omega
 have J:¬ (!Builtin.List.listFitsIndex k)=true:=by
  rw [fitsIndex_both N M];exact Ñ
 have G:¬ U7 (Z.toArray.size*k.toNat)=true:=by
  rw [Kv Y];exact Ñ
 have E:List.foldl (fun W V=>W++V) #[] (Î (if Z.toArray.isEmpty=true then 0 else k.toNat) Z.toArray)=(Î k.toNat Z).flatten.toArray:=by
  have f0:∀m:Nat,List.foldl (fun W V=>W++V) #[] (Î m Z.toArray)=(Î m Z).flatten.toArray:=fun m=>by
   have:=foldl_rep Z m [];rw [ĩ] at this;exact this
  rw [f0]
  cases Z with
  |nil=>simp
  |cons a A=>rw [ú (by simp)]
 refine wpAny_binaryOp_repeat_ref (T:="list") (U:="int") (by decide) ⟨_,e,rfl⟩ (fun D=>typeIs_int D k t) noFill_list_mul F.fills_int_mul VW repeat_list F.slot_int_index.lookup
  (call_meets VW (typeIs_int s k t) F.entry_int_rmul (F.args_int_rmul_2 _ _) (int___rmul___int_list k t l Z.toArray n)
   ⟨e,rfl,⟨_,e,rfl⟩,call_meets F.slot_list_mul ⟨_,e,rfl⟩ F.entry_list_mul (F.args_list_mul_2 _ _) (AutoListH.list___mul___list_int_3 l Z.toArray n k t J K G) ⟨e,?_⟩⟩)
 rw [E];exact ⟨.ref _,_,I.Fh (t':=s.toks) (r.rep k.toNat) (by rw [len_rep,Nat.mul_comm];exact S),rfl,q _ I.fresh⟩
end
section
variable {prog:á} {w:Ą} {A:ó} {E:Ä->Ã->Prop} {s:Ã}
set_option maxRecDepth 100000 in
end
section
variable {X:Cx}
end
end L2
namespace F0
open PySem PySem.W PySem.Calls PyProof.Rows
def Hd:∀(ns:List Int) (vs:List Ä),WellAll P h vs (ns.map WData.int)->Vu vs ns:=by
 intro ns
 induction ns with
 |nil =>
  intro vs w;rw [ō] at w;cases w;exact .nil
 |cons n ns ih =>
  intro vs w;rw [ç] at w
  cases w with
  |cons a b =>
   cases a;exact .cons _ _ (ih _ b)
def JD {l:OpenLaw} {n:Nat} (hn:l.most=some n) {P:Params} {h:Į} {args:List WData} {vals:List Ä}
  (vf:l.row.toRowW.claim.pre args=true) (zR:WellAll P h vals args) :
  ∃a vs ns,vals=[VH a]/\args=[WData.list (ns.map WData.int)]/\h.get? a=some { cls:=.type "list",data:=.seq vs.toArray }/\Vu vs ns/\ns.length<=n:=by
 have V:WShape.hasAll [] args [.list .int]=true:=(pre_splitW vf).1;have W:l.pre.holds [] { args:=args }=true:=(pre_splitW vf).2;obtain ⟨d,r,rfl,U,T⟩:=hasAllW_cons V;obtain rfl:=hasAllW_nil T;obtain ⟨L,rfl,S⟩:=hasW_list U;obtain ⟨ns,rfl⟩:=items_int S;have Z:ns.length<=n:=by
  unfold OpenLaw.pre at W;have Y:(WTm.not (.lt (.lit (.int (n:Int))) (.len (.arg 0)))).holds [] { args:=[.list (ns.map .int)] }=true:=by
   have Y:=(holds_andW W).1;rw [hn] at Y;exact Y
  have X:=condW_of Y (w_not (w_lt w_lit (w_len_list (w_arg rfl))));rw [Í] at X;refine ι fun q=>?_;have R:(n:Int)<((ns.length:Nat):Int):=by omega
  first
   |(rw [ò R] at X;exact absurd X (by decide))
   |(simp at X;omega)
 cases zR with
 |cons Q O =>
  cases O
  cases Q with
  |list N M=>exact ⟨_,_,ns,rfl,rfl,N,Hd ns _ M,Z⟩
def JE (l:OpenLaw) (args:List WData):l.row.toRowW.claim.post args (.bool true) args=true :=
 postW_of (r:=l.row.toRowW) (X:=(true==true))
  (show WShape.has [] (.bool true) .bool=true by first|rfl|decide|simp [WShape.has,WShape.arms,WShape.armsAll])
  (show (WTm.eq .res (.lit (.bool true))).value [] { args:=args,res:=some (.bool true),after:=args }=some (.bool (true==true)) from w_eq_bool (w_res rfl) w_lit) rfl
def HV {l:OpenLaw} {n:Nat} {q:á} {loose:List Str} {XP:(Str->Option Ä)->Į->Prop} {YP:Ą->Į->Prop} {d:DefRec}
  (hn:l.most=some n) (rV:d.params.defaults=[])
  (call:∀(w:Ą) (bR bb:Ã) (mg mb:Str->Option Ä) (fa:Ó) (o:Obj) (pm cd doc:Ä) (a:Ó) (vs:List Ä) (ns:List Int),
   Ground q loose [] XP w bR mg mb bb.heap->YP w bb.heap ->
   bb.heap.get? fa=some o->o.data=.func (docDef d.name d.params d.body d.scope pm cd doc)->bb.heap.CodeRec cd d.name->mg d.name=some (.ref fa) ->
   bb.heap.get? a=some { cls:=.type "list",data:=.seq vs.toArray }->Vu vs ns->ns.length<=n->bb.gens=#[] ->
   Ŭ (ß l.prog w) callerA (.call (.ref fa) ⟨[.ref a],[]⟩) (fun r s'=>r=.ok (.ret (.bool true))/\OldK bb.heap s'.heap/\s'.os=bb.os/\Wb s'.gens) bb) :
  WalkO q loose XP YP l.row.toRowW d [] (fun f vs=>PySem.call f vs):=by
 intro w bR bb mg mb G Y fa o pm cd doc W kV V U T X S R args vals as Q I H P F;obtain rfl:W=.none:=Dflts.none X rV;obtain rfl:kV=.none:=Dflts.noKw X;obtain ⟨a,vs,ns,rfl,rfl,O,hints,Z⟩:=JD hn Q P;refine enter_call (ŝ (call w bR bb mg mb fa o pm cd doc a vs ns G Y V (fd_plain U) T S O hints Z R) fun r s' N=>?_);obtain ⟨rfl,M,L,K⟩:=N
 exact ⟨.inl ⟨.bool true,.bool true,[],rfl,fun _=>rfl,.bool true,JE l _,fun _=>⟨List.Pairwise.nil,fun _ J=>(nomatch J)⟩⟩,M,L,K⟩
section
variable {prog:á} {w:Ą} {A:ó} {E:Ä->Ã->Prop} {s:Ã} {K:Ĉ}
noncomputable def ledger (h:Į) (L d:Ó):List (Ó×Obj):=(Ĺ h.objs.size).filterMap fun a=>if a=L\/a=d then none else (h.get? a).map fun o=>(a,o)
end
end F0
namespace L2
open PySem PySem.Spec PyProof.Rows
theorem B4:∀{vs:List Ä} {ns:List Int},Vu vs ns->Vals (ns.map V.int) vs
 |_,_,.nil=>.nil
 |_,_,.cons n t h=>.cons ⟨t,rfl⟩ (B4 h)
noncomputable abbrev UK {K:Ĉ} {h:Į} (_:K.In h):Ĉ:=K
noncomputable def lX (s:Wc):Arguments:=match s with
 | .FunctionDef _ a _ _ _ _ _ _ _ _=>a
 |_=>{ posonlyargs:=[],args:=[],vararg:=none,kwonlyargs:=[],kw_defaults:=[],kwarg:=none,defaults:=[] }
noncomputable def gw (s:Wc):List Wc:=match s with
 | .FunctionDef _ _ b _ _ _ _ _ _ _=>b
 |_=>[]
noncomputable def cm (s:Wc):ŷ:=match s with
 | .FunctionDef _ _ _ _ _ _ sc _ _ _=>sc
 |_=>{ kind:=.function,names:=[],isGenerator:=false,isCoroutine:=false }
abbrev cH:gM:=fun _ _ _ _ _ _=>False
abbrev E0:XK:=fun _ _ _=>False
def En:Passes cH X E0:=fun _ _ _ _ _ _ _ h=>h.elim
structure mY (K:Ĉ) (x qual:Str) (st:Wc) (f:Ó) (fd:ė):Prop where
 ex:∃(oc:Ä) (od:Option Ó) (kV doc pm:Ä) (an:Option Ó) (ba ct:Ä) (jO:Array (Option Ä)),
  fd=Ş x qual (lX st) (gw st) (cm st) .none kV doc pm an ba ct/\K.lookup f=some ⟨oc,od,.func fd,jO⟩/\VE K ba qual=true
 kp:Ĵ K (.ref f)=true
section
variable {P:á} {w:Ą} {K:Ĉ} {mg:Str->Option Ä} {base:Į}
def mY.ok {x qual:Str} {st:Wc} {f:Ó} {fd:ė} {N ps:List Str} {k:Nat} {sp:Sp} (F:mY K x qual st f fd) (S:nJ N ps (cm st)) (len:∀vs H Q E,sp vs H Q E->vs.length=ps.length)
  (kc:∀(ba:Ä) (A:ó) (outer:List Env) (s:Ã) (H:Hp) (vs:List V) (Q:VK) (E:XK),bg k (A.deeper (envOfC qual (cm st) s.heap.objs.size f ba))->sp vs H Q E ->
   ∃t,cb (ic cH P w K mg base N qual (cm st) f ba A outer s H E).kr (gw st) t/\t { nx:=fun _ H'=>Q .aq H',rt:=Q } (start N vs) H):bN P w K mg base cH (k+1) f fd ps sp:=by
 obtain ⟨W,U,kV,doc,pm,an,ba,T,R,rfl,lk,Z⟩:=F.ex;refine yw lk Z S len fun A outer s H vs Q E Y X=>?_;obtain ⟨t,h,q⟩:=kc ba A outer s H vs Q E Y X;exact ⟨t,h.kr,q⟩
def mY.binds {x qual:Str} {st:Wc} {f:Ó} {fd:ė} {ps:List Str} (F:mY K x qual st f fd)
  (h:∀(kV doc pm:Ä) (an:Option Ó) (ba ct:Ä) (us:List Ä),us.length=ps.length->bindArgs (Ş x qual (lX st) (gw st) (cm st) .none kV doc pm an ba ct) ⟨us,[]⟩=pure (ps.zip us)):Binds K fd ps []:=by
 obtain ⟨Z,Y,kV,doc,pm,an,ba,ct,X,rfl,lk,W⟩:=F.ex;exact .all (h kV doc pm an ba ct)
def DA {x qual:Str} {st:Wc} {f:Ó} {oc:Ä} {od an:Option Ó} {jO:Array (Option Ä)} {kV doc pm ba ct:Ä} (l:K.lookup f=some ⟨oc,od,.func (Ş x qual (lX st) (gw st) (cm st) .none kV doc pm an ba ct),jO⟩)
  (c:VE K ba qual=true) (k:Ĵ K (.ref f)=true):mY K x qual st f (Ş x qual (lX st) (gw st) (cm st) .none kV doc pm an ba ct):=⟨⟨oc,od,kV,doc,pm,an,ba,ct,jO,rfl,l,c⟩,k⟩
end
section
variable {X:Cx}
end
def i4 (H H':Hp):Prop:=∀b o,H b=some o->H' b=some o
def i4.refl (H:Hp):i4 H H:=fun _ _ h=>h
def IC (J:Nat->Ã->Prop)
 (turn:∀n s,J n s->Ù (ß P w) A (Ŕ eO) (fun r s1=>match r with
   |none=>R (.ok .next) s1
   |some v=>Ù (ß P w) A (ł tg eO v) (fun _ s2=>Ù (ß P w) A (Vo tg ce v) (fun _ s3 =>
     Ù (ß P w) A (forIn tests true fun c r=>if r=true then do let ok <- isTrue c ce (ĺ c ce);pure (Ī ok) else pure (Ī r)) (fun ok s4 =>
      if ok=true then Ù (ß P w) A (ĺ el ce) (fun y s5=>Ù (ß P w) A (call (.builtin "list.append") [av,y]) (fun _ s6=>∃m,m<n/\J m s6) (fun _ _=>False) s5) (fun _ _=>False) s4
      else ∃m,m<n/\J m s4) (fun _ _=>False) s3) (fun _ _=>False) s2) (fun _ _=>False) s1) (fun _ _=>False) s)
 (n:Nat) (h:J n s):Ŭ (ß P w) A (.compLoop (.ListComp el [⟨tg,src,tests,0⟩] sc ps) 0 eO av ce) R s:=by
 refine codeAny_loop rfl J (fun n s X=>?_) n h
 show Ù _ A ((compTurn (.ListComp el [⟨tg,src,tests,0⟩] sc ps) 0 eO av ce).onRaise (fun x=>do noteFrame x ce;theTreesLotGoes x)) _ _ s
 refine wpAny_noted ?_;rw [compTurn_list];refine À (Ō (À (ğ (turn n s X) (fun r s1 Z=>?_) fun _ _ z=>z.elim)))
 cases r with
 |none=>exact Â Z
 |some v =>
  refine À (ğ Z (fun _ s2 W=>?_) fun _ _ z=>z.elim);refine À (ğ W (fun _ s3 V=>À (ğ V (fun ok s4 Y=>?_) fun _ _ z=>z.elim)) fun _ _ z=>z.elim)
  cases ok with
  |false=>exact Â ⟨rfl,Y⟩
  |true =>
   exact À (À (ğ Y (fun y s5 U=>À (ğ U (fun _ s6 T=>Â (Â ⟨rfl,T⟩)) fun _ _ z=>z.elim)) fun _ _ z=>z.elim))
theorem w9 (env:Env):∀(l:List (Str×Ő)) (acc:List (Str×Ó)),(∀n,(n,å)∈l->∃c,env.cells.lookup n=some c) ->
  ∃cl,(forIn l acc (fun (p:Str×Ő) (cs:List (Str×Ó))=>(do
   if (p.2==å)=true then do let c <- cellOf env p.1;pure (Ī ((p.1,c)::cs)) else pure (Ī cs):Sem (ForInStep (List (Str×Ó))))))=pure cl /\
   ∀n c,cl.lookup n=some c↔(((n,å)∈l/\env.cells.lookup n=some c)\/((n,å)∉l/\acc.lookup n=some c))
 | [],acc,_=>⟨acc,rfl,fun n c=>by simp⟩
 |(x,k)::r,acc,h=>by
  rw [Vf]
  cases Y:(k==å) with
  |false =>
   have U:k≠.free:=by intro e;rw [e] at Y;cases Y
   obtain ⟨cl,e,q⟩:=w9 env r acc fun n X=>h n (Ï _ X);refine ⟨cl,?_,fun n c=>?_⟩
   ·simp only [Ç,û]
    exact e
   ·rw [q n c]
    have:(n,å)∈(x,k)::r↔(n,å)∈r:=by
     constructor
     ·intro Z
      rcases Ö.mp Z with z|z
      ·injection z with _ T
       exact absurd T.symm U
      ·exact z
     ·exact Ï _
    rw [this]
  |true =>
   have S:k=.free:=by cases k<;>first|rfl|cases Y
   subst S;obtain ⟨R,W⟩:=h x Ô;obtain ⟨cl,e,q⟩:=w9 env r ((x,R)::acc) fun n X=>h n (Ï _ X);refine ⟨cl,?_,fun n c=>?_⟩
   ·simp only [ă,cellOf,W]
    exact e
   ·rw [q n c]
    by_cases V:n=x
    ·subst V
     constructor
     ·rintro (⟨_,z⟩ | ⟨_,z⟩)
      ·exact .inl ⟨Ô,z⟩
      ·rw [Đ,Ť] at z
       exact .inl ⟨Ô,W.trans z⟩
     ·rintro (⟨_,z⟩ | ⟨z,_⟩)
      ·by_cases Z:(n,å)∈r
       ·exact .inl ⟨Z,z⟩
       ·refine .inr ⟨Z,?_⟩
        rw [Đ,Ť];exact W.symm.trans z
      ·exact absurd Ô z
    ·have:(n,å)∈(x,å)::r↔(n,å)∈r:=by
      constructor
      ·intro Z
       rcases Ö.mp Z with z|z
       ·injection z with Q _
        exact absurd Q V
       ·exact z
      ·exact Ï _
     rw [this,Đ,beq_false_of_ne V]
def DB (h:∀n,(n,å)∈sc.names->∃c,env.cells.lookup n=some c) :
  ∃cl,closureFor sc env=pure cl/\∀n c,cl.lookup n=some c↔((n,å)∈sc.names/\env.cells.lookup n=some c):=by
 obtain ⟨cl,e,q⟩:=w9 env sc.names [] h;refine ⟨cl,?_,fun n c=>?_⟩
 ·unfold closureFor
  exact (ı (fun z:Sem (List (Str×Ó))=>z >>= fun r=>pure r) e)
 ·rw [q n c]
  simp
theorem Co (f:Str->Ő->Ő) (x:Str):∀l:List (Str×Ő),(l.map fun p=>(p.1,f p.1 p.2)).lookup x=(l.lookup x).map (f x)
 | []=>rfl
 |(n,k)::r=>by
  rw [ç,Đ,Đ]
  cases h:x==n with
  |true =>
   have e:x=n:=by simpa using h
   subst e;rfl
  |false=>exact Co f x r
def sQ (sc:ŷ) (env:Env) (x:Str):(relabel sc env).names.lookup x=(sc.names.lookup x).map fun k=>if (k==å&&env.scope.kind==.function&&env.kindOf x==some .cell)=true then NameKind.cell else k:=by
 rw [<- Co (fun x k=>if (k==å&&env.scope.kind==.function&&env.kindOf x==some .cell)=true then NameKind.cell else k)]
 show List.lookup x (sc.names.map _)=_;congr 1;apply List.map_congr_left;rintro ⟨n,k⟩ _;dsimp only
 split<;>rfl
abbrev fD (X:Cx) (N:List Str) (sc:ŷ) (cl:List (Str×Ó)) (C:Ó) (s:Ã) (H:Hp) (ex:List Ó) (pn:List (Ó×Obj)):Cx where
 prog:=X.prog
 w:=X.w
 K:=X.K
 mg:=X.mg
 base:=X.base
 A:=X.A
 N:=N
 bR:=s
 jF:=H
 env:=compEnvC sc cl C X.env
 outer:=X.stack
 stack:=X.stack
 ex:=ex
 fn:=fun _=>false
 calm:=X.calm
 pn:=pn
 xe:=fun _ _=>False
structure ui (X:Cx) (sc:ŷ) (N:List Str) (nt:Nat) (cap:List Nat):Prop where
 kind:sc.kind=.function
 qk:∀x∈sc.names,x.2≠.cell
 names:∀x∈sc.names,x.2=.local->sc.names.lookup x.1=some .local
 frees:∀x∈sc.names,x.2=.free->sc.names.lookup x.1=some .free/\(X.env.scope.names.lookup x.1=some .cell\/X.env.scope.names.lookup x.1=some .free)
 len:N.length=nt+cap.length
 y9:∀(k:Nat) j,cap[k]?=some j->∃x,X.N[j]?=some x/\N[nt+k]?=some x/\(x,å)∈sc.names
def jt (nt:Nat) (cap:List Nat) (σ:St):St:=Î nt none++cap.map fun j=>(σ[j]?).getD none
def PF (X:Cx) (tests:List ę) (t:TT):Prop :=
 ∀(Z:List (Ó×Obj)) (s:Ã) (σ:St) (H:Hp) (Q:Bool->Hp->Prop),Inv X Z σ H s->t σ H Q ->
  Ù (ß X.prog X.w) X.A (forIn tests true fun c r=>if r=true then do let ok <- isTrue c X.env (ĺ c X.env);pure (Ī ok) else pure (Ī r)) (TP X Z σ Q) X.xe s
def QI:TT:=fun _ H Q=>Q true H
def NI:PF X [] QI:=fun _ _ _ H _ I h=>wpAny_tests_nil ⟨H,I,h⟩
def NJ (h:PT X c t):PF X [c] t:=fun Z s σ H Q I hw=>wpAny_tests_one (h Z s σ H Q I hw)
def kC (g:TG) (nt:Nat):Prop:=∀(x:V) (o Z:St) (H:Hp) (R:St->Hp->Prop),o.length=nt->g x (o++Z) H R->g x (o++Z) H fun Y W=>(∃X:St,X.length=nt/\Y=X++Z)/\R Y W
def ke (cap:List Nat) (σ:St):St:=cap.map fun j=>(σ[j]?).getD none
def F1 (mk:Ó->List V->HO) (jg:List V->Prop) (J:It) (nt:Nat) (caps:St) (g:TG) (tf:TT) (te:TE) (H:Hp) (Q:VK):Prop:=∃W:Nat->Nat->List V->Hp->Prop,(∃m,W 0 m [] H) /\
 ∀i m Z Y,W i m Z Y->(J.stop i Y/\jg Z/\∀D,Y D=none->Q (.ref D) (upd Y D (mk D Z))) \/
  (J.go i Y/\jg Z/\∃N:List V->Hp->Prop,(∀X U,N X U->∃T,T < m/\W (i+1) T X U) /\
   ∀o x S,o.length=nt->J.rJ i Y x S->g x (o++caps) S fun R O=>tf R O fun b P=>if b=true then te R P fun v M=>N (Z++[v]) M else N Z P)
def CW (J:It) (nt:Nat) (caps:St) (g:TG) (tf:TT) (te:TE) (H:Hp) (Q:VK):Prop:=F1 (fun _ Z=>.lst Z) (fun Z=>Z.length<=Ø) J nt caps g tf te H Q
def ml (wi:TI) (nt:Nat) (cap:List Nat) (g:TG) (tf:TT) (te:TE):TE:=fun σ H Q=>wi σ H fun J Z=>CW J nt (ke cap σ) g tf te Z Q
section
variable {fs ex:List Ó} {H H':Hp} {h h1 h2:Į} {P:á} {w:Ą}
def Un.adopt {D:Ó} {o:HO} (u:Un fs ex H H' h h1) (hp:h.objs.size<=D) (hn:H' D=none):Un fs ex H (upd H' D o) h h1 where
 keep:=u.keep
 slot:=u.slot
 free:=fun b Y q n X=>by rw [aI (Þ (Æ (É q) hp))];exact u.free b Y q n X
 there:=u.there
 df:=fun b Z q=>by rw [aI (bX (u.df b Z q) hn)];exact u.df b Z q
 cP:=fun b Y Z q=>by rw [aI (bX (u.cP b Y Z q) hn)];exact u.cP b Y Z q
 dg:=fun b W q=>by
  obtain ⟨more,e⟩:=u.dg b W q;exact ⟨more,by rw [aI (bX e hn)];exact e⟩
def Un.but {C:Ó} (u:Un fs ex H H' h h1) (hp:h.objs.size<=C) (sb:Ĥ C h1 h2):Un fs ex H H' h h2:=by
 have ne:∀b Z,h.get? b=some Z->b≠C:=fun b Z q=>Þ (Æ (É q) hp);refine ⟨fun b Z q n X Y=>(sb.2 b (ne b Z q)).trans (u.keep b Z q n X Y),fun b Z q n X Y=>?_,u.free,fun b Z q Y=>?_,u.df,u.cP,u.dg⟩
 ·obtain ⟨W,e⟩:=u.slot b Z q n X Y
  exact ⟨W,(sb.2 b (ne b Z q)).trans e⟩
 ·obtain ⟨V,e⟩:=u.there b Z q Y
  exact ⟨V,(sb.2 b (ne b Z q)).trans e⟩
def bB.but (x:bB P w H h1) (hn:H C=none) (sb:Ĥ C h1 h2):bB P w H h2:=fun a o e =>
 (x a o e).cO (fun b u Z q=>(sb.2 b (by
  rintro rfl
  rcases Z with z|z
  ·subst z;rw [hn] at e;cases e
  ·rw [hn] at z;cases z)).trans q) (fun _ q=>q) fun _ _ q=>q
def bB.adopt (x:bB P w H h) (hn:H D=none) (new:bM P w (upd H D o) h D o):bB P w (upd H D o) h:=fun b u e=>by
 by_cases Z:b=D
 ·subst Z;rw [bO] at e;cases e;exact new
 ·rw [aI Z] at e
  exact (x b u e).cO (fun c v _ q=>q) (fun c q=>by rw [aI (bX q hn)];exact q) fun c Y q=>by rw [aI (bX q hn)];exact q
end
section
variable {X:Cx} {sc:ŷ} {N:List Str} {nt:Nat} {cap:List Nat} {cl:List (Str×Ó)} {s:Ã} {h1:Į} {H:Hp} {σ:St} {π:List (Ó×Obj)} {fp:List Ó} {C:Ó} {t':Nat}
def Inv.block (I:Inv X π σ H s) (S:ui X sc N nt cap) (bS:∀n c,cl.lookup n=some c↔((n,å)∈sc.names/\X.env.cells.lookup n=some c)) (hf:∀b∈fp,cx X π H b) (dE:∀b∈fp,b<s.heap.objs.size)
  (hk:∀b o,s.heap.get? b=some o->h1.get? b=some o) (hC:s.heap.objs.size<=C) (gP:∃m,h1.Ns C m):Inv (fD X N sc cl C s H fp (X.pn++π)) [] (jt nt cap σ) H { s with heap:=h1,toks:=t' }:=by
 have Q:∀b∈bE X.stack,b∈X.env.locals::X.fs:=I.iP;have g:C∉bE X.stack:=fun z=>by
  rcases Ö.mp (I.iP C z) with e|e
  ·exact absurd (Æ I.lt hC) (by rw [e];exact â _)
  ·exact I.oB hC e
 have M:∀x,(relabel sc X.env).names.lookup x=some .cell\/(relabel sc X.env).names.lookup x=some .free->(x,å)∈sc.names:=fun x Z=>by
  rw [sQ] at Z
  cases e:sc.names.lookup x with
  |none=>rw [e] at Z;rcases Z with z|z<;>cases z
  |some k =>
   have Y:(x,k)∈sc.names:=by
    obtain ⟨f,a,e1,_⟩:=List.lookup_eq_some_iff.mp e;rw [e1];simp
   rw [e] at Z
   cases k with
   |free=>exact Y
   |cell=>exact absurd rfl (S.qk _ Y)
   |_=>exfalso;revert Z;simp
 have L:∀x,(x,å)∈sc.names->∃c,X.env.cells.lookup x=some c:=fun x Z=>I.ok.has x (S.frees _ Z rfl).2;have ok:Cx.Ok (fD X N sc cl C s H fp (X.pn++π)):=by
  refine ⟨I.ok.mod,?_,I.ok.glob,I.ok.blt,hC,?_,?_,?_,I.ok.hd,I.ok.frames,.inl rfl,?_,I.bs,ã I.ok.fz I.sz,?_,?_,I.stack,I.qd⟩
  ·exact S.kind
  ·intro x y c Z K
   exact I.ok.inj x y c ((bS x c).mp Z).2 ((bS y c).mp K).2
  ·intro x Z
   have Y:=M x Z;obtain ⟨c,e⟩:=L x Y;exact ⟨c,(bS x c).mpr ⟨Y,e⟩⟩
  ·intro x c Z
   cases Z
  ·intro b W
   refine ⟨Þ (Æ (dE b W) hC),fun x c e=>?_⟩;exact (hf b W).2.2.2.2.1 x c ((bS x c).mp e).2
  ·intro b o e W
   rcases (hf b W).2.2.2.1 with z|z
   ·exact I.ok.jG b o e z
   ·exact absurd (Æ (É e) (ã I.ok.fz z)) (â _)
  ·intro b W z
   rcases Ö.mp (Q b z) with e|e
   ·exact (hf b W).2.1 e
   ·exact (hf b W).2.2.1 e
 obtain ⟨m,Y⟩:=gP;obtain ⟨mX,RC,J⟩:=I.loc;refine ⟨ok,rfl,I.bare,Un.kept hk,⟨m,Y,fun i x v e1 e2 e3=>?_⟩,fun x c e=>?_,I.au.fresh hC,fun x c e=>I.fq x c ((bS x c).mp e).2,fun p G=>?_,I.au.kept hk,?_⟩
 ·
  have hi:nt<=i:=by
   apply ι;intro P;have:(jt nt cap σ)[i]?=some none:=by
    unfold jt;rw [Û (by simpa using P),ě,ê P]
   rw [this] at e2;cases e2
  have V:(cap.map fun j=>(σ[j]?).getD none)[i-nt]?=some (some v):=by
   have e:=e2;unfold jt at e;rw [ë (by simpa using hi)] at e;simpa using e
  rw [à] at V
  cases U:cap[i-nt]? with
  |none=>rw [U] at V;cases V
  |some j =>
   rw [U] at V;have ev:(σ[j]?).getD none=some v:=Wm V;have F:σ[j]?=some (some v):=by
    cases q:σ[j]? with
    |none=>rw [q] at ev;cases ev
    |some z=>rw [q] at ev;exact ı some ev
   obtain ⟨y,f1,f2,O⟩:=S.y9 _ _ U;rw [Nat.add_sub_cancel' hi] at f2;have E:y=x:=Wm (f2.symm.trans e1);subst E;obtain ⟨g1,g2⟩:=S.frees _ O rfl;have D:mR X.env.scope y:=.inr g2;obtain ⟨u,r,l⟩:=J j y v f1 F D;refine ⟨u,r,.inr ⟨?_,?_⟩⟩
   ·show (relabel sc X.env).names.lookup y=some .cell\/(relabel sc X.env).names.lookup y=some .free
    rw [sQ,g1];simp only [Vg];split
    ·exact .inl rfl
    ·exact .inr rfl
   ·rcases l with ⟨k,_⟩ | ⟨_,c,B,A⟩
    ·exfalso
     have w:X.env.scope.names.lookup y=some .local:=k;dsimp only at g2;rw [w] at g2
     rcases g2 with z|z<;>cases z
    ·obtain ⟨T,R,hd⟩:=A
     exact ⟨c,(bS y c).mpr ⟨O,B⟩,T,hk _ _ R,hd⟩
 ·obtain ⟨v,T,R,hd⟩:=I.cell x c ((bS x c).mp e).2
  exact ⟨v,T,hk _ _ R,hd⟩
 ·have t:p∈X.pn++π:=by simpa using G
  obtain ⟨e,n,ne,h,d⟩:=I.pin p t;refine ⟨hk _ _ e,n,Þ (Æ (É e) hC),fun z=>?_,d⟩
  rcases Ö.mp (Q p.1 z) with q|q
  ·exact ne q
  ·exact h q
 ·unfold jt
  rw [ä,Ų,Í];exact S.len.symm
end
section
variable {X:Cx}
end
inductive Kn where
 |aq|bl|int|str|tup|lst|aV
 deriving DecidableEq
def lH (K:Ĉ) (H:Hp):V->Kn->Prop
 | .aq,.aq=>True
 | .bl _,.bl=>True
 | .int _,.int=>True
 | .str _,.str=>True
 | .ref a,.tup=>∃Z,aP K H a Z
 | .ref a,.lst=>∃Z,bo K H a Z
 | .ref a,.aV=>∃Y,H a=some (.dK Y)
 |_,_=>False
noncomputable def oH:Kn->String->Bool
 | .int,"int"=>true
 | .bl,"int"=>true
 | .bl,"bool"=>true
 | .str,"str"=>true
 | .tup,"tuple"=>true
 | .lst,"list"=>true
 |_,_=>false
section
variable {X:Cx}
def Inv.nR {π:List (Ó×Obj)} {σ:St} {H:Hp} {s:Ã} {a:Ó} {xs:List V} (I:Inv X π σ H s) (h:aP X.K H a xs):∃o,s.heap.get? a=some o/\o.cls=.type "tuple":=by
 obtain ⟨Z,r,⟨o,e,c,_⟩,_⟩:=I.tuple h;exact ⟨o,e,c⟩
def Inv.nT {π:List (Ó×Obj)} {σ:St} {H:Hp} {s:Ã} {a:Ó} {xs:List V} (I:Inv X π σ H s) (h:bo X.K H a xs):∃o,s.heap.get? a=some o/\o.cls=.type "list":=by
 obtain ⟨Z,r,⟨o,n,e,c,_⟩,_⟩:=I.list h;exact ⟨o,e,c⟩
def Inv.nU {π:List (Ó×Obj)} {σ:St} {H:Hp} {s:Ã} {a:Ó} {ao:List (Key×V)} (I:Inv X π σ H s) (h:H a=some (.dK ao)):∃o,s.heap.get? a=some o/\o.cls=.type "dict":=by
 obtain ⟨_,_,W,_,p⟩:=(show bM X.prog X.w H s.heap a (.dK ao) from I.au a _ h);obtain ⟨o,U,T,Z,Y,_⟩:=p;exact ⟨o,Z,Y.1⟩
def Hw:bQ X (.builtin "isinstance") (fun xs H Q=>∃x k,xs=[x,.ty "int"]/\lH X.K H x k/\Q (.bl (oH k "int")) H):=by
 intro T s σ H xs S Q I r h;obtain ⟨x,k,rfl,Z,q⟩:=h;obtain ⟨u,c,rfl,Y,rc⟩:=vals2 r;cases rc
 cases k with
 |aq =>
  cases x with
  |aq =>
   cases Y;exact IsiPair.NoneType_int ⟨.bl false,H,I.tok _,rfl,q⟩
  |_=>exact Z.elim
 |bl =>
  cases x with
  |bl b =>
   cases Y;exact IsiPair.bool_int ⟨.bl true,H,I,rfl,q⟩
  |_=>exact Z.elim
 |int =>
  cases x with
  |int i =>
   obtain ⟨t,rfl⟩:=Y;exact IsiPair.int_int ⟨.bl true,H,I,rfl,q⟩
  |_=>exact Z.elim
 |str =>
  cases x with
  |str y =>
   obtain ⟨t,rfl⟩:=Y;exact IsiPair.str_int ⟨.bl false,H,I.tok _,rfl,q⟩
  |_=>exact Z.elim
 |tup =>
  cases x with
  |ref a =>
   cases Y;obtain ⟨z,W⟩:=Z;obtain ⟨o,V,U⟩:=I.nR W;exact IsiPair.tuple_int V U ⟨.bl false,H,I.tok _,rfl,q⟩
  |_=>exact Z.elim
 |lst =>
  cases x with
  |ref a =>
   cases Y;obtain ⟨z,W⟩:=Z;obtain ⟨o,V,U⟩:=I.nT W;exact IsiPair.list_int V U ⟨.bl false,H,I.tok _,rfl,q⟩
  |_=>exact Z.elim
 |aV =>
  cases x with
  |ref a =>
   cases Y;obtain ⟨z,W⟩:=Z;obtain ⟨o,V,U⟩:=I.nU W;exact IsiPair.dict_int V U ⟨.bl false,H,I.tok _,rfl,q⟩
  |_=>exact Z.elim
def Hl:bQ X (.builtin "isinstance") (fun xs H Q=>∃x k,xs=[x,.ty "bool"]/\lH X.K H x k/\Q (.bl (oH k "bool")) H):=by
 intro T s σ H xs S Q I r h;obtain ⟨x,k,rfl,Z,q⟩:=h;obtain ⟨u,c,rfl,Y,rc⟩:=vals2 r;cases rc
 cases k with
 |aq =>
  cases x with
  |aq =>
   cases Y;exact IsiPair.NoneType_bool ⟨.bl false,H,I.tok _,rfl,q⟩
  |_=>exact Z.elim
 |bl =>
  cases x with
  |bl b =>
   cases Y;exact IsiPair.bool_bool ⟨.bl true,H,I,rfl,q⟩
  |_=>exact Z.elim
 |int =>
  cases x with
  |int i =>
   obtain ⟨t,rfl⟩:=Y;exact IsiPair.int_bool ⟨.bl false,H,I.tok _,rfl,q⟩
  |_=>exact Z.elim
 |str =>
  cases x with
  |str y =>
   obtain ⟨t,rfl⟩:=Y;exact IsiPair.str_bool ⟨.bl false,H,I.tok _,rfl,q⟩
  |_=>exact Z.elim
 |tup =>
  cases x with
  |ref a =>
   cases Y;obtain ⟨z,W⟩:=Z;obtain ⟨o,V,U⟩:=I.nR W;exact IsiPair.tuple_bool V U ⟨.bl false,H,I.tok _,rfl,q⟩
  |_=>exact Z.elim
 |lst =>
  cases x with
  |ref a =>
   cases Y;obtain ⟨z,W⟩:=Z;obtain ⟨o,V,U⟩:=I.nT W;exact IsiPair.list_bool V U ⟨.bl false,H,I.tok _,rfl,q⟩
  |_=>exact Z.elim
 |aV =>
  cases x with
  |ref a =>
   cases Y;obtain ⟨z,W⟩:=Z;obtain ⟨o,V,U⟩:=I.nU W;exact IsiPair.dict_bool V U ⟨.bl false,H,I.tok _,rfl,q⟩
  |_=>exact Z.elim
def Hx:bQ X (.builtin "isinstance") (fun xs H Q=>∃x k,xs=[x,.ty "str"]/\lH X.K H x k/\Q (.bl (oH k "str")) H):=by
 intro T s σ H xs S Q I r h;obtain ⟨x,k,rfl,Z,q⟩:=h;obtain ⟨u,c,rfl,Y,rc⟩:=vals2 r;cases rc
 cases k with
 |aq =>
  cases x with
  |aq =>
   cases Y;exact IsiPair.NoneType_str ⟨.bl false,H,I.tok _,rfl,q⟩
  |_=>exact Z.elim
 |bl =>
  cases x with
  |bl b =>
   cases Y;exact IsiPair.bool_str ⟨.bl false,H,I.tok _,rfl,q⟩
  |_=>exact Z.elim
 |int =>
  cases x with
  |int i =>
   obtain ⟨t,rfl⟩:=Y;exact IsiPair.int_str ⟨.bl false,H,I.tok _,rfl,q⟩
  |_=>exact Z.elim
 |str =>
  cases x with
  |str y =>
   obtain ⟨t,rfl⟩:=Y;exact IsiPair.str_str ⟨.bl true,H,I,rfl,q⟩
  |_=>exact Z.elim
 |tup =>
  cases x with
  |ref a =>
   cases Y;obtain ⟨z,W⟩:=Z;obtain ⟨o,V,U⟩:=I.nR W;exact IsiPair.tuple_str V U ⟨.bl false,H,I.tok _,rfl,q⟩
  |_=>exact Z.elim
 |lst =>
  cases x with
  |ref a =>
   cases Y;obtain ⟨z,W⟩:=Z;obtain ⟨o,V,U⟩:=I.nT W;exact IsiPair.list_str V U ⟨.bl false,H,I.tok _,rfl,q⟩
  |_=>exact Z.elim
 |aV =>
  cases x with
  |ref a =>
   cases Y;obtain ⟨z,W⟩:=Z;obtain ⟨o,V,U⟩:=I.nU W;exact IsiPair.dict_str V U ⟨.bl false,H,I.tok _,rfl,q⟩
  |_=>exact Z.elim
def He:bQ X (.builtin "isinstance") (fun xs H Q=>∃x k,xs=[x,.ty "tuple"]/\lH X.K H x k/\Q (.bl (oH k "tuple")) H):=by
 intro T s σ H xs S Q I r h;obtain ⟨x,k,rfl,Z,q⟩:=h;obtain ⟨u,c,rfl,Y,rc⟩:=vals2 r;cases rc
 cases k with
 |aq =>
  cases x with
  |aq =>
   cases Y;exact IsiPair.NoneType_tuple ⟨.bl false,H,I.tok _,rfl,q⟩
  |_=>exact Z.elim
 |bl =>
  cases x with
  |bl b =>
   cases Y;exact IsiPair.bool_tuple ⟨.bl false,H,I.tok _,rfl,q⟩
  |_=>exact Z.elim
 |int =>
  cases x with
  |int i =>
   obtain ⟨t,rfl⟩:=Y;exact IsiPair.int_tuple ⟨.bl false,H,I.tok _,rfl,q⟩
  |_=>exact Z.elim
 |str =>
  cases x with
  |str y =>
   obtain ⟨t,rfl⟩:=Y;exact IsiPair.str_tuple ⟨.bl false,H,I.tok _,rfl,q⟩
  |_=>exact Z.elim
 |tup =>
  cases x with
  |ref a =>
   cases Y;obtain ⟨z,W⟩:=Z;obtain ⟨o,V,U⟩:=I.nR W;exact IsiPair.tuple_tuple V U ⟨.bl true,H,I,rfl,q⟩
  |_=>exact Z.elim
 |lst =>
  cases x with
  |ref a =>
   cases Y;obtain ⟨z,W⟩:=Z;obtain ⟨o,V,U⟩:=I.nT W;exact IsiPair.list_tuple V U ⟨.bl false,H,I.tok _,rfl,q⟩
  |_=>exact Z.elim
 |aV =>
  cases x with
  |ref a =>
   cases Y;obtain ⟨z,W⟩:=Z;obtain ⟨o,V,U⟩:=I.nU W;exact IsiPair.dict_tuple V U ⟨.bl false,H,I.tok _,rfl,q⟩
  |_=>exact Z.elim
def Hm:bQ X (.builtin "isinstance") (fun xs H Q=>∃x k,xs=[x,.ty "list"]/\lH X.K H x k/\Q (.bl (oH k "list")) H):=by
 intro T s σ H xs S Q I r h;obtain ⟨x,k,rfl,Z,q⟩:=h;obtain ⟨u,c,rfl,Y,rc⟩:=vals2 r;cases rc
 cases k with
 |aq =>
  cases x with
  |aq =>
   cases Y;exact IsiPair.NoneType_list ⟨.bl false,H,I.tok _,rfl,q⟩
  |_=>exact Z.elim
 |bl =>
  cases x with
  |bl b =>
   cases Y;exact IsiPair.bool_list ⟨.bl false,H,I.tok _,rfl,q⟩
  |_=>exact Z.elim
 |int =>
  cases x with
  |int i =>
   obtain ⟨t,rfl⟩:=Y;exact IsiPair.int_list ⟨.bl false,H,I.tok _,rfl,q⟩
  |_=>exact Z.elim
 |str =>
  cases x with
  |str y =>
   obtain ⟨t,rfl⟩:=Y;exact IsiPair.str_list ⟨.bl false,H,I.tok _,rfl,q⟩
  |_=>exact Z.elim
 |tup =>
  cases x with
  |ref a =>
   cases Y;obtain ⟨z,W⟩:=Z;obtain ⟨o,V,U⟩:=I.nR W;exact IsiPair.tuple_list V U ⟨.bl false,H,I.tok _,rfl,q⟩
  |_=>exact Z.elim
 |lst =>
  cases x with
  |ref a =>
   cases Y;obtain ⟨z,W⟩:=Z;obtain ⟨o,V,U⟩:=I.nT W;exact IsiPair.list_list V U ⟨.bl true,H,I,rfl,q⟩
  |_=>exact Z.elim
 |aV =>
  cases x with
  |ref a =>
   cases Y;obtain ⟨z,W⟩:=Z;obtain ⟨o,V,U⟩:=I.nU W;exact IsiPair.dict_list V U ⟨.bl false,H,I.tok _,rfl,q⟩
  |_=>exact Z.elim
end
def oh (p:Ó) (Ts:List String):Į->Prop:=fun h=>h.get? p=some { cls:=.type "tuple",data:=.seq (Ts.map ũ).toArray }
theorem CY:∀{Ts:List String} {us:List Ä},Vals (Ts.map V.ty) us->us=Ts.map ũ
 | [],_,.nil=>rfl
 |_::r,_,.cons h t=>by
  cases h;rw [CY t];rfl
def NK (t:TA):TE:=fun σ H Q=>t σ H fun Z Y=>∃X:List String,Z=X.map V.ty/\Z.length<=Ø/\∀p,Y p=none->Q (.ref p) (upd Y p (.ext (oh p X)))
section
variable {X:Cx} {es:List ę} {t:TA} {pos:Pos}
def Kw {x1} (h:PA X es t):PE X (.Tuple es x1 pos) (NK t):=by
 intro V s σ H Q I U;refine wpAny_Tuple_spliced (aA (h pos V s σ H _ I U) fun P Z ⟨O,Y,W,r,T,e,z,q⟩=>⟨by rw [<- r.length];exact z,?_⟩);subst e;have S:=CY r;subst S;have R:Y Z.heap.objs.size=none:=W.au.fresh (Wl _);refine ⟨.ref Z.heap.objs.size,upd Y Z.heap.objs.size (.ext (oh Z.heap.objs.size T)),W.laid (t':=Z.toks) (fun b u e=>Á _ e) (Wl _) ?_,rfl,q _ R⟩;refine ⟨Ì _ rfl,⟨_,Ì _ rfl⟩,fun N M e k=>k _ e⟩
def NL {K:Ĉ} {π:List (Ó×Obj)} {σ:St} {H:Hp} {s:Ã} {x:V} {u:Ä} {k:Kn} (I:Inv X π σ H s) (hk:lH X.K H x k) (r:RelV x u) :
  ∃Tx vs,AnswersAll (fun s=>s.TypeIs u Tx) u [.type "tuple",.type "list"] vs/\s.TypeIs u Tx/\vs.any id=(decide (k=.tup)||decide (k=.lst)):=by
 cases k with
 |aq =>
  cases x with
  |aq=>cases r;exact ⟨"NoneType",[false,false],.cons (.of_false_none (by decide +kernel) ň F.sub_NoneType_tuple) (.cons (.of_false_none (by decide +kernel) ŗ F.sub_NoneType_list) .nil),rfl,rfl⟩
  |_=>exact hk.elim
 |bl =>
  cases x with
  |bl b=>cases r;exact ⟨"bool",[false,false],.cons (.of_false_bool (by decide +kernel) ň F.sub_bool_tuple) (.cons (.of_false_bool (by decide +kernel) ŗ F.sub_bool_list) .nil),rfl,rfl⟩
  |_=>exact hk.elim
 |int =>
  cases x with
  |int b=>obtain ⟨t,rfl⟩:=r;exact ⟨"int",[false,false],.cons (.of_false_int (by decide +kernel) ň F.sub_int_tuple) (.cons (.of_false_int (by decide +kernel) ŗ F.sub_int_list) .nil),rfl,rfl⟩
  |_=>exact hk.elim
 |str =>
  cases x with
  |str b=>obtain ⟨t,rfl⟩:=r;exact ⟨"str",[false,false],.cons (.of_false_str (by decide +kernel) ň F.sub_str_tuple) (.cons (.of_false_str (by decide +kernel) ŗ F.sub_str_list) .nil),rfl,rfl⟩
  |_=>exact hk.elim
 |tup =>
  cases x with
  |ref a =>
   cases r;obtain ⟨z,Z⟩:=hk;exact ⟨"tuple",[true,false],.cons (.of_true ň F.sub_tuple_tuple) (.cons (.of_false_tuple (by decide +kernel) ŗ F.sub_tuple_list) .nil),I.nR Z,rfl⟩
  |_=>exact hk.elim
 |lst =>
  cases x with
  |ref a =>
   cases r;obtain ⟨z,Z⟩:=hk;exact ⟨"list",[false,true],.cons (.of_false_list (by decide +kernel) ň F.sub_list_tuple) (.cons (.of_true ŗ F.sub_list_list) .nil),I.nT Z,rfl⟩
  |_=>exact hk.elim
 |aV =>
  cases x with
  |ref a =>
   cases r;obtain ⟨z,Z⟩:=hk;exact ⟨"dict",[false,false],.cons (.of_false_dict (by decide +kernel) ň F.sub_dict_tuple) (.cons (.of_false_dict (by decide +kernel) ŗ F.sub_dict_list) .nil),I.nU Z,rfl⟩
  |_=>exact hk.elim
def HW:bQ X (.builtin "isinstance") (fun xs H Q=>∃x k p,xs=[x,.ref p]/\lH X.K H x k/\H p=some (.ext (oh p ["tuple","list"]))/\Q (.bl (decide (k=.tup)||decide (k=.lst))) H):=by
 intro R s σ H xs P Q I r h;obtain ⟨x,k,p,rfl,Z,Y,q⟩:=h;obtain ⟨u,c,rfl,W,rc⟩:=vals2 r;cases rc;obtain ⟨O,N,V,U,T⟩:=NL (K:=X.K) I Z W;have S:bM X.prog X.w H s.heap p (.ext (oh p ["tuple","list"])):=I.au p _ Y;exact IsiPair.tupleOfB V U S.1 T fun M=>⟨.bl _,H,I.tok _,rfl,q⟩
def Kx {bs:List Bool} (r:Vals (bs.map V.bl) its):TruthOf X.prog X.w A (fun i v=>its.toArray[i]?=some v) (fun i=>bs.getD i false):=by
 intro i v s Q E T S;have Z:its[i]?=some v:=by simpa using T
 have hi:i<its.length:=(È.mp Z).1;have Y:i<bs.length:=by
  have e:=r.length;rw [Í] at e;omega
 have R:(bs.map V.bl)[i]?=some (.bl (bs[i])):=by rw [à,Ð Y];rfl
 obtain ⟨u,W,P⟩:=Vals.get r R;rw [Z] at W;cases W;cases P;have e:bs.getD i false=bs[i]:=by simp [ť,Ð Y]
 have U:Q (bs.getD i false) s:=S;rw [e] at U;exact ŀ U
def range_all (bs:List Bool):(Ĺ bs.length).all (fun i=>bs.getD i false)=bs.all id:=by
 rw [ŕ,õ,õ];constructor
 ·intro h b Z
  obtain ⟨i,hi,e⟩:=VX Z;have:=h i (Č.mpr hi);simpa [ť,Ð hi,e] using this
 ·intro h i hi
  have hi:=Č.mp hi;have:=h _ (List.getElem_mem hi);simpa [ť,Ð hi] using this
def Ky (hc:X.calm=true):bQ X (.builtin "all") (fun xs H Q=>∃(p:Ó) (bs:List Bool),xs=[.ref p]/\bo X.K H p (bs.map V.bl)/\Q (.bl (bs.all id)) H):=by
 intro N s σ H xs M Q I r h;obtain ⟨p,bs,rfl,U,q⟩:=h;obtain ⟨u,rfl,T⟩:=vals1 r;cases T;obtain ⟨Z,W,Y,L⟩:=I.list U;have S:Z.toArray.size=bs.length:=by
  have e:=W.length;rw [Í] at e;simpa using e.symm
 have R:X.A.in1.handled=none:=I.ok.hd hc;refine call_all_walk (Ÿ Y.isList ?_);have old:p≠s.heap.objs.size:=Þ (by obtain ⟨o,n,e,_⟩:=Y;exact É e);refine ⟨s.heap.objs.size,[s.heap.objs.size,p],[s.heap.objs.size],Z.toArray.size,_,_,fun i=>bs.getD i false,rfl,Walks.list R s.heap.objs.size p old Z.toArray,⟨⟨_,Ì _ rfl,rfl,rfl⟩,Y.isList.at fun o e=>Á _ e⟩,Kx W,fun J P O=>?_⟩;rw [S,range_all];exact ⟨.bl _,H,I.kept (t':=P) fun b o e=>O b o (by simpa using Þ (É e)) (Á _ e),rfl,q⟩
end
def oJ:Key->γ
 | .inl i=>.int i
 | .inr x=>.str x
mutual
def DV (K:Ĉ) (Z:Ó->Prop) (H:Hp):γ->V->Prop
 | .none,v=>v=.aq
 | .bool b,v=>v=.bl b
 | .int i,v=>v=.int i
 | .str x,v=>v=.str x
 | .tuple X,v=>∃a Y,v=.ref a/\aP K H a Y/\ak K Z H X Y
 | .list X,v=>∃a Y,v=.ref a/\¬ Z a/\H a=some (.lst Y)/\ak K Z H X Y
 | .dict U,v=>∃a W,v=.ref a/\¬ Z a/\H a=some (.dK W)/\∃l:List (Key×Int),W=l.map (fun p=>(p.1,V.int p.2))/\U=l.map fun p=>(oJ p.1,PyData.int p.2)
def ak (K:Ĉ) (Z:Ó->Prop) (H:Hp):List γ->List V->Prop
 | [],Y=>Y=[]
 |d::X,Y=>∃v r,Y=v::r/\DV K Z H d v/\ak K Z H X r
end
structure Fi (K:Ĉ) (Z:Ó->Prop) (H H':Hp):Prop where
 tup:∀b xs,aP K H b xs->aP K H' b xs
 lst:∀b xs,¬ Z b->H b=some (.lst xs)->H' b=some (.lst xs)
 aV:∀b es,¬ Z b->H b=some (.dK es)->H' b=some (.dK es)
mutual
theorem DV.cO {K:Ĉ} {Z:Ó->Prop} {H H':Hp} (S:Fi K Z H H'):∀{d:γ} {v:V},DV K Z H d v->DV K Z H' d v
 | .none,_,h=>h
 | .bool _,_,h=>h
 | .int _,_,h=>h
 | .str _,_,h=>h
 | .tuple T,v,h=>by
  simp only [DV] at h |-;obtain ⟨a,Y,e,X,r⟩:=h;exact ⟨a,Y,e,S.tup a Y X,ak.cO S r⟩
 | .list T,v,h=>by
  simp only [DV] at h |-;obtain ⟨a,Y,e,W,X,r⟩:=h;exact ⟨a,Y,e,W,S.lst a Y W X,ak.cO S r⟩
 | .dict R,v,h=>by
  simp only [DV] at h |-;obtain ⟨a,U,e,W,X,r⟩:=h;exact ⟨a,U,e,W,S.aV a U W X,r⟩
theorem ak.cO {K:Ĉ} {Z:Ó->Prop} {H H':Hp} (S:Fi K Z H H'):∀{ds:List γ} {vs:List V},ak K Z H ds vs->ak K Z H' ds vs
 | [],_,h=>h
 |d::ds,vs,h=>by
  simp only [ak] at h |-;obtain ⟨v,r,e,Y,X⟩:=h;exact ⟨v,r,e,DV.cO S Y,ak.cO S X⟩
end
mutual
theorem DV.more {K:Ĉ} {Z:Ó->Prop} {H:Hp} {p:Ó} (hp:H p=none):∀{d:γ} {v:V},DV K Z H d v->DV K (fun a=>Z a\/a=p) H d v
 | .none,_,h=>h
 | .bool _,_,h=>h
 | .int _,_,h=>h
 | .str _,_,h=>h
 | .tuple U,v,h=>by
  simp only [DV] at h |-;obtain ⟨a,X,e,Y,r⟩:=h;exact ⟨a,X,e,Y,ak.more hp r⟩
 | .list U,v,h=>by
  simp only [DV] at h |-;obtain ⟨a,X,e,W,Y,r⟩:=h;exact ⟨a,X,e,(fun z=>z.elim W fun e=>by subst e;rw [hp] at Y;cases Y),Y,ak.more hp r⟩
 | .dict S,v,h=>by
  simp only [DV] at h |-;obtain ⟨a,T,e,W,Y,r⟩:=h;exact ⟨a,T,e,(fun z=>z.elim W fun e=>by subst e;rw [hp] at Y;cases Y),Y,r⟩
theorem ak.more {K:Ĉ} {Z:Ó->Prop} {H:Hp} {p:Ó} (hp:H p=none):∀{ds:List γ} {vs:List V},ak K Z H ds vs->ak K (fun a=>Z a\/a=p) H ds vs
 | [],_,h=>h
 |d::ds,vs,h=>by
  simp only [ak] at h |-;obtain ⟨v,r,e,Y,X⟩:=h;exact ⟨v,r,e,DV.more hp Y,ak.more hp X⟩
end
mutual
theorem DV.less {K:Ĉ} {Z Z':Ó->Prop} {H:Hp} (iA:∀a,Z' a->Z a):∀{d:γ} {v:V},DV K Z H d v->DV K Z' H d v
 | .none,_,h=>h
 | .bool _,_,h=>h
 | .int _,_,h=>h
 | .str _,_,h=>h
 | .tuple U,v,h=>by
  simp only [DV] at h |-;obtain ⟨a,X,e,Y,r⟩:=h;exact ⟨a,X,e,Y,ak.less iA r⟩
 | .list U,v,h=>by
  simp only [DV] at h |-;obtain ⟨a,X,e,W,Y,r⟩:=h;exact ⟨a,X,e,fun z=>W (iA _ z),Y,ak.less iA r⟩
 | .dict S,v,h=>by
  simp only [DV] at h |-;obtain ⟨a,T,e,W,Y,r⟩:=h;exact ⟨a,T,e,fun z=>W (iA _ z),Y,r⟩
theorem ak.less {K:Ĉ} {Z Z':Ó->Prop} {H:Hp} (iA:∀a,Z' a->Z a):∀{ds:List γ} {vs:List V},ak K Z H ds vs->ak K Z' H ds vs
 | [],_,h=>h
 |d::ds,vs,h=>by
  simp only [ak] at h |-;obtain ⟨v,r,e,Y,X⟩:=h;exact ⟨v,r,e,DV.less iA Y,ak.less iA X⟩
end
noncomputable def RD:γ->Kn
 | .none=>.aq
 | .bool _=>.bl
 | .int _=>.int
 | .str _=>.str
 | .tuple _=>.tup
 | .list _=>.lst
 | .dict _=>.aV
section
variable {X:Cx} {π:List (Ó×Obj)} {σ:St} {H:Hp} {s:Ã} {Z:Ó->Prop}
theorem sS:∀{l:List (Key×Int)} {vs:List (Key×Ä)} {es:List DictEntry},KV (l.map fun p=>(p.1,V.int p.2)) vs->Pairs (hV P w) es vs ->
  ReadsAll h (es.map (·.key)) ((l.map fun p=>(oJ p.1,PyData.int p.2)).map (·.1)) []/\ReadsAll h (es.map (·.val)) ((l.map fun p=>(oJ p.1,PyData.int p.2)).map (·.2)) []
 | [],_,_,.nil,.nil=>⟨.nil,.nil⟩
 |(k,i)::l,_,_,.cons (b:=q) r t,.cons (e:=e) U T S=>by
  obtain ⟨a1,a2⟩:=sS (h:=h) t S;obtain ⟨Z,X,Y⟩:=r;have Z:k=q.1:=Z;have Y:q.2=VT i X:=Y;refine ⟨?_,?_⟩
  ·have W:mf q.1 e.key=true:=U
   rw [<- Z] at W;have:Reads h e.key (oJ k) []:=by
    rcases jn W with ⟨j,u,e1,e2⟩ | ⟨x,u,e1,e2⟩
    ·rw [e1,e2];exact .int j u
    ·rw [e1,e2];exact .str x u
   exact ReadsAll.cons (as:=[]) (bs:=[]) this a1
  ·have:Reads h e.val (.int i) []:=by rw [T,Y];exact .int i X
   exact ReadsAll.cons (as:=[]) (bs:=[]) this a2
mutual
theorem DV.reads (I:Inv X π σ H s):∀{d:γ} {v:V} {u:Ä},DV X.K Z H d v->RelV v u->∃as,Reads s.heap u d as
 | .none,v,u,h,r=>by
  have e:v=.aq:=h;subst e;cases r;exact ⟨[],.none⟩
 | .bool b,v,u,h,r=>by
  have e:v=.bl b:=h;subst e;cases r;exact ⟨[],.bool b⟩
 | .int i,v,u,h,r=>by
  have e:v=.int i:=h;subst e;obtain ⟨t,rfl⟩:=r;exact ⟨[],.int i t⟩
 | .str x,v,u,h,r=>by
  have e:v=.str x:=h;subst e;obtain ⟨t,rfl⟩:=r;exact ⟨[],.str x t⟩
 | .tuple Q,v,u,h,r=>by
  simp only [DV] at h;obtain ⟨a,P,e,Y,W⟩:=h;subst e;cases r;obtain ⟨U,T,⟨o,e,c,n,S⟩,_⟩:=I.tuple Y;obtain ⟨as,R⟩:=ak.reads I W T;exact ⟨as,.tuple e c S (by simpa using R)⟩
 | .list Q,v,u,h,r=>by
  simp only [DV] at h;obtain ⟨a,P,e,_,Y,W⟩:=h;subst e;cases r;obtain ⟨U,T,⟨o,n,e,c,_,S⟩,_⟩:=I.list (bo.of Y);obtain ⟨as,R⟩:=ak.reads I W T;exact ⟨a::as,.list e c S (by simpa using R)⟩
 | .dict J,v,u,h,r=>by
  simp only [DV] at h;obtain ⟨a,G,e,_,Y,l,e1,e2⟩:=h;subst e e1 e2;cases r;obtain ⟨_,_,F,O,o,E,D,g1,g2,g3,_,N,_⟩:=(show bM X.prog X.w H s.heap a (.dK _) from I.au a _ Y);obtain ⟨M,L⟩:=sS (h:=s.heap) O N;exact ⟨a::[]++[],.dict g1 g2.1 g3 M L⟩
theorem ak.reads (I:Inv X π σ H s):∀{ds:List γ} {vs:List V} {us:List Ä},ak X.K Z H ds vs->Vals vs us->∃as,ReadsAll s.heap us ds as
 | [],vs,us,h,r=>by
  have e:vs=[]:=h;subst e;cases r;exact ⟨[],.nil⟩
 |d::ds,vs,us,h,r=>by
  obtain ⟨v,S,e,Y,W⟩:=h;subst e
  cases r with
  |cons U T =>
   obtain ⟨as,a1⟩:=DV.reads I Y U;obtain ⟨bs,a2⟩:=ak.reads I W T;exact ⟨as++bs,.cons a1 a2⟩
end
def B5 (hr:bg k X.A):bQ X (.builtin "repr") (fun xs H Q=>∃(x:V) (d:γ) (Z:Ó->Prop),xs=[x]/\DV X.K Z H d x/\d.showable=true/\(d.hasDict=false\/RD d=.aV)/\d.depth<=100/\d.shown.length<=Ø/\Q (.str d.shown) H):=by
 intro L s σ H xs us Q I r h;obtain ⟨x,d,Z,rfl,W,U,O,rY,T,q⟩:=h;obtain ⟨u,rfl,N⟩:=vals1 r;have M:X.A.units+(d.depth+1)<cLine:=by have:=hr.un;omega
 obtain ⟨as,Y⟩:=W.reads I N;have go:∀a,u=.ref a->(d.hasDict=true->ĸ∉as)->Ù (ß X.prog X.w) X.A (call (.builtin "repr") [u]) (EP X L σ Q) X.xe s:=fun a e J=>by
  subst e;exact repr_of_reads' Y U J hr.gd M (fun _ _ e=>e) (fun G t S R=>⟨.str d.shown,H,I.kept (t':=S) R,⟨t,rfl⟩,q⟩) T
 cases d with
 |none =>
  cases Y;exact P.repr_of_none ⟨.str _,H,I.tok _,⟨_,rfl⟩,q⟩
 |bool b =>
  cases Y;exact P.repr_of_bool ⟨.str _,H,I.tok _,⟨_,rfl⟩,q⟩
 |int i =>
  cases Y;exact P.repr_of_int (by simpa [Vh] using U) ⟨.str _,H,I.tok _,⟨_,rfl⟩,q⟩
 |str y =>
  cases Y;exact P.repr_of_str ⟨.str _,H,I.tok _,⟨_,rfl⟩,q⟩ T
 |list F =>
  cases Y with
  |list E D C B =>
   refine go _ rfl fun z=>?_
   rcases O with e|e
   ·rw [e] at z;cases z
   ·cases e
 |tuple F =>
  cases Y with
  |tuple E D C B =>
   refine go _ rfl fun z=>?_
   rcases O with e|e
   ·rw [e] at z;cases z
   ·cases e
 |dict ao =>
  simp only [DV] at W;obtain ⟨a,es,e,_,v,l,e1,e2⟩:=W;subst e e1 e2;cases N;obtain ⟨_,n,vs,m,o,fg,ep,g1,g2,g3,_,j,_⟩:=(show bM X.prog X.w H s.heap a (.dK _) from I.au a _ v);obtain ⟨g,f⟩:=sS (h:=s.heap) m j;have c:Reads s.heap (.ref a) (.dict (l.map fun p=>(oJ p.1,PyData.int p.2))) (a::[]++[]):=.dict g1 g2.1 g3 g f;refine repr_of_reads' c U (fun _ hm=>?_) hr.gd M (fun _ _ e=>e) (fun G t S R=>⟨.str _,H,I.kept (t':=S) R,⟨t,rfl⟩,q⟩) T;have e:ĸ=a:=by simpa using hm
  subst e;simp at n
def Fj (K:Ĉ) (neg:Bool):R2:=fun x y H Q=>∃(d e:γ) (Z:Ó->Prop),DV K Z H d x/\DV K Z H e y/\d.canLay0=true/\e.canLay0=true/\min d.depth e.depth<=100/\Q (.bl (if neg then !PyData.eqv d e else đ d e)) H
def NM (hr:bg k X.A):aU X (ć .Eq) (Fj X.K false):=by
 intro O s σ H x y v u Q I Y W h;obtain ⟨d,e,Z,V,U,T,S,N,q⟩:=h;obtain ⟨as,R⟩:=V.reads I Y;obtain ⟨bs,P⟩:=U.reads I W;exact SeqAt.eqOverData _ _ _ _ _ _ _ _ _ _ _ _ R P T S (by have:=hr.un;omega) ⟨.bl _,H,I,rfl,q⟩
def NN (hr:bg k X.A):aU X (ć .NotEq) (Fj X.K true):=by
 intro O s σ H x y v u Q I Y W h;obtain ⟨d,e,Z,V,U,T,S,N,q⟩:=h;obtain ⟨as,R⟩:=V.reads I Y;obtain ⟨bs,P⟩:=U.reads I W;exact SeqAt.neOverData _ _ _ _ _ _ _ _ _ _ _ _ R P T S (by have:=hr.un;omega) ⟨.bl _,H,I,rfl,q⟩
end
end L2
namespace HT
open PySem PySem.Spec PyProof.Rows
section
variable {prog:á} {w:Ą} {A:ó} {E:Ä->Ã->Prop} {s:Ã}
def B6 (ht:IsTup s.heap t items) (h:Q true s):Ù (ß prog w) A (Ž (.ref t)) Q E s:=by
 unfold Ž;exact À (VJ ht.typeIs (Â h))
def Hf {lo hi:Option Int} {Q:Ä->Ã->Prop} (ht:IsTup s.heap t items) (hs:s.heap.IsSliceOf sl vl vu .none) (pl:IsPart vl lo) (pu:IsPart vu hi)
 (hw:aJ items.size 0 lo=0/\aJ items.size items.size hi=items.size) (h:Q (.ref t) s):Ù (ß prog w) A (getItem (.ref t) (.ref sl)) Q E s:=by
 obtain ⟨os,Z,Y,U⟩:=id hs;have X:s.TypeIs (.ref sl) "slice":=⟨os,Z,Y⟩;unfold getItem
 try with_reducible refine ą ?_
 first|refine À (Â ?_)|skip
 refine À (wpAny_sequenceKey ht.typeIs (by decide) ?_);refine À (ï (name:=Ă "__getitem__") ht.typeIs ċ
  (ø ċ ht.typeIs entry_tuple_getitem ?_ (args_tuple_getitem _ _)))
 show Ù _ _ (ż (.ref t) >>= _) _ _ s;refine À (tupleItemsOf_ ht ?_);refine À (VJ X ?_);rw [ê (by decide)];refine À (Br hs pl pu ?_);obtain ⟨W,V⟩:=hw
 show Ù _ _ (if (((aJ items.size 0 lo:Nat):Int)==0&&(1:Int)==1&&(aJ items.size items.size hi-aJ items.size 0 lo)==items.size)=true then _ else _) _ _ s
 rw [W,V,ê (by simp)]
 first
  |exact À (B6 ht (by simp only [ă];exact À (Ň (Â ⟨_,rfl,Â h⟩))))
  |exact À (B6 ht (by simp only [ă];exact À (Ň (À (Â (Â ⟨_,rfl,Â h⟩))))))
end
end HT
namespace L2
open PySem PySem.Spec PyProof.Rows
def i4.RF {K:Ĉ} {H H':Hp} {a:Ó} {xs:List V} (e:i4 H H') (h:aP K H a xs):aP K H' a xs:=by
 rcases h with (h | ⟨o,h⟩)|h
 ·exact .inl (.inl (e _ _ h))
 ·exact .inl (.inr ⟨o,e _ _ h⟩)
 ·exact .inr h
theorem i4.upd (hn:H p=none):i4 H (upd H p o):=fun b u e=>by rw [aI (bX e hn)];exact e
def lA (K:Ĉ) (H:Hp) (ys:List V) (Q:VK):Prop:=∀a Z,i4 H Z->aP K Z a ys->Q (.ref a) Z
def lA.here {K:Ĉ} {H:Hp} {ys:List V} {Q:VK} {a:Ó} (h:lA K H ys Q) (hs:aP K H a ys):Q (.ref a) H:=h a H (i4.refl H) hs
def lA.new {K:Ĉ} {H:Hp} {ys:List V} {Q:VK} {p:Ó} (h:lA K H ys Q) (hn:H p=none):Q (.ref p) (L2.upd H p (.tup ys)):=h p _ (i4.upd hn) (aP.of bO)
section
variable {X:Cx} {e:ę} {te:TE} {pos p2 p3 p4:Pos}
def Kz {lo hi:Option Int} (h:HT.aJ xs.length 0 lo=0/\HT.aJ xs.length xs.length hi=xs.length):iZ xs lo hi=xs:=by
 unfold iZ;rw [h.1,h.2];simp
def QJ (K:Ĉ):V->Option Int->Option Int->Hp->VK->Prop:=fun x lo hi H Q=>∃a Z,x=.ref a/\aP K H a Z/\lA K H (iZ Z lo hi) Q
def L7:rS X (QJ X.K):=by
 intro P s σ H x v O N lo hi M Q I U T S pu h;obtain ⟨a,Z,rfl,W,q⟩:=h;by_cases hw:HT.aJ Z.length 0 lo=0/\HT.aJ Z.length Z.length hi=Z.length
 ·cases U
  obtain ⟨V,r,R,J⟩:=I.tuple W;have Y:V.toArray.size=Z.length:=by rw [Õ];exact r.length.symm
  rw [Kz hw] at q;exact ⟨"tuple",_,ċ.lookup,R.typeIs,HT.Hf R T S pu (by rw [Y];exact hw) ⟨.ref a,H,I,rfl,q.here W⟩⟩
 ·exact Dz P s σ H _ v O N lo hi M Q I U T S pu ⟨a,Z,rfl,W,hw,fun p L=>q.new L⟩
def O6 (K:Ĉ):R2:=fun x y H Q=>∃a b Z Y,x=.ref a/\y=.ref b/\aP K H a Z/\aP K H b Y/\Z.length+Y.length<=Ø/\lA K H (Z++Y) Q
def L8:aU X (ĳ .Add) (O6 X.K):=by
 intro M s σ H x y v u Q I W V h;obtain ⟨a,b,U,L,rfl,rfl,Z,Y,J,q⟩:=h;by_cases T:U=[]
 ·subst T
  cases W;cases V;obtain ⟨G,F,E,_⟩:=I.tuple Z;obtain ⟨D,r,p2,_⟩:=I.tuple Y;cases F;obtain ⟨⟨cls,C,data,B⟩,S,R,n,P⟩:=id E;obtain ⟨⟨o,A,data2,z⟩,O,N,w,hd2⟩:=id p2;simp only at R P N hd2;subst R P N hd2;exact concat_meets ⟨_,S,rfl⟩ ⟨_,O,rfl⟩ noFill_tuple_add seq_tuple_add Vq Vd (ω _ _)
   (tuple_addW0 a b _ D.toArray n w C A B z (by simp)) ⟨S,O,⟨.ref b,H,I,rfl,q.here Y⟩⟩
 ·refine L3 M s σ H _ _ v u Q I W V ⟨a,b,U,L,rfl,rfl,Z,Y,T,J,fun e=>?_,fun _ p t=>q.new t⟩
  subst e;rw [Ń] at q;exact q.here Z
end
end L2
namespace HZ
open PySem PySem.Spec PyProof.Rows
structure fZ (P:á) (w:Ą) (A:ó) (i l:Ó) (tn:Nat->Į->Prop) (val:Nat->Option Ä):Prop where
 keep:∀k h h',tn k h->(∀o,h.get? i=some o->h'.get? i=some o)->(∀o,h.get? l=some o->h'.get? l=some o)->tn k h'
 item:∀k (s:Ã) (Q:Ä->Ã->Prop) (E:Ä->Ã->Prop) x,tn k s.heap->val k=some x->(∀h',tn (k+1) h'->Ĥ i s.heap h'->Q x { s with heap:=h' })->Ù (ß P w) A (ö (.ref i)) Q E s
 stop:∀k (s:Ã) (Q:Ä->Ã->Prop) (E:Ä->Ã->Prop),tn k s.heap->val k=none->(∀h' e,υ i s.heap h'->(∃o,h'.get? e=some o/\o.cls=.type "StopIteration")->E (.ref e) { s with heap:=h' })->Ù (ß P w) A (ö (.ref i)) Q E s
 obj:∀k h,tn k h->∃o,h.get? i=some o/\∀v,o.data≠.cell v
section
variable {P:á} {w:Ą} {A:ó} {E:Ä->Ã->Prop} {s:Ã}
def ID (g:s.heap.IsTupleIter it t k) (gt:s.heap.IsTuple t its) (gx:its[k]?=some x)
 (q:∀h',h'.IsTupleIter it t (k+1)->Ĥ it s.heap h'->Q x { s with heap:=h' }):Ù (ß P w) A (ö (.ref it)) Q E s:=by
 obtain ⟨o,go,Y,Z⟩:=id g;obtain ⟨ol,X,_,nl,W⟩:=gt;unfold ö;refine À (ï (name:=Ă "__next__") g.typeIs Ņ
  (ø Ņ g.typeIs F.entry_tuple_iterator_next ?_ (F.args_tuple_iterator_next_1 _)))
 show Ù _ _ (field (.ref it) 0 >>= _) _ _ _;refine À (Ċ go Z (x:=.ref t) rfl ?_)
 show Ù _ _ (if (VH t==Value.none)=true then _ else _) _ _ _
 rw [ú (fun z:(VH t==Value.none)=true=>Ñ z)];show Ù _ _ (field (.ref it) 1 >>= _) _ _ _;refine À (Ċ go Z (x:=.int k 0) rfl ?_);show Ù _ _ (seqItems? (.ref t) >>= _) _ _ _;refine À (Ē X W ?_);simp only [Ħ,gx];refine À (Ū go Z (by simp) (Â ⟨x,rfl,Â (q _ ?_ (Ď ..))⟩));exact ⟨_,ü _ go (Ķ (ÿ Z _)),(Vw ..).trans Y,by rw [ÿ Z];simp [Ţ]⟩
def Hg (gh:A.handled=none) (g:s.heap.IsTupleIter it t k) (gt:s.heap.IsTuple t its) (gx:its[k]?=none)
 (q:∀h' e,υ it s.heap h'->(∃o,h'.get? e=some o/\o.cls=.type "StopIteration")->E (.ref e) { s with heap:=h' }):Ù (ß P w) A (ö (.ref it)) Q E s:=by
 obtain ⟨o,go,W,Z⟩:=id g;obtain ⟨ol,Y,_,nl,X⟩:=gt;unfold ö;refine À (ï (name:=Ă "__next__") g.typeIs Ņ
  (ø Ņ g.typeIs F.entry_tuple_iterator_next ?_ (F.args_tuple_iterator_next_1 _)))
 show Ù _ _ (field (.ref it) 0 >>= _) _ _ _;refine À (Ċ go Z (x:=.ref t) rfl ?_)
 show Ù _ _ (if (VH t==Value.none)=true then _ else _) _ _ _
 rw [ú (fun z:(VH t==Value.none)=true=>Ñ z)];show Ù _ _ (field (.ref it) 1 >>= _) _ _ _;refine À (Ċ go Z (x:=.int k 0) rfl ?_);show Ù _ _ (seqItems? (.ref t) >>= _) _ _ _;refine À (Ē Y X ?_);simp only [Ħ,gx];refine À (Ň (À (Ū go Z (by simp) ?_)));show Ù _ _ (newExc (.type "StopIteration") [] >>= _) _ _ (_:Ã);refine À ?_;simp only [newExc,newTuple];refine À (ô ?_ (by size_fits))
 refine À (m:=firstArgMember _ _) (wpAny_of_eq (a:=Value.none) (by first|rfl | (unfold firstArgMember;rfl)) ?_)
 refine ô ?_ (by size_fits);simp only [raiseNew];refine À (wpAny_handled ?_)
 first|rw [gh]|rw [show A.in1.handled=none from gh]
 refine À (Â (wpAny_throw ?_));exact q _ _ (((Ď ..).extBut.push _).push _) ⟨_,Ì _ rfl,rfl⟩
def xy (gh:A.handled=none) (i l:Ó) (its:Array Ä):fZ P w A i l (fun k h=>h.IsTupleIter i l k/\h.IsTuple l its) (fun k=>its[k]?) where
 keep:=fun k h Y Z U T=>⟨Z.1.at U,by obtain ⟨o,e,r⟩:=Z.2;exact ⟨o,T o e,r⟩⟩
 item:=fun k s Q E x Z e q=>ID Z.1 Z.2 e fun Y g X=>by
  by_cases W:l=i
  ·exfalso
   subst W;obtain ⟨o,e1,S,_⟩:=Z.1;obtain ⟨R,e2,V,_⟩:=Z.2;rw [e1] at e2;cases e2;rw [S] at V;simp at V
  ·obtain ⟨o,e2,r⟩:=Z.2
   exact q Y ⟨g,o,(X.2 l W).trans e2,r⟩ X
 stop:=fun k s Q E Z e q=>Hg gh Z.1 Z.2 e q
 obj:=fun k h Z=>by
  obtain ⟨o,e,_,d⟩:=Z.1;exact ⟨o,e,fun v z=>by rw [d] at z;cases z⟩
def L9 (gh:A.handled=none) (i l:Ó) (its:Array Ä):fZ P w A i l (fun k h=>h.IsListIter i l k/\h.IsList l its) (fun k=>its[k]?) where
 keep:=fun k h Y Z U T=>⟨Z.1.at U,Z.2.at T⟩
 item:=fun k s Q E x Z e q=>wpAny_nextOf_list_item Z.1 Z.2 e fun Y g X=>by
  by_cases W:l=i
  ·exfalso
   subst W;obtain ⟨o,e1,S,_⟩:=Z.1;obtain ⟨R,e2,V,_⟩:=Z.2;rw [e1] at e2;cases e2;rw [S] at V;simp at V
  ·exact q Y ⟨g,Z.2.at fun o e2=>(X.2 l W).trans e2⟩ X
 stop:=fun k s Q E Z e q=>wpAny_nextOf_list_end gh Z.1 Z.2 e q
 obj:=fun k h Z=>by
  obtain ⟨o,e,_,d⟩:=Z.1;exact ⟨o,e,fun v z=>by rw [d] at z;cases z⟩
structure Apart (z ti to j1 j2 m1 m2:Ó):Prop where
 a1:ti≠z
 a2:to≠z
 a3:j1≠z
 a4:j2≠z
 a5:ti≠to
 a6:ti≠j1
 a7:ti≠j2
 a8:to≠j1
 a9:to≠j2
 b0:j1≠j2
 b1:m1≠z
 b2:m1≠to
 b3:m1≠j1
 b4:m1≠j2
 b5:m2≠z
 b6:m2≠to
 b7:m2≠j1
 b8:m2≠j2
def KA {t1 t2:Nat->Į->Prop} {v1 v2:Nat->Option Ä} {k:Nat} {Q:Ä->Ã->Prop} (D:Apart z ti to j1 j2 m1 m2) (S1:fZ P w A j1 m1 t1 v1) (S2:fZ P w A j2 m2 t2 v2)
 (gz:IsZip s.heap z ti to .none) (gi:δ s.heap ti (.ref j1) (.ref j2)) (go:δ s.heap to a b) (h1:t1 k s.heap) (h2:t2 k s.heap) (hx:v1 k=some x) (hy:v2 k=some y)
 (q:∀h',IsZip h' z ti to (Ţ s.heap.objs.size)->δ h' to x y->t1 (k+1) h'->t2 (k+1) h'->δ h' s.heap.objs.size x y->h'.objs.size=s.heap.objs.size+1 ->
 (∀c o,c≠z->c≠to->c≠j1->c≠j2->s.heap.get? c=some o->h'.get? c=some o)->Q (.ref s.heap.objs.size) { s with heap:=h' }) :
  Ù (ß P w) A (Ř.«zip.__next__» ⟨[.ref z],[]⟩) (fun fin s'=>∃v,fin=.done (.ret v)/\Q v s') E s:=by
 show Ù _ _ (field (.ref z) 2 >>= _) _ _ (_:Ã);refine À (Ċ gz rfl (x:=.bool false) rfl ?_);show Ù _ _ (field (.ref z) 3 >>= _) _ _ (_:Ã);refine À (Ċ gz rfl (x:=.ref ti) rfl ?_);refine À (Ē gi rfl ?_);show Ù _ _ (ā (.ref z) >>= _) _ _ (_:Ã);refine À ?_;unfold ā;refine À (Ċ gz rfl (x:=.none) rfl (Â ?_));simp only [ă];refine À (Ň ?_);refine À (Ċ gz rfl (x:=.ref to) rfl ?_);refine À (č gz (by simp) fun p N Y=>?_)
 replace N:IsZip p z ti to .ellipsis:=N
 refine À ?_;simp only [List.zipIdx_cons,List.zipIdx_nil,Vf,List.forIn_nil];refine À (À (wpAny_onRaise ?_));show Ù _ _ (ö (.ref j1) >>= _) _ _ (_:Ã);refine À (S1.item k _ _ _ x (S1.keep k _ _ h1 (fun o e=>Y.extBut _ _ D.a3 e) (fun o e=>Y.extBut _ _ D.b1 e)) hx fun n m V=>Â ?_);have G:δ n to a b:=V.extBut _ _ D.a8 (Y.extBut _ _ D.a2 go);refine À (Ē G rfl ?_);refine À (wpAny_updateSeq_pair G fun l M X=>?_)
 replace M:δ l to x b:=M
 refine À (χ (Â ?_));refine À (À (wpAny_onRaise ?_));show Ù _ _ (ö (.ref j2) >>= _) _ _ (_:Ã);refine À (S2.item k _ _ _ y (S2.keep k _ _ h2 (fun o e=>X.extBut _ _ D.a9.symm (V.extBut _ _ D.b0.symm (Y.extBut _ _ D.a4 e))) (fun o e=>X.extBut _ _ D.b6 (V.extBut _ _ D.b7 (Y.extBut _ _ D.b5 e)))) hy fun j i U=>Â ?_);have F:δ j to x b:=U.extBut _ _ D.a9 M;refine À (Ē F rfl ?_);refine À (wpAny_updateSeq_pair F fun Z S s5=>?_)
 replace S:δ Z to x y:=S
 refine À (χ (Â (Â ?_)));refine À (Ē S rfl ?_);refine À (wpAny_newTuple ?_);have C:Z.objs.size=s.heap.objs.size:=by rw [s5.1,U.1,X.1,V.1,Y.1]
 have B:IsZip Z z ti to .ellipsis:=s5.extBut _ _ D.a2.symm (U.extBut _ _ D.a4.symm (X.extBut _ _ D.a2.symm (V.extBut _ _ D.a3.symm N)));have h:∀c o,c≠z->c≠to->c≠j1->c≠j2->s.heap.get? c=some o->Z.get? c=some o:=fun c o W R L K e=>s5.extBut _ _ R (U.extBut _ _ K (X.extBut _ _ R (V.extBut _ _ L (Y.extBut _ _ W e))));have g:t1 (k+1) Z:=S1.keep _ _ _ m (fun o e=>s5.extBut _ _ D.a8.symm (U.extBut _ _ D.b0 (X.extBut _ _ D.a8.symm e))) (fun o e=>s5.extBut _ _ D.b2 (U.extBut _ _ D.b4 (X.extBut _ _ D.b2 e)));have f:t2 (k+1) Z:=S2.keep _ _ _ i (fun o e=>s5.extBut _ _ D.a9.symm e) (fun o e=>s5.extBut _ _ D.b6 e);have u:z<Z.objs.size:=É B;show Ù _ _ (ġ (.ref z) (.ref Z.objs.size) >>= _) _ _ (_:Ã);refine À ?_;unfold ġ;have d:IsZip (Z.push { cls:=.type "tuple",data:=.seq #[x,y] }) z ti to .ellipsis:=Á _ B;refine À (č d (by simp) fun p7 J I=>?_)
 replace J:IsZip p7 z ti to (Ţ Z.objs.size):=J
 refine č J (by simp) fun T O H=>?_
 replace O:IsZip T z ti to (Ţ Z.objs.size):=O
 have up:∀c o,c≠z->Z.get? c=some o->T.get? c=some o:=fun c o W e=>H.extBut _ _ W (I.extBut _ _ W (Á _ e));have t:δ T Z.objs.size x y:=H.extBut _ _ (ĝ u) (I.extBut _ _ (ĝ u) (Ì _ rfl));have r:T.objs.size=Z.objs.size+1:=by rw [H.1,I.1,î]
 rw [C] at O t r;refine Â ⟨_,rfl,?_⟩;show Q (.ref Z.objs.size) _;rw [C];exact q T O (up _ _ D.a2 S) (S1.keep _ _ _ g (fun o e=>up _ o D.a3 e) (fun o e=>up _ o D.b1 e)) (S2.keep _ _ _ f (fun o e=>up _ o D.a4 e) (fun o e=>up _ o D.b5 e)) t r fun c o W R L K e=>up c o W (h c o W R L K e)
def Ma (D:Apart z ti to j1 j2 m1 m2) (S1:fZ P w A j1 m1 t1 v1) (S2:fZ P w A j2 m2 t2 v2)
 (gz:IsZip s.heap z ti to .none) (gi:δ s.heap ti (.ref j1) (.ref j2)) (go:δ s.heap to a b) (h1:t1 k s.heap) (h2:t2 k s.heap) (zb:v1 k=none\/v2 k=none)
 (q:∀h' e,(∀c o,c≠z->c≠to->c≠j1->c≠j2->s.heap.get? c=some o->h'.get? c=some o)->(∃o,h'.get? e=some o/\o.cls=.type "StopIteration")->E (.ref e) { s with heap:=h' }) :
  Ù (ß P w) A (Ř.«zip.__next__» ⟨[.ref z],[]⟩) Q E s:=by
 show Ù _ _ (field (.ref z) 2 >>= _) _ _ (_:Ã);refine À (Ċ gz rfl (x:=.bool false) rfl ?_);show Ù _ _ (field (.ref z) 3 >>= _) _ _ (_:Ã);refine À (Ċ gz rfl (x:=.ref ti) rfl ?_);refine À (Ē gi rfl ?_);show Ù _ _ (ā (.ref z) >>= _) _ _ (_:Ã);refine À ?_;unfold ā;refine À (Ċ gz rfl (x:=.none) rfl (Â ?_));simp only [ă];refine À (Ň ?_);refine À (Ċ gz rfl (x:=.ref to) rfl ?_);refine À (č gz (by simp) fun N V Y=>?_)
 replace V:IsZip N z ti to .ellipsis:=V
 refine À ?_;simp only [List.zipIdx_cons,List.zipIdx_nil,Vf,List.forIn_nil];refine À (À (wpAny_onRaise ?_));show Ù _ _ (ö (.ref j1) >>= _) _ _ (_:Ã);have M:t1 k N:=S1.keep k _ _ h1 (fun o e=>Y.extBut _ _ D.a3 e) (fun o e=>Y.extBut _ _ D.b1 e)
 cases U:v1 k with
 |none =>
  refine À (S1.stop k _ _ _ M U fun T e Z S=>?_);obtain ⟨R,g1,g2⟩:=S;have L:IsZip T z ti to .ellipsis:=Z _ _ D.a3.symm V;have ne:e≠z:=fun u=>by subst u;rw [L] at g1;cases g1;simp at g2
  refine č L (by simp) fun K _ X=>q K e (fun c o W _ O _ u=>X.extBut _ _ W (Z _ _ O (Y.extBut _ _ W u))) ⟨R,X.extBut _ _ ne g1,g2⟩
 |some x =>
  have G:v2 k=none:=by
   rcases zb with h|h
   ·rw [U] at h;cases h
   ·exact h
  refine À (S1.item k _ _ _ x M U fun T v Z=>Â ?_);have J:δ T to a b:=Z.extBut _ _ D.a8 (Y.extBut _ _ D.a2 go);refine À (Ē J rfl ?_);refine À (wpAny_updateSeq_pair J fun K t X=>?_);refine À (χ (Â ?_));refine À (À (wpAny_onRaise ?_));show Ù _ _ (ö (.ref j2) >>= _) _ _ (_:Ã);refine À (S2.stop k _ _ _ (S2.keep k _ _ h2 (fun o e=>X.extBut _ _ D.a9.symm (Z.extBut _ _ D.b0.symm (Y.extBut _ _ D.a4 e))) (fun o e=>X.extBut _ _ D.b6 (Z.extBut _ _ D.b7 (Y.extBut _ _ D.b5 e)))) G fun F e I S=>?_);obtain ⟨R,g1,g2⟩:=S;have H:IsZip F z ti to .ellipsis:=I _ _ D.a4.symm (X.extBut _ _ D.a2.symm (Z.extBut _ _ D.a3.symm V));have ne:e≠z:=fun u=>by subst u;rw [H] at g1;cases g1;simp at g2
  refine č H (by simp) fun C _ s5=>q C e (fun c o W B O y u=>s5.extBut _ _ W (I _ _ y (X.extBut _ _ B (Z.extBut _ _ O (Y.extBut _ _ W u))))) ⟨R,s5.extBut _ _ ne g1,g2⟩
def next_item (D:Apart z ti to j1 j2 m1 m2) (S1:fZ P w A.in1 j1 m1 t1 v1) (S2:fZ P w A.in1 j2 m2 t2 v2)
 (gz:IsZip s.heap z ti to .none) (gi:δ s.heap ti (.ref j1) (.ref j2)) (go:δ s.heap to a b) (h1:t1 k s.heap) (h2:t2 k s.heap) (hx:v1 k=some x) (hy:v2 k=some y)
 (q:∀h',IsZip h' z ti to (Ţ s.heap.objs.size)->δ h' to x y->t1 (k+1) h'->t2 (k+1) h'->δ h' s.heap.objs.size x y->h'.objs.size=s.heap.objs.size+1 ->
 (∀c o,c≠z->c≠to->c≠j1->c≠j2->s.heap.get? c=some o->h'.get? c=some o)->Q (some (.ref s.heap.objs.size)) { s with heap:=h' }):Ù (ß P w) A (Ŕ (.ref z)) Q E s:=by
 have Z:s.TypeIs (.ref z) "zip":=⟨_,gz,rfl⟩;unfold Ŕ;exact À (Ľ (ï (name:=Ă "__next__") Z VY
  (ø VY Z F.entry_zip_next (KA D S1 S2 gz gi go h1 h2 hx hy fun h' a1 a2 Y X W V U=>Â (q h' a1 a2 Y X W V U)) (F.args_zip_next_1 _))))
def next_end (D:Apart z ti to j1 j2 m1 m2) (S1:fZ P w A.in1 j1 m1 t1 v1) (S2:fZ P w A.in1 j2 m2 t2 v2)
 (gz:IsZip s.heap z ti to .none) (gi:δ s.heap ti (.ref j1) (.ref j2)) (go:δ s.heap to a b) (h1:t1 k s.heap) (h2:t2 k s.heap) (zb:v1 k=none\/v2 k=none)
 (q:∀h',(∀c o,c≠z->c≠to->c≠j1->c≠j2->s.heap.get? c=some o->h'.get? c=some o)->Q none { s with heap:=h' }):Ù (ß P w) A (Ŕ (.ref z)) Q E s:=by
 have Z:s.TypeIs (.ref z) "zip":=⟨_,gz,rfl⟩;unfold Ŕ;refine À (Ľ (ï (name:=Ă "__next__") Z VY
  (ø VY Z F.entry_zip_next (Ma D S1 S2 gz gi go h1 h2 zb fun h' e Y X=>?_) (F.args_zip_next_1 _))))
 obtain ⟨o,W,V⟩:=X;exact À (VN (T:="StopIteration") (b:=true) ⟨o,W,V⟩ isSubtype_stop (Â (q _ Y)))
end
end HZ
namespace L2
open PySem PySem.Spec PyProof.Rows
def DC {X:Cx} {π:List (Ó×Obj)} {σ:St} {H:Hp} {s:Ã} {a b:Ó} {xs:List V} (I:Inv X π σ H s) (h:aP X.K H a xs) (f:cx X π H b):a≠b:=by
 rintro rfl;obtain ⟨f0,_,_,Y,_⟩:=f
 rcases h with (h | ⟨o,h⟩) | ⟨o,W,n,U,_⟩
 ·rw [f0] at h;cases h
 ·rw [f0] at h;cases h
 ·have Z:=I.mod.kq a o U
  rcases Y with z|z
  ·exact I.ok.jG a o Z z
  ·exact absurd (Æ (É Z) (ã I.ok.fz z)) (â _)
def NO {X:Cx} {π:List (Ó×Obj)} {σ:St} {H:Hp} {s:Ã} {a b:Ó} {xs:List V} (I:Inv X π σ H s) (h:bo X.K H a xs) (f:cx X π H b):a≠b:=by
 rintro rfl;obtain ⟨f0,_,_,Y,_⟩:=f
 rcases h with (h | ⟨o,h⟩) | ⟨o,W,n,U,_⟩
 ·rw [f0] at h;cases h
 ·rw [f0] at h;cases h
 ·have Z:=I.mod.kq a o U
  rcases Y with z|z
  ·exact I.ok.jG a o Z z
  ·exact absurd (Æ (É Z) (ã I.ok.fz z)) (â _)
def Inv.wK {X:Cx} {π:List (Ó×Obj)} {σ:St} {H:Hp} {s:Ã} {h':Į} {t':Nat} {ch:List Ó} (I:Inv X π σ H s) (k:∀b o,b∉ch->s.heap.get? b=some o->h'.get? b=some o) (hf:∀b∈ch,cx X π H b) :
  Inv X π σ H { s with heap:=h',toks:=t' }:=by
 have Y:∀b u,H b=some u->b∉ch:=fun b u e z=>by rw [(hf b z).1] at e;cases e
 refine I.step (g':=s.gens) (d':=s.drawn) (ch:=ch) (fun b W=>?_) (fun b o _ _ Z e _=>k b o Z e) (fun b o _ _ Z e _=>⟨o.slots,k b o Z e⟩) (fun _ _ _ _ n=>n) (fun b o Z e=>⟨o,k b o Z e⟩) (fun _ _ e=>e) (fun _ _ _ e=>e)
  (fun b P e=>⟨#[],by rw [e];simp⟩) (fun m V=>?_) (fun b u e=>?_) I.bare
 ·obtain ⟨_,f1,_,U,f4,T⟩:=hf b W
  exact ⟨U,f1,f4,T⟩
 ·obtain ⟨o,S,R,Q,r⟩:=V
  exact ⟨o,S,R,k _ o (fun z=>(hf _ z).2.1 rfl) Q,r⟩
 ·refine (I.au b u e).cO (fun c v Z q=>k c v ?_ q) (fun _ q=>q) fun _ _ q=>q
  rcases Z with z|z
  ·rw [z];exact Y b u e
  ·exact Y c _ z
def Inv.B7 {X:Cx} {π:List (Ó×Obj)} {σ:St} {H:Hp} {s:Ã} {h':Į} {t':Nat} {ch:List Ó} {p:Ó} {u:HO} (I:Inv X π σ H s) (k:∀b o,b∉ch->s.heap.get? b=some o->h'.get? b=some o) (hf:∀b∈ch,cx X π H b)
  (hp:s.heap.objs.size<=p) (new:bM X.prog X.w (upd H p u) h' p u):Inv X π σ (upd H p u) { s with heap:=h',toks:=t' }:=by
 have Y:H p=none:=I.au.fresh hp;have au:bB X.prog X.w (upd H p u) h':=(I.wK (t':=t') k hf).au.adopt Y new;refine I.step (g':=s.gens) (d':=s.drawn) (ch:=ch) (fun b W=>?_) (fun b o _ _ Z e _=>k b o Z e) (fun b o _ _ Z e _=>⟨o.slots,k b o Z e⟩) (fun b o _ e n=>?_) (fun b o Z e=>⟨o,k b o Z e⟩) (fun c P e=>by rw [aI (bX e Y)];exact e) (fun c o v e=>by rw [aI (bX e Y)];exact e)
  (fun c O e=>⟨#[],by rw [aI (bX e Y),e];simp⟩) (fun m V=>?_) au I.bare
 ·obtain ⟨_,f1,_,U,f4,T⟩:=hf b W
  exact ⟨U,f1,f4,T⟩
 ·rw [aI (Þ (Æ (É e) hp))]
  exact n
 ·obtain ⟨o,S,R,Q,r⟩:=V
  exact ⟨o,S,R,k _ o (fun z=>(hf _ z).2.1 rfl) Q,r⟩
@[reducible] def gQ:Bool->Ĉ->Hp->Ó->List V->Prop
 |true=>aP
 |false=>bo
@[reducible] def ji:Bool->Į->Ó->Array Ä->Prop
 |true=>Heap.IsTuple
 |false=>Heap.IsList
@[reducible] def kD:Bool->Į->Ó->Ó->Nat->Prop
 |true=>Heap.IsTupleIter
 |false=>Heap.IsListIter
def Inv.oK {X:Cx} {π:List (Ó×Obj)} {σ:St} {H:Hp} {s:Ã} {a:Ó} {xs:List V} (I:Inv X π σ H s):∀{k},gQ k X.K H a xs->∃its,Vals xs its/\ji k s.heap a its.toArray
 |true,h=>by obtain ⟨i,r,p,_⟩:=I.tuple h;exact ⟨i,r,p⟩
 |false,h=>by obtain ⟨i,r,p,_⟩:=I.list h;exact ⟨i,r,p.isList⟩
def Inv.Cp {X:Cx} {π:List (Ó×Obj)} {σ:St} {H:Hp} {s:Ã} {a:Ó} {xs ys:List V} (I:Inv X π σ H s):∀{k},gQ k X.K H a xs->gQ k X.K H a ys->xs=ys
 |true,h,g=>I.wJ h g
 |false,h,g=>I.Ck h g
def uj {X:Cx} {π:List (Ó×Obj)} {σ:St} {H:Hp} {s:Ã} {a b:Ó} {xs:List V} (I:Inv X π σ H s):∀{k},gQ k X.K H a xs->cx X π H b->a≠b
 |true,h,f=>DC I h f
 |false,h,f=>NO I h f
def vh (gh:A.handled=none) (i l:Ó) (its:Array Ä):∀k,HZ.fZ P w A i l (fun n h=>kD k h i l n/\ji k h l its) (fun n=>its[n]?)
 |true=>HZ.xy gh i l its
 |false=>HZ.L9 gh i l its
def uq (k:∀o,h.get? i=some o->h'.get? i=some o):∀{b},kD b h i l n->kD b h' i l n
 |true,x=>x.at k
 |false,x=>x.at k
def tM:∀{b},kD b h i l n->∃o,h.get? i=some o/\∀v,o.data≠.cell v
 |true,x=>by obtain ⟨o,e,_,d⟩:=x;exact ⟨o,e,fun v q=>by rw [d] at q;cases q⟩
 |false,x=>by obtain ⟨o,e,_,d⟩:=x;exact ⟨o,e,fun v q=>by rw [d] at q;cases q⟩
def vi (k l:Bool) (K:Ĉ) (a b:Ó):It :=
 ⟨fun i H=>∃Z Y x y,gQ k K H a Z/\gQ l K H b Y/\Z[i]?=some x/\Y[i]?=some y,fun i H v X=>∃p x y,H p=none/\v=.ref p/\X=upd H p (.tup [x,y])/\∀Z Y,gQ k K H a Z->gQ l K H b Y->Z[i]?=some x/\Y[i]?=some y,
  fun i H=>∃Z Y,gQ k K H a Z/\gQ l K H b Y/\(Z.length<=i\/Y.length<=i)⟩
abbrev QK:=vi true true
structure O7 (it:Nat->Į->Prop) (pB:Nat->Į->Prop) (z ti to j1 j2:Ó) (i:Nat) (h:Į):Prop where
 z:IsZip h z ti to .none
 ti:δ h ti (.ref j1) (.ref j2)
 to:∃u v,δ h to u v
 h1:it i h
 h2:pB i h
structure Fm (z ti to j1 j2:Ó):Prop where
 a1:ti≠z
 a2:to≠z
 a3:j1≠z
 a4:j2≠z
 a5:ti≠to
 a6:ti≠j1
 a7:ti≠j2
 a8:to≠j1
 a9:to≠j2
 b0:j1≠j2
def JF {k1 k2:Bool} {P:á} {w:Ą} {K:Ĉ} {elts:List ę} {kk:Nat} {pos:Pos} (a b z ti to j1 j2:Ó) (F:Fm z ti to j1 j2) :
  Turn P w K (.Tuple elts kk pos) (vi k1 k2 K a b) [z,ti,to,j1,j2] z (O7 (fun i h=>kD k1 h j1 a i) (fun i h=>kD k2 h j2 b i) z ti to j1 j2) where
 mem:=by simp
 obj:=fun i h Z c S=>by
  have M:c=z\/c=ti\/c=to\/c=j1\/c=j2:=by simpa using S
  rcases M with rfl|rfl|rfl|rfl|rfl
  ·exact ⟨_,Z.z,fun v q=>nomatch q⟩
  ·exact ⟨_,Z.ti,fun v q=>nomatch q⟩
  ·obtain ⟨u,v,q⟩:=Z.to;exact ⟨_,q,fun v q=>nomatch q⟩
  ·exact tM Z.h1
  ·exact tM Z.h2
 keep:=fun i h l Z k=>⟨k z (by simp) _ Z.z,k ti (by simp) _ Z.ti,by obtain ⟨u,v,q⟩:=Z.to;exact ⟨u,v,k to (by simp) _ q⟩,uq (fun o e=>k j1 (by simp) o e) Z.h1,uq (fun o e=>k j2 (by simp) o e) Z.h2⟩
 item:=by
  intro X L hw J S i j s σ H E I Y Z G;subst L hw J;obtain ⟨f,d,x,y,V,U,ex,g⟩:=G;obtain ⟨C,B,t⟩:=I.oK V;obtain ⟨r,p,n⟩:=I.oK U;obtain ⟨u,eu,ru⟩:=B.get ex;obtain ⟨v,ev,rv⟩:=p.get g;have ne:∀c∈[z,ti,to,j1,j2],a≠c/\b≠c:=fun c W=>⟨uj I V (Y c W),uj I U (Y c W)⟩;have D:HZ.Apart z ti to j1 j2 a b:=⟨F.a1,F.a2,F.a3,F.a4,F.a5,F.a6,F.a7,F.a8,F.a9,F.b0,(ne z (by simp)).1,(ne to (by simp)).1,(ne j1 (by simp)).1,(ne j2 (by simp)).1,(ne z (by simp)).2,(ne to (by simp)).2,(ne j1 (by simp)).2,(ne j2 (by simp)).2⟩;obtain ⟨w1,w2,O⟩:=Z.to;have R:X.A.in1.handled=none:=I.ok.hd S;refine HZ.next_item D (vh R j1 a C.toArray k1) (vh R j2 b r.toArray k2) Z.z Z.ti O ⟨Z.h1,t⟩ ⟨Z.h2,n⟩ (by simpa using eu) (by simpa using ev) fun l c1 c2 c3 c4 c5 c6 N=>⟨_,rfl,?_⟩;refine wpAny_letOwnedTupleGo_zip c1 fun h2 d1 T=>?_;have hn:H s.heap.objs.size=none:=I.au.fresh (Wl _);have vU:z<s.heap.objs.size:=É Z.z;have mH:IsTup h2 s.heap.objs.size #[u,v]:=⟨_,T.extBut _ _ (ĝ vU) c5,rfl,_,rfl⟩
  have I2:Inv X j σ (upd H s.heap.objs.size (.tup [x,y])) { s with heap:=h2,toks:=s.toks }:=I.B7 (ch:=[z,ti,to,j1,j2]) (fun c o m e=>by
   have q:c≠z/\c≠ti/\c≠to/\c≠j1/\c≠j2:=by simpa using m
   exact T.extBut c o q.1 (N c o q.1 q.2.2.1 q.2.2.2.1 q.2.2.2.2 e)) Y (Wl _) ⟨by show 2<=Ø;decide,[u,v],.cons ru (.cons rv .nil),mH⟩
  refine ⟨.ref s.heap.objs.size,_,I2,rfl,⟨_,x,y,hn,rfl,rfl,fun RK UL q1 q2=>?_⟩,?_,fun c W=>?_⟩
  ·rw [I.Cp q1 V,I.Cp q2 U];exact ⟨ex,g⟩
  ·refine ⟨d1,T.extBut _ _ F.a1 (N _ _ F.a1 F.a5 F.a6 F.a7 Z.ti),⟨_,_,T.extBut _ _ F.a2 c2⟩,uq (fun o e=>T.extBut _ _ F.a3 e) c3.1,uq (fun o e=>T.extBut _ _ F.a4 e) c4.1⟩
  ·rw [aI]
   ·exact (Y c W).1
   ·intro e
    obtain ⟨o,eo⟩:∃o,s.heap.get? c=some o:=by
     have M:c=z\/c=ti\/c=to\/c=j1\/c=j2:=by simpa using W
     rcases M with q|q|q|q|q
     ·rw [q];exact ⟨_,Z.z⟩
     ·rw [q];exact ⟨_,Z.ti⟩
     ·rw [q];exact ⟨_,O⟩
     ·rw [q];obtain ⟨o,e,_⟩:=tM Z.h1;exact ⟨o,e⟩
     ·rw [q];obtain ⟨o,e,_⟩:=tM Z.h2;exact ⟨o,e⟩
    exact absurd (É eo) (by rw [e];exact â _)
 done:=by
  intro X L hw J S i j s σ H E I Y Z G;subst L hw J;obtain ⟨f,d,V,U,hle⟩:=G;obtain ⟨C,B,t⟩:=I.oK V;obtain ⟨r,p,n⟩:=I.oK U;have ne:∀c∈[z,ti,to,j1,j2],a≠c/\b≠c:=fun c W=>⟨uj I V (Y c W),uj I U (Y c W)⟩;have D:HZ.Apart z ti to j1 j2 a b:=⟨F.a1,F.a2,F.a3,F.a4,F.a5,F.a6,F.a7,F.a8,F.a9,F.b0,(ne z (by simp)).1,(ne to (by simp)).1,(ne j1 (by simp)).1,(ne j2 (by simp)).1,(ne z (by simp)).2,(ne to (by simp)).2,(ne j1 (by simp)).2,(ne j2 (by simp)).2⟩;obtain ⟨w1,w2,O⟩:=Z.to;have R:X.A.in1.handled=none:=I.ok.hd S;have l1:=B.length;have l2:=p.length;refine HZ.next_end D (vh R j1 a C.toArray k1) (vh R j2 b r.toArray k2) Z.z Z.ti O ⟨Z.h1,t⟩ ⟨Z.h2,n⟩ ?_ fun l N=>⟨rfl,I.wK (t':=s.toks) (ch:=[z,ti,to,j1,j2]) (fun c o m e=>by
   have q:c≠z/\c≠ti/\c≠to/\c≠j1/\c≠j2:=by simpa using m
   exact N c o q.1 q.2.2.1 q.2.2.2.1 q.2.2.2.2 e) Y⟩
  rcases hle with q|q
  ·left;simp;omega
  ·right;simp;omega
 self:=fun A i s Q E Z h=>wpAny_pyIter_zip Z.z h
end L2
namespace HZ
open PySem PySem.Spec PyProof.Rows L2
@[reducible] noncomputable def sd:Bool->String
 |true=>"tuple_iterator"
 |false=>"list_iterator"
abbrev y1 (k:Bool) (h:Į) (m1:Ó):Į:=h.push { cls:=.type (sd k),data:=.fields #[.ref m1,.int 0 0] }
abbrev y2 (k l:Bool) (h:Į) (m1 m2:Ó):Į:=(y1 k h m1).push { cls:=.type (sd l),data:=.fields #[.ref m2,.int 0 0] }
abbrev y3 (k l:Bool) (h:Į) (m1 m2:Ó):Į:=(y2 k l h m1 m2).push { cls:=.type "tuple",data:=.seq #[.ref h.objs.size,.ref (y1 k h m1).objs.size] }
abbrev y4 (k l:Bool) (h:Į) (m1 m2:Ó):Į:=(y3 k l h m1 m2).push { cls:=.type "tuple",data:=.seq #[.none,.none] }
abbrev y5 (k l:Bool) (h:Į) (m1 m2:Ó):Į:=(y4 k l h m1 m2).push { cls:=.type "zip",data:=.fields #[.none,.bool false,.bool false,.ref (y2 k l h m1 m2).objs.size,.ref (y3 k l h m1 m2).objs.size] }
def Eo:∀{k},ji k s.heap m xs->Q (.ref s.heap.objs.size) { s with heap:=s.heap.push { cls:=.type (sd k),data:=.fields #[.ref m,.int 0 0] } }->Ù (ß P w) A (pyIter (.ref m)) Q E s
 |true,h,q=>ŭ h q
 |false,h,q=>Ÿ h q
def KC (o:Obj):∀{k},ji k h m xs->ji k (h.push o) m xs
 |true,x=>Heap.IsTuple.push x o
 |false,x=>Heap.IsList.push x o
def Mb (k l:Bool) (m1 m2:Ó) (xs ys:Array Ä) :
  Meets (Ř.«zip.__new__» ⟨[.type "zip",.ref m1,.ref m2],[]⟩) (fun _ R s=>ji k s.heap m1 xs/\ji l s.heap m2 ys/\R (.ok (.ret (.ref (y4 k l s.heap m1 m2).objs.size))) { s with heap:=y5 k l s.heap m1 m2 }) :=
 .of_wp fun prog w A R s h=>by
  obtain ⟨Z,g,d,Y,os⟩:=s;obtain ⟨X,W,h⟩:=h;have U:=sub_zip;have V:ji k (Shared.heap ⟨Z,g,d,Y,os⟩) m1 xs:=X;have L2:ji l (Shared.heap ⟨Z.push { cls:=.type (sd k),data:=.fields #[.ref m1,.int 0 0] },g,d,Y,os⟩) m2 ys:=KC _ W
  wp_walk using Eo V,Eo L2
  exact ⟨_,rfl,h⟩
section
variable {P:á} {w:Ą} {A:ó} {E:Ä->Ã->Prop} {s:Ã}
def CZ:∀{k},h.get? i=some { cls:=.type (sd k),data:=.fields #[.ref m,.int 0 0] }->kD k h i m 0
 |true,e=>⟨_,e,rfl,rfl⟩
 |false,e=>⟨_,e,rfl,rfl⟩
def JG (h1:ji k s.heap m1 xs) (h2:ji l s.heap m2 ys)
 (h:∀h',IsZip h' (s.heap.objs.size+4) (s.heap.objs.size+2) (s.heap.objs.size+3) .none->δ h' (s.heap.objs.size+2) (.ref s.heap.objs.size) (.ref (s.heap.objs.size+1)) ->
   δ h' (s.heap.objs.size+3) .none .none->kD k h' s.heap.objs.size m1 0->kD l h' (s.heap.objs.size+1) m2 0->h'.objs.size=s.heap.objs.size+5 ->
 (∀c o,s.heap.get? c=some o->h'.get? c=some o)->Q (.ref (s.heap.objs.size+4)) { s with heap:=h' }):Ù (ß P w) A (call (.type "zip") [.ref m1,.ref m2]) Q E s:=by
 refine callType_new F.called_zip (by decide) (F.typeCall_zip_2 _ _) (F.newCall_zip_2 _ _) (fun obj=>F.args_object_init_3 obj _ _) F.entry_zip_new (Mb k l m1 m2 xs ys) ⟨h1,h2,?_⟩;have e1:(y1 k s.heap m1).objs.size=s.heap.objs.size+1:=î ..;have e2:(y2 k l s.heap m1 m2).objs.size=s.heap.objs.size+2:=by rw [î,e1]
 have Z:(y3 k l s.heap m1 m2).objs.size=s.heap.objs.size+3:=by rw [î,e2]
 have Y:(y4 k l s.heap m1 m2).objs.size=s.heap.objs.size+4:=by rw [î,Z]
 have V:(y5 k l s.heap m1 m2).objs.size=s.heap.objs.size+5:=by rw [î,Y]
 have X:(y5 k l s.heap m1 m2).get? (y4 k l s.heap m1 m2).objs.size=some _:=Ì _ rfl;have W:(y5 k l s.heap m1 m2).get? (y3 k l s.heap m1 m2).objs.size=some _:=Á _ (Ì _ rfl);have g3:(y5 k l s.heap m1 m2).get? (y2 k l s.heap m1 m2).objs.size=some _:=Á _ (Á _ (Ì _ rfl));have g2:(y5 k l s.heap m1 m2).get? (y1 k s.heap m1).objs.size=some _:=Á _ (Á _ (Á _ (Ì _ rfl)));have g1:(y5 k l s.heap m1 m2).get? s.heap.objs.size=some _:=Á _ (Á _ (Á _ (Á _ (Ì _ rfl))));show _/\_;rw [e2,Z,Y] at X;rw [e1,e2] at g3;rw [Z] at W;rw [e1] at g2;rw [Y];exact ⟨⟨_,X,rfl⟩,h _ X g3 W (CZ g1) (CZ g2) V fun c o q=>Á _ (Á _ (Á _ (Á _ (Á _ q))))⟩
end
end HZ
namespace L2
open PySem PySem.Spec PyProof.Rows
def KD (n:Nat):Fm (n+4) (n+2) (n+3) n (n+1):=by constructor<;>(show (_:Nat)≠_)<;>omega
section
variable {X:Cx} {elts:List ę} {kk:Nat} {tp:Pos}
def Ep (k l:Bool) (K:Ĉ) (ta:TA):TI:=fun σ H R=>ta σ H fun Y Z=>∃a b X W,Y=[.ref a,.ref b]/\gQ k K Z a X/\gQ l K Z b W/\R (vi k l K a b) Z
noncomputable abbrev O8:=Ep true true
def JH:ì "zip"=some (.type "zip"):=by decide +kernel
def NP {π:List (Ó×Obj)} {σ:St} {H:Hp} {s:Ã} (I:Inv X π σ H s):∀b∈[s.heap.objs.size+4,s.heap.objs.size+2,s.heap.objs.size+3,s.heap.objs.size,s.heap.objs.size+1],cx X π H b:=fun b Y=>by
 have Z:s.heap.objs.size<=b:=by
  have q:b=s.heap.objs.size+4\/b=s.heap.objs.size+2\/b=s.heap.objs.size+3\/b=s.heap.objs.size\/b=s.heap.objs.size+1:=by simpa using Y
  omega
 exact I.mE Z (I.au.fresh Z)
def C0 {k l:Bool} {a b:ę} {ta:TA} {p pos:Pos} (hg:Gl X "zip") (hm:X.mg "zip"=none) (ha:PA X [a,b] ta) (hs:Ê [a,b] X.env=[(false,ĺ a X.env),(false,ĺ b X.env)]:=by rfl) (fC:Ê [b] X.env=[(false,ĺ b X.env)]:=by rfl) :
  PI X (.Tuple elts kk tp) (.Call (.Name "zip" p) [a,b] [] pos) (Ep k l X.K ta):=by
 intro V s σ H R I h;refine Call_ (kQ I hg hm JH (Ĩ (aA (ha pos V s σ H _ I h) fun z Z ⟨y,U,Y,T,S⟩=>?_) (by rw [hs,fC]) (by rw [fC];rfl)));obtain ⟨a,b,xs,ys,e,Q,P,q⟩:=S;subst e;obtain ⟨u,v,rfl,O,N⟩:=vals2 T;cases O;cases N;obtain ⟨M,_,L⟩:=Y.oK Q;obtain ⟨J,_,G⟩:=Y.oK P;refine HZ.JG (xs:=M.toArray) (ys:=J.toArray) L G fun F W E D C B x A=>?_
 refine wpAny_pyIter_zip (s:={ Z with heap:=F }) W ?_
 exact ⟨_,[Z.heap.objs.size+4,Z.heap.objs.size+2,Z.heap.objs.size+3,Z.heap.objs.size,Z.heap.objs.size+1],_,_,U,rfl,Y.kept (t':=Z.toks) A,JF a b _ _ _ _ _ (KD _),⟨W,E,⟨_,_,D⟩,C,B⟩,NP Y,q⟩
def Mc {a b:ę} {ta:TA} {p pos:Pos} (hg:Gl X "zip") (hm:X.mg "zip"=none) (ha:PA X [a,b] ta) (hs:Ê [a,b] X.env=[(false,ĺ a X.env),(false,ĺ b X.env)]:=by rfl) (fC:Ê [b] X.env=[(false,ĺ b X.env)]:=by rfl) :
  PI X (.Tuple elts kk tp) (.Call (.Name "zip" p) [a,b] [] pos) (O8 X.K ta):=C0 hg hm ha hs fC
end
end L2
namespace PySem
section
variable {P:á} {w:Ą} {A:ó} {E:Ä->Ã->Prop} {s:Ã}
end
end PySem
namespace L2
open PySem PySem.Spec PyProof.Rows
def map_getD (ns:List Int):(Ĺ ns.length).map (fun i=>ns.getD i 0)=ns:=by
 apply Vx;intro i;rw [à];by_cases h:i<ns.length
 ·rw [VZ h,Ð h]
  simp [ť,Ð h]
 ·rw [ħ (by simpa using h),ħ (by omega)]
  rfl
section
variable {X:Cx}
end
section
variable {κ:Type} [DecidableEq κ]
noncomputable def putK (ao:List (κ×V)) (k:κ) (v:V):List (κ×V) :=
 if (ao.any fun Z=>decide (Z.1=k))=true then ao.map (fun Z=>if Z.1=k then (Z.1,v) else Z) else ao++[(k,v)]
def HX (ao:List (κ×V)) (k:κ) (v:V):(putK ao k v).length<=ao.length+1:=by
 unfold putK;split
 ·rw [Í];omega
 ·rw [ä,Ý,è];omega
theorem KV.any (r:KV ao vs) (k:κ):(ao.any fun kv=>decide (kv.1=k))=vs.any fun kv=>decide (kv.1=k):=by
 unfold KV at r
 induction r with
 |nil=>rfl
 |cons h t ih=>rw [List.any_cons,List.any_cons,ih,h.1]
def KV.QM (r:KV ao vs) (k:κ) (ry:RelV y u) :
  KV (ao.map fun kv=>if kv.1=k then (kv.1,y) else kv) (vs.map fun kv=>if kv.1=k then (kv.1,u) else kv):=by
 unfold KV at r |-
 induction r with
 |nil=>exact .nil
 | @cons p q X W h t ih =>
  rw [ç,ç];refine .cons ?_ ih;obtain ⟨Z,Y⟩:=h;by_cases e:p.1=k
  ·rw [ê e,ê (Z.symm.trans e)];exact ⟨Z,ry⟩
  ·rw [ú e,ú (fun z=>e (Z.trans z))];exact ⟨Z,Y⟩
def KV.put (r:KV ao vs) (k:κ) (ry:RelV y u):KV (putK ao k y) (stored vs k u):=by
 unfold putK stored;rw [r.any k];by_cases e:(vs.any fun Z=>decide (Z.1=k))=true
 ·rw [ê e,ê e];exact r.QM k ry
 ·rw [ú e,ú e];exact Paired.snoc r ⟨rfl,ry⟩
end
def O9 (r:RelV (kV k) u):(hV P w).is k u=true:=by
 cases k with
 |inl i=>obtain ⟨t,e⟩:=(show ∃t,u=VT i t from r);subst e;exact HS P w i t
 |inr x=>obtain ⟨t,e⟩:=(show ∃t,u=Value.str x t from r);subst e;exact HU P w x t
section
variable {P:á} {w:Ą} {H:Hp} {h:Į} {a:Ó}
def Pa (ok:bB P w H h) (e:Rd H a u):bM P w H h a u:=e.ok ok
def Pb (ok:bB P w H h) (e:Rd H a (.dK ao)):ao.length<=Ø/\(a==ĸ)=false/\∃vs,KV ao vs/\h.DictOf (hV P w) a vs :=
 show bM P w H h a (.dK ao) from Pa ok e
def Pc (ok:bB P w H h) (e:H a=some (.dK ao)):ao.length<=Ø/\(a==ĸ)=false/\∃vs,KV ao vs/\h.DictOf (hV P w) a vs:=Pb ok (.inl e)
end
section
variable {X:Cx} {π:List (Ó×Obj)} {σ:St} {H:Hp} {s:Ã} {a:Ó} {y v:V} {u r:Ä} {o:Option V} {A:ó} {E:Ä->Ã->Prop}
def Inv.big (I:Inv X π σ H s):ĸ<s.heap.objs.size:=by
 have h:Ò<s.heap.objs.size:=(I.mod.glob.keeps I.bk).lt;exact Nat.lt_trans (by decide) h
def Md (I:Inv X π σ H s) (mu:rE (H a)) (hs:Ĥ a s.heap h') (he:∃q,h'.get? a=some q) (new:bM X.prog X.w (upd H a ob) h' a ob) :
  Inv X π σ (upd H a ob) { s with heap:=h',toks:=t' } :=
 I.write (x:=a) (e:=a) mu (.inl rfl) (fun b q Z z=>(hs.2 b Z).trans z) he new
def NQ (z:ao.length<=Ø) (hd:(a==ĸ)=false) (rel:KV ao vs) (dd:h'.DictOf (hV P w) a vs) :
  bM P w H' h' a (.dK ao):=⟨z,hd,vs,rel,dd⟩
end
section
variable {X:Cx} {π:List (Ó×Obj)} {σ:St} {H:Hp} {s:Ã} {a:Ó} {ao:List (Key×V)} {k:Key} {u:Ä} {A:ó} {E:Ä->Ã->Prop}
end
section
variable {X:Cx} {o i e value:ę} {pos pos' oG:Pos} {td ty tv:TE}
end
def Cq (h:Į) (hb:ĸ<h.objs.size):bM P w H (h.push { cls:=.type "dict",data:=.dict #[] }) h.objs.size (.dK []) :=
 ⟨Ě _,beq_eq_false_iff_ne.mpr (Œ (Þ hb)),[],.nil,Heap.DictOf.new h⟩
def NR:TE:=fun _ H Q=>∀p,H p=none->Q (.ref p) (upd H p (.dK []))
section
variable {X:Cx} {pos:Pos}
def KG:PE X (.Dict [] [] pos) NR:=fun Z s σ H Q I h =>
 wpAny_Dict_empty ⟨.ref s.heap.objs.size,_,I.laid (a:=s.heap.objs.size) (o:=.dK []) (t':=s.toks) (fun _ _ q=>Á _ q) (Wl _) (Cq s.heap I.big),rfl,h _ (I.au.fresh (Wl _))⟩
end
def xT:List (TE×TE)->St->Hp->(List (V×V)->Hp->Prop)->Prop
 | [],_,H,Q=>Q [] H
 |(Z,Y)::r,σ,H,Q=>Z σ H fun x X=>Y σ X fun y W=>xT r σ W fun U T=>Q ((x,y)::U) T
abbrev VV:List (V×V)->List (Ä×Ä)->Prop:=Paired fun p q=>RelV p.1 q.1/\RelV p.2 q.2
def vV (X:Cx) (pos:Pos) (keys:List (Option ę)) (values:List ę) (m6:List (TE×TE)):Prop :=
 ∀(Z:List (Ó×Obj)) (s:Ã) (σ:St) (H:Hp) (Q:List (V×V)->Hp->Prop),Inv X Z σ H s->xT m6 σ H Q ->
  Ù (ß X.prog X.w) X.A (evalPairs (pairTrees keys values X.env pos)) (fun U T=>∃Y W,Inv X Z σ W T/\VV Y U/\Q Y W) X.xe s
def Me:vV X pos [] [] []:=fun Z s σ H Q I h=>pairTrees_nil_walk ⟨[],H,I,.nil,h⟩
def KH (hk:PE X k tk) (hv:PE X v tv) (hr:vV X pos ks vs m6) :
  vV X pos (some k::ks) (v::vs) ((tk,tv)::m6):=fun Z s σ H Q I h =>
 pairTrees_cons_walk (aA (hk Z s σ H _ I h) fun u Y ⟨x,W,V,U,T⟩=>aA (hv Z Y σ W _ V T) fun G S ⟨y,R,P,O,N⟩ =>
  aA (hr Z S σ R _ P N) fun ws F ⟨M,L,K,rel,J⟩=>⟨(x,y)::M,L,K,.cons ⟨U,O⟩ rel,J⟩)
def nV (ao more:List (Key×V)):List (Key×V):=more.foldl (fun Z Y=>putK Z Y.1 Y.2) ao
def KV.merge:∀{more:List (Key×V)} {rs:List (Key×Ä)} {ao:List (Key×V)} {vs:List (Key×Ä)},KV more rs->KV ao vs->KV (nV ao more) (merged vs rs):=by
 intro more rs ao vs r;unfold KV at r
 induction r generalizing ao vs with
 |nil=>intro q;exact q
 | @cons p q Y X h t ih =>
  intro Z;have e:KV (putK ao p.1 p.2) (stored vs q.1 q.2):=by
   have:=Z.put p.1 h.2;rw [<- h.1];exact this
  exact ih e
theorem Bt:∀(more ao:List (Key×V)),(nV ao more).length<=ao.length+more.length
 | [],ao=>by show ao.length<=ao.length+0;omega
 |p::r,ao=>by
  have Z:=Bt r (putK ao p.1 p.2);have Y:=HX ao p.1 p.2;show (nV (putK ao p.1 p.2) r).length<=_;rw [Ý];omega
theorem BJ:∀{ao:List (Key×V)} {ws:List (Ä×Ä)},VV (ao.map fun kv=>(kV kv.1,kv.2)) ws->∃rs,Carries (hV P w) ws rs/\KV ao rs
 | [],_,r=>by rw [ō] at r;cases r;exact ⟨[],True.intro,.nil⟩
 |p::ao,_,r=>by
  rw [ç] at r
  cases r with
  | @cons a b as bs h t =>
   obtain ⟨rs,c,q⟩:=BJ (P:=P) (w:=w) t;obtain ⟨Z,b2⟩:=b;exact ⟨(p.1,b2)::rs,⟨O9 h.1,rfl,c⟩,.cons ⟨rfl,h.2⟩ q⟩
def Pd (m6:List (TE×TE)):TE:=fun σ H Q=>∀p,H p=none->xT m6 σ (upd H p (.dK [])) fun W Y=>Y p=some (.dK [])/\∃Z:List (Key×V),W=Z.map (fun X=>(kV X.1,X.2))/\Z.length<=15/\Q (.ref p) (upd Y p (.dK (nV [] Z)))
def Mf (h:vV X pos keys values m6) (qZ:keys.all (·.isSome)=true) (hl:keys.length=values.length) (h0:keys≠[])
 (rZ:keys.length<=15):PE X (.Dict keys values pos) (Pd m6):=by
 intro V s σ H Q I q;have U:=I.au.fresh (Wl s.heap.objs.size);have T:=I.laid (a:=s.heap.objs.size) (o:=.dK []) (h':=s.heap.push { cls:=.type "dict",data:=.dict #[] }) (t':=s.toks) (fun _ _ q=>Á _ q) (Wl _) (Cq s.heap I.big);refine wpAny_Dict_walk (knd:=hV X.prog X.w) qZ hl h0 rZ (aA (h V _ σ _ _ T (q _ U)) fun ws C ⟨B,A,Z,rel,e,Y,S,lk,R⟩=>?_);subst S;obtain ⟨O,c,N⟩:=BJ (P:=X.prog) (w:=X.w) rel;obtain ⟨z,M,y,L,K⟩:=Pc Z.au e;cases L;refine ⟨O,c,K,fun h' W J=>⟨.ref s.heap.objs.size,_,?_,rfl,R⟩⟩;have G:(nV [] Y).length<=Ø:=by
  have F:=Bt Y [];rw [è] at F;rw [ο];omega
 have E:∃q,h'.get? s.heap.objs.size=some q:=let ⟨q,_,_,D,_⟩:=W;⟨q,D⟩
 exact Md Z (by rw [e];exact True.intro) J E (NQ G M (N.merge .nil) W)
structure M1 (X:Cx) (o:ę) (m:Str) (apos:Pos) (e:ę) (bh:Pos):Prop where
 base:Ve o m X.env (ĺ o X.env)=ĺ o X.env
 kE:((į bh (Ê [e] X.env)).all (fun x=>!x.1)&&(backToKw bh (ς [] X.env)).all (fun x=>x.1.isSome)
  && decide (([e]:List ę).length+([]:List Vt).length+(if ([]:List Vt).isEmpty then 0 else 1)<30))=true
 line:(apos.endLine==bh.line)=true
 trees:į bh (Ê [e] X.env)=[(false,ĺ e X.env)]
structure M2 (X:Cx) (o:ę) (m:Str) (apos:Pos) (e f:ę) (bh:Pos):Prop where
 base:Ve o m X.env (ĺ o X.env)=ĺ o X.env
 kE:((į bh (Ê [e,f] X.env)).all (fun x=>!x.1)&&(backToKw bh (ς [] X.env)).all (fun x=>x.1.isSome)
  && decide (([e,f]:List ę).length+([]:List Vt).length+(if ([]:List Vt).isEmpty then 0 else 1)<30))=true
 line:(apos.endLine==bh.line)=true
 trees:į bh (Ê [e,f] X.env)=[(false,ĺ e X.env),(false,ĺ f X.env)]
section
variable {X:Cx} {π:List (Ó×Obj)} {σ:St} {H:Hp} {s:Ã} {a:Ó} {y d:V} {u r:Ä} {o:Option V} {A:ó} {E:Ä->Ã->Prop}
end
section
variable {X:Cx} {o e f:ę} {apos bh:Pos} {td ty tx:TE}
end
section
variable {X:Cx} {π:List (Ó×Obj)} {σ:St} {H:Hp} {s:Ã} {a:Ó} {ao:List (Key×V)} {A:ó} {E:Ä->Ã->Prop}
end
section
variable {X:Cx} {π:List (Ó×Obj)} {σ:St} {H:Hp} {s:Ã} {a:Ó} {y:V} {u:Ä} {A:ó} {E:Ä->Ã->Prop}
end
section
variable {K:Ĉ} {caps:St} {H:Hp} {tf:TT} {te:TE} {Q:VK}
end
noncomputable def DD (sc:ŷ) (on:List (Str×Ő)) (oN N:List Str) (nt:Nat) (cap:List Nat):Bool :=
 decide (sc.kind=.function)&&sc.names.all (fun x=>decide (x.2≠.cell))&&sc.names.all (fun x=>decide (x.2=.local->sc.names.lookup x.1=some .local)) &&
 sc.names.all (fun x=>decide (x.2=.free->sc.names.lookup x.1=some .free/\(on.lookup x.1=some .cell\/on.lookup x.1=some .free)))&&decide (N.length=nt+cap.length) &&
 (Ĺ cap.length).all (fun k=>match cap[k]? with
  |some j=>match oN[j]? with
   |some x=>decide (N[nt+k]?=some x)&&decide ((x,å)∈sc.names)
   |none=>false
  |none=>true)
def Pe (h:DD sc X.env.scope.names X.N N nt cap=true):ui X sc N nt cap:=by
 unfold DD at h;simp only [Ë,õ,Ú] at h;obtain ⟨⟨⟨⟨⟨Z,Y⟩,W⟩,V⟩,U⟩,T⟩:=h;refine ⟨Z,Y,W,fun x S e=>V x S e,U,fun k j e=>?_⟩;have R:k<cap.length:=(È.mp e).1;have:=T k (Č.mpr R);rw [e] at this;dsimp only at this
 cases ex:X.N[j]? with
 |none=>rw [ex] at this;cases this
 |some x =>
  rw [ex] at this;simp only [Ë,Ú] at this;exact ⟨x,rfl,this.1,this.2⟩
end L2
namespace TS
open PySem
abbrev i5 (l:List Nat):Prop:=l.Pairwise (· < ·)
def KI (xs:Array Nat) (k d:Nat):xs.getD k d=xs.toList.getD k d:=by
 cases xs with
 |mk l =>
  by_cases h:k<l.length
  ·simp [Array.getD,ť,h]
  ·simp [Array.getD,ť,h]
def tN (h:i5 l) (F7:a<b) (hb:b<l.length):l.getD a 0<l.getD b 0:=by
 have:=List.pairwise_iff_getElem.mp h a b (by omega) hb F7;simpa [ť,Ð hb,Ð (show a<l.length by omega)] using this
def KJ (l:List Nat) (hk:k<l.length) (d e:Nat):l.getD k d=l.getD k e:=by
 simp [ť,Ð hk]
theorem xA (xs:Array Nat) (j:Nat) (hr:i5 xs.toList):∀(fuel lo hi:Nat),hi-lo<=fuel->lo<=hi->hi<=xs.toList.length->(∀k,k<lo->xs.toList.getD k 0<j)->(∀k,hi<=k->k<xs.toList.length->j<=xs.toList.getD k 0) ->
  Vy xs j fuel lo hi<=xs.toList.length/\(∀k,k<Vy xs j fuel lo hi->xs.toList.getD k 0<j)/\(∀k,Vy xs j fuel lo hi<=k->k<xs.toList.length->j<=xs.toList.getD k 0)
 |0,lo,hi,S,R,Z,Y,X=>by
  have e:lo=hi:=by omega
  subst e;exact ⟨Z,Y,X⟩
 |fuel+1,lo,hi,S,R,Z,Y,X=>by
  unfold Vy;by_cases U:lo<hi
  ·rw [ê U]
   dsimp only;have T:(lo+hi) / 2<xs.toList.length:=by omega
   rw [KI,KJ _ T j 0];by_cases W:xs.toList.getD ((lo+hi) / 2) 0<j
   ·rw [ê W]
    refine xA xs j hr fuel _ _ (by omega) (by omega) Z (fun k Q=>?_) X;by_cases V:k=(lo+hi) / 2
    ·rw [V];exact W
    ·exact Nat.lt_trans (tN hr (by omega) T) W
   ·rw [ú W]
    refine xA xs j hr fuel _ _ (by omega) (by omega) (by omega) Y (fun k Q V=>?_);by_cases P:k=(lo+hi) / 2
    ·rw [P];omega
    ·have:=tN hr (show (lo+hi) / 2<k by omega) V
     omega
  ·rw [ú U]
   have e:lo=hi:=by omega
   subst e;exact ⟨Z,Y,X⟩
def BK (xs:Array Nat) (j:Nat) (hr:i5 xs.toList):ý xs j<=xs.toList.length/\(∀k,k<ý xs j->xs.toList.getD k 0<j)/\(∀k,ý xs j<=k->k<xs.toList.length->j<=xs.toList.getD k 0):=by
 unfold ý;exact xA xs j hr xs.size 0 xs.size (by omega) (Ě _) (by simp) (fun k Z=>by omega) (fun k Z Y=>by simp at Y;omega)
def HY {l:List Nat} {p j:Nat} (h:∀k,k<p->l.getD k 0<j):∀x∈l.take p,x<j:=by
 intro x Y;obtain ⟨k,X,e⟩:=VX Y;have Z:k<p/\k<l.length:=by rw [İ] at X;omega
 have:=h k Z.1;rw [List.getElem_take] at e;rw [<- e];simpa [ť,Ð Z.2] using this
def H0 {l:List Nat} {p j:Nat} (h:∀k,p<=k->k<l.length->j<=l.getD k 0):∀x∈l.drop p,j<=x:=by
 intro x Y;obtain ⟨k,X,e⟩:=VX Y;have Z:p+k<l.length:=by rw [ţ] at X;omega
 have:=h (p+k) (by omega) Z;rw [List.getElem_drop] at e;rw [<- e];simpa [ť,Ð Z] using this
def KL {xs:Array Nat} {j:Nat} (hr:i5 xs.toList) (hn:xs[ý xs j]?≠some j):i5 (SetTable.insertAt xs (ý xs j) j).toList:=by
 obtain ⟨T,V,U⟩:=BK xs j hr;rw [SetTable.toList_insertAt];have a1:=HY V;have a2:∀x∈xs.toList.drop (ý xs j),j<x:=by
  intro x hx;have Y:=H0 U;have X:i5 (xs.toList.drop (ý xs j)):=VL (List.drop_sublist _ _) hr
  cases Z:xs.toList.drop (ý xs j) with
  |nil=>rw [Z] at hx;cases hx
  |cons y r =>
   rw [Z] at X hx Y;have hy:j≠y:=by
    intro e;apply hn;have:(xs.toList.drop (ý xs j))[0]?=some y:=by rw [Z];rfl
    rw [List.getElem?_drop] at this;have e2:xs.toList[ý xs j]?=some y:=by simpa using this
    rw [<- Ŏ,e2,e]
   have W:j<y:=Nat.lt_of_le_of_ne (Y y Ô) hy
   rcases Ö.mp hx with e|hx
   ·rw [e];exact W
   ·exact Nat.lt_trans W ((Ğ.mp X).1 x hx)
 first
  |(refine VO.mpr ⟨VL (List.take_sublist _ _) hr,Ğ.mpr ⟨a2,VL (List.drop_sublist _ _) hr⟩,fun x hx y hy=>?_⟩
    rcases Ö.mp hy with e|hy
    ·rw [e];exact a1 x hx
    ·exact Nat.lt_trans (a1 x hx) (a2 y hy))
  |trace_state
theorem xB (t:SetTable) (h:Int):∀(fuel:Nat) (p:SetTable.Probe) (j:Nat) (dm:Option Nat),(∀d,p.dummy=some d->t.slot d=.dummy)->Wa t (fun _=>h+1) h fuel p=some (.empty j dm)->t.slot j=.empty/\∀d,dm=some d->t.slot d=.dummy
 |0,p,j,dm,X,e=>by simp [Wa] at e
 |fuel+1,p,j,dm,X,e=>by
  unfold Wa at e
  cases Y:t.slot p.j with
  |empty =>
   rw [Y] at e;simp at e;rw [<- e.1,<- e.2];exact ⟨Y,X⟩
  |dummy =>
   rw [Y] at e;refine xB t h fuel _ j dm (fun d Z=>?_) e;unfold SetTable.advance at Z;split at Z
   ·simp at Z;rw [<- Z];exact Y
   ·simp at Z;rw [<- Z];exact Y
  |live i =>
   rw [Y] at e;have W:(h+1==h)=false:=by simp;omega
   simp only [W,Ç,û] at e;refine xB t h fuel _ j dm (fun d Z=>?_) e;unfold SetTable.advance at Z;split at Z
   ·exact X d Z
   ·exact X d Z
def B9 {t:SetTable} {j:Nat} (h:t.slot j=.empty\/t.slot j=.dummy):t.place[ý t.place j]?≠some j:=by
 intro e;have:t.slot j=.live (ý t.place j):=by
  unfold SetTable.slot;simp [e]
 rw [this] at h
 rcases h with h|h<;>cases h
def JI {t:SetTable} {h:Int} {j:Nat} {b:Bool} (e:t.freeSlot h=some (j,b)):t.place[ý t.place j]?≠some j:=by
 unfold SetTable.freeSlot SetTable.probe at e;split at e
 ·rename_i Y Z X
  have k:=xB t h _ _ Y Z (fun d W=>by simp [SetTable.probeStart] at W) X;simp at e;rw [<- e.1]
  cases Z with
  |none=>exact B9 (.inl k.1)
  |some d=>exact B9 (.inr (k.2 d rfl))
 ·cases e
structure fN (led:Bool) (t:SetTable):Prop where
 led:t.led=led
 rise:t.plain=true->i5 t.place.toList
def sT (h:fN led t) (n:Nat):fN led (t.standIn n):=⟨h.led,fun z=>by simp [SetTable.standIn] at z⟩
def IE {led:Bool} {t:SetTable} (h:fN led t) (es:Array (Int×Ä)) (hs:Int) (x:Ä):fN led (layNew t es hs x).2.1:=by
 unfold layNew;split
 ·rename_i slot Y e
  dsimp only;unfold SetTable.orStandIn;have Z:fN led (t.put slot).1:=⟨h.led,fun z=>KL (h.rise z) (JI e)⟩;split
  ·exact Z
  ·exact sT Z _
 ·exact sT h _
def KN {mask finger moves:Nat} {led plain:Bool} {hs:Array Int} {o:Array Nat} (e:SetTable.laid mask finger moves led plain hs=some (t,o)):fN led t/\t.plain=plain:=by
 unfold SetTable.laid at e
 cases X:SetTable.layClean mask hs with
 |none=>rw [X] at e;simp at e
 |some owner =>
  rw [X] at e;simp at e;obtain ⟨e1,e2⟩:=e;subst e1;refine ⟨⟨rfl,fun _=>?_⟩,rfl⟩;show i5 (List.toArray _).toList;simp only [List.map_filterMap];refine List.pairwise_filterMap.mpr ?_;refine List.Pairwise.imp (R:=(· < ·)) ?_ (List.pairwise_lt_range);intro a b U x Z y Y
  cases W:(owner[a]?.getD none) with
  |none=>rw [W] at Z;simp at Z
  |some q =>
   cases V:(owner[b]?.getD none) with
   |none=>rw [V] at Y;simp at Y
   |some r =>
    rw [W] at Z;rw [V] at Y;simp at Z Y;omega
def JJ (h:fN led t) (es:Array (Int×Ä)) (n:Nat):fN led (relayAll t es n).2.1:=by
 unfold relayAll;split
 ·rename_i Z o e
  dsimp only;split
  ·unfold SetTable.relaid at e
   have k:=KN e;exact ⟨k.1.led.trans h.led,k.1.rise⟩
  ·exact sT h _
 ·exact sT h _
def JK (led:Bool):fN led (.fresh 0 0 led):=⟨rfl,fun _=>List.Pairwise.nil⟩
open PySem.Spec PyProof.Rows
section
variable {P:á} {w:Ą} {A:ó} {E:Ä->Ã->Prop} {s:Ã} {led:Bool}
def et (P:á) (w:Ą) (led:Bool) (h:Į) (a:Ó) (S:Int->Bool) (n:Nat):Prop :=
 ∃o Z Y t,h.get? a=some o/\o.ExactSet/\o.data=.set Z Y t/\ElemsOf (ń P w) Z.toList/\(∀k,S k=true↔∃e∈Z.toList,(ń P w).is k e.2=true)/\Z.size<ε/\t.fits Z.size=true/\Z.size=n/\fN led t
def et.at (x:et P w led h a S n) (k:∀o,h.get? a=some o->h'.get? a=some o):et P w led h' a S n:=by
 obtain ⟨o,Z,Y,t,X,r⟩:=x;exact ⟨o,Z,Y,t,k o X,r⟩
def et.congr (x:et P w led h a S n) (e:∀k,S k=S' k) (en:n=n'):et P w led h a S' n':=by
 obtain rfl:S=S':=funext e;subst en;exact x
def xC {a:Ó} {u:Obj} {es fg:Array (Int×Ä)} {ep:Nat} {t t':SetTable} {h:Į} (hu:h.get? a=some u) (hx:u.ExactSet) (hd:u.data=.set es ep t) {S:Int->Bool}
  (c1:ElemsOf (ń P w) fg.toList) (c2:∀k,S k=true↔∃e∈fg.toList,(ń P w).is k e.2=true) (c3:fg.size<ε) (c4:t'.fits fg.size=true) (c5:fN led t') :
  (h.update a (Obj.putSet fg t')).get? a=some { u with data:=.set fg (ep+1) t' }/\et P w led (h.update a (Obj.putSet fg t')) a S fg.size:=by
 have g:=(SetOf_store (knd:=ń P w) hu hx hd c1 c2 c3 c4).1;exact ⟨g,_,fg,ep+1,t',g,hx,rfl,c1,c2,c3,c4,rfl,c5⟩
def Mg {a:Ó} {S:Int->Bool} {n:Nat} {k:Int} {tk:Tok} {Q:Bool->Ã->Prop} (hS:et P w led s.heap a S n) (Pf:n+1<ε)
  (h:∀h',Ĥ a s.heap h'->et P w led h' a (fun j=>S j||decide (j=k)) (if S k then n else n+1)->Q (!S k) { s with heap:=h' }) :
  Ù (ß P w) A (setAddHashed a (.int k tk) ((ń P w).hash k)) Q E s:=by
 obtain ⟨u,W,d,t,R,H,O,G,F,m,B,y,i⟩:=hS;have ky:(ń P w).is k (.int k tk)=true:=intKind_is _ _ _ _;have sc:(VT k tk).scannable=true:=rfl;have UN:W.size+1<ε:=by rw [y];exact Pf
 unfold setAddHashed setAddHashedIn;refine ą ?_;refine À (ř R O B ?_);dsimp only;rw [byScan_of sc m G,ê rfl];unfold setAddByScan;refine À (À (Ň ?_));refine À (wpAny_setScan_of ky R O B G ?_)
 cases g:W.toList.findIdx? (fun e=>(ń P w).is k e.2) with
 |some j =>
  dsimp only;obtain ⟨c,pj,_⟩:=List.findIdx?_eq_some_iff_getElem.mp g;have K:S k=true:=(F k).mpr ⟨W.toList[j],List.getElem_mem c,pj⟩;have q:=h s.heap (Heap.SameBut.refl a s.heap) ⟨u,W,d,t,R,H,O,G,fun j'=>by
   rw [V0,Ú,<- F j'];exact ⟨fun z=>z.elim id fun e=>by rw [e];exact K,Vi⟩,m,B,by rw [K];exact y,i⟩
  rw [K] at q;exact Â (Â q)
 |none =>
  dsimp only;have K:S k=false:=by
   rw [<- Bool.not_eq_true,F k];rintro ⟨e,X,pe⟩;have z:=List.findIdx?_eq_none_iff.mp g e X;rw [pe] at z;cases z
  have way:∀(b:Bool) {x:Ã} {v:Unit->Ã->Prop},v () x->Ù (ß P w) A (match b with|true=>rule "set.scan.the-table-gave-way"|false=>pure ()) v E x :=
   fun b x v q=>by cases b<;>first|exact Â q|exact Ň q
  have pm:=layNew_perm t W ((ń P w).hash k) (.int k tk);have r:=layNew_fits t W ((ń P w).hash k) (.int k tk);have D:=IE i W ((ń P w).hash k) (.int k tk);generalize layNew t W ((ń P w).hash k) (.int k tk)=L at pm r D |-;obtain ⟨Z,t1,Ux,UD⟩:=L;dsimp only at pm r D |-;rw [Vz] at pm;have p:ElemsOf (ń P w) Z.toList:=(G.push ky sc).perm pm;have o:∀j,(S j||decide (j=k))=true↔∃e∈Z.toList,(ń P w).is j e.2=true:=mem_push_iff ky F pm;have z1:Z.size=n+1:=by
   have l:=pm.length_eq;rw [ä,Ā,Ā,y] at l;exact l
  have V:Z.size<ε:=by omega
  refine À (way _ ?_);obtain ⟨g1,f⟩:=xC (S:=fun j=>S j||decide (j=k)) R H O p o V r D;have C:=Ď s.heap a (Obj.putSet Z t1)
  have fin:∀h',Ĥ a s.heap h'->et P w led h' a (fun j=>S j||decide (j=k)) Z.size->Q true { s with heap:=h' }:=fun h' sb T=>by
   have q:=h h' sb;rw [K] at q;rw [z1] at T;exact q T
  have Y:=relayAll_perm t1 Z (VF Z.size);have N:=relayAll_fits t1 Z (VF Z.size);have M:=JJ D Z (VF Z.size);have hv:hashByValue 8 (VT k tk)=pure true:=rfl;split
  ·refine À ?_
   rw [hv];refine Â ?_;simp only [ă];refine À (VA R O ?_ (ź V));split
   ·generalize relayAll t1 Z (VF Z.size)=L2 at Y N M |-
    obtain ⟨J,t2,Pg⟩:=L2;dsimp only at Y N M |-;have U:J.size=Z.size:=by
     have l:=Y.length_eq;rwa [Ā,Ā] at l
    have f2:∀j,(S j||decide (j=k))=true↔∃e∈J.toList,(ń P w).is j e.2=true:=fun j=>(o j).trans ⟨fun ⟨e,X,q⟩=>⟨e,Y.mem_iff.mpr X,q⟩,fun ⟨e,X,q⟩=>⟨e,Y.mem_iff.mp X,q⟩⟩;refine À (way _ ?_);refine À (VA g1 rfl ?_ (ź (by rw [U];exact V)));obtain ⟨g2,I⟩:=xC (S:=fun j=>S j||decide (j=k)) (led:=led) g1 H rfl (p.perm Y) f2 (by rw [U];exact V) N M;rw [U] at I;exact Â (Â (fin _ (C.trans (Ď _ a _)) I))
   ·exact Â (Â (fin _ C f))
  ·refine À (Â ?_)
   simp only [ă];refine À (VA R O ?_ (ź V));split
   ·generalize relayAll t1 Z (VF Z.size)=L2 at Y N M |-
    obtain ⟨J,t2,Pg⟩:=L2;dsimp only at Y N M |-;have U:J.size=Z.size:=by
     have l:=Y.length_eq;rwa [Ā,Ā] at l
    have f2:∀j,(S j||decide (j=k))=true↔∃e∈J.toList,(ń P w).is j e.2=true:=fun j=>(o j).trans ⟨fun ⟨e,X,q⟩=>⟨e,Y.mem_iff.mpr X,q⟩,fun ⟨e,X,q⟩=>⟨e,Y.mem_iff.mp X,q⟩⟩;refine À (way _ ?_);refine À (VA g1 rfl ?_ (ź (by rw [U];exact V)));obtain ⟨g2,I⟩:=xC (S:=fun j=>S j||decide (j=k)) (led:=led) g1 H rfl (p.perm Y) f2 (by rw [U];exact V) N M;rw [U] at I;exact Â (Â (fin _ (C.trans (Ď _ a _)) I))
   ·exact Â (Â (fin _ C f))
end
def Hh:entryFor table "set.__iter__"=some Ř.«frozenset.__iter__»:=entryFor_alias (id':="frozenset.__iter__") (by kernel_rfl) rfl (by decide +kernel) (by kernel_rfl)
def iJ:Slot "set_iterator" "__next__" "set_iterator.__next__" :=
 .of (owner:="set_iterator") (n:="__next__") (by rw [typeLookup_type,builtinLookup_eq_fast];kernel_rfl) (by decide +kernel) (by decide +kernel) (by decide +kernel)
  (by first|exact .inl (by decide +kernel)|exact .inr (by decide +kernel)) (by rw [isSubtype_type];kernel_rfl)
def sO:entryFor table "set_iterator.__next__"=some Ř.«set_iterator.__next__»:=entryFor_of_tree (by kernel_rfl)
def sR (a:Ä):argsOk "set_iterator.__next__" ⟨[a],[]⟩:=by unfold argsOk;kernel_rfl
def Bw:Slot "set_iterator" "__iter__" "set_iterator.__iter__" :=
 .of (owner:="set_iterator") (n:="__iter__") (by rw [typeLookup_type,builtinLookup_eq_fast];kernel_rfl) (by decide +kernel) (by decide +kernel) (by decide +kernel)
  (by first|exact .inl (by decide +kernel)|exact .inr (by decide +kernel)) (by rw [isSubtype_type];kernel_rfl)
def gH (h:Į) (I a:Ó) (first:Ä) (i n ep:Nat):Prop:=∃o,h.get? I=some o/\o.cls=.type "set_iterator"/\o.data=.fields #[first,.int i 0,.ref a,.int n 0,.int ep 0]
section
variable {P:á} {w:Ą} {A:ó} {E:Ä->Ã->Prop} {s:Ã}
def C3 {slot i n ep nx:Nat} {es:Array (Int×Ä)} {Q:Option Ä->Ã->Prop} (hit:gH s.heap I a (.int slot 0) i n ep)
 (hu:s.heap.get? a=some u) (hd:u.data=.set es ep t) (hf:t.fits es.size=true) (hn:es.size=n)
 (hs:∀(A':ó) (Q':Option (Ä×Nat)->Ã->Prop) (E':Ä->Ã->Prop),Q' (some (x,nx)) s->Ù (ß P w) A' (setNext a slot i ep) Q' E' s)
 (hQ:∀h',gH h' I a (.int nx 0) (i+1) n ep->Ĥ I s.heap h'->Q (some x) { s with heap:=h' }):Ù (ß P w) A (Ŕ (.ref I)) Q E s:=by
 obtain ⟨o,Y,X,Z⟩:=id hit;have W:s.TypeIs (.ref I) "set_iterator":=⟨o,Y,X⟩;unfold Ŕ;refine À (Ľ (ï (name:=Ă "__next__") W iJ
  (ø iJ W sO ?_ (sR _))))
 unfold Ř.«set_iterator.__next__» slotArgs;simp only [μ,ď,Ç,↓reduceIte,bind_assoc,è,ē];refine À (Â ?_);refine À (wpAny_fieldsOf Y Z ?_);dsimp only;refine À (ş hu hd hf ?_);rw [hn];simp only [ē,Ç,↓reduceIte,Ħ];refine À (hs _ _ _ ?_);dsimp only;refine À (Ū Y Z (by simp) ?_);refine À (Ū (ü _ Y (Ķ (ÿ Z _))) (ÿ Z _) (by simp) ?_);refine Â ⟨x,rfl,Â (hQ _ ⟨_,ü _ (ü _ Y (Ķ (ÿ Z _))) (Ķ (ÿ (ÿ Z _) _)),(Vw ..).trans ((Vw ..).trans X),?_⟩ ((Ď ..).trans (Ď ..)))⟩;rw [ÿ (ÿ Z _)];simp [Ţ]
def IF (hm:m≠0) (h:Q (w.draws src (s.drawn.get src) % m) { s with drawn:=s.drawn.bump src }):Ù (ß P w) A (choose src m) Q E s:=fun Z p Y=>by
 unfold choose;rw [Sem.wp_choose];exact ⟨hm,h⟩
def Ca (hh:A.handled=none) (ho:s.heap.get? I=some o) (cL:o.data=.fields vs) (h2:2<vs.size)
 (hQ:∀h',υ I s.heap h'->Q none { s with heap:=h' }) :
  Ù (ß P w) A.in1 (setField (.ref I) 2 .none >>= fun _=>newExc (.type "StopIteration") [] >>= fun e=>(raiseNew e:Sem Fin)) (fun fin s'=>∃v,fin=Fin.done (Flow.ret v)/\Ù (ß P w) A (pure (some v)) Q E s')
   (fun e s'=>Ù (ß P w) A (isInstance e (ũ "StopIteration") >>= fun b=>if b=true then pure none else throw e) Q E s') s:=by
 refine À (Ū ho cL h2 ?_);refine À ?_;simp only [newExc,newTuple];refine À (ô ?_ (by size_fits))
 refine À (m:=firstArgMember _ _) (wpAny_of_eq (a:=Value.none) (by first|rfl | (simp only [firstArgMember];rfl)) ?_)
 refine ô ?_ (by size_fits);simp only [raiseNew];refine À (wpAny_handled ?_)
 first|rw [show A.in1.handled=none from hh]|rw [hh]
 refine À (Â (wpAny_throw ?_));refine À (VN (T:="StopIteration") (b:=true) ⟨_,Ì _ rfl,rfl⟩ isSubtype_stop ?_);exact Â (hQ _ (((Ď ..).extBut.push _).push _))
def DE {slot i n ep:Nat} {es:Array (Int×Ä)} {Q:Option Ä->Ã->Prop} (hh:A.handled=none) (hit:gH s.heap I a (.int slot 0) i n ep)
 (hu:s.heap.get? a=some u) (hd:u.data=.set es ep t) (hf:t.fits es.size=true) (hn:es.size=n)
 (hs:∀(A':ó) (Q':Option (Ä×Nat)->Ã->Prop) (E':Ä->Ã->Prop),Q' none s->Ù (ß P w) A' (setNext a slot i ep) Q' E' s)
 (hQ:∀h',υ I s.heap h'->Q none { s with heap:=h' }):Ù (ß P w) A (Ŕ (.ref I)) Q E s:=by
 obtain ⟨o,Z,W,Y⟩:=id hit;have X:s.TypeIs (.ref I) "set_iterator":=⟨o,Z,W⟩;unfold Ŕ;refine À (Ľ (ï (name:=Ă "__next__") X iJ
  (ø iJ X sO ?_ (sR _))))
 unfold Ř.«set_iterator.__next__» slotArgs;simp only [μ,ď,Ç,↓reduceIte,bind_assoc,è,ē];refine À (Â ?_);refine À (wpAny_fieldsOf Z Y ?_);dsimp only;refine À (ş hu hd hf ?_);rw [hn];simp only [ē,Ç,↓reduceIte,Ħ];refine À (hs _ _ _ ?_);dsimp only;exact Ca hh Z Y (by simp) hQ
def KO {i n ep pl:Nat} {es:Array (Int×Ä)} {x:Int×Ä} {Q:Option Ä->Ã->Prop} (hit:gH s.heap I a (.ref tp) i n ep)
 (hu:s.heap.get? a=some u) (hd:u.data=.set es ep t) (hf:t.fits es.size=true) (hn:es.size=n) (sf:s.heap.IsTuple tp places) (aQ:places[i]?=some (.int pl tk)) (hx:es[pl]?=some x)
 (hQ:∀h',gH h' I a (.ref tp) (i+1) n ep->Ĥ I s.heap h'->Q (some x.2) { s with heap:=h' }):Ù (ß P w) A (Ŕ (.ref I)) Q E s:=by
 obtain ⟨o,Z,X,Y⟩:=id hit;obtain ⟨op,V,T,np,U⟩:=sf;have W:s.TypeIs (.ref I) "set_iterator":=⟨o,Z,X⟩;unfold Ŕ;refine À (Ľ (ï (name:=Ă "__next__") W iJ
  (ø iJ W sO ?_ (sR _))))
 unfold Ř.«set_iterator.__next__» slotArgs;simp only [μ,ď,Ç,↓reduceIte,bind_assoc,è,ē];refine À (Â ?_);refine À (wpAny_fieldsOf Z Y ?_);dsimp only;refine À (ş hu hd hf ?_);rw [hn];simp only [ē,Ç,↓reduceIte,Ħ];refine À (Ē V U ?_);dsimp only;rw [aQ];dsimp only;unfold setNextDrawn;refine À (À (ř hu hd hf ?_));dsimp only;simp only [ē,Ç,↓reduceIte,Ħ];rw [hx];dsimp only;refine Â ?_;refine À (Ū Z Y (by simp) ?_);refine Â ⟨x.2,rfl,Â (hQ _ ⟨_,ü _ Z (Ķ (ÿ Y _)),(Vw ..).trans X,?_⟩ (Ď ..))⟩;rw [ÿ Y];simp [Ţ]
def Mh (hh:A.handled=none) (hit:gH s.heap I a (.ref tp) i n ep)
 (hu:s.heap.get? a=some u) (hd:u.data=.set es ep t) (hf:t.fits es.size=true) (hn:es.size=n) (sf:s.heap.IsTuple tp places) (aQ:places[i]?=none)
 (hQ:∀h',υ I s.heap h'->Q none { s with heap:=h' }):Ù (ß P w) A (Ŕ (.ref I)) Q E s:=by
 obtain ⟨o,Z,W,Y⟩:=id hit;obtain ⟨op,V,T,np,U⟩:=sf;have X:s.TypeIs (.ref I) "set_iterator":=⟨o,Z,W⟩;unfold Ŕ;refine À (Ľ (ï (name:=Ă "__next__") X iJ
  (ø iJ X sO ?_ (sR _))))
 unfold Ř.«set_iterator.__next__» slotArgs;simp only [μ,ď,Ç,↓reduceIte,bind_assoc,è,ē];refine À (Â ?_);refine À (wpAny_fieldsOf Z Y ?_);dsimp only;refine À (ş hu hd hf ?_);rw [hn];simp only [ē,Ç,↓reduceIte,Ħ];refine À (Ē V U ?_);dsimp only;rw [aQ];dsimp only;refine À (Ū Z Y (by simp) ?_)
 exact Ca (s:={ s with heap:=_ }) hh (ü _ Z (Ķ (ÿ Y _))) (ÿ Y _) (by simp) fun h' e=>hQ h' (Heap.ExtBut.trans (Ď ..).extBut e)
end
def Hn:entryFor table "set_iterator.__iter__"=some Ř.«dict_keyiterator.__iter__»:=entryFor_alias (id':="dict_keyiterator.__iter__") (by kernel_rfl) rfl (by decide +kernel) (by kernel_rfl)
def Hy (a:Ä):argsOk "set_iterator.__iter__" ⟨[a],[]⟩:=by unfold argsOk;kernel_rfl
section
variable {P:á} {w:Ą} {A:ó} {E:Ä->Ã->Prop} {s:Ã}
def xD (hit:gH s.heap I a f i n ep) (h:Q (.ref I) s):Ù (ß P w) A (pyIter (.ref I)) Q E s:=by
 obtain ⟨o,Y,X,W⟩:=id hit;have Z:s.TypeIs (.ref I) "set_iterator":=⟨o,Y,X⟩;refine wpAny_pyIter_slot Z Bw (ø Bw Z Hn ?_ (Hy _));show Ù _ _ (ret (.ref I)) _ _ s;exact Â ⟨_,rfl,"set_iterator",_,Z,iJ.lookup,h⟩
def gH.at (x:gH h I a f i n ep) (k:∀o,h.get? I=some o->h'.get? I=some o):gH h' I a f i n ep:=by
 obtain ⟨o,Z,r⟩:=x;exact ⟨o,k o Z,r⟩
def Cb (fF:w.params.followText "set-order"=true) (hu:s.heap.get? a=some u) (hd:u.data=.set es ep t) (hf:t.fits es.size=true)
 (h:Q' (((Ŧ (w.params.setOrder a ep) es)[i]?).map fun e=>(e.2,slot)) s):Ù (ß P w) A (setNext a slot i ep) Q' E s:=by
 unfold setNext;refine À (ř hu hd hf ?_);dsimp only;unfold setsByText;refine À (À (Ŋ (Â ?_)))
 show Ù _ _ (if w.params.followText "set-order"=true then _ else _) _ _ _
 rw [ê fF];simp only [ē,Ç,↓reduceIte];unfold setWalk;refine À (À (ř hu hd hf ?_));dsimp only;unfold setsByText;refine À (À (Ŋ (Â ?_)))
 show Ù _ _ (if w.params.followText "set-order"=true then _ else _) _ _ _
 rw [ê fF];refine À (Ŋ (Â ?_));exact Â h
def pY (hr:i5 xs.toList) (hi:i<=xs.toList.length) (h1:∀k,k<i->xs.toList.getD k 0<slot) (h2:∀k,i<=k->k<xs.toList.length->slot<=xs.toList.getD k 0):ý xs slot=i:=by
 obtain ⟨W,a1,a2⟩:=BK xs slot hr;by_cases Z:ý xs slot<i
 ·have Y:=a2 _ (Wl _) (by omega)
  have b2:=h1 _ Z;omega
 ·by_cases X:i<ý xs slot
  ·have Y:=a1 i X
   have b2:=h2 i (Wl _) (by omega);omega
  ·omega
def BL (fF:w.params.followText "set-order"=false) (hu:s.heap.get? a=some u) (hd:u.data=.set es ep t) (hf:t.fits es.size=true)
 (hl:t.led=true) (hp:t.plain=true\/es.size<=1) (hb:ý t.place slot=i)
 (h:Q' (match es[i]?,t.place[i]? with|some (_,x),some j=>some (x,j+1) | _,_=>none) s):Ù (ß P w) A (setNext a slot i ep) Q' E s:=by
 unfold setNext;refine À (ř hu hd hf ?_);dsimp only;unfold setsByText;refine À (À (Ŋ (Â ?_)))
 show Ù _ _ (if w.params.followText "set-order"=true then _ else _) _ _ _
 rw [ú (by rw [fF];decide)];split
 ·rename_i Y
  have Z:(!t.plain&&decide (es.size > 1))=true:=Y
  rcases hp with hp|hp
  ·rw [hp] at Z;cases Z
  ·simp at Z;omega
 ·refine À ?_
  show Ù _ _ (if (!t.led&&!es.isEmpty)=true then _ else _) _ _ _
  rw [hl];simp only [ď,Bool.false_and,Ç,↓reduceIte];refine Â ?_;rw [hb];exact Â h
def wH (sb:Ĥ I s.heap h'):Moved [I] (fun a b=>b=a) s { s with heap:=h' }:=⟨fun b o Z e=>by rw [sb.2 b (fun z=>Z (by simp [z]))];exact e,rfl,rfl,rfl,Wl _⟩
def wL (sb:υ I s.heap h'):Moved [I] (fun a b=>b=a) s { s with heap:=h' }:=⟨fun b o Z e=>sb b o (fun z=>Z (by simp [z])) e,rfl,rfl,rfl,Wl _⟩
end
def IG (hh:A.handled=none) (cK:a≠I) (fF:w.params.followText "set-order"=true) (hd:u.data=.set es ep t) (hf:t.fits es.size=true) (hsz:(Ŧ (w.params.setOrder a ep) es).size=es.size) :
  WalksS P w A I [I,a] [I] (fun a b=>b=a) es.size (fun i v=>((Ŧ (w.params.setOrder a ep) es).map (·.2))[i]?=some v) (fun i s=>gH s.heap I a (.int 0 0) i es.size ep/\s.heap.get? a=some u) where
 sub:=fun b W=>by simp at W;simp [W]
 grefl:=fun _=>rfl
 gtrans:=fun _ _ _ T S=>S.trans T
 frame:=fun i s V L Z _ U=>⟨Z.1.at fun o e=>U I (by simp) o e,U a (by simp) _ Z.2⟩
 item:=fun i s Q E hi Z Y=>by
  have R:i<(Ŧ (w.params.setOrder a ep) es).size:=by rw [hsz];exact hi
  have ex:(Ŧ (w.params.setOrder a ep) es)[i]?=some (Ŧ (w.params.setOrder a ep) es)[i]:=by simp [R]
  refine C3 (nx:=0) (x:=(Ŧ (w.params.setOrder a ep) es)[i].2) (slot:=0) Z.1 Z.2 hd hf rfl (fun O N M q=>Cb fF Z.2 hd hf (by rw [ex];exact q)) fun V it X=>?_;exact Y _ _ (by simp [ex]) ⟨it,by rw [X.2 a cK];exact Z.2⟩ (wH X)
 done:=fun s Q E Z Y=>by
  refine DE (slot:=0) hh Z.1 Z.2 hd hf rfl (fun O N M q=>Cb fF Z.2 hd hf (by
   rw [show (Ŧ (w.params.setOrder a ep) es)[es.size]?=none by simp [hsz]];exact q)) fun V X=>Y _ (wL X)
 self:=fun i s Q E Z Y=>xD Z.1 Y
def H9 (hh:A.handled=none) (cK:a≠I) (fF:w.params.followText "set-order"=false) (hd:u.data=.set es ep t) (hf:t.fits es.size=true) (hl:t.led=true) (hp:t.plain=true\/es.size<=1) (hr:i5 t.place.toList) :
  WalksS P w A I [I,a] [I] (fun a b=>b=a) es.size (fun i v=>(es.map (·.2))[i]?=some v) (fun i s=>∃slot:Nat,gH s.heap I a (.int slot 0) i es.size ep/\s.heap.get? a=some u/\i<=es.size/\(∀k,k<i->t.place.toList.getD k 0<slot)/\∀k,i<=k->k<t.place.toList.length->slot<=t.place.toList.getD k 0) where
 sub:=fun b N=>by simp at N;simp [N]
 grefl:=fun _=>rfl
 gtrans:=fun _ _ _ L K=>K.trans L
 frame:=fun i s M B Y _ V=>by
  obtain ⟨slot,X,Z,T⟩:=Y;exact ⟨slot,X.at fun o e=>V I (by simp) o e,V a (by simp) _ Z,T⟩
 item:=fun i s Q E hi Y W=>by
  obtain ⟨slot,X,Z,T,S,R⟩:=Y;have J:t.place.toList.length=es.size:=by
   simp only [SetTable.fits,Ë,beq_iff_eq,Ú] at hf;simpa using hf.1
  have O:i<t.place.toList.length:=by omega
  have e1:es[i]?=some es[i]:=by simp [hi]
  have e2:t.place[i]?=some (t.place.toList.getD i 0):=by
   rw [<- Ŏ,Ð O];simp [ť,Ð O]
  refine C3 (nx:=t.place.toList.getD i 0+1) (x:=es[i].2) (slot:=slot) X Z hd hf rfl (fun H G F q=>BL fF Z hd hf hl hp (pY hr (by omega) S R) (by rw [e1,e2];exact q)) fun M it U=>?_;refine W _ _ (by simp [e1]) ⟨_,it,by rw [U.2 a cK];exact Z,hi,fun k V=>?_,fun k V D=>?_⟩ (wH U)
  ·by_cases C:k=i
   ·rw [C];omega
   ·have:=tN hr (show k<i by omega) O
    omega
  ·have:=tN hr (show i<k by omega) D
   omega
 done:=fun s Q E Y W=>by
  obtain ⟨slot,X,Z,T,S,R⟩:=Y;have J:t.place.toList.length=es.size:=by
   simp only [SetTable.fits,Ë,beq_iff_eq,Ú] at hf;simpa using hf.1
  refine DE (slot:=slot) hh X Z hd hf rfl (fun H G F q=>BL fF Z hd hf hl hp (pY hr (by omega) S R) (by
   rw [show es[es.size]?=none by simp];exact q)) fun M U=>W _ (wL U)
 self:=fun i s Q E Y W=>by
  obtain ⟨slot,X,_⟩:=Y;exact xD X W
def Ia (hh:A.handled=none) (cK:a≠I) (RP:tp≠I) (hd:u.data=.set es ep t) (hf:t.fits es.size=true) (pl:List Nat) (aQ:pl.length=es.size) (z9:∀x∈pl,x<es.size) :
  WalksS P w A I [I,a,tp] [I] (fun a b=>b=a) es.size (fun i v=>(pl.map fun k=>(es.getD k (0,Value.none)).2)[i]?=some v) (fun i s=>gH s.heap I a (.ref tp) i es.size ep/\s.heap.get? a=some u/\s.heap.IsTuple tp (pl.map fun (k:Nat)=>Ţ k).toArray) where
 sub:=fun b U=>by simp at U;simp [U]
 grefl:=fun _=>rfl
 gtrans:=fun _ _ _ R O=>O.trans R
 frame:=fun i s T tk Z _ Y=>⟨Z.1.at fun o e=>Y I (by simp) o e,Y a (by simp) _ Z.2.1,let ⟨o,V,r⟩:=Z.2.2;⟨o,Y tp (by simp) o V,r⟩⟩
 item:=fun i s Q E hi Z X=>by
  have S:i<pl.length:=by omega
  have e1:pl[i]?=some pl[i]:=Ð S;have Y:=z9 _ (List.getElem_mem S);refine KO (pl:=pl[i]) (x:=es.getD pl[i] (0,Value.none)) (tk:=0) Z.1 Z.2.1 hd hf rfl Z.2.2 (by simp [e1,Ţ]) (by simp [Y,Array.getD]) fun T it W=>?_
  refine X _ _ (by simp [e1]) ⟨it,by rw [W.2 a cK];exact Z.2.1,let ⟨o,V,r⟩:=Z.2.2;⟨o,by rw [W.2 tp RP];exact V,r⟩⟩ (wH W)
 done:=fun s Q E Z X=>Mh hh Z.1 Z.2.1 hd hf rfl Z.2.2 (by simp [aQ]) fun T W=>X _ (wL W)
 self:=fun i s Q E Z X=>xD Z.1 X
noncomputable def cT (w:Ą):Bool:=!(w.params.followText "set-order")
section
variable {P:á} {w:Ą} {A:ó} {E:Ä->Ã->Prop} {s:Ã}
def KP (a:Ä)
 (hq:Q₁ (.ref s.heap.objs.size) { s with heap:=s.heap.push { cls:=.type "set",dict:=none,data:=.set #[] 0 (.fresh 0 0 (cT w)) } }) :
  Ŭ (ß P w) A (.call (.builtin "set.__new__") ⟨[.type "set",a],[]⟩) (wants Q₁ E) s:=by
 refine codeAny_of_tree ?_;show Ù _ A.in1 (checkBuiltinCall "set.__new__" ⟨[.type "set",a],[]⟩ >>= fun _=>again (.builtin "set.__new__" ⟨[.type "set",a],[]⟩)) _ _ s;refine À ?_;refine wpAny_of_eq (F.newCall_set_1 a) ?_;refine Â ⟨Š F.plain_set_new _,ī F.entry_set_new ?_⟩;rw [Ĝ F.plain_set_new _];unfold Ř.«set.__new__» Builtin.Frozenset.newClass;have ss:=sub_set_self;obtain ⟨Z,Y,X,W,V⟩:=s;dsimp only
 wp_walk
 refine Ŋ (Â ?_);dsimp only;simp only [newObj];refine À (wpAny_alloc ?_);exact Â (Â hq)
end
section
variable {P:á} {w:Ą} {A:ó} {R:Result->Ã->Prop} {I:Ó} {fp wr:List Ó} {G:Array GenState->Array GenState->Prop} {n:Nat} {Pv:Nat->Ä->Prop} {St:Nat->Ã->Prop} {led:Bool}
def KQ (val:Nat->Int) {i n:Nat} (h:i<=n):(ľ val i).length<=(ľ val n).length:=by
 induction h with
 |refl=>exact Wl _
 |step _ ih =>
  refine ã ih ?_;rw [firstMet_succ,step_length]
  split<;>omega
def KR (W:WalksS P w A.in1 I fp wr G n Pv St) (S:Ó) (sg:S∉fp)
  (val:Nat->Int) (QN:∀i v,Pv i v->∃t,v=.int (val i) t) (hb:(ľ val n).length+1<ε) :
  ∀(k i:Nat) (s:Ã),n-i=k->i<=n->St i s ->
   et P w led s.heap S (fun j=>(ľ val i).any (·==j)) (ľ val i).length ->
   (∀s',Moved (S::wr) G s s'->et P w led s'.heap S (fun j=>(ľ val n).any (·==j)) (ľ val n).length->R (.ok (.ret .none)) s') ->
   Ŭ (ß P w) A (.builtin "set.update.loop" ⟨[.ref S,.ref I],[]⟩) R s:=by
 have nw:S∉wr:=fun z=>sg (W.sub _ z);have sw:∀b∈wr,b∈S::wr:=fun b z=>Ï _ z;intro k
 induction k with
 |zero =>
  intro i s U hi Z T Y;obtain rfl:i=n:=by omega
  refine ī F.entry_set_update_loop ?_;rw [Ĝ Vj _];show Ù _ A.in1 (Ŕ (.ref I) >>= _) _ _ s;refine À (W.done s _ _ Z fun s' m=>?_);show Ù _ A.in1 (ret Value.none) _ _ s';exact Â (Y s' (m.mono sw) (T.at fun o e=>m.heap S o nw e))
 |succ k ih =>
  intro i s U hi Z T Y;have lt:i<n:=by omega
  refine ī F.entry_set_update_loop ?_;rw [Ĝ Vj _];show Ù _ A.in1 (Ŕ (.ref I) >>= _) _ _ s;refine À (W.item i s _ _ lt Z fun v s' Q O m=>?_);obtain ⟨t,rfl⟩:=QN i v Q;have N:=T.at (h':=s'.heap) fun o e=>m.heap S o nw e;show Ù _ A.in1 (U9 [VT (val i) t] (setAdd S (.int (val i) t)) >>= _) _ _ s';refine À (ą ?_);unfold setAdd;refine ą ?_;refine À ((ń P w).pyHash (k:=val i) (intKind_is _ _ _ _) ?_);have room:(ľ val i).length+1<ε:=by have:=KQ val hi;omega
  refine Mg (s:={ s' with toks:=s'.toks+1 }) N room fun h' V M=>?_
  have L:et P w led h' S (fun j=>(ľ val (i+1)).any (·==j)) (ľ val (i+1)).length:=M.congr (fun j=>by rw [firstMet_succ,step_any]) (by rw [firstMet_succ,step_length]);refine Â ⟨Š Vj _,ih (i+1) _ (by omega) lt (W.frame _ s' _ _ O (ψ _) fun b X o e=>?_) L fun K J H=>?_⟩
  ·rw [V.2 b fun z:b=S=>sg (z ▸ X)];exact e
  ·refine Y K (Moved.trans W.gtrans ((m.mono sw).then_heap (ψ _) fun b o X e=>?_) J) H
   rw [V.2 b fun z:b=S=>X (by rw [z];exact Ô)];exact e
end
section
variable {P:á} {w:Ą} {A:ó} {E:Ä->Ã->Prop} {s:Ã}
def IH   
 (hh:A.handled=none) (hl:s.heap.IsList l its) (hi:Vu its.toList ns) (hb:(ľ (fun i=>ns.getD i 0) its.size).length+1<ε)
 (h:∀(h':Į) (tk:Nat),et P w (cT w) h' s.heap.objs.size (fun k'=>(ľ (fun i=>ns.getD i 0) its.size).any (·==k')) (ľ (fun i=>ns.getD i 0) its.size).length ->
 (∀b o,b<s.heap.objs.size->s.heap.get? b=some o->h'.get? b=some o)->Q (.ref s.heap.objs.size) { s with heap:=h',toks:=tk }) :
  Ù (ß P w) A (call (.type "set") [.ref l]) Q E s:=by
 obtain ⟨c,tl,ur⟩:=ų.mro;have um:=ų.made;have ub:=ų.sub;refine wpAny_call (codeAny_of_tree ?_);show Ù _ _ (callAny (.type "set") _) _ _ _;refine Â ⟨Code.quiet_builtin _ (by decide +kernel),ī F.entry_type_call ?_⟩;rw [Around.under_plain (weight_type_call_type "set" [.ref l] []) rfl];have h1:=ų.notType;have h2:=ų.canCreate;have UP:=F.typeCall_set_1 (.ref l)
 repeat (any_goals (first|assumption|wp_step))
 refine ŝ (KP (.ref l) (E:=E) (Q₁:=fun obj V=>obj=.ref s.heap.objs.size/\V={ s with heap:=s.heap.push { cls:=.type "set",dict:=none,data:=.set #[] 0 (.fresh 0 0 (cT w)) } }) ⟨rfl,rfl⟩) fun r V Y=>?_
 cases r with
 |error e=>exact Y
 |ok M =>
  cases M with
  |ret obj =>
   obtain ⟨rfl,rfl⟩:=Y;have v:(s.heap.push { cls:=.type "set",dict:=none,data:=.set #[] 0 (.fresh 0 0 (cT w)) }).get? s.heap.objs.size=some { cls:=.type "set",dict:=none,data:=.set #[] 0 (.fresh 0 0 (cT w)) }:=Ì _ rfl
   have L:Shared.TypeIs { s with heap:=s.heap.push { cls:=.type "set",dict:=none,data:=.set #[] 0 (.fresh 0 0 (cT w)) } } (.ref s.heap.objs.size) "set":=⟨_,v,rfl⟩
   have vl:=ų.init.lookup;have vb:=ų.init.bind (.ref s.heap.objs.size)
   repeat (any_goals (first|assumption|wp_step))
   refine ŝ (codeAny_call_builtin (R:=wants (fun r U=>r=.none/\∃h' tk,U={ s with heap:=h',toks:=tk } /\
     et P w (cT w) h' s.heap.objs.size (fun k'=>(ľ (fun i=>ns.getD i 0) its.size).any (·==k')) (ľ (fun i=>ns.getD i 0) its.size).length /\
     (∀b o,b<s.heap.objs.size->s.heap.get? b=some o->h'.get? b=some o)) E) ų.init.plain F.entry_set_init (check_set_init_1 L ?_)) fun K U X=>?_
   ·obtain ⟨ol,T,S,nn,O⟩:=hl
    obtain ⟨oc,J,oa,I⟩:=ol;simp only at S O;subst S;subst O;have H:(s.heap.push { cls:=.type "set",dict:=none,data:=.set #[] 0 (.fresh 0 0 (cT w)) }).get? l=some { cls:=.type "list",dict:=J,data:=.seq its nn,slots:=I }:=Á _ T;have u1:=F.sub_list_set;have u2:=F.sub_list_frozenset;have cK:(ũ "list"==ũ "dict")=false:=by decide
    have ul:(s.heap.push { cls:=.type "set",dict:=none,data:=.set #[] 0 (.fresh 0 0 (cT w)) }).IsList l its:=⟨_,H,rfl,nn,rfl⟩;unfold Ř.«set.__init__» noKeywords Builtin.Frozenset.updateFrom;generalize G:pyIter=PI
    wp_walk
    subst G;refine Ÿ ul ?_;refine À (wpAny_runValue ?_);have N:l<s.heap.objs.size:=É T;have D:A.in1.in1.in1.handled=none:=by simp [hh]
    have C:l≠(s.heap.push { cls:=.type "set",dict:=none,data:=.set #[] 0 (.fresh 0 0 (cT w)) }).objs.size:=by
     rw [î];exact Þ (Ĕ N)
    have B:s.heap.objs.size∉[(s.heap.push { cls:=.type "set",dict:=none,data:=.set #[] 0 (.fresh 0 0 (cT w)) }).objs.size,l]:=by
     rw [î];simp only [Ö,ð,Ģ,or_false,not_or];exact ⟨Þ (ŋ _),ĝ N⟩
    have z:∀(i:Nat) (v:Ä),its[i]?=some v->∃t,v=.int ((fun i=>ns.getD i 0) i) t:=fun i v y =>
     IntsAre.int_at hi i v (by rw [Ŏ];exact y)
    refine KR (led:=cT w) ((Walks.list D _ l C its).toS) s.heap.objs.size
     B (fun i=>ns.getD i 0) z hb (its.size-0) 0 _ (by omega) (Ě _)
     ⟨⟨_,Ì _ rfl,rfl,rfl⟩,(ul.push _)⟩ ?v0 ?vR
    case v0 =>
     have x:((s.heap.push { cls:=.type "set",dict:=none,data:=.set #[] 0 (.fresh 0 0 (cT w)) }).push { cls:=.type "list_iterator",data:=.fields #[.ref l,.int 0 0] }).get? s.heap.objs.size
       = some { cls:=.type "set",dict:=none,data:=.set #[] 0 (.fresh 0 0 (cT w)) }:=Á _ v
     exact ⟨_,#[],0,_,x,⟨rfl,rfl,rfl⟩,rfl,fun e u=>by simp at u,fun k=>by simp [firstMet_zero],by unfold ε;simp,by rfl,rfl,JK _⟩
    case vR =>
     intro q Z W;obtain ⟨h',p,n,m,j⟩:=q;have g:p=s.gens:=Z.gens;have f:n=s.drawn:=Z.drawn;have d:j=s.os:=Z.os;subst g;subst f;subst d;show Ù _ _ _ _ _ _;refine Â ?_;show Ù _ _ (ret Value.none) _ _ _;refine Â ⟨rfl,h',m,rfl,W,fun b o hb e=>?_⟩;have v1:b≠s.heap.objs.size:=Þ hb;have v2:b≠(s.heap.push { cls:=.type "set",dict:=none,data:=.set #[] 0 (.fresh 0 0 (cT w)) }).objs.size:=by
      rw [î];exact Þ (Ĕ hb)
     exact Z.heap b o (by simp only [Ö,ð,Ģ,or_false,not_or];exact ⟨v1,v2⟩) (Á _ (Á _ e))
   ·cases K with
    |error e=>exact X
    |ok a =>
     cases a with
     |ret r =>
      obtain ⟨rfl,h',tk,rfl,W,vk⟩:=X
      repeat (any_goals (first|assumption|wp_step))
      exact h _ _ W vk
     |_=>exact X.elim
  |_=>exact Y.elim
end
theorem wI {α:Type}:∀{l:List α} {i:Nat} {x:α},l[i]?=some x->(x::l.eraseIdx i).Perm l
 | [],i,x,h=>by simp at h
 |y::l,0,x,h=>by
  have:y=x:=by simpa using h
  subst this;exact List.Perm.refl _
 |y::l,i+1,x,h=>by
  have ih:=wI (l:=l) (i:=i) (x:=x) (by simpa using h);rw [List.eraseIdx_cons_succ];exact (List.Perm.swap y x _).trans (List.Perm.cons y ih)
theorem C4 {α:Type} (next:Nat->Nat):∀(fuel k:Nat) (left:List α) (out:Array α),left.length=fuel->(pickOrder.go next fuel k left out).toList.Perm (out.toList++left)
 |0,k,left,out,h=>by
  have:left=[]:=Vk.mp h;subst this;unfold pickOrder.go;simp
 |fuel+1,k,left,out,h=>by
  unfold pickOrder.go
  have Z:next k % left.length<left.length:=Nat.mod_lt _ (by omega)
  rw [Ð Z];dsimp only;have Y:=wI (Ð Z)
  have ih:=C4 next fuel (k+1) (left.eraseIdx (next k % left.length)) (out.push left[next k % left.length]) (by rw [List.length_eraseIdx_of_lt Z];omega)
  refine ih.trans ?_;rw [Vz,Ź];exact List.Perm.append_left _ Y
def Cc {α:Type} (next:Nat->Nat) (xs:Array α):(Ŧ next xs).toList.Perm xs.toList:=by
 unfold Ŧ
 have:=C4 next xs.size 0 xs.toList #[] (by simp)
 simpa using this
section
variable {P:á} {w:Ą} {A:ó} {E:Ä->Ã->Prop}
def II {α:Type} (n:Nat):∀(xs:List α) (s:Ã) (Q:List α->Ã->Prop),xs.length=n->(∀ys d,ys.Perm xs->Q ys { s with drawn:=d })->Ù (ß P w) A (drawOrder n xs) Q E s:=by
 induction n with
 |zero =>
  intro xs s Q h Z;have:xs=[]:=Vk.mp h;subst this;unfold drawOrder;exact Â (Z [] s.drawn (List.Perm.refl _))
 |succ n ih =>
  intro xs s Q h Z
  cases xs with
  |nil=>simp at h
  |cons x xs =>
   unfold drawOrder;refine À (IF (by simp) ?_);have Y:w.draws .order (s.drawn.get .order) % (x::xs).length<(x::xs).length:=Nat.mod_lt _ (by simp);rw [Ð Y];dsimp only;refine À (ih _ _ _ (by rw [List.length_eraseIdx_of_lt Y];omega) fun ys d X=>?_);refine Â (Z _ d ?_);exact (List.Perm.cons _ X).trans (wI (Ð Y))
def KS {s:Ã} {a:Ó} {u:Obj} {es:Array (Int×Ä)} {ep:Nat} {t:SetTable} {Q:Ä->Ã->Prop} (hu:s.heap.get? a=some u) (hx:u.ExactSet) (hd:u.data=.set es ep t) (hf:t.fits es.size=true) (ht:fN (cT w) t)
  (hsz:es.size<=Ø)
  (hQ:∀(h':Į) (d':Drawn) (I:Ó) (fp:List Ó) (St:Nat->Ã->Prop) (order:List Ä),(∀b o,s.heap.get? b=some o->h'.get? b=some o)->(∀b∈fp,b<h'.objs.size)->(∀b∈fp,b=a\/s.heap.objs.size<=b)->I∈fp->s.heap.objs.size<=I->order.Perm (es.toList.map (·.2)) ->
   (∀A':ó,A'.handled=none->WalksS P w A' I fp [I] (fun a b=>b=a) es.size (fun i v=>order[i]?=some v) St)->St 0 { s with heap:=h',drawn:=d' }->Q (.ref I) { s with heap:=h',drawn:=d' }) :
  Ù (ß P w) A (pyIter (.ref a)) Q E s:=by
 have O:s.TypeIs (.ref a) "set":=⟨u,hu,hx.1⟩;have X:a<s.heap.objs.size:=É hu;refine wpAny_pyIter_slot O F.slot_set_iter (ø F.slot_set_iter O Hh ?_ (F.args_set_iter_1 _));unfold Ř.«frozenset.__iter__» Builtin.Frozenset.slot0 slotArgs;simp only [μ,ď,Ç,↓reduceIte,bind_assoc,è,ē];unfold Builtin.Frozenset.addrOf Builtin.Frozenset.sizeOf;refine À (Â ?_)
 try dsimp only
 refine À (Â ?_);refine À (À (ş hu hd hf (Â ?_)));unfold setDrawn;refine À (À (ř hu hd hf ?_));dsimp only;unfold setsByText;refine À (À (Ŋ (Â ?_)));refine Â ?_
 show Ù _ _ (if (!(w.params.followText "set-order")&&(!t.plain&&decide (es.size > 1)))=true then _ else _) _ _ _
 have H:∀(W:Obj) b o,s.heap.get? b=some o->(s.heap.push W).get? b=some o:=fun W b o e=>Á _ e;by_cases V:(!w.params.followText "set-order"&&(!t.plain&&decide (es.size > 1)))=true
 ·rw [ê V]
  refine À (II _ _ _ _ (by simp) fun U d hp=>?_);refine À ?_;simp only [newTuple];refine ô ?_ (by have:=hp.length_eq;rw [List.length_range] at this;show (List.toArray _).size<=Ø;rw [Õ,Í,this];exact hsz);have M:∀x∈U,x<es.size:=fun x hx=>by simpa using hp.mem_iff.mp hx
  have R:U.length=es.size:=by simpa using hp.length_eq
  refine À (wpAny_setEpoch_of (Á _ hu) hd hf ?_);refine À (ô ?_);refine Â ⟨_,rfl,"set_iterator",_,⟨_,Ì _ rfl,rfl⟩,iJ.lookup,?_⟩;have Y:(s.heap.push { cls:=.type "tuple",data:=.seq (U.map fun (i:Nat)=>Ţ i).toArray }).objs.size=s.heap.objs.size+1:=by simp [î]
  refine hQ _ d _ [_,a,s.heap.objs.size] _ (U.map fun k=>(es.getD k (0,Value.none)).2) (fun b o e=>Á _ (Á _ e)) ?_ ?_ (by simp) (by rw [Y];exact ψ _) ?_ (fun A' T=>Ia (u:=u) (t:=t) (ep:=ep) T (I:=_) (a:=a) (tp:=s.heap.objs.size) (by rw [Y];exact Þ (Ĕ X)) (by rw [Y];exact Þ (ŋ _)) hd hf U R M) ⟨⟨_,Ì _ rfl,rfl,rfl⟩,Á _ (Á _ hu),⟨_,Á _ (Ì _ rfl),rfl,_,rfl⟩⟩
  ·intro b Z
   simp only [Ö,Ģ,or_false] at Z;rw [î]
   rcases Z with e|e|e
   ·rw [e];exact ŋ _
   ·rw [e,Y];exact Ĕ (Ĕ X)
   ·rw [e,Y];exact Ĕ (ŋ _)
  ·intro b Z
   simp only [Ö,Ģ,or_false] at Z
   rcases Z with e|e|e
   ·right;rw [e,Y];exact ψ _
   ·exact .inl e
   ·right;rw [e];exact Wl _
  ·refine (List.Perm.map _ hp).trans ?_
   have:(Ĺ es.size).map (fun k=>(es.getD k (0,Value.none)).2)=es.toList.map (·.2):=by
    apply Vx;intro i;rw [à,à];by_cases hi:i<es.size
    ·rw [VZ hi,Ŏ]
     simp [Array.getD,hi]
    ·rw [ħ (by simpa using hi),ħ (by simpa using hi)]
     rfl
   rw [this]
 ·rw [ú V]
  refine À (Â ?_);refine À (wpAny_setEpoch_of hu hd hf ?_);refine À (ô ?_);refine Â ⟨_,rfl,"set_iterator",_,⟨_,Ì _ rfl,rfl⟩,iJ.lookup,?_⟩;have aj:∀(W:Obj),∀b∈[s.heap.objs.size,a],b<(s.heap.push W).objs.size:=fun W b Z=>by
   simp only [Ö,Ģ,or_false] at Z;rw [î]
   rcases Z with e|e
   ·rw [e];exact ŋ _
   ·rw [e];exact Ĕ X
  have N:∀b∈[s.heap.objs.size,a],b=a\/s.heap.objs.size<=b:=fun b Z=>by
   simp only [Ö,Ģ,or_false] at Z
   rcases Z with e|e
   ·right;rw [e];exact Wl _
   ·exact .inl e
  cases S:w.params.followText "set-order" with
  |true =>
   have L:(Ŧ (w.params.setOrder a ep) es).size=es.size:=by
    have:=(Cc (w.params.setOrder a ep) es).length_eq;simpa using this
   have hw:∀A':ó,A'.handled=none->WalksS P w A' s.heap.objs.size [s.heap.objs.size,a] [s.heap.objs.size] (fun a b=>b=a) es.size (fun i v=>((Ŧ (w.params.setOrder a ep) es).toList.map (·.2))[i]?=some v) _:=fun A' T=>by
    have:=IG (P:=P) (u:=u) (t:=t) T (I:=s.heap.objs.size) (a:=a) (Þ X) S hd hf L;simpa using this
   exact hQ _ s.drawn _ [_,a] _ ((Ŧ (w.params.setOrder a ep) es).toList.map (·.2)) (fun b o e=>Á _ e) (aj _) N (by simp) (Wl _) (List.Perm.map _ (Cc _ _)) hw ⟨⟨_,Ì _ rfl,rfl,rfl⟩,Á _ hu⟩
  |false =>
   have hp:t.plain=true\/es.size<=1:=by
    rw [S] at V;simp at V
    cases K:t.plain with
    |true=>exact .inl rfl
    |false=>exact .inr (V K)
   have R:t.led=true:=by rw [ht.led];unfold cT;rw [S];rfl
   have J:i5 t.place.toList:=by
    rcases hp with hp|hp
    ·exact ht.rise hp
    ·simp only [SetTable.fits,Ë,beq_iff_eq,Ú] at hf
     have hle:t.place.toList.length<=1:=by simp [hf.1];exact hp
     match t.place.toList,hle with
     | [],_=>exact List.Pairwise.nil
     | [x],_=>exact List.pairwise_singleton _ _
   have hw:∀A':ó,A'.handled=none->WalksS P w A' s.heap.objs.size [s.heap.objs.size,a] [s.heap.objs.size] (fun a b=>b=a) es.size (fun i v=>(es.toList.map (·.2))[i]?=some v) _:=fun A' T=>by
    have:=H9 (P:=P) (u:=u) (t:=t) (ep:=ep) T (I:=s.heap.objs.size) (a:=a) (Þ X) S hd hf R hp J;simpa using this
   exact hQ _ s.drawn _ [_,a] _ (es.toList.map (·.2)) (fun b o e=>Á _ e) (aj _) N (by simp) (Wl _) (List.Perm.refl _) hw ⟨0,⟨_,Ì _ rfl,rfl,rfl⟩,Á _ hu,Ě _,fun k G=>by omega,fun k _ _=>Ě _⟩
end
section
variable {P:á} {w:Ą} {A:ó} {E:Ä->Ã->Prop} {s:Ã}
def split_len:splitId "set.__len__"=some ("set","__len__"):=by decide +kernel
def ints_of (h:ElemsOf (ń P w) es) (hp:vs.Perm (es.map (·.2))):∃ns,Vu vs ns:=by
 have Z:∀v∈vs,∃k t,v=.int k t:=fun v Z=>by
  obtain ⟨e,W,rfl⟩:=ķ.mp (hp.mem_iff.mp Z);obtain ⟨⟨k,X,_⟩,_⟩:=h e W
  cases Y:e.2 with
  |int i t=>exact ⟨i,t,rfl⟩
  |_=>rw [Y] at X;simp [ń,Value.isInt] at X
 clear hp
 induction vs with
 |nil=>exact ⟨[],.nil⟩
 |cons v vs ih =>
  obtain ⟨k,t,rfl⟩:=Z v Ô;obtain ⟨ns,V⟩:=ih fun x Y=>Z x (Ï _ Y);exact ⟨k::ns,.cons k t V⟩
def DF {α:Type} {c:Bool} {x y:Sem α} {Q:α->Ã->Prop} (hc:c=true) (h:Ù (ß P w) A x Q E s):Ù (ß P w) A (if c=true then x else y) Q E s:=by
 rw [ê hc];exact h
def Ib {a:Ó} {u:Obj} {es:Array (Int×Ä)} {ep:Nat} {t:SetTable} {Q:List Ä->Ã->Prop} (hh:A.handled=none) (hu:s.heap.get? a=some u) (hx:u.ExactSet) (hd:u.data=.set es ep t) (hf:t.fits es.size=true) (ht:fN (cT w) t) (hsz:es.size<ε)
  (hQ:∀(h':Į) (d':Drawn) (tk:Nat) (vs:List Ä),s.heap.objs.size<=h'.objs.size->(∀b o,s.heap.get? b=some o->h'.get? b=some o)->vs.Perm (es.toList.map (·.2))->Q vs { s with heap:=h',drawn:=d',toks:=tk }):Ù (ß P w) A (collect (.ref a)) Q E s:=by
 have O:es.size<=Ø:=ź hsz;have N:a<s.heap.objs.size:=É hu;unfold collect;refine À (wpAny_runValue (ī F.entry_proto_collect ?_));rw [Ĝ F.plain_proto_collect _];show Ù _ A.in1 (newList [] >>= fun l=>again (.builtin "list.__iadd__" ⟨[l,.ref a],[]⟩)) _ _ s;refine À (ô ?_);refine Â ⟨Š F.plain_list_iadd _,ī F.entry_list_iadd ?_⟩;rw [Ĝ F.plain_list_iadd _];show Ù _ A.in1 (V1 (.ref s.heap.objs.size) (.ref a) (.ref s.heap.objs.size)) _ _ _
 generalize U:({ s with heap:=s.heap.push { cls:=.type "list",data:=.seq ([]:List Ä).toArray } }:Ã)=Y
 have M:Y.heap.objs.size=s.heap.objs.size+1:=by rw [<- U];simp [î]
 have r:∀b o,s.heap.get? b=some o->Y.heap.get? b=some o:=fun b o e=>by rw [<- U];exact Á _ e
 have T:Y.heap.get? a=some u:=by rw [<- U];exact Á _ hu
 have p:Y.TypeIs (.ref a) "set":=⟨u,T,hx.1⟩;have n:Y.heap.get? s.heap.objs.size=some { cls:=.type "list",data:=.seq ([]:List Ä).toArray }:=by rw [<- U];exact Ì _ rfl
 unfold V1;refine À (VJ p ?_);have k:Builtin.List.listSameRef (.ref s.heap.objs.size) (.ref a)=false:=by
  simp [Builtin.List.listSameRef];exact ĝ N
 have i:(ũ "set"==ũ "list")=false:=by decide
 have h:(ũ "set"==ũ "tuple")=false:=by decide
 simp only [k,i,h,Bool.or_false,Ç,û];refine À (KS T hx hd hf ht O fun h' d' I g St order S k2 f k3 L K W d=>?_)
 have R:Shared.TypeIs { Y with heap:=h',drawn:=d' } (.ref a) "set":=⟨u,S _ _ T,hx.1⟩
 have J:=S _ _ n;refine À (ą ?_);unfold Builtin.List.listLengthHint;refine À (wpAny_specialOf R F.slot_set_len.lookup ?_);dsimp only;rw [split_len];dsimp only;refine À (VN R sub_set_self ?_);rw [ú (by decide)];refine DF (by decide +kernel) ?_;refine À (VJ R ?_);dsimp only;refine Â ?_;refine DF (by decide +kernel) ?_
 ··refine À (Ň ?_)
   refine À ?_;show Ù _ A.in1 (updateSeq s.heap.objs.size (·.push .none) >>= fun _=>updateSeq s.heap.objs.size (·.pop)) _ _ _;refine À (Vl J rfl ?_);have H:=ü (Ł (·.push Value.none)) J rfl;refine Vl H rfl ?_;have RW:=ü (Ł (·.pop)) H rfl;have G:s.heap.objs.size∉g:=fun hm=>by
    rcases f _ hm with e|e
    ·exact ĝ N e
    ·rw [M] at e;exact Nat.not_succ_le_self _ e
   have D:∀b o,b≠s.heap.objs.size->h'.get? b=some o->((h'.update s.heap.objs.size (Ł (·.push Value.none))).update s.heap.objs.size (Ł (·.pop))).get? b=some o :=
    fun b o X e=>(ĉ _ _ (Œ X)).trans ((ĉ _ _ (Œ X)).trans e)
   refine Â ⟨Š F.plain_extend_loop _,codeAny_extend_loopS (W A.in1 (by simp [hh])) O _ G _ es.size 0 _ _ _ rfl (Ě _) ((W A.in1 (by simp [hh])).frame 0 ({ Y with heap:=h',drawn:=d' }:Ã) _ Y.toks d (Wl _) fun b X o e=>D b o (fun z=>G (z ▸ X)) e) RW (ItemsOf.nil _) fun C Z c m B y=>?_⟩
   show Ù _ A (load s.heap.objs.size >>= _) _ _ C;refine À (wpAny_load B ?_);refine Â ?_;have RX:order.length=es.size:=by simpa using K.length_eq
   have QR:Z.toList=order:=by
    apply Vx;intro j;by_cases x:j<Z.size
    ·have e1:Z[j]?=some Z[j]:=by simp [x]
     rw [Ŏ,e1,y.2 j _ e1]
    ·rw [ħ (by simpa using x),ħ (by rw [RX,<- y.1];omega)]
   obtain ⟨h2,g2,v,t2,o2⟩:=C;have eg:g2=Y.gens:=m.gens;have ed:v=d':=m.drawn;have eo:o2=Y.os:=m.os;subst eg ed eo;have q:=hQ h2 v t2 Z.toList (Nat.le_of_lt (É B)) (fun b o e=>m.heap b o (fun X=>by
    simp only [Ö,Ģ,or_false] at X;have V:=É e
    rcases X with z|z
    ·rw [z] at V;exact â _ V
    ·rw [M] at L;rw [z] at V;exact â _ (Æ V (Nat.le_of_succ_le L))) (D b o (fun z=>by
     have V:=É e;rw [z] at V;exact â _ V) (S b o (r b o e)))) (by rw [QR];exact K)
   rw [<- U];exact q
end
section
variable {P:á} {w:Ą} {A:ó} {E:Ä->Ã->Prop} {s:Ã}
def IJ (hh:A.handled=none) (hu:s.heap.get? a=some u) (hx:u.ExactSet) (hd:u.data=.set es ep t) (hf:t.fits es.size=true) (ht:fN (cT w) t) (Ae:ElemsOf (ń P w) es.toList) (UQ:es.size<64)
 (h:∀(h':Į) (d':Drawn) (tk:Nat) (p:Ó) (vs:List Ä) (ns:List Int) (out:List Ä) (ms:List Int) (e:Nat),(∀b o,s.heap.get? b=some o->h'.get? b=some o)->s.heap.objs.size<=p->vs.Perm (es.toList.map (·.2))->Vu vs ns->h'.get? p=some { cls:=.type "list",data:=.seq out.toArray e }->Vu out ms->ms.Perm ns->ms.Pairwise (·<=·)->Q (.ref p) { s with heap:=h',drawn:=d',toks:=tk }) :
  Ù (ß P w) A (call (.builtin "sorted") [.ref a]) Q E s:=by
 refine Calls.call_function_entry kind_sorted plain_sorted entry_sorted (args_sorted1 _) ?_;unfold Ř.«sorted»;refine À (m:=checkCount "sorted" 1 1 _) (Â ?_);refine À (Ib (by simp [hh]) hu hx hd hf ht (by unfold ε;omega) fun h' d' tk vs U T Z=>?_);obtain ⟨ns,X⟩:=ints_of Ae Z;have S:vs.length<64:=by have:=Z.length_eq;simp at this;omega
 refine À (wpAny_newList ?_);have Y:(h'.push (seqObj "list" vs.toArray 0)).get? h'.objs.size=some (seqObj "list" vs.toArray 0):=Ì _ rfl;refine À (ą (ø slot_list_sort ⟨_,Y,rfl⟩ entry_list_sort (list_sort_tree Y X S fun out ms a1 a2 R=>⟨_,rfl,?_⟩) (args_list_sort _)));obtain ⟨e,O⟩:=sortedHeap_at (out:=out) Y;refine Â ⟨_,rfl,h _ d' tk h'.objs.size vs ns out.toList ms e (fun b o N=>?_) ?_ Z X (by simpa [seqObj] using O) a1 a2 R⟩
 ·have W:=T b o N
  have V:=É W;rw [sortedHeap_old (Þ V) (by rw [size_push'];exact Ĕ V)];exact Á _ W
 ·exact U
end
end TS
namespace L2
open PySem PySem.Spec PyProof.Rows
def jH (P:á) (w:Ą) (p:Ó) (ns:List Int):Į->Prop:=fun h=>∃(S:Int->Bool) (n:Nat),TS.et P w (TS.cT w) h p S n/\(∀k,S k=true↔k∈ns)/\n<=ns.length/\n=(ns.foldl step_dedup []).length
section
variable {X:Cx}
def tO (l:List Int) (k:Int):(l.any (·==k))=true↔k∈l:=by
 rw [List.any_eq_true];exact ⟨fun ⟨x,Z,Y⟩=>by rw [<- beq_iff_eq.mp Y];exact Z,fun h=>⟨k,h,by simp⟩⟩
def Mi (hm:m=ns.length) (hS:TS.et X.prog X.w (TS.cT X.w) h p (fun k'=>(ľ (fun i=>ns.getD i 0) m).any (·==k')) (ľ (fun i=>ns.getD i 0) m).length):jH X.prog X.w p ns h:=by
 subst hm;refine ⟨_,_,hS,fun k=>?_,firstMet_length_le _ _,?_⟩
 ·rw [firstMet_any,map_getD]
  exact tO ns k
 ·unfold ľ
  rw [map_getD]
def Mj (hx:jH X.prog X.w p ns h):bM X.prog X.w (upd H p (.ext (jH X.prog X.w p ns))) h p (.ext (jH X.prog X.w p ns)):=by
 refine ⟨hx,?_,fun Y W q k=>?_⟩
 ·obtain ⟨_,_,⟨o,_,_,_,Z,_⟩,_⟩:=hx
  exact ⟨o,Z⟩
 ·obtain ⟨S,n,T,r⟩:=q
  exact ⟨S,n,T.at k,r⟩
def IK (hc:X.calm=true):bQ X (.type "set") (fun xs H Q=>∃(a:Ó) (ns:List Int),xs=[.ref a]/\bo X.K H a (ns.map V.int)/\(ns.foldl step_dedup []).length<4000/\∀p,H p=none->Q (.ref p) (upd H p (.ext (jH X.prog X.w p ns)))):=by
 intro P s σ H xs O Q I r h;obtain ⟨a,ns,rfl,W,N,q⟩:=h;obtain ⟨u,rfl,U⟩:=vals1 r;cases U;obtain ⟨its,Z,p,_⟩:=I.list W;have Y:its.toArray.size=ns.length:=by
  have e:=Z.length;rw [Í] at e;simpa using e.symm
 refine TS.IH (its:=its.toArray) (ns:=ns) (I.ok.hd hc) p.isList (by simpa using intsAre_of Z) (by rw [Y];unfold ľ;rw [map_getD];show _ + 1<4096;omega) fun M T S R=>?_;exact ⟨.ref _,_,I.laid (t':=T) (fun b o e=>R b o (É e) e) (Wl _) (Mj (Mi Y S)),rfl,q _ (I.au.fresh (Wl _))⟩
theorem Bx:∀{out:List Ä} {ms:List Int},Vu out ms->Vals (ms.map V.int) out
 |_,_,.nil=>.nil
 |_,_,.cons n t h=>.cons ⟨t,rfl⟩ (Bx h)
theorem wB:∀(ns acc:List Int),acc.Nodup->(ns.foldl step_dedup acc).Nodup
 | [],acc,h=>h
 |n::ns,acc,h=>by
  refine wB ns _ ?_;unfold step_dedup;split
  ·exact h
  ·rename_i Z
   rw [Bool.not_eq_true] at Z;refine List.nodup_append.mpr ⟨h,by simp,fun a Y b X=>?_⟩;have:b=n:=by simpa using X
   subst this;intro e;subst e;rw [(tO acc a).mpr Y] at Z;cases Z
theorem Cr:∀{vs:List Ä} {ns:List Int},Vu vs ns->∀k,k∈ns↔∃t,VT k t∈vs
 |_,_,.nil,k=>by simp
 |_,_,.cons n t h,k=>by
  rw [Ö,Cr h k];constructor
  ·rintro (e | ⟨Z,h'⟩)
   ·subst e;exact ⟨t,Ô⟩
   ·exact ⟨Z,Ï _ h'⟩
  ·rintro ⟨Z,h'⟩
   rcases Ö.mp h' with e|h'
   ·injection e with e _;exact .inl e
   ·exact .inr ⟨Z,h'⟩
theorem sub_len:∀{m l:List Int},m.Nodup->(∀k,k∈m->k∈l)->m.length<=l.length
 | [],l,_,_=>Ě _
 |x::m,l,h,Z=>by
  obtain ⟨W,V⟩:=ű.mp h;have Y:=Z x Ô;have ih:=sub_len (m:=m) (l:=l.erase x) V fun k X=>(List.mem_erase_of_ne (fun (e:k=x)=>W (by rw [<- e];exact X))).mpr (Z k (Ï _ X));rw [List.length_erase_of_mem Y] at ih;have:=List.length_pos_of_mem Y;rw [Ý];omega
theorem By:∀{l m:List Int},m.Nodup->(∀k,k∈m↔k∈l)->l.length<=m.length->l.Nodup
 | [],m,_,_,_=>List.nodup_nil
 |a::r,m,Z,Y,X=>by
  have W:a∉r:=fun h=>by
   have:=sub_len Z fun k V=>(Ö.mp ((Y k).mp V)).elim (fun e=>e ▸ h) id;rw [Ý] at X;omega
  have U:a∈m:=(Y a).mpr Ô;refine ű.mpr ⟨W,By (m:=m.erase a) (Z.erase a) (fun k=>?_) ?_⟩
  ·rw [Z.mem_erase_iff,Y k,Ö]
   constructor
   ·rintro ⟨T,h2|h2⟩
    ·exact absurd h2 T
    ·exact h2
   ·intro h
    exact ⟨fun e=>W (e ▸ h),.inr h⟩
  ·rw [List.length_erase_of_mem U]
   rw [Ý] at X;omega
def Cd (ns:List Int) (k:Int):k∈ns.foldl step_dedup []↔k∈ns:=by
 have:=firstMet_any (fun i=>ns.getD i 0) ns.length k;unfold ľ at this;rw [map_getD] at this;rw [<- tO,<- tO,this]
def Hz (hc:X.calm=true):bQ X (.builtin "sorted") (fun xs H Q=>∃(p:Ó) (ns:List Int),xs=[.ref p]/\H p=some (.ext (jH X.prog X.w p ns))/\(ns.foldl step_dedup []).length<64 /\
  ∀(l:Ó) (ms:List Int),H l=none->ms.Pairwise (· < ·)->(∀k,k∈ms↔k∈ns)->Q (.ref l) (upd H l (.lst (ms.map V.int)))):=by
 intro π s σ H xs us Q I r h;obtain ⟨p,ns,rfl,K,hl,q⟩:=h;obtain ⟨v,rfl,G⟩:=vals1 r;cases G;obtain ⟨⟨S,n,⟨u,es,ep,t,F,E,hd,D,C,P,B,A,z⟩,y,UR,m⟩,_⟩:=I.au p _ K;refine TS.IJ (I.ok.hd hc) F E hd B z D (by omega) fun j g O l vs ks out ms e f N Y W d c U k8=>?_;have M:∀k,k∈ms↔k∈ns:=fun k=>by
  rw [U.mem_iff,Cr W k,<- y k,C k];constructor
  ·rintro ⟨t',Af⟩
   obtain ⟨x,T,Z⟩:=ķ.mp (Y.mem_iff.mp Af);exact ⟨x,T,by rw [Z];exact intKind_is _ _ _ _⟩
  ·rintro ⟨x,T,Z⟩
   obtain ⟨i,t',L⟩:∃i t',x.2=.int i t':=by
    cases hv:x.2 with
    |int i t'=>exact ⟨i,t',rfl⟩
    |_=>rw [hv] at Z;simp [ń,Value.isInt] at Z
   have RZ:k=i:=(ń X.prog X.w).inj (.int i t') k i (by rw [<- L];exact Z) (intKind_is _ _ _ _);subst RZ;exact ⟨t',Y.mem_iff.mpr (ķ.mpr ⟨x,T,L⟩)⟩
 have QT:ms.Nodup:=by
  have Gg:=wB ns [] List.nodup_nil;refine By Gg (fun k=>?_) ?_
  ·rw [M k,Cd]
  ·rw [<- m,<- A]
   have e1:=U.length_eq;have e2:=W.length;have R:=Y.length_eq;simp at R;omega
 have aR:ms.Pairwise (· < ·):=by
  have:=List.pairwise_and_iff.mpr ⟨k8,QT⟩;exact this.imp fun ⟨a,b⟩=>by omega
 have J:=I.laid (t':=O) (a:=l) (o:=.lst (ms.map V.int)) f N ⟨by
  rw [Í,ο];have e1:=U.length_eq;have e2:=W.length;have R:=Y.length_eq;simp at R;omega,out,e,Bx c,d⟩
 exact ⟨.ref l,_,J.qA (s':={ s with heap:=j,drawn:=g,toks:=O }) (ch:=[]) rfl Un.refl J.au J.bare (fun b P=>by cases P),rfl,q l ms (I.au.fresh N) aR M⟩
end
section
variable {X:Cx}
end
mutual
noncomputable def jR:γ->Bool
 | .tuple Z=>ie Z
 | .list _=>false
 |_=>true
noncomputable def ie:List γ->Bool
 | []=>true
 |d::Z=>jR d&&ie Z
end
section
variable {X:Cx} {π:List (Ó×Obj)} {σ:St} {H:Hp} {s:Ã} {Z:Ó->Prop}
mutual
theorem DV.ql (I:Inv X π σ H s):∀{d:γ} {v:V} {u:Ä},DV X.K Z H d v->RelV v u->jR d=true->∃as,Reads s.heap u d as/\ĸ∉as
 | .none,v,u,h,r,_=>by
  have e:v=.aq:=h;subst e;cases r;exact ⟨[],.none,by simp⟩
 | .bool b,v,u,h,r,_=>by
  have e:v=.bl b:=h;subst e;cases r;exact ⟨[],.bool b,by simp⟩
 | .int i,v,u,h,r,_=>by
  have e:v=.int i:=h;subst e;obtain ⟨t,rfl⟩:=r;exact ⟨[],.int i t,by simp⟩
 | .str x,v,u,h,r,_=>by
  have e:v=.str x:=h;subst e;obtain ⟨t,rfl⟩:=r;exact ⟨[],.str x t,by simp⟩
 | .tuple U,v,u,h,r,Y=>by
  simp only [DV] at h;obtain ⟨a,E,e,W,T⟩:=h;subst e;cases r;obtain ⟨S,R,⟨o,e,c,n,Q⟩,_⟩:=I.tuple W;obtain ⟨as,P,O⟩:=ak.ql I T R (by simpa only [jR] using Y);exact ⟨as,.tuple e c Q (by simpa using P),O⟩
 | .list U,v,u,h,r,Y=>by
  simp only [jR] at Y;cases Y
 | .dict D,v,u,h,r,_=>by
  simp only [DV] at h;obtain ⟨a,C,e,_,W,l,e1,e2⟩:=h;subst e e1 e2;cases r;obtain ⟨_,N,B,M,o,A,z,g1,g2,g3,_,L,_⟩:=(show bM X.prog X.w H s.heap a (.dK _) from I.au a _ W);obtain ⟨J,G⟩:=sS (h:=s.heap) M L;refine ⟨a::[]++[],.dict g1 g2.1 g3 J G,fun F=>?_⟩;have e:ĸ=a:=by simpa using F
  subst e;simp at N
theorem ak.ql (I:Inv X π σ H s):∀{ds:List γ} {vs:List V} {us:List Ä},ak X.K Z H ds vs->Vals vs us->ie ds=true->∃as,ReadsAll s.heap us ds as/\ĸ∉as
 | [],vs,us,h,r,_=>by
  have e:vs=[]:=h;subst e;cases r;exact ⟨[],.nil,by simp⟩
 |d::ds,vs,us,h,r,Y=>by
  obtain ⟨v,O,e,W,U⟩:=h;subst e;simp only [ie,Ë] at Y
  cases r with
  |cons T S =>
   obtain ⟨as,a1,R⟩:=DV.ql I W T Y.1;obtain ⟨bs,a2,Q⟩:=ak.ql I U S Y.2;refine ⟨as++bs,.cons a1 a2,fun P=>?_⟩
   rcases æ.mp P with z|z
   ·exact R z
   ·exact Q z
end
end
section
variable {X:Cx}
def IL (hr:bg k X.A):bQ X (.builtin "repr") (fun xs H Q=>∃(x:V) (ds:List γ) (Z:Ó->Prop),xs=[x]/\DV X.K Z H (.tuple ds) x/\(PyData.tuple ds).showable=true/\((PyData.tuple ds).hasDict=false\/ie ds=true)/\(PyData.tuple ds).depth<=100/\(PyData.tuple ds).shown.length<=Ø/\Q (.str (PyData.tuple ds).shown) H):=by
 intro T s σ H xs G Q I r h;obtain ⟨x,ds,Z,rfl,W,S,R,F,P,q⟩:=h;obtain ⟨u,rfl,U⟩:=vals1 r;have O:X.A.units+((PyData.tuple ds).depth+1)<cLine:=by have:=hr.un;omega
 have go:∀as,Reads s.heap u (.tuple ds) as->((PyData.tuple ds).hasDict=true->ĸ∉as)->Ù (ß X.prog X.w) X.A (call (.builtin "repr") [u]) (EP X T σ Q) X.xe s:=fun as Y N=>by
  obtain ⟨a,e⟩:∃a,u=.ref a:=by cases Y;exact ⟨_,rfl⟩
  subst e;exact repr_of_reads' Y S N hr.gd O (fun _ _ e=>e) (fun E t M L=>⟨.str _,H,I.kept (t':=M) L,⟨t,rfl⟩,q⟩) P
 rcases R with e|e
 ·obtain ⟨as,Y⟩:=W.reads I U
  exact go as Y fun z=>by rw [e] at z;cases z
 ·obtain ⟨as,Y,J⟩:=W.ql I U (by simpa only [jR] using e)
  exact go as Y fun _=>J
end
end L2
namespace HZ
open PySem PySem.Spec PyProof.Rows
open AutoSeq1 (wpAny_loadPart')
section
variable {P:á} {w:Ą} {A:ó} {E:Ä->Ã->Prop} {s:Ã}
def JL {tn:Nat->Į->Prop} {val:Nat->Option Ä} {k:Nat} {Q:Ä->Ã->Prop} (S1:fZ P w A it l tn val) (ge:IsEnum s.heap e it k old) (h1:tn k s.heap) (hx:val k=some x) (cK:it≠e) (hle:l≠e)
 (q:∀h',IsEnumOut h' e it ((k:Int)+1) x s.heap.objs.size->tn (k+1) h'->h'.get? s.heap.objs.size=some { cls:=.type "tuple",data:=.seq #[.int k s.toks,x] }->h'.objs.size=s.heap.objs.size+1 ->
 (∀c o,c≠e->c≠it->s.heap.get? c=some o->h'.get? c=some o)->Q (.ref s.heap.objs.size) { s with heap:=h',toks:=s.toks+1 }) :
  Ù (ß P w) A (Ř.«enumerate.__next__» ⟨[.ref e],[]⟩) (fun fin s'=>∃v,fin=.done (.ret v)/\Q v s') E s:=by
 obtain ⟨C,t,r,U,os⟩:=s;show Ù _ _ (field (.ref e) 2 >>= _) _ _ (_:Ã);refine À (Ċ ge rfl (x:=.ref it) rfl ?_);refine À (S1.item k _ _ _ x h1 hx fun J t1 T=>?_);have e1:IsEnum J e it k old:=T.extBut _ _ cK.symm ge;show Ù _ _ (field (.ref e) 3 >>= _) _ _ (_:Ã);refine À (Ċ e1 rfl (x:=Ţ k) rfl ?_);show Ù _ _ (field (.ref e) 4 >>= _) _ _ (_:Ã);refine À (Ċ e1 rfl (x:=.none) rfl ?_);show Ù _ _ (mkInt k >>= _) _ _ (_:Ã);refine À (wpAny_mkInt ?_);show Ù _ _ (setField (.ref e) 3 (Ţ ((k:Int)+1)) >>= _) _ _ (_:Ã);refine À (č e1 (by simp) fun B e2 I=>?_)
 replace e2:IsEnum B e it ((k:Int)+1) old:=e2
 show Ù _ _ (setField (.ref e) 4 .none >>= _) _ _ (_:Ã);refine À (č e2 (by simp) fun Z W H=>?_)
 replace W:IsEnum Z e it ((k:Int)+1) old:=W
 show Ù _ _ (newTuple [.int k U,x] >>= _) _ _ (_:Ã);refine À (wpAny_newTuple ?_);have S:IsEnum (Z.push { cls:=.type "tuple",data:=.seq #[.int k U,x] }) e it ((k:Int)+1) old:=Á _ W;have G:Z.objs.size=C.objs.size:=by rw [H.1,I.1,T.1]
 have R:e<Z.objs.size:=É W;show Ù _ _ (ā (.ref e) >>= _) _ _ (_:Ã);refine À ?_;unfold ā;refine À (Ċ S rfl (x:=.none) rfl (Â ?_));simp only [ă];refine À (Ň ?_);refine À (Ċ S rfl (x:=old) rfl ?_);refine À (č S (by simp) fun z O s5=>?_)
 replace O:IsEnum z e it ((k:Int)+1) x:=O
 show Ù _ _ (ġ (.ref e) (.ref Z.objs.size) >>= _) _ _ (_:Ã);refine À ?_;unfold ġ;refine À (č O (by simp) fun y N M=>?_)
 replace N:IsEnumOut y e it ((k:Int)+1) x Z.objs.size:=N
 refine č N (by simp) fun X V L=>?_
 replace V:IsEnumOut X e it ((k:Int)+1) x Z.objs.size:=V
 have up:∀c o,c≠e->Z.get? c=some o->X.get? c=some o:=fun c o Y h=>L.extBut _ _ Y (M.extBut _ _ Y (s5.extBut _ _ Y (Á _ h)));have F:X.get? Z.objs.size=some { cls:=.type "tuple",data:=.seq #[.int k U,x] }:=L.extBut _ _ (ĝ R) (M.extBut _ _ (ĝ R) (s5.extBut _ _ (ĝ R) (Ì _ rfl)));have D:X.objs.size=Z.objs.size+1:=by rw [L.1,M.1,s5.1,î]
 have K:∀c o,c≠e->J.get? c=some o->Z.get? c=some o:=fun c o Y h=>H.extBut _ _ Y (I.extBut _ _ Y h);rw [G] at V F D;refine À (χ (Â ⟨_,rfl,?_⟩));show Q (.ref Z.objs.size) _;rw [G];exact q X V (S1.keep _ _ _ t1 (fun o h=>up _ o cK (K _ o cK h)) (fun o h=>up _ o hle (K _ o hle h))) F D fun c o Y u h=>up c o Y (K c o Y (T.extBut _ _ u h))
def JM {tn:Nat->Į->Prop} {val:Nat->Option Ä} {k:Nat} {Q:Option Ä->Ã->Prop} (S1:fZ P w A.in1 it l tn val) (ge:IsEnum s.heap e it k old) (h1:tn k s.heap) (hx:val k=some x) (cK:it≠e) (hle:l≠e)
 (q:∀h',IsEnumOut h' e it ((k:Int)+1) x s.heap.objs.size->tn (k+1) h'->h'.get? s.heap.objs.size=some { cls:=.type "tuple",data:=.seq #[.int k s.toks,x] }->h'.objs.size=s.heap.objs.size+1 ->
 (∀c o,c≠e->c≠it->s.heap.get? c=some o->h'.get? c=some o)->Q (some (.ref s.heap.objs.size)) { s with heap:=h',toks:=s.toks+1 }):Ù (ß P w) A (Ŕ (.ref e)) Q E s:=by
 have Z:s.TypeIs (.ref e) "enumerate":=⟨_,ge,rfl⟩;unfold Ŕ;exact À (Ľ (ï (name:=Ă "__next__") Z Ŵ
  (ø Ŵ Z F.entry_enumerate_next (JL S1 ge h1 hx cK hle fun h' a1 a2 Y X W=>Â (q h' a1 a2 Y X W)) (F.args_enumerate_next_1 _))))
def KU {tn:Nat->Į->Prop} {val:Nat->Option Ä} {k:Nat} {Q:Option Ä->Ã->Prop} (S1:fZ P w A.in1 it l tn val) (ge:IsEnum s.heap e it k old) (h1:tn k s.heap) (hx:val k=none)
 (q:∀h',υ it s.heap h'->Q none { s with heap:=h' }):Ù (ß P w) A (Ŕ (.ref e)) Q E s:=by
 have Z:s.TypeIs (.ref e) "enumerate":=⟨_,ge,rfl⟩;unfold Ŕ;refine À (Ľ (ï (name:=Ă "__next__") Z Ŵ
  (ø Ŵ Z F.entry_enumerate_next ?_ (F.args_enumerate_next_1 _))))
 show Ù _ _ (field (.ref e) 2 >>= _) _ _ (_:Ã);refine À (Ċ ge rfl (x:=.ref it) rfl ?_);refine À (S1.stop k _ _ _ h1 hx fun h' x Y X=>?_);obtain ⟨o,W,V⟩:=X;exact À (VN (T:="StopIteration") (b:=true) ⟨o,W,V⟩ isSubtype_stop (Â (q _ Y)))
def KW (l:Ó) (items:Array Ä) (n:Nat) (aV:Option Ó) (sl:Array (Option Ä)) :
  Meets (Ř.«enumerate.__new__» ⟨[.type "enumerate",.ref l],[]⟩) (fun _ R s=>s.heap.get? l=some { cls:=.type "tuple",dict:=aV,data:=.seq items n,slots:=sl } /\
   R (.ok (.ret (.ref (s.heap.push { cls:=.type "tuple_iterator",data:=.fields #[.ref l,.int 0 0] }).objs.size)))
    { s with heap:=(s.heap.push { cls:=.type "tuple_iterator",data:=.fields #[.ref l,.int 0 0] }).push { cls:=.type "enumerate",data:=.fields #[.none,.bool false,.ref s.heap.objs.size,Ţ 0,.none,.none] } }) :=
 .of_wp fun prog w A R s h=>by
  obtain ⟨X,W,V,U,T⟩:=s;obtain ⟨Z,h⟩:=h;have ss:=sub_enumerate;have Y:Heap.IsTuple (Shared.heap ⟨X,W,V,U,T⟩) l items:=⟨_,Z,rfl,n,rfl⟩
  wp_walk using ŵ Z
  refine wpAny_stack_any fun S=>Â ?_;split
  ·rename_i c _ _ _ _ _
   cases (c==ũ "enumerate")
   ·wp_walk using ŵ Z,ŭ Y
    exact ⟨_,rfl,h⟩
   ·wp_walk using ŵ Z,ŭ Y
    exact ⟨_,rfl,h⟩
  ·wp_walk using ŵ Z,ŭ Y
   exact ⟨_,rfl,h⟩
def Ho (hL:s.heap.IsTuple l items)
 (h:∀h',IsEnum h' (s.heap.objs.size+1) s.heap.objs.size 0 .none->h'.IsTupleIter s.heap.objs.size l 0->h'.objs.size=s.heap.objs.size+2 ->
 (∀b o,s.heap.get? b=some o->h'.get? b=some o)->Q (.ref (s.heap.objs.size+1)) { s with heap:=h' }) :
  Ù (ß P w) A (call (.type "enumerate") [.ref l]) Q E s:=by
 obtain ⟨⟨c,V,U,T⟩,S,Z,n,Y⟩:=hL
 replace Z:c=.type "tuple":=Z
 replace Y:U=.seq items n:=Y
 subst Z Y;refine callType_new F.called_enumerate (by decide) (F.typeCall_enumerate_1 _) (F.newCall_enumerate_1 _) (fun obj=>F.args_object_init_2 obj _) F.entry_enumerate_new
  (KW l items n V T) ⟨S,?_⟩
 have W:(s.heap.push { cls:=.type "tuple_iterator",data:=.fields #[.ref l,.int 0 0] }).objs.size=s.heap.objs.size+1:=î ..;have X:=Ì (s.heap.push { cls:=.type "tuple_iterator",data:=.fields #[.ref l,.int 0 0] })
   (o:={ cls:=.type "enumerate",data:=.fields #[.none,.bool false,.ref s.heap.objs.size,Ţ 0,.none,.none] }) rfl
 show _/\_;rw [W] at X |-;exact ⟨⟨_,X,rfl⟩,h _ X ⟨_,Á _ (Ì _ rfl),rfl,rfl⟩ (by rw [î,W]) fun b o x=>Á _ (Á _ x)⟩
end
end HZ
namespace L2
open PySem PySem.Spec PyProof.Rows
def zd (K:Ĉ) (a:Ó):It :=
 ⟨fun i H=>∃Z x,aP K H a Z/\Z[i]?=some x,fun i H v Y=>∃p x,H p=none/\v=.ref p/\Y=upd H p (.tup [.int i,x])/\∀Z,aP K H a Z->Z[i]?=some x,fun i H=>∃Z,aP K H a Z/\Z.length<=i⟩
def IM {P:á} {w:Ą} {K:Ĉ} {elts:List ę} {kk:Nat} {pos:Pos} (a e it:Ó) (cK:it≠e) :
  Turn P w K (.Tuple elts kk pos) (zd K a) [e,it] e (fun i h=>(∃old,IsEnum h e it i old)/\h.IsTupleIter it a i) where
 mem:=by simp
 obj:=fun i h Z c W=>by
  have T:c=e\/c=it:=by simpa using W
  rcases T with rfl|rfl
  ·obtain ⟨old,q⟩:=Z.1;exact ⟨_,q,fun v q=>nomatch q⟩
  ·obtain ⟨o,e,_,d⟩:=Z.2;exact ⟨o,e,fun v q=>by rw [d] at q;cases q⟩
 keep:=fun i h D Z k=>⟨by obtain ⟨old,q⟩:=Z.1;exact ⟨old,k e (by simp) _ q⟩,Z.2.at fun o q=>k it (by simp) o q⟩
 item:=by
  intro X S hw R W i C s σ H E I V Z O;subst S hw R;obtain ⟨r,x,U,ex⟩:=O;obtain ⟨N,M,L,p⟩:=I.tuple U;obtain ⟨u,n,m⟩:=M.get ex;have J:X.A.in1.handled=none:=I.ok.hd W;obtain ⟨old,Y⟩:=Z.1;refine HZ.JM (HZ.xy J it a N.toArray) Y ⟨Z.2,L⟩ (by simpa using n) cK (DC I U (V e (by simp))) fun D l j f c4 b=>⟨_,rfl,?_⟩;refine wpAny_letOwnedTupleGo_enum l fun B d1 G=>?_;have hn:H s.heap.objs.size=none:=I.au.fresh (Wl _);have y:e<s.heap.objs.size:=É Y;have mH:IsTup B s.heap.objs.size #[.int i s.toks,u]:=⟨_,G.extBut _ _ (ĝ y) f,rfl,_,rfl⟩
  have I2:Inv X C σ (upd H s.heap.objs.size (.tup [.int i,x])) { s with heap:=B,toks:=s.toks+1 }:=I.B7 (ch:=[e,it]) (fun c o F q=>by
   have z:c≠e/\c≠it:=by simpa using F
   exact G.extBut c o z.1 (b c o z.1 z.2 q)) V (Wl _) ⟨by show 2<=Ø;decide,[.int i s.toks,u],.cons ⟨_,rfl⟩ (.cons m .nil),mH⟩
  refine ⟨.ref s.heap.objs.size,_,I2,rfl,⟨_,x,hn,rfl,rfl,fun RK q1=>?_⟩,?_,fun c t=>?_⟩
  ·rw [I.wJ q1 U];exact ex
  ·exact ⟨⟨_,d1⟩,j.1.extBut G.extBut cK⟩
  ·rw [aI]
   ·exact (V c t).1
   ·intro z
    have T:c=e\/c=it:=by simpa using t
    have:c<s.heap.objs.size:=by
     rcases T with q|q
     ·rw [q];exact y
     ·rw [q];obtain ⟨o,g,_⟩:=Z.2;exact É g
    rw [z] at this;exact â _ this
 done:=by
  intro X S hw R W i C s σ H E I V Z O;subst S hw R;obtain ⟨r,U,hle⟩:=O;obtain ⟨N,M,L,p⟩:=I.tuple U;have J:X.A.in1.handled=none:=I.ok.hd W;have l1:=M.length;obtain ⟨old,Y⟩:=Z.1;refine HZ.KU (HZ.xy J it a N.toArray) Y ⟨Z.2,L⟩ (by simp;omega) fun D c7=>⟨rfl,I.wK (t':=s.toks) (ch:=[e,it]) (fun c o F q=>by
   have z:c≠e/\c≠it:=by simpa using F
   exact c7 c o z.2 q) V⟩
 self:=fun A i s Q E Z h=>by
  obtain ⟨old,Y⟩:=Z.1;exact wpAny_pyIter_enum Y h
section
variable {X:Cx} {elts:List ę} {kk:Nat} {tp:Pos}
def QU (K:Ĉ) (ta:TA):TI:=fun σ H R=>ta σ H fun Y Z=>∃a X,Y=[.ref a]/\aP K Z a X/\R (zd K a) Z
def JN:ì "enumerate"=some (.type "enumerate"):=by decide +kernel
def KY {a:ę} {ta:TA} {p pos:Pos} (hg:Gl X "enumerate") (hm:X.mg "enumerate"=none) (ha:PA X [a] ta) (hs:Ê [a] X.env=[(false,ĺ a X.env)]:=by rfl) :
  PI X (.Tuple elts kk tp) (.Call (.Name "enumerate" p) [a] [] pos) (QU X.K ta):=by
 intro U s σ H R I h;refine Call_ (kQ I hg hm JN (Ĩ (aA (ha pos U s σ H _ I h) fun E Z ⟨D,T,Y,S,Q⟩=>?_) hs rfl));obtain ⟨a,C,e,P,q⟩:=Q;subst e;obtain ⟨u,rfl,O⟩:=vals1 S;cases O;obtain ⟨N,_,M,_⟩:=Y.tuple P;refine HZ.Ho (items:=N.toArray) M fun L W J B G=>?_
 refine wpAny_pyIter_enum (s:={ Z with heap:=L }) W ?_
 refine ⟨_,[Z.heap.objs.size+1,Z.heap.objs.size],_,_,T,rfl,Y.kept (t':=Z.toks) G,IM a _ _ (Þ (ŋ _)),⟨⟨_,W⟩,J⟩,fun b F=>?_,q⟩;have V:Z.heap.objs.size<=b:=by
  have z:b=Z.heap.objs.size+1\/b=Z.heap.objs.size:=by simpa using F
  rcases z with z|z
  ·rw [z];exact ψ _
  ·rw [z];exact Wl _
 exact Y.mE V (Y.au.fresh V)
end
section
variable {K:Ĉ} {caps:St} {H:Hp} {tf:TT} {te:TE} {Q:VK}
end
end L2
namespace HZ
open PySem PySem.Spec PyProof.Rows
def Hc:fillsNumberSlot (.type "tuple") "mul"=pure false:=by
 first|rfl | (unfold fillsNumberSlot;kernel_rfl)|kernel_rfl
def HA:seqRepeat? (.type "tuple")=pure (some (.builtin "tuple.__mul__")):=by
 first|rfl|kernel_rfl
def IQ (a:Int) (t:Tok) (l:Ó) (items:Array Ä) (n:Nat) (d:Option Ó) (sl:Array (Option Ä)) :
  Meets (Ř.«int.__rmul__» ⟨[.int a t,.ref l],[]⟩) (fun _ R s=>s.heap.get? l=some { cls:=.type "tuple",dict:=d,data:=.seq items n,slots:=sl }/\R (.ok (.ret Value.notImplemented)) s) :=
 .of_wp fun prog w A R s h=>by
  obtain ⟨Z,Y,X,W,V⟩:=s;obtain ⟨U,h⟩:=h;wp_walk;exact ⟨_,rfl,h⟩
section
variable {P:á} {w:Ą} {A:ó} {E:Ä->Ã->Prop} {s:Ã}
def Ml (ht:IsTup s.heap t vs.toArray) (hv:vs≠[]) (hk:1<=k) (hz:vs.length*k.toNat<=Ø)
 (h1:k=1->Q (.ref t) s) (h2:k≠1->Q (.ref s.heap.objs.size) { s with heap:=s.heap.push { cls:=.type "tuple",data:=.seq (Î k.toNat vs).flatten.toArray } }) :
  Ù (ß P w) A (ĳ .Mult (.ref t) (.int k tk)) Q E s:=by
 obtain ⟨⟨cls,V,data,S⟩,Z,Y,n,X⟩:=id ht;simp only at Y X;subst Y X;have K:k<=16777216:=by
  have R:1<=vs.length:=by
   cases vs with
   |nil=>exact absurd rfl hv
   |cons a r=>simp
  have J:vs.length*k.toNat<=16777216:=by rw [<- ο];exact hz
  have:1*k.toNat<=vs.length*k.toNat:=VP _ R;omega
 refine wpAny_binaryOp_repeat_ref (T:="tuple") (U:="int") (by decide) ⟨_,Z,rfl⟩ (fun O=>typeIs_int O k tk) Hc F.fills_int_mul VW HA F.slot_int_index.lookup
  (call_meets VW (typeIs_int s k tk) F.entry_int_rmul (F.args_int_rmul_2 _ _) (IQ k tk t vs.toArray n V S) ⟨Z,rfl,⟨_,Z,rfl⟩,?_⟩)
 refine ø F.slot_tuple_mul ⟨_,Z,rfl⟩ F.entry_tuple_mul ?_ (F.args_tuple_mul_2 _ _);show Ù _ _ (asIndex (.int k tk) >>= _) _ _ _;refine À ?_
 refine wpAny_of_eq (a:=k) (by first|rfl | (unfold asIndex;rfl)) ?_
 dsimp only;rw [ú (by simp;omega)];unfold ż;refine À (À (Ē Z rfl ?_));refine Â ?_;have ne:vs.toArray.isEmpty=false:=by
  cases vs with
  |nil=>exact absurd rfl hv
  |cons a r=>simp
 by_cases h:k=1
 ·rw [ê (by rw [h];simp)]
  unfold Ž;refine À (À (VJ (T:="tuple") ⟨_,Z,rfl⟩ (Â ?_)));rw [ê (by decide)];exact À (Ň (Â ⟨_,rfl,h1 h⟩))
 ·rw [ú (by rw [ne];simp [h])]
  rw [ú (by rw [ne];simp;omega)];have W:(vs.toArray.size:Int)*k=((vs.length*k.toNat:Nat):Int):=by
   rw [Õ,Int.natCast_mul];congr 1;omega
  have N:vs.length*k.toNat<=16777216:=by rw [<- ο];exact hz
  rw [ú (by rw [W];omega)];rw [ú (by
   unfold Builtin.Tuple.tupleTooMany;rw [W,ο,Ú];generalize vs.length*k.toNat=q at N;omega)]
  unfold Ļ;have e:List.foldl (fun M L=>M++L) #[] (Î k.toNat vs.toArray)=(Î k.toNat vs).flatten.toArray:=by
   have:=L2.foldl_rep vs k.toNat [];rw [ĩ] at this;exact this
  rw [e];refine À (ô ?_ (by
   show (List.toArray _).size<=Ø;rw [Õ,L2.len_rep,Nat.mul_comm];exact hz))
  exact Â ⟨_,rfl,h2 h⟩
end
end HZ
namespace L2
open PySem PySem.Spec PyProof.Rows
section
variable {X:Cx}
def Pj (K:Ĉ):R2:=fun x y H Q=>∃a Z k,x=.ref a/\y=.int k/\aP K H a Z/\Z≠[]/\1<=k/\Z.length*k.toNat<=Ø/\lA K H (Î k.toNat Z).flatten Q
def Mm:aU X (ĳ .Mult) (Pj X.K):=by
 intro N s σ H x y v u Q I U T h;obtain ⟨a,Z,k,rfl,rfl,W,S,R,V,q⟩:=h;cases U;obtain ⟨t,rfl⟩:=T;obtain ⟨P,r,p,z⟩:=I.tuple W;have Y:=r.length;refine HZ.Ml p (fun e=>S (by rw [e] at Y;exact Vk.mp Y)) R (by rw [<- Y];exact V) (fun e=>?_) (fun _=>?_)
 ·have e1:(Î k.toNat Z).flatten=Z:=by rw [e];simp
  rw [e1] at q;exact ⟨.ref a,H,I,rfl,q.here W⟩
 ·have O:(Î k.toNat Z).flatten.length<=Ø:=by rw [len_rep,Nat.mul_comm];exact V
  exact ⟨.ref _,_,I.laid (t':=s.toks) (o:=.tup (Î k.toNat Z).flatten) (fun b o e=>Á _ e) (Wl _) ⟨O,_,r.rep k.toNat,⟨_,Ì _ rfl,rfl,_,rfl⟩⟩,rfl,q.new (I.au.fresh (Wl _))⟩
end
end L2
namespace HZ
open PySem PySem.Spec PyProof.Rows
section
variable {P:á} {w:Ą} {A:ó} {E:Ä->Ã->Prop} {s:Ã}
end
end HZ
namespace L2
open PySem PySem.Spec PyProof.Rows
section
variable {X:Cx} {tg:ę}
end
end L2
namespace HZ
open PySem PySem.Spec PyProof.Rows
section
variable {P:á} {w:Ą} {A:ó} {R:Result->Ã->Prop} {I:Ó} {fp wr:List Ó} {n:Nat} {Pv:Nat->Ä->Prop} {St:Nat->Į->Prop} {kw:List (Str×Ä)}
end
section
variable {P:á} {w:Ą} {A:ó} {E:Ä->Ã->Prop} {s:Ã}
end
end HZ
namespace L2
open PySem PySem.Spec PyProof.Rows
section
variable {X:Cx} {p pos kp:Pos} {e d:ę} {ta tk:TA}
end
end L2
namespace DI
open PySem L2
set_option genInjectivity true in
inductive D where
 |aq|bl (b:Bool)|int (i:Int)|str (x:Str)|tup (ds:List D)|lst (ds:List D)|aV (ao:List (Key×Int))|ay (k:Nat)|ty (n:String)|bu (ns:List Int)|exc (c:Str)|cg (a:Ó) (vs:List V) (ds:List D)
set_option genInjectivity true in
inductive Cell where
 |dead|lst (ds:List D)|dK (ao:List (Key×D))|dT (ao:List (D×Int))|tb (x:Str)
noncomputable abbrev aa:=List Cell
noncomputable abbrev Env:=List (Option D)
structure aW where
 c:Str
 many:Option D
abbrev Res (α:Type):=Option (Except aW α×aa)
abbrev Wh (α:Type):=Env->aa->Res α
abbrev ok {α:Type} (a:α) (s:aa):Res α:=some (.ok a,s)
def aj {α β:Type} (r:Res α) (k:α->aa->Res β):Res β:=match r with
 |some (.ok a,s)=>k a s
 |some (.error x,s)=>some (.error x,s)
 |none=>none
@[simp] theorem dj {α β:Type} {a:α} {s:aa} {k:α->aa->Res β}:aj (some (.ok a,s)) k=k a s:=rfl
structure Wd where
 ρ:List Ó
 aw:aa
 H:Hp
def Wd.Z (w:Wd) (a:Ó):Prop:=∃(k:Nat) (c:Cell),w.ρ[k]?=some a/\w.aw[k]?=some c/\c≠.dead
def LstAt (w:Wd) (a:Ó) (xs:List V):Prop:=¬ w.Z a/\w.H a=some (.lst xs)
def LstAt.sq (h:LstAt w a xs):bo K w.H a xs:=bo.of h.2
def qD (K:Ĉ) (w:Wd) (a:Ó) (xs:List V):Prop:=(¬ w.Z a/\Rd w.H a (.lst xs)) \/
 ∃(o:Obj) (Y:Array Ä) (n:Nat),K.lookup a=some o/\o.cls=.type "list"/\o.dict=none/\o.data=.seq Y n/\Y.size<=Ø/\Vals xs Y.toList
def qD.sq (h:qD K w a xs):bo K w.H a xs:=by
 rcases h with ⟨_,h⟩|h
 ·exact .inl h
 ·exact .inr h
mutual
def DV (K:Ĉ) (w:Wd):D->V->Prop
 | .aq,v=>v=.aq
 | .bl b,v=>v=.bl b
 | .int i,v=>v=.int i
 | .str x,v=>v=.str x
 | .tup Y,v=>∃a X,v=.ref a/\aP K w.H a X/\ak K w Y X
 | .lst Y,v=>∃a X,v=.ref a/\LstAt w a X/\ak K w Y X
 | .aV W,v=>∃a,v=.ref a/\¬ w.Z a/\w.H a=some (.dK (W.map fun p=>(p.1,V.int p.2)))
 | .ay k,v=>∃a,w.ρ[k]?=some a/\v=.ref a
 | .ty n,v=>v=.ty n
 | .bu U,v=>∃a,v=.ref a/\qD K w a (U.map V.int)
 | .exc c,v=>∃a o C,v=.ref a/\(¬ w.Z a/\w.H a=some (.aN o (.own a)))/\o.cls=.ref C/\í K Ò c=some (some (.ref C))
 | .cg a T Y,v=>v=.ref a/\ak K w Y T
def ak (K:Ĉ) (w:Wd):List D->List V->Prop
 | [],Z=>Z=[]
 |d::Y,Z=>∃v r,Z=v::r/\DV K w d v/\ak K w Y r
end
structure Fw (K:Ĉ) (w w':Wd):Prop where
 Ah:∀(k:Nat) a,w.ρ[k]?=some a->w'.ρ[k]?=some a
 tup:∀a xs,aP K w.H a xs->aP K w'.H a xs
 lst:∀a xs,¬ w.Z a->w.H a=some (.lst xs)->¬ w'.Z a/\w'.H a=some (.lst xs)
 aN:∀a o u,¬ w.Z a->w.H a=some (.aN o u)->¬ w'.Z a/\w'.H a=some (.aN o u)
 aV:∀a es,¬ w.Z a->w.H a=some (.dK es)->¬ w'.Z a/\w'.H a=some (.dK es)
def Fw.Es (S:Fw K w w') (h:LstAt w a xs):LstAt w' a xs:=S.lst a xs h.1 h.2
def Fw.Pk (S:Fw K w w') (h:qD K w a xs):qD K w' a xs:=by
 rcases h with ⟨Y,Z | ⟨o,Z⟩⟩|h
 ·have q:=S.lst a xs Y Z
  exact .inl ⟨q.1,.inl q.2⟩
 ·have q:=S.aN a o _ Y Z
  exact .inl ⟨q.1,.inr ⟨o,q.2⟩⟩
 ·exact .inr h
mutual
theorem DV.fw (S:Fw K w w'):∀{d:D} {v:V},DV K w d v->DV K w' d v
 | .aq,_,h=>h
 | .bl _,_,h=>h
 | .int _,_,h=>h
 | .str _,_,h=>h
 | .tup X,v,h=>by
  simp only [DV] at h |-;obtain ⟨a,Y,e,Z,r⟩:=h;exact ⟨a,Y,e,S.tup a Y Z,ak.fw S r⟩
 | .lst X,v,h=>by
  simp only [DV] at h |-;obtain ⟨a,Y,e,Z,r⟩:=h;exact ⟨a,Y,e,S.Es Z,ak.fw S r⟩
 | .aV R,v,h=>by
  simp only [DV] at h |-;obtain ⟨a,e,W,Z⟩:=h;obtain ⟨U,T⟩:=S.aV a _ W Z;exact ⟨a,e,U,T⟩
 | .ay k,v,h=>by
  simp only [DV] at h |-;obtain ⟨a,e,e2⟩:=h;exact ⟨a,S.Ah k a e,e2⟩
 | .ty _,_,h=>h
 | .bu Q,v,h=>by
  simp only [DV] at h |-;obtain ⟨a,e,Z⟩:=h;exact ⟨a,e,S.Pk Z⟩
 | .exc c,v,h=>by
  simp only [DV] at h |-;obtain ⟨a,o,C,e,Z,r⟩:=h;exact ⟨a,o,C,e,S.aN a o _ Z.1 Z.2,r⟩
 | .cg a P X,v,h=>by
  simp only [DV] at h |-;exact ⟨h.1,ak.fw S h.2⟩
theorem ak.fw (S:Fw K w w'):∀{ds:List D} {vs:List V},ak K w ds vs->ak K w' ds vs
 | [],_,h=>h
 |d::ds,vs,h=>by
  simp only [ak] at h |-;obtain ⟨v,r,e,Z,Y⟩:=h;exact ⟨v,r,e,DV.fw S Z,ak.fw S Y⟩
end
structure Le (K:Ĉ) (w w':Wd):Prop where
 dv:∀d v,DV K w d v->DV K w' d v
 lst:∀a xs,LstAt w a xs->LstAt w' a xs
 tup:∀a xs,aP K w.H a xs->aP K w'.H a xs
 aN:∀a o u,¬ w.Z a->w.H a=some (.aN o u)->¬ w'.Z a/\w'.H a=some (.aN o u)
noncomputable instance {K:Ĉ} {w w':Wd}:CoeFun (Le K w w') (fun _=>∀d v,DV K w d v->DV K w' d v):=⟨Le.dv⟩
def Le.refl (w:Wd):Le K w w:=⟨fun _ _ h=>h,fun _ _ h=>h,fun _ _ h=>h,fun _ _ _ h g=>⟨h,g⟩⟩
def Le.trans (h:Le K a b) (g:Le K b c):Le K a c:=⟨fun d v x=>g.dv d v (h.dv d v x),fun p Z x=>g.lst p Z (h.lst p Z x),fun p Z x=>g.tup p Z (h.tup p Z x),fun p o u z x=>let q:=h.aN p o u z x;g.aN p o u q.1 q.2⟩
def Fw.le (S:Fw K w w'):Le K w w':=⟨fun _ _ h=>h.fw S,fun _ _ h=>S.Es h,S.tup,S.aN⟩
theorem Le.all (h:Le K w w'):∀{ds:List D} {vs:List V},ak K w ds vs->ak K w' ds vs
 | [],_,x=>x
 |d::ds,vs,x=>by
  simp only [ak] at x |-;obtain ⟨v,r,e,Z,Y⟩:=x;exact ⟨v,r,e,h d v Z,Le.all h Y⟩
theorem ak.length:∀{ds:List D} {vs:List V},ak K w ds vs->ds.length=vs.length
 | [],vs,h=>by
  have e:vs=[]:=h;subst e;rfl
 |d::ds,vs,h=>by
  obtain ⟨v,r,e,_,Z⟩:=h;subst e;simp [ak.length Z]
theorem ak.get:∀{ds:List D} {vs:List V},ak K w ds vs->∀(i:Nat) v,vs[i]?=some v->∃d,ds[i]?=some d/\DV K w d v
 | [],vs,h,i,v,e=>by
  have Z:vs=[]:=h;subst Z;simp at e
 |d::ds,vs,h,i,v,e=>by
  obtain ⟨u,r,Z,Y,X⟩:=h;subst Z
  cases i with
  |zero =>
   have:u=v:=by simpa using e
   subst this;exact ⟨d,rfl,Y⟩
  |succ i=>exact ak.get X i v (by simpa using e)
theorem ak.get':∀{ds:List D} {vs:List V},ak K w ds vs->∀(i:Nat) d,ds[i]?=some d->∃v,vs[i]?=some v/\DV K w d v
 | [],vs,h,i,d,e=>by simp at e
 |d::ds,vs,h,i,Z,e=>by
  obtain ⟨u,r,Y,X,W⟩:=h;subst Y
  cases i with
  |zero =>
   have:d=Z:=by simpa using e
   subst this;exact ⟨u,rfl,X⟩
  |succ i=>exact ak.get' W i Z (by simpa using e)
theorem ak.append:∀{ds es:List D} {vs ws:List V},ak K w ds vs->ak K w es ws->ak K w (ds++es) (vs++ws)
 | [],es,vs,ws,h,Z=>by
  have e:vs=[]:=h;subst e;exact Z
 |d::ds,es,vs,ws,h,Z=>by
  obtain ⟨v,r,e,Y,X⟩:=h;subst e;exact ⟨v,r++ws,rfl,Y,ak.append X Z⟩
theorem ak.take:∀{ds:List D} {vs:List V} (n:Nat),ak K w ds vs->ak K w (ds.take n) (vs.take n)
 | [],vs,n,h=>by
  have e:vs=[]:=h;subst e;simp [ak]
 |d::ds,vs,0,h=>by simp [ak]
 |d::ds,vs,n+1,h=>by
  obtain ⟨v,r,e,Z,Y⟩:=h;subst e;exact ⟨v,r.take n,rfl,Z,ak.take n Y⟩
theorem ak.drop:∀{ds:List D} {vs:List V} (n:Nat),ak K w ds vs->ak K w (ds.drop n) (vs.drop n)
 | [],vs,n,h=>by
  have e:vs=[]:=h;subst e;simp [ak]
 |d::ds,vs,0,h=>h
 |d::ds,vs,n+1,h=>by
  obtain ⟨v,r,e,Y,Z⟩:=h;subst e;exact ak.drop n Z
theorem ak.reverse:∀{ds:List D} {vs:List V},ak K w ds vs->ak K w ds.reverse vs.reverse
 | [],vs,h=>by
  have e:vs=[]:=h;subst e;simp [ak]
 |d::ds,vs,h=>by
  obtain ⟨v,r,e,Z,Y⟩:=h;subst e;rw [List.reverse_cons,List.reverse_cons];exact ak.append (ak.reverse Y) ⟨v,[],rfl,Z,rfl⟩
theorem ak.set (hd:DV K w d v):∀{ds:List D} {vs:List V} (i:Nat),ak K w ds vs->ak K w (ds.set i d) (vs.set i v)
 | [],vs,i,h=>by
  have e:vs=[]:=h;subst e;simp [ak]
 |d'::ds,vs,0,h=>by
  obtain ⟨u,r,e,Y,Z⟩:=h;subst e;exact ⟨v,r,rfl,hd,Z⟩
 |d'::ds,vs,i+1,h=>by
  obtain ⟨u,r,e,Y,Z⟩:=h;subst e;exact ⟨u,r.set i v,rfl,Y,ak.set hd i Z⟩
def ak.one (h:DV K w d v):ak K w [d] [v]:=⟨v,[],rfl,h,rfl⟩
def ak.two (h:DV K w d v) (h':DV K w d' v'):ak K w [d,d'] [v,v']:=⟨v,_,rfl,h,ak.one h'⟩
theorem ak.ints:∀(ns:List Int),ak K w (ns.map D.int) (ns.map V.int)
 | []=>rfl
 |n::ns=>⟨.int n,_,rfl,rfl,ak.ints ns⟩
theorem ak.Ct:∀{ns:List Int} {vs:List V},ak K w (ns.map D.int) vs->vs=ns.map V.int
 | [],_,h=>h
 |n::ns,vs,h=>by
  obtain ⟨v,r,e,Z,Y⟩:=h;have e1:v=.int n:=Z;rw [e,e1,ak.Ct Y];rfl
theorem ak.tQ:∀{bs:List Bool} {vs:List V},ak K w (bs.map D.bl) vs->vs=bs.map V.bl
 | [],_,h=>h
 |n::X,vs,h=>by
  obtain ⟨v,r,e,Z,Y⟩:=h;have e1:v=.bl n:=Z;rw [e,e1,ak.tQ Y];rfl
def DX (a:Ó) (es:List (Int×Ó)) (h:Į):Prop:=(a==ĸ)=false/\∃(o:Obj) (Z:Array DictEntry) (Y:Nat),h.get? a=some o/\o.ExactDict/\o.data=.dict Z Y/\Z.toList=es.map fun p=>(⟨p.1,.ref p.2,.bool true⟩:DictEntry)
def Pl (w:Wd) (q:Str) (cv:Ä):Prop:=∃Y X W t,cv=.ref Y/\(¬ w.Z Y/\w.H Y=some (.aN X (.own Y)))/\X.data=.fields W/\W[1]?=some (.str q t)
def QV (K:Ĉ) (w:Wd) (a:Ó) (x:Str):Prop:=∃c Z,We K x=some (c,a)/\w.H a=some (.cD Z)/\PySem.TriplesOk Z.toList/\∀pos Y,PySem.codeAmong pos Z.toList=some Y->Pl w (x++".<locals>."++"<lambda>") Y
def nW (K:Ĉ) (w:Wd) (a:Ó):Cell->Prop
 | .dead=>True
 | .lst W=>∃X,w.H a=some (.lst X)/\ak K w W X
 | .dK Z=>∃Y:List (Key×V),w.H a=some (.dK Y)/\Y.map (·.1)=Z.map (·.1)/\ak K w (Z.map (·.2)) (Y.map (·.2))
 | .dT Z=>∃as:List Ó,w.H a=some (.ext (DX a ((Z.map (·.2)).zip as)))/\ak K w (Z.map (·.1)) (as.map V.ref)/\(Z.map (·.1)).Nodup
 | .tb x=>QV K w a x
structure aD (K:Ĉ) (w:Wd):Prop where
 len:w.ρ.length=w.aw.length
 nd:w.ρ.Nodup
 there:∀(k:Nat) a,w.ρ[k]?=some a->w.H a≠none
 cell:∀(k:Nat) a c,w.ρ[k]?=some a->w.aw[k]?=some c->nW K w a c
theorem nW.le (h:nW K w a c) (le:Le K w w') (e:c≠.dead->w'.H a=w.H a):nW K w' a c:=by
 cases c with
 |dead=>trivial
 |lst J =>
  obtain ⟨T,Z,Y⟩:=h;exact ⟨T,(e (by intro z;cases z)).trans Z,le.all Y⟩
 |dK S =>
  obtain ⟨R,Z,Y,X⟩:=h;exact ⟨R,(e (by intro z;cases z)).trans Z,Y,le.all X⟩
 |dT S =>
  obtain ⟨as,Z,Y,X⟩:=h;exact ⟨as,(e (by intro z;cases z)).trans Z,le.all Y,X⟩
 |tb x =>
  obtain ⟨c,Q,Z,Y,X,P⟩:=h
  exact ⟨c,Q,Z,(e (by intro z;cases z)).trans Y,X,fun pos O q=>let ⟨W,V,N,t,M,U,L⟩:=P pos O q;⟨W,V,N,t,M,le.aN W V _ U.1 U.2,L⟩⟩
section
variable {K:Ĉ} {w:Wd}
def Wd.grow (w:Wd) (p:Ó) (o:HO):Wd:={ w with H:=upd w.H p o }
def Rd.grow (hp:H p=none) (h:Rd H a u):Rd (upd H p o) a u:=by
 rcases h with h | ⟨Z,h⟩
 ·exact .inl (by rw [aI (bX h hp)];exact h)
 ·exact .inr ⟨Z,by rw [aI (bX h hp)];exact h⟩
theorem aP.grow (hp:H p=none) (h:aP K H a xs):aP K (upd H p o) a xs:=by
 rcases h with h|h
 ·exact .inl (Rd.grow hp h)
 ·exact .inr h
theorem Fw.grow (hp:w.H p=none):Fw K w (w.grow p o) where
 Ah:=fun _ _ e=>e
 tup:=fun a Y h=>aP.grow hp h
 lst:=fun a Y Z h=>⟨Z,by show upd w.H p o a=_;rw [aI (bX h hp)];exact h⟩
 aN:=fun a X Y Z h=>⟨Z,by show upd w.H p o a=_;rw [aI (bX h hp)];exact h⟩
 aV:=fun a W Z h=>⟨Z,by show upd w.H p o a=_;rw [aI (bX h hp)];exact h⟩
theorem aD.grow (S:aD K w) (hp:w.H p=none):aD K (w.grow p o) where
 len:=S.len
 nd:=S.nd
 there:=fun k a e=>by
  have h:=S.there k a e;show upd w.H p o a≠none;unfold upd;split
  ·intro z;cases z
  ·exact h
 cell:=fun k a c e1 e2=>(S.cell k a c e1 e2).le (Fw.grow hp).le fun _=>by
  have h:=S.there k a e1;show upd w.H p o a=w.H a;rw [aI];intro z;rw [z] at h;exact h hp
def Wd.cell (w:Wd) (p:Ó) (o:HO) (c:Cell):Wd:=⟨w.ρ++[p],w.aw++[c],upd w.H p o⟩
def Wd.xU (S:aD K w) (h:(w.cell p o c).Z a):w.Z a\/a=p:=by
 obtain ⟨k,Y,e1,e2,V⟩:=h;have e1:(w.ρ++[p])[k]?=some a:=e1;have e2:(w.aw++[c])[k]?=some Y:=e2;by_cases X:k<w.ρ.length
 ·rw [Û X] at e1
  rw [Û (by rw [<- S.len];exact X)] at e2;exact .inl ⟨k,Y,e1,e2,V⟩
 ·rw [ë (by omega)] at e1
  right
  cases W:k-w.ρ.length with
  |zero=>rw [W] at e1;exact (Wm e1).symm
  |succ j=>rw [W] at e1;cases e1
theorem Fw.cell (S:aD K w) (hp:w.H p=none):Fw K w (w.cell p o c) where
 Ah:=fun k a e=>by
  show (w.ρ++[p])[k]?=some a;rw [Û (È.mp e).1];exact e
 tup:=fun a Y h=>aP.grow hp h
 lst:=fun a Y Z h=>⟨fun z=>(Wd.xU S z).elim Z (fun e=>by (subst e;rw [hp] at h;cases h)),by show upd w.H p o a=_;rw [aI (bX h hp)];exact h⟩
 aN:=fun a X Y Z h=>⟨fun z=>(Wd.xU S z).elim Z (fun e=>by (subst e;rw [hp] at h;cases h)),by show upd w.H p o a=_;rw [aI (bX h hp)];exact h⟩
 aV:=fun a W Z h=>⟨fun z=>(Wd.xU S z).elim Z (fun e=>by (subst e;rw [hp] at h;cases h)),by show upd w.H p o a=_;rw [aI (bX h hp)];exact h⟩
def aD.Pn (S:aD K w) (hp:w.H p=none) (hc:nW K (w.cell p o c) p c):aD K (w.cell p o c) where
 len:=by show (w.ρ++[p]).length=(w.aw++[c]).length;simp [S.len]
 nd:=by
  show (w.ρ++[p]).Nodup;rw [List.nodup_append];refine ⟨S.nd,by simp,fun a W b V=>?_⟩;obtain ⟨k,e⟩:=VQ W;have h:=S.there k a e;have U:b=p:=by simpa using V
  rw [U];intro z;rw [z] at h;exact h hp
 there:=fun k a e=>by
  have e:(w.ρ++[p])[k]?=some a:=e;show upd w.H p o a≠none;unfold upd;split
  ·intro z;cases z
  ·rename_i T
   by_cases Y:k<w.ρ.length
   ·rw [Û Y] at e
    exact S.there k a e
   ·rw [ë (by omega)] at e
    cases Z:k-w.ρ.length with
    |zero=>rw [Z] at e;exact absurd (Wm e).symm T
    |succ j=>rw [Z] at e;cases e
 cell:=fun k a X e1 e2=>by
  have e1:(w.ρ++[p])[k]?=some a:=e1;have e2:(w.aw++[c])[k]?=some X:=e2;by_cases Y:k<w.ρ.length
  ·rw [Û Y] at e1
   rw [Û (by rw [<- S.len];exact Y)] at e2;refine (S.cell k a X e1 e2).le (Fw.cell S hp).le fun _=>?_;have h:=S.there k a e1;show upd w.H p o a=w.H a;rw [aI];intro z;rw [z] at h;exact h hp
  ·rw [ë (by omega)] at e1
   rw [ë (by rw [<- S.len];omega)] at e2;rw [<- S.len] at e2
   cases Z:k-w.ρ.length with
   |zero =>
    rw [Z] at e1 e2;have e1:p=a:=Wm e1;have e2:c=X:=Wm e2;subst e1 e2;exact hc
   |succ j=>rw [Z] at e1;cases e1
def Wd.same (w:Wd) (H':Hp):Wd:={ w with H:=H' }
theorem Fw.same (e:i4 w.H H'):Fw K w (w.same H') :=
 ⟨fun _ _ e=>e,fun a Y h=>e.RF h,fun a Y Z h=>⟨Z,e _ _ h⟩,fun a o Y Z h=>⟨Z,e _ _ h⟩,fun a X Z h=>⟨Z,e _ _ h⟩⟩
theorem aD.same (S:aD K w) (e:i4 w.H H'):aD K (w.same H') where
 len:=S.len
 nd:=S.nd
 there:=fun k a q=>by
  have h:=S.there k a q;show H' a≠none
  cases Z:w.H a with
  |none=>exact absurd Z h
  |some o=>rw [e _ _ Z];intro z;cases z
 cell:=fun k a c e1 e2=>(S.cell k a c e1 e2).le (Fw.same e).le fun _=>by
  have h:=S.there k a e1;show H' a=w.H a
  cases Z:w.H a with
  |none=>exact absurd Z h
  |some o=>exact e _ _ Z
def Wd.put (w:Wd) (k:Nat) (a:Ó) (o:HO) (c:Cell):Wd:=⟨w.ρ,w.aw.set k c,upd w.H a o⟩
def HB {α:Type} {l:List α} (nd:l.Nodup) {i j:Nat} {a:α} (h1:l[i]?=some a) (h2:l[j]?=some a):i=j:=by
 exact (List.getElem?_inj (È.mp h1).1 nd).mp (h1.trans h2.symm)
def Wd.yz (h0:w.ρ[k]?=some a) (h1:w.aw[k]?=some c0) (h2:c0≠.dead) (h:(w.put k a o c).Z b):w.Z b:=by
 obtain ⟨j,Y,e1,e2,W⟩:=h;have e1:w.ρ[j]?=some b:=e1;have e2:(w.aw.set k c)[j]?=some Y:=e2;by_cases X:k=j
 ·subst X
  exact ⟨k,c0,e1,h1,h2⟩
 ·rw [Ü X] at e2
  exact ⟨j,Y,e1,e2,W⟩
theorem Fw.put (S:aD K w) (h0:w.ρ[k]?=some a) (h1:w.aw[k]?=some c0) (h2:c0≠.dead):Fw K w (w.put k a o c):=by
 have W:w.Z a:=⟨k,c0,h0,h1,h2⟩;have T:∀X,¬ Rd w.H a (.tup X):=fun X h=>by
  have q:=S.cell k a c0 h0 h1
  cases c0 with
  |dead=>exact h2 rfl
  |lst Q=>obtain ⟨V,e,_⟩:=q;rcases h with h | ⟨_,h⟩<;>(rw [e] at h;cases h)
  |dK R=>obtain ⟨V,e,_⟩:=q;rcases h with h | ⟨_,h⟩<;>(rw [e] at h;cases h)
  |dT R=>obtain ⟨V,e,_⟩:=q;rcases h with h | ⟨_,h⟩<;>(rw [e] at h;cases h)
  |tb x=>obtain ⟨_,V,_,e,_⟩:=q;rcases h with h | ⟨_,h⟩<;>(rw [e] at h;cases h)
 refine ⟨fun _ _ e=>e,fun b X h=>?_,fun b X Y h=>⟨fun z=>Y (Wd.yz h0 h1 h2 z),?_⟩,fun b U X Y h=>⟨fun z=>Y (Wd.yz h0 h1 h2 z),?_⟩,fun b P Y h=>⟨fun z=>Y (Wd.yz h0 h1 h2 z),?_⟩⟩
 ·rcases h with h|h
  ·have ne:b≠a:=fun e=>by subst e;exact T X h
   refine .inl ?_
   rcases h with h | ⟨U,h⟩
   ·exact .inl (by show upd w.H a o b=_;rw [aI ne];exact h)
   ·exact .inr ⟨U,by show upd w.H a o b=_;rw [aI ne];exact h⟩
  ·exact .inr h
 ·have ne:b≠a:=fun e=>by subst e;exact Y W
  show upd w.H a o b=_;rw [aI ne];exact h
 ·have ne:b≠a:=fun e=>by subst e;exact Y W
  show upd w.H a o b=_;rw [aI ne];exact h
 ·have ne:b≠a:=fun e=>by subst e;exact Y W
  show upd w.H a o b=_;rw [aI ne];exact h
def aD.ze {k:Nat} {a:Ó} {o:HO} {c c0:Cell} (S:aD K w) (h0:w.ρ[k]?=some a) (h1:w.aw[k]?=some c0) (h2:c0≠.dead) (hc:nW K (w.put k a o c) a c):aD K (w.put k a o c) where
 len:=by show w.ρ.length=(w.aw.set k c).length;rw [Ć];exact S.len
 nd:=S.nd
 there:=fun j b e=>by
  show upd w.H a o b≠none;unfold upd;split
  ·intro z;cases z
  ·exact S.there j b e
 cell:=fun j b Z e1 e2=>by
  have e1:w.ρ[j]?=some b:=e1;have e2:(w.aw.set k c)[j]?=some Z:=e2;by_cases Y:k=j
  ·subst Y
   rw [h0] at e1;have e1:a=b:=Wm e1;rw [é (È.mp h1).1] at e2;have e2:c=Z:=Wm e2;subst e1 e2;exact hc
  ·rw [Ü Y] at e2
   refine (S.cell j b Z e1 e2).le (Fw.put S h0 h1 h2).le fun _=>?_;show upd w.H a o b=w.H b;rw [aI];intro z;subst z;exact Y (HB S.nd h0 e1)
end
structure br (K:Ĉ) (w:Wd) (env:Env) (σ:St):Prop where
 len:env.length=σ.length
 val:∀(i:Nat) d,env[i]?=some (some d)->∃v,σ[i]?=some (some v)/\DV K w d v
theorem br.le (h:br K w env σ) (le:Le K w w'):br K w' env σ :=
 ⟨h.len,fun i d e=>by obtain ⟨v,e1,e2⟩:=h.val i d e;exact ⟨v,e1,le d v e2⟩⟩
theorem br.set (h:br K w env σ) (hd:DV K w d v) (i:Nat):br K w (env.set i (some d)) (σ.set i (some v)):=by
 refine ⟨by rw [Ć,Ć];exact h.len,fun j X e=>?_⟩;by_cases Z:i=j
 ·subst Z
  have Y:=(È.mp e).1;rw [Ć] at Y;rw [é Y] at e;have e:d=X:=Wm (Wm e);subst e;exact ⟨v,by rw [é (by rw [<- h.len];exact Y)],hd⟩
 ·rw [Ü Z] at e
  rw [Ü Z];exact h.val j X e
def Out (K:Ĉ) (Ξ:Wd->aW->Prop) (w:Wd) {α:Type} (r:Res α) (k:Wd->α->Prop):Prop:=match r with
 |none=>False
 |some (.ok a,s)=>∀Z,Le K w Z->aD K Z->Z.aw=s->k Z a
 |some (.error x,s)=>∀Z,Le K w Z->aD K Z->Z.aw=s->Ξ Z x
section
variable {K:Ĉ} {Ξ:Wd->aW->Prop} {w w':Wd} {α β:Type} {r:Res α} {k k':Wd->α->Prop}
def Out.from (h:Out K Ξ w r k) (le:Le K w w'):Out K Ξ w' r k:=by
 unfold Out at h |-
 split<;>simp only at h
 ·exact fun Z Y X e2=>h Z (le.trans Y) X e2
 ·exact fun Z Y X e2=>h Z (le.trans Y) X e2
def Out.mono (h:Out K Ξ w r k) (hk:∀w2 a,Le K w w2->aD K w2->k w2 a->k' w2 a):Out K Ξ w r k':=by
 unfold Out at h |-
 split<;>simp only at h
 ·exact fun w2 Z Y e2=>hk w2 _ Z Y (h w2 Z Y e2)
 ·exact h
theorem Out.aj {q:Wd->β->Prop} (h:Out K Ξ w (DI.aj r g) q):Out K Ξ w r (fun w2 a=>Out K Ξ w2 (g a w2.aw) q):=by
 match r,h with
 |some (.ok a,s),h =>
  intro w2 Z Y e2;rw [e2];exact Out.from h Z
 |some (.error x,s),h=>exact h
def Out.done (h:Out K Ξ w (some (.ok a,w.aw)) k) (S:aD K w):k w a:=h w (Le.refl w) S rfl
end
end DI
namespace DI
open PySem L2
def tE (K:Ĉ) (Ξ:Wd->aW->Prop) (f:Wh D):TE:=fun σ H Q=>∃w env,w.H=H/\aD K w/\br K w env σ/\Out K Ξ w (f env w.aw) fun Z d=>∀v,DV K Z d v->Q v Z.H
def tT (K:Ĉ) (Ξ:Wd->aW->Prop) (f:Wh Bool):TT:=fun σ H Q=>∃w env,w.H=H/\aD K w/\br K w env σ/\Out K Ξ w (f env w.aw) fun Z b=>Q b Z.H
def tA (K:Ĉ) (Ξ:Wd->aW->Prop) (f:Wh (List D)):TA:=fun σ H Q=>∃w env,w.H=H/\aD K w/\br K w env σ/\Out K Ξ w (f env w.aw) fun Z X=>∀Y,ak K Z X Y->Q Y Z.H
def rO (K:Ĉ) (Ξ:Wd->aW->Prop) (o:D->D->aa->Res D):R2:=fun x y H Q=>∃w Z Y,w.H=H/\aD K w/\DV K w Z x/\DV K w Y y/\Out K Ξ w (o Z Y w.aw) fun X d=>∀v,DV K X d v->Q v X.H
def rU (K:Ĉ) (Ξ:Wd->aW->Prop) (o:D->aa->Res D):V->Hp->VK->Prop:=fun x H Q=>∃w Z,w.H=H/\aD K w/\DV K w Z x/\Out K Ξ w (o Z w.aw) fun Y d=>∀v,DV K Y d v->Q v Y.H
def rC (K:Ĉ) (Ξ:Wd->aW->Prop) (o:List D->aa->Res D):List V->Hp->VK->Prop:=fun X H Q=>∃w Z,w.H=H/\aD K w/\ak K w Z X/\Out K Ξ w (o Z w.aw) fun Y d=>∀v,DV K Y d v->Q v Y.H
def af (i:Nat):Wh D:=fun env s=>match env[i]? with
 |some (some d)=>ok d s
 |_=>none
def eC (d:D):Wh D:=fun _ s=>ok d s
def e1 (o:D->aa->Res D) (f:Wh D):Wh D:=fun env s=>aj (f env s) fun x s=>o x s
def e2 (o:D->D->aa->Res D) (f g:Wh D):Wh D:=fun env s=>aj (f env s) fun x s=>aj (g env s) fun y s=>o x y s
def ah:Wh (List D):=fun _ s=>ok [] s
def ae (f:Wh D) (g:Wh (List D)):Wh (List D):=fun env s=>aj (f env s) fun x s=>aj (g env s) fun Z s=>ok (x::Z) s
def eB (o:List D->aa->Res D) (f:Wh (List D)):Wh D:=fun env s=>aj (f env s) fun Z s=>o Z s
def fu {α:Type} (ds:List D) (r:Res α):Res α:=if ds.length<=Ø then r else none
def bC (f:Wh (List D)):Wh D:=fun env s=>aj (f env s) fun Z s=>fu Z (ok (.tup Z) s)
def cA (f:Wh (List D)):Wh D:=fun env s=>aj (f env s) fun Z s=>fu Z (ok (.lst Z) s)
def eNew (f:Wh (List D)):Wh D:=fun env s=>aj (f env s) fun Z s=>fu Z (ok (.ay s.length) (s++[.lst Z]))
def aN:D->aa->Res D:=fun d s=>match d with
 | .ay k=>match s[k]? with
  |some (.lst Z)=>ok (.lst Z) (s.set k .dead)
  |_=>none
 |_=>none
def Fo (f:Wh D):Wh D:=fun env s=>aj (f env s) aN
def dS (d:D) (s:aa):Res Bool:=match d with
 | .bl b=>ok b s
 |_=>none
def bx (f:Wh D):Wh Bool:=fun env s=>aj (f env s) dS
def truth (d:D) (s:aa):Res Bool:=match d with
 | .aq=>ok false s
 | .bl b=>ok b s
 | .int i=>ok (i != 0) s
 | .str x=>if x.length<=Ø then ok ((x.length:Int) != 0) s else none
 | .tup Z=>ok (!Z.isEmpty) s
 | .lst Z=>ok (!Z.isEmpty) s
 | .aV Y=>ok (!Y.isEmpty) s
 | .ay k=>match s[k]? with
  |some (.lst Z)=>ok (!Z.isEmpty) s
  |some (.dK Y)=>ok (!Y.isEmpty) s
  |_=>none
 | .ty _=>none
 | .bu _=>none
 | .exc _=>none
 | .cg _ _ _=>none
def eD (f:Wh D):Wh Bool:=fun env s=>aj (f env s) truth
def oE (f g:Wh Bool):Wh Bool:=fun env s=>aj (f env s) fun b s=>if b=true then g env s else ok false s
def fX (f g:Wh Bool):Wh Bool:=fun env s=>aj (f env s) fun b s=>if b=true then ok true s else g env s
def fQ (f:Wh Bool):Wh Bool:=fun env s=>aj (f env s) fun b s=>ok (!b) s
def fe (f g:Wh D):Wh D:=fun env s=>aj (f env s) fun x s=>aj (dS x s) fun b s=>if b=true then g env s else ok (.bl false) s
def Gh (f g:Wh D):Wh D:=fun env s=>aj (f env s) fun x s=>aj (dS x s) fun b s=>if b=true then ok (.bl true) s else g env s
def vj (f:Wh D):Wh D:=fun env s=>aj (f env s) fun x s=>aj (dS x s) fun b s=>ok (.bl (!b)) s
def sj (c:Wh Bool) (f g:Wh D):Wh D:=fun env s=>aj (c env s) fun b s=>if b=true then f env s else g env s
def sk (o o':D->D->aa->Res D) (f g h:Wh D):Wh D:=fun env s=>aj (f env s) fun x s=>aj (g env s) fun y s=>aj (o x y s) fun z s=>aj (dS z s) fun b s =>
 if b=true then aj (h env s) fun u s=>o' y u s else ok (.bl false) s
section
variable {X:Cx} {Ξ:Wd->aW->Prop} {e a b c:ę} {es rest:List ę} {pos:Pos} {f g h:Wh D} {fa:Wh (List D)} {ft gt:Wh Bool}
def bY {t t':TE} (h:PE X e t) (i:∀ σ H Q,t' σ H Q->t σ H Q):PE X e t':=fun Z s σ H Q I Y=>h Z s σ H Q I (i σ H Q Y)
def xV {t t':TT} (h:PT X e t) (i:∀ σ H Q,t' σ H Q->t σ H Q):PT X e t':=fun Z s σ H Q I Y=>h Z s σ H Q I (i σ H Q Y)
def DG {t t':TT} (h:PW X e t) (i:∀ σ H Q,t' σ H Q->t σ H Q):PW X e t':=fun Z Y s σ H Q I W=>h Z Y s σ H Q I (i σ H Q W)
def DH {t t':TA} (h:PA X es t) (i:∀ σ H Q,t' σ H Q->t σ H Q):PA X es t':=fun p Z s σ H Q I Y=>h p Z s σ H Q I (i σ H Q Y)
def iR (h:PS X st t) (i:∀D σ H,t' D σ H->t D σ H):PS X st t':=fun Z s σ H D I Y=>h Z s σ H D I (i D σ H Y)
def C5 (h:cb X st t) (i:∀D σ H,t' D σ H->t D σ H):cb X st t':=fun Z s σ H D I Y=>h Z s σ H D I (i D σ H Y)
def az {α:Type} {K:Ĉ} {w:Wd} {a:α} {k:Wd->α->Prop} (S:aD K w) (h:Out K Ξ w (ok a w.aw) k):k w a:=h w (Le.refl w) S rfl
def ag (i:Nat) {x:Str} (hN:X.N[i]?=some x:=by rfl) (hv:mR X.env.scope x:=by first|exact Vi rfl|exact Or.inr (Vi rfl)|exact Or.inr (Or.inr rfl)) (hd:(x==("__debug__":Str))=false:=by decide)
  (dC:(x==("__classdict__":Str))=false:=by decide):PE X (.Name x pos) (tE X.K Ξ (af i)):=bY (Dq hN hv hd dC) fun σ H Q Z=>by
 obtain ⟨w,env,Y,S,W,h⟩:=Z;unfold af at h;split at h
 ·rename_i d V
  obtain ⟨v,e1,e2⟩:=W.val i d V;subst Y;exact ⟨v,e1,az S h v e2⟩
 ·exact h.elim
def oi {d:D} {v:V} (h:PE X e (tC v)) (hd:∀w,DV X.K w d v):PE X e (tE X.K Ξ (eC d)):=bY h fun σ H Q Z=>by
 obtain ⟨w,env,Y,S,W,h⟩:=Z;subst Y;exact az S h v (hd w)
def ax {i j}:PE X (.Constant (.int i) j pos) (tE X.K Ξ (eC (.int i))):=oi Dr fun _=>rfl
def eG {b j}:PE X (.Constant (.bool b) j pos) (tE X.K Ξ (eC (.bl b))):=oi yt fun _=>rfl
def qE {j}:PE X (.Constant .none j pos) (tE X.K Ξ (eC .aq)):=oi Ds fun _=>rfl
def jx {x j}:PE X (.Constant (.str x) j pos) (tE X.K Ξ (eC (.str x))):=oi Dt fun _=>rfl
def tR (σ:St) (H:Hp) (Q:VK):tE K Ξ (e2 o f g) σ H Q->rQ (rO K Ξ o) (tE K Ξ f) (tE K Ξ g) σ H Q:=by
 rintro ⟨w,env,rfl,S,Z,h⟩;exact ⟨w,env,rfl,S,Z,(Out.aj h).mono fun Y x X W V v1 U=>⟨Y,env,rfl,W,Z.le X,(Out.aj V).mono fun T y R P O v2 N=>⟨T,x,y,rfl,P,R _ _ U,N,O⟩⟩⟩
def aX (ho:aU X (ĳ op) (rO X.K Ξ o)) (ha:PE X a (tE X.K Ξ f)) (hb:PE X b (tE X.K Ξ g)):PE X (.BinOp a op b pos) (tE X.K Ξ (e2 o f g)):=bY (OS ho ha hb) tR
def kX (ho:aU X (ć op) (rO X.K Ξ o)) (ha:PE X a (tE X.K Ξ f)) (hb:PE X b (tE X.K Ξ g)) (hm:Vc op b=false):PE X (.Compare a [op] [b] pos) (tE X.K Ξ (e2 o f g)):=bY (LV ho ha hb hm) tR
def NS {K:Ĉ} (σ:St) (H:Hp) (Q:Bool->Hp->Prop):tT K Ξ (bx f) σ H Q->uV (tE K Ξ f) σ H Q:=by
 rintro ⟨w,env,rfl,S,Y,h⟩;refine ⟨w,env,rfl,S,Y,(Out.aj h).mono fun V x U X Z v1 W=>?_⟩
 cases x with
 |bl b =>
  have e:v1=.bl b:=W;exact ⟨b,e,az X Z⟩
 |_=>exact Z.elim
def IS (i:∀ σ H Q,t' σ H Q->t σ H Q) (σ:St) (H:Hp) (Q:Bool->Hp->Prop):uV t' σ H Q->uV t σ H Q:=fun h=>i _ _ _ h
def cy (ho:aU X (ć op) (rO X.K Ξ o)) (ha:PE X a (tE X.K Ξ f)) (hb:PE X b (tE X.K Ξ g)) (hm:Vc op b=false):PT X (.Compare a [op] [b] pos) (tT X.K Ξ (bx (e2 o f g))) :=
 xV (LW ho ha hb hm) fun σ H Q h=>IS tR σ H Q (NS σ H Q h)
def NT {K:Ĉ} {o o':D->D->aa->Res D} (σ:St) (H:Hp) (Q:VK):tE K Ξ (sk o o' f g h) σ H Q->Dw (rO K Ξ o) (rO K Ξ o') (tE K Ξ f) (tE K Ξ g) (tE K Ξ h) σ H Q:=by
 rintro ⟨w,env,rfl,S,Y,h⟩;refine ⟨w,env,rfl,S,Y,(Out.aj h).mono fun P x W O N v1 M=>⟨P,env,rfl,O,Y.le W,(Out.aj N).mono fun L y V J I v2 U=>⟨L,x,y,rfl,J,V _ _ M,U,(Out.aj I).mono fun G z T X F E C=>?_⟩⟩⟩;have R:=Out.aj F
 cases z with
 |bl b =>
  have e:E=.bl b:=C;have Z:=az X R;refine ⟨b,e,?_⟩
  cases b with
  |true =>
   rw [ê rfl] at Z |-;exact ⟨G,env,rfl,X,Y.le (W.trans (V.trans T)),(Out.aj Z).mono fun B u A v t v4 s=>⟨B,y,u,rfl,v,(T.trans A) _ _ U,s,t⟩⟩
  |false =>
   rw [ú Ñ] at Z |-;exact az X Z _ rfl
 |_=>exact R.elim
def Mn (ho:aU X (ć op) (rO X.K Ξ o)) (jc:aU X (ć pk) (rO X.K Ξ o')) (ha:PE X a (tE X.K Ξ f)) (hb:PE X b (tE X.K Ξ g)) (hc:PE X c (tE X.K Ξ h))
 (hm:lastMarks [op,pk] [b,c]=false:=by with_unfolding_all rfl):PE X (.Compare a [op,pk] [b,c] pos) (tE X.K Ξ (sk o o' f g h)):=bY (Kq ho jc ha hb hc hm) NT
def vm (ho:rP X (unaryOp op) (rU X.K Ξ o)) (ha:PE X a (tE X.K Ξ f)):PE X (.UnaryOp op a pos) (tE X.K Ξ (e1 o f)):=bY (OT ho ha) fun σ H Q Z=>by
 obtain ⟨w,env,Y,S,W,h⟩:=Z;subst Y;exact ⟨w,env,rfl,S,W,(Out.aj h).mono fun V x P U T v1 R=>⟨V,x,rfl,U,R,T⟩⟩
def dM:PA X [] (tA X.K Ξ ah):=DH js fun σ H Q Z=>by
 obtain ⟨w,env,Y,S,W,h⟩:=Z;subst Y;exact az S h _ rfl
def cR (ha:PE X e (tE X.K Ξ f)) (hr:PA X es (tA X.K Ξ fa)) (hs:Ê (e::es) X.env=(false,ĺ e X.env)::Ê es X.env:=by rfl):PA X (e::es) (tA X.K Ξ (ae f fa)):=DH (gv ha hr hs) fun σ H Q Y=>by
 obtain ⟨w,env,W,S,Z,h⟩:=Y;subst W;exact ⟨w,env,rfl,S,Z,(Out.aj h).mono fun V x U T R v1 P=>⟨V,env,rfl,T,Z.le U,(Out.aj R).mono fun I G O N M L J=>az N M _ ⟨v1,L,rfl,O _ _ P,J⟩⟩⟩
def pZ {α:Type} {K:Ĉ} {w:Wd} {ds:List D} {r:Res α} {k:Wd->α->Prop} (h:Out K Ξ w (fu ds r) k):ds.length<=Ø/\Out K Ξ w r k:=by
 unfold fu at h;split at h
 ·exact ⟨by assumption,h⟩
 ·exact h.elim
def bU {x1} (ha:PA X es (tA X.K Ξ fa)):PE X (.Tuple es x1 pos) (tE X.K Ξ (bC fa)):=bY (Nx ha) fun σ H Q V=>by
 obtain ⟨w,env,U,S,T,h⟩:=V;subst U;refine ⟨w,env,rfl,S,T,(Out.aj h).mono fun R L J P O Y W=>?_⟩;obtain ⟨N,M⟩:=pZ O;refine ⟨by rw [<- W.length];exact N,fun p Z=>?_⟩;exact M (R.grow p (.tup Y)) (Fw.grow Z).le (P.grow Z) rfl (.ref p) ⟨p,Y,rfl,aP.of bO,(Fw.grow Z).le.all W⟩
def j6 {K:Ĉ} {w:Wd} {p:Ó} (S:aD K w) (hp:w.H p=none):¬ w.Z p:=fun ⟨k,c,e1,_,_⟩=>S.there k p e1 hp
def er (ha:PA X es (tA X.K Ξ fa)):PE X (.List es pos) (tE X.K Ξ (cA fa)):=bY (Dx ha) fun σ H Q R=>by
 obtain ⟨w,env,P,S,O,h⟩:=R;subst P;refine ⟨w,env,rfl,S,O,(Out.aj h).mono fun W J I V N U T=>?_⟩;obtain ⟨M,L⟩:=pZ N;refine ⟨by rw [<- T.length];exact M,fun p Y=>?_⟩;exact L (W.grow p (.lst U)) (Fw.grow Y).le (V.grow Y) rfl (.ref p) ⟨p,U,rfl,⟨(show ¬ W.Z p from j6 V Y),bO⟩,(Fw.grow Y).le.all T⟩
def qF (ha:PA X es (tA X.K Ξ fa)):PE X (.List es pos) (tE X.K Ξ (eNew fa)):=bY (Dx ha) fun σ H Q R=>by
 obtain ⟨w,env,P,S,O,h⟩:=R;subst P;refine ⟨w,env,rfl,S,O,(Out.aj h).mono fun Z V J Y N W U=>?_⟩;obtain ⟨M,L⟩:=pZ N;refine ⟨by rw [<- U.length];exact M,fun p T=>?_⟩;have le:=(Fw.cell (o:=.lst W) (c:=.lst V) Y T).le;refine L (Z.cell p (.lst W) (.lst V)) le (Y.Pn T ⟨W,bO,le.all U⟩) rfl (.ref p) ⟨p,?_,rfl⟩;show (Z.ρ++[p])[Z.aw.length]?=some p;rw [<- Y.len];simp
theorem qX.of {K:Ĉ} {w:Wd} {d:D} {v:V} {k:Wd->Bool->Prop} (S:aD K w) (hd:DV K w d v) (h:Out K Ξ w (truth d w.aw) k):∃b,qX K v w.H b/\k w b:=by
 cases d with
 |aq=>have e:v=.aq:=hd;subst e;exact ⟨_,rfl,az S h⟩
 |bl b=>have e:v=.bl b:=hd;subst e;exact ⟨_,rfl,az S h⟩
 |int i=>have e:v=.int i:=hd;subst e;exact ⟨_,rfl,az S h⟩
 |str x =>
  have e:v=.str x:=hd;subst e;unfold truth at h
  split at h<;>first|contradiction|skip
  all_goals (rename_i e;cases e)
  split at h
  ·exact ⟨_,⟨by assumption,rfl⟩,az S h⟩
  ·exact h.elim
 |tup Y =>
  simp only [DV] at hd;obtain ⟨a,Z,rfl,X,r⟩:=hd;refine ⟨_,.inr (.inl ⟨Z,X,?_⟩),az S h⟩;have e:=r.length
  cases Y<;>cases Z<;>first|rfl|cases e
 |lst Y =>
  simp only [DV] at hd;obtain ⟨a,Z,rfl,X,r⟩:=hd;refine ⟨_,.inl ⟨Z,X.sq,?_⟩,az S h⟩;have e:=r.length
  cases Y<;>cases Z<;>first|rfl|cases e
 |aV W =>
  simp only [DV] at hd;obtain ⟨a,rfl,_,X⟩:=hd;refine ⟨_,.inr (.inr ⟨_,X,?_⟩),az S h⟩
  cases W<;>rfl
 |ay j =>
  simp only [DV] at hd;obtain ⟨a,e1,rfl⟩:=hd;simp only [truth] at h;split at h
  ·rename_i Y U
   obtain ⟨Z,T,R⟩:=S.cell j a _ e1 U;refine ⟨_,.inl ⟨Z,bo.of T,?_⟩,az S h⟩;have e:=R.length
   cases Y<;>cases Z<;>first|rfl|cases e
  ·rename_i W U
   obtain ⟨es,T,R,Q⟩:=S.cell j a _ e1 U;refine ⟨_,.inr (.inr ⟨es,T,?_⟩),az S h⟩;have e:=ı List.length R
   cases W<;>cases es<;>first|rfl|simp at e
  ·exact h.elim
 |ty n=>exact h.elim
 |bu P=>exact h.elim
 |exc o=>exact h.elim
 |cg o _ _=>exact h.elim
def hZ (ha:PE X a (tE X.K Ξ f)) (he:∀whole,isTrue a X.env whole=(do let v <- whole;VU a.pos;U9 [v] (truthy v)):=by intro _;rfl):PT X a (tT X.K Ξ (eD f)):=xV (Kr ha he) fun σ H Q Z=>by
 obtain ⟨w,env,Y,S,W,h⟩:=Z;subst Y;exact ⟨w,env,rfl,S,W,(Out.aj h).mono fun R x P V U v1 T=>qX.of V T U⟩
def kY (ha:PT X a (tT X.K Ξ ft)):PT X (.UnaryOp .Not a pos) (tT X.K Ξ (fQ ft)):=xV (Nc ha) fun σ H Q Z=>by
 obtain ⟨w,env,Y,S,W,h⟩:=Z;subst Y;exact ⟨w,env,rfl,S,W,(Out.aj h).mono fun T b R V U=>az V U⟩
def NU (ha:PT X a (tT X.K Ξ ft)):PW X (.BoolOp .And [a] pos) (tT X.K Ξ ft):=LO ha
def oj (ha:PT X a (tT X.K Ξ ft)):PW X (.BoolOp .Or [a] pos) (tT X.K Ξ ft):=Na ha
def w_and (ha:PT X a (tT X.K Ξ ft)) (hb:PW X (.BoolOp .And (b::rest) pos) (tT X.K Ξ gt)):PW X (.BoolOp .And (a::b::rest) pos) (tT X.K Ξ (oE ft gt)):=DG (Nb ha hb) fun σ H Q V=>by
 obtain ⟨w,env,U,S,Z,h⟩:=V;subst U;refine ⟨w,env,rfl,S,Z,(Out.aj h).mono fun T b R Y W=>?_⟩
 cases b with
 |true=>exact ⟨T,env,rfl,Y,Z.le R,W⟩
 |false=>exact az Y W
def w_or (ha:PT X a (tT X.K Ξ ft)) (hb:PW X (.BoolOp .Or (b::rest) pos) (tT X.K Ξ gt)):PW X (.BoolOp .Or (a::b::rest) pos) (tT X.K Ξ (fX ft gt)):=DG (OK ha hb) fun σ H Q V=>by
 obtain ⟨w,env,U,S,Z,h⟩:=V;subst U;refine ⟨w,env,rfl,S,Z,(Out.aj h).mono fun T b R Y W=>?_⟩
 cases b with
 |false=>exact ⟨T,env,rfl,Y,Z.le R,W⟩
 |true=>exact az Y W
def mm {op} (ha:PE X a (tE X.K Ξ f)):PE X (.BoolOp op [a] pos) (tE X.K Ξ f):=Nd ha
def C6 {K:Ĉ} {w:Wd} {d:D} {v:V} {k:Wd->Bool->Prop} (S:aD K w) (hd:DV K w d v) (h:Out K Ξ w (dS d w.aw) k):∃b,v=.bl b/\k w b:=by
 cases d with
 |bl b=>exact ⟨b,hd,az S h⟩
 |_=>exact h.elim
def iW (ha:PE X a (tE X.K Ξ f)) (hb:PE X (.BoolOp .And (b::rest) pos) (tE X.K Ξ g)):PE X (.BoolOp .And (a::b::rest) pos) (tE X.K Ξ (fe f g)):=bY (Nf ha hb) fun σ H Q V=>by
 obtain ⟨w,env,U,S,Y,h⟩:=V;subst U;refine ⟨w,env,rfl,S,Y,(Out.aj h).mono fun T x R Z P v1 O=>?_⟩;obtain ⟨b,e,W⟩:=C6 Z O (Out.aj P);refine ⟨b,e,?_⟩
 cases b with
 |true=>exact ⟨T,env,rfl,Z,Y.le R,W⟩
 |false=>exact az Z W _ rfl
def Po (ha:PE X a (tE X.K Ξ f)):PE X (.UnaryOp .Not a pos) (tE X.K Ξ (vj f)):=bY (Ng ha) fun σ H Q Y=>by
 obtain ⟨w,env,W,S,V,h⟩:=Y;subst W;refine ⟨w,env,rfl,S,V,(Out.aj h).mono fun P x O Z U v1 T=>?_⟩;obtain ⟨b,e,R⟩:=C6 Z T (Out.aj U);exact ⟨b,e,az Z R _ rfl⟩
def Fp (hc:PT X c (tT X.K Ξ ft)) (ha:PE X a (tE X.K Ξ f)) (hb:PE X b (tE X.K Ξ g)):PE X (.IfExp c a b pos) (tE X.K Ξ (sj ft f g)):=bY (Ko hc ha hb) fun σ H Q T=>by
 obtain ⟨w,env,R,S,Z,h⟩:=T;subst R;refine ⟨w,env,rfl,S,Z,(Out.aj h).mono fun Y b W V U=>?_⟩
 cases b with
 |true=>exact ⟨Y,env,rfl,V,Z.le W,U⟩
 |false=>exact ⟨Y,env,rfl,V,Z.le W,U⟩
def DJ (σ:St) (H:Hp) (Q:VK):tE K Ξ (eB o fa) σ H Q->zO (rC K Ξ o) (tA K Ξ fa) σ H Q:=by
 rintro ⟨w,env,rfl,S,Z,h⟩;exact ⟨w,env,rfl,S,Z,(Out.aj h).mono fun Y X T W V R U=>⟨Y,X,rfl,W,U,V⟩⟩
def bj {x:Str} {p:Pos} {id:String} {o:List D->aa->Res D} (hc:bQ X (.builtin id) (rC X.K Ξ o)) (hg:Gl X x) (hm:X.mg x=none) (hv:ì x=some (.builtin id)) (ha:PA X (e::es) (tA X.K Ξ fa)) (hn:x≠"__name__":=by decide) (cJ:(x==("__debug__":Str))=false:=by decide)
  (he:Ê (e::es) X.env=(false,ĺ e X.env)::Ê es X.env:=by rfl) (aQ:(į pos (Ê es X.env)).any (·.1)=false:=by rfl):PE X (.Call (.Name x p) (e::es) [] pos) (tE X.K Ξ (eB o fa)):=bY (tB hc hg hm hv ha hn cJ he aQ) DJ
def kM {x:Str} {p:Pos} {T:String} {o:List D->aa->Res D} (hc:bQ X (.type T) (rC X.K Ξ o)) (hg:Gl X x) (hm:X.mg x=none) (hv:ì x=some (.type T)) (ha:PA X (e::es) (tA X.K Ξ fa)) (hn:x≠"__name__":=by decide) (cJ:(x==("__debug__":Str))=false:=by decide)
  (he:Ê (e::es) X.env=(false,ĺ e X.env)::Ê es X.env:=by rfl) (aQ:(į pos (Ê es X.env)).any (·.1)=false:=by rfl):PE X (.Call (.Name x p) (e::es) [] pos) (tE X.K Ξ (eB o fa)):=bY (B1 hc hg hm hv ha hn cJ he aQ) DJ
end
set_option genInjectivity true in
inductive Fl where
 |nx (env:Env)|rt (d:D)|bk (env:Env)|ct (env:Env)
def vn (K:Ĉ) (D:Ends) (w:Wd):Fl->Prop
 | .nx env=>∀ σ,br K w env σ->D.nx σ w.H
 | .rt d=>∀v,DV K w d v->D.rt v w.H
 | .bk env=>∀ σ,br K w env σ->D.bk σ w.H
 | .ct env=>∀ σ,br K w env σ->D.ct σ w.H
def tS (K:Ĉ) (Ξ:Wd->aW->Prop) (f:Wh Fl):TS:=fun D σ H=>∃w env,w.H=H/\aD K w/\br K w env σ/\Out K Ξ w (f env w.aw) (vn K D)
def cB:Wh Fl:=fun env s=>ok (.nx env) s
def aB (f g:Wh Fl):Wh Fl:=fun env s=>aj (f env s) fun fl s=>match fl with
 | .nx env=>g env s
 |fl=>ok fl s
def aO (f:Wh D):Wh Fl:=fun env s=>aj (f env s) fun d s=>ok (.rt d) s
def jy (f:Wh D):Wh Fl:=fun env s=>aj (f env s) fun _ s=>ok (.nx env) s
def bT (c:Wh Bool) (f g:Wh Fl):Wh Fl:=fun env s=>aj (c env s) fun b s=>if b=true then f env s else g env s
def Et:Wh Fl:=fun env s=>ok (.ct env) s
def bp (f:Wh D) (g:D->Env->Option Env):Wh Fl:=fun env s=>aj (f env s) fun d s=>match g d env with
 |some Z=>ok (.nx Z) s
 |none=>none
def gN (i:Nat):D->Env->Option Env:=fun d env=>some (env.set i (some d))
def ff:List (D->Env->Option Env)->List D->Env->Option Env
 | [],[],env=>some env
 |g::Y,d::X,env=>match g d env with
  |some Z=>ff Y X Z
  |none=>none
 |_,_,_=>none
def gT (gs:List (D->Env->Option Env)):D->Env->Option Env:=fun d env=>match d with
 | .tup Z=>ff gs Z env
 |_=>none
def jz (g:D->Env->Option Env) (b:Wh Fl):List D->Wh Fl
 | [],env,s=>ok (.nx env) s
 |d::Y,env,s=>match g d env with
  |none=>none
  |some Z=>aj (b Z s) fun X s=>match X with
   | .nx e=>jz g b Y e s
   | .ct e=>jz g b Y e s
   | .bk e=>ok (.nx e) s
   | .rt d=>ok (.rt d) s
def i6 (it:Wh (List D)) (g:D->Env->Option Env) (b:Wh Fl):Wh Fl:=fun env s=>aj (it env s) fun Z s=>jz g b Z env s
def ne {α:Type} (r:Res α):Res α:=match r with
 |some (.ok a,s)=>some (.ok a,s)
 |_=>none
@[simp] theorem jA {α:Type} {a:α} {s:aa}:ne (some (.ok a,s))=some (.ok a,s):=rfl
def gC (cap:List Nat) (env:Env):Env:=cap.map fun j=>(env[j]?).getD none
def dq (nt:Nat) (caps:Env) (g:D->Env->Option Env) (t:Wh Bool) (f:Wh D):List D->aa->Res (List D)
 | [],s=>ok [] s
 |d::Z,s=>match g d (Î nt none++caps) with
  |none=>none
  |some env=>aj (ne (t env s)) fun b s=>if b=true then aj (ne (f env s)) fun x s=>aj (dq nt caps g t f Z s) fun Y s=>ok (x::Y) s
   else dq nt caps g t f Z s
def cN (nt:Nat) (cap:List Nat) (it:Wh (List D)) (g:D->Env->Option Env) (t:Wh Bool) (f:Wh D):Wh D:=fun env s =>
 aj (it env s) fun Z s=>fu Z (aj (dq nt (gC cap env) g t f Z s) fun Y s=>ok (.lst Y) s)
def fG:Wh Bool:=fun _ s=>ok true s
def aS (np ns:Nat) (b:Wh Fl):List D->aa->Res D:=fun Z s=>if Z.length=np then aj (b (Z.map some++Î (ns-np) none) s) fun Y s=>match Y with
 | .rt d=>ok d s
 | .nx _=>ok .aq s
 |_=>none else none
abbrev bH:Wd->aW->Prop:=fun _ _=>False
def iD (K:Ĉ) (f:List D->aa->Res D):Sp:=fun X H Q _=>∃w Z,w.H=H/\aD K w/\ak K w Z X/\Out K bH w (f Z w.aw) fun Y d=>∀v,DV K Y d v->Q v Y.H
section
variable {X:Cx} {Ξ:Wd->aW->Prop} {e a b c tg:ę} {es rest:List ę} {pos:Pos} {f g h:Wh D} {fa:Wh (List D)} {ft gt:Wh Bool} {st:Wc} {lL zf:List Wc} {fs gs:Wh Fl}
def dO:cb X [] (tS X.K Ξ cB):=C5 LP fun D σ H Z=>by
 obtain ⟨w,env,Y,S,W,h⟩:=Z;subst Y;exact az S h σ W
def aL (h1:PS X st (tS X.K Ξ fs)) (h2:cb X lL (tS X.K Ξ gs)):cb X (st::lL) (tS X.K Ξ (aB fs gs)):=C5 (Kp h1 h2) fun D σ H W=>by
 obtain ⟨w,env,V,S,U,h⟩:=W;subst V;refine ⟨w,env,rfl,S,U,(Out.aj h).mono fun T R P Y h1=>?_⟩
 cases R with
 |nx Z=>exact fun O Q=>⟨T,Z,rfl,Y,Q,h1⟩
 |rt d=>have q:=az Y h1;exact q
 |bk Z=>have q:=az Y h1;exact q
 |ct Z=>have q:=az Y h1;exact q
def aM (h1:PS X st (tS X.K Ξ fs)):cb X [st] (tS X.K Ξ fs):=LQ h1
def bt (he:PE X e (tE X.K Ξ f)):PS X (.Return (some e) pos) (tS X.K Ξ (aO f)):=iR (Nh he) fun D σ H Z=>by
 obtain ⟨w,env,Y,S,W,h⟩:=Z;subst Y;exact ⟨w,env,rfl,S,W,(Out.aj h).mono fun T d R V U=>az V U⟩
def nX (he:PE X e (tE X.K Ξ f)) (hs:VI e none pos.line X.env=pure false:=by rfl):PS X (.Expr e pos) (tS X.K Ξ (jy f)):=iR (LR he hs) fun D σ H Y=>by
 obtain ⟨w,env,W,S,Z,h⟩:=Y;subst W;exact ⟨w,env,rfl,S,Z,(Out.aj h).mono fun R d V U T _ _=>az U T σ (Z.le V)⟩
def dA (hc:PT X c (tT X.K Ξ ft)) (ha:cb X lL (tS X.K Ξ fs)) (hb:cb X zf (tS X.K Ξ gs)):PS X (.If c lL zf pos) (tS X.K Ξ (bT ft fs gs)):=iR (OP hc ha hb) fun D σ H T=>by
 obtain ⟨w,env,R,S,Z,h⟩:=T;subst R;refine ⟨w,env,rfl,S,Z,(Out.aj h).mono fun Y b W V U=>?_⟩
 cases b with
 |true=>exact ⟨Y,env,rfl,V,Z.le W,U⟩
 |false=>exact ⟨Y,env,rfl,V,Z.le W,U⟩
def Gi:Wh Fl:=fun _ _=>none
def KZ:cb X lL (tS X.K Ξ Gi):=fun _ _ _ _ _ _ h=>by obtain ⟨w,env,_,_,_,h⟩:=h;exact h.elim
def gD (K:Ĉ) (g:D->Env->Option Env):TG:=fun v σ H Q=>∃w env d Z,w.H=H/\aD K w/\br K w env σ/\DV K w d v/\g d env=some Z/\∀ Y,br K w Z Y->Q Y H
def sm (K:Ĉ) (g:List D->Env->Option Env):jd:=fun W σ H Q=>∃w env Y Z,w.H=H/\aD K w/\br K w env σ/\ak K w Y W/\g Y env=some Z/\∀ X,br K w Z X->Q X H
def DK {t t':TG} (h:PG X e t) (i:∀v σ H Q,t' v σ H Q->t v σ H Q):PG X e t':=fun Z s σ H v u Q I r Y=>h Z s σ H v u Q I r (i v σ H Q Y)
def C7 {t t':jd} (h:jM X es t) (i:∀v σ H Q,t' v σ H Q->t v σ H Q):jM X es t':=fun Z s σ H v u Q I r Y=>h Z s σ H v u Q I r (i v σ H Q Y)
def fL (i:Nat) {x:Str} (hN:X.N.Nodup) (hi:X.N[i]?=some x:=by rfl) (hx:Loc X.env.scope x:=by first|exact Vi rfl|exact Or.inr rfl) (hf:X.fn x=true\/X.env.scope.names.lookup x=some .local:=by first|exact .inl rfl|exact .inr rfl):PG X (.Name x pos) (gD X.K (gN i)) :=
 DK (iO hN hi hx hf) fun v σ H Q Y=>by
  obtain ⟨w,env,d,Z,T,S,W,V,U,k⟩:=Y;have e:env.set i (some d)=Z:=Wm U;subst e;exact k _ (W.set V i)
def xW:jM X [] (sm X.K (ff [])):=C7 xq fun R σ H Q V=>by
 obtain ⟨w,env,Y,Z,P,S,U,T,W,k⟩:=V
 cases Y with
 |nil =>
  have e:env=Z:=Wm W;subst e;exact ⟨T,k _ U⟩
 |cons d Y=>cases W
def kN {g:D->Env->Option Env} {gl:List (D->Env->Option Env)} (h1:PG X e (gD X.K g)) (h2:jM X es (sm X.K (ff gl)))
  (hs:(œ (e::es) X.env).map (·.2)=Vo e X.env::(œ es X.env).map (·.2):=by rfl):jM X (e::es) (sm X.K (ff (g::gl))):=C7 (pX h1 h2 hs) fun J σ H Q R=>by
 obtain ⟨w,env,W,Y,U,S,P,O,Z,k⟩:=R
 cases W with
 |nil=>cases Z
 |cons d W =>
  obtain ⟨v,r,rfl,N,M⟩:=O;simp only [ff] at Z
  cases V:g d env with
  |none=>rw [V] at Z;cases Z
  |some T =>
   rw [V] at Z;refine ⟨v,r,rfl,w,env,d,T,U,S,P,N,V,fun I L=>⟨w,T,W,Y,U,S,L,M,Z,k⟩⟩
theorem xa:∀{gl:List (D->Env->Option Env)} {ds:List D} {env env':Env},ff gl ds env=some env'->ds.length=gl.length
 | [],[],_,_,_=>rfl
 |g::gl,d::ds,env,env',h=>by
  simp only [ff] at h
  cases Z:g d env with
  |none=>rw [Z] at h;cases h
  |some e1=>rw [Z] at h;simp [xa h]
 | [],_::_,_,_,h=>by cases h
 |_::_,[],_,_,h=>by cases h
def yA {gl:List (D->Env->Option Env)} {k:Nat} (hc:X.calm=true) (h:jM X es (sm X.K (ff gl))) (hn:(œ es X.env).length=gl.length:=by rfl) (mS:(œ es X.env).findIdx? (·.1)=none:=by rfl):PG X (.Tuple es k pos) (gD X.K (gT gl)) :=
 DK (xS hc h hn mS) fun v σ H Q U=>by
  obtain ⟨w,env,d,Z,T,S,R,W,Y,k⟩:=U
  cases d with
  |tup P =>
   simp only [DV] at W;obtain ⟨p,O,e1,N,V⟩:=W;subst T;exact ⟨p,O,e1,N,by rw [<- V.length];exact xa Y,w,env,P,Z,rfl,S,R,V,Y,k⟩
  |_=>cases Y
def tU {K:Ĉ} {g:D->Env->Option Env} (D:Ends) (σ:St) (H:Hp):tS K Ξ (bp f g) D σ H->mC (tE K Ξ f) (gD K g) D σ H:=by
 rintro ⟨w,env,rfl,S,W,h⟩;refine ⟨w,env,rfl,S,W,(Out.aj h).mono fun U d T V Y v R=>?_⟩
 cases X:g d env with
 |none=>rw [X] at Y;exact Y.elim
 |some Z =>
  rw [X] at Y;exact ⟨U,env,d,Z,rfl,V,W.le T,R,X,az V Y⟩
def Eu {g:D->Env->Option Env} (he:PE X e (tE X.K Ξ f)) (hg:PG X tg (gD X.K g)) (hs:VR [tg] e pos.line X.env=pure false:=by rfl) (hw:VS [tg] e X.env=pure none:=by rfl)
  (h1:(œ [tg] X.env).map (·.2)=[Vo tg X.env]:=by rfl):PS X (.Assign [tg] e pos) (tS X.K Ξ (bp f g)):=iR (Du he hg hs hw h1) tU
def wM {K:Ĉ} {te:TE} {i:Nat} (D:Ends) (σ:St) (H:Hp):mC (tE K Ξ f) (gD K (gN i)) D σ H->mC (tE K Ξ f) (iV i) D σ H:=by
 rintro ⟨w,env,rfl,S,Y,h⟩;refine ⟨w,env,rfl,S,Y,h.mono fun P d O N X v W=>?_⟩;obtain ⟨M,V,U,Z,L,J,T,R,Q,k⟩:=X v W;have e:V.set i (some U)=Z:=Wm Q;subst e;exact k _ (T.set R i)
def cF (i:Nat) {x:Str} {pos':Pos} (hN:X.N.Nodup) (he:PE X e (tE X.K Ξ f)) (hi:X.N[i]?=some x:=by rfl) (hx:Loc X.env.scope x:=by first|exact Vi rfl|exact Or.inr rfl) (hs:VI e (some (.Name x pos')) pos.line X.env=pure false:=by rfl) (hf:X.fn x=true\/X.env.scope.names.lookup x=some .local:=by first|exact .inl rfl|exact .inr rfl) :
  PS X (.Assign [.Name x pos'] e pos) (tS X.K Ξ (bp f (gN i))):=iR (Nj hN hi hx he hs hf) fun D σ H h=>wM (te:=tE X.K Ξ f) D σ H (tU D σ H h)
def jj (K:Ĉ) (w:Wd) (J:It) (ds:List D):Prop:=∀Z,Le K w Z->aD K Z->∀i,
 (∀d,ds[i]?=some d->J.go i Z.H/\∀x X,J.rJ i Z.H x X->∃Y,Y.H=X/\Le K Z Y/\aD K Y/\Y.aw=Z.aw/\DV K Y d x)/\(ds.length<=i->J.stop i Z.H)
def dF (K:Ĉ) (Ξ:Wd->aW->Prop) (f:Wh (List D)):TI:=fun σ H R=>∃w env,w.H=H/\aD K w/\br K w env σ/\Out K Ξ w (f env w.aw) fun Z Y=>∀J,jj K Z J Y->R J Z.H
def qm {t t':TI} (h:PI X tg e t) (i:∀ σ H R,t' σ H R->t σ H R):PI X tg e t':=fun Z s σ H R I Y=>h Z s σ H R I (i σ H R Y)
def Mo {K:Ĉ} {it:Wh (List D)} {g:D->Env->Option Env} (D0:Ends) (σ:St) (H:Hp):tS K Ξ (i6 it g fs) D0 σ H->Fe (dF K Ξ it) (gD K g) (tS K Ξ fs) D0 σ H:=by
 rintro ⟨w,env,rfl,S,B,h⟩;refine ⟨w,env,rfl,S,B,(Out.aj h).mono fun M X p o n J A=>?_⟩;refine ⟨fun i m L z=>m=X.length-i/\i<=X.length/\∃W Z,W.H=z/\Le K M W/\aD K W/\br K W Z L/\Out K Ξ W (jz g fs (X.drop i) Z W.aw) (vn K D0),
  ⟨X.length,rfl,Ě _,M,env,rfl,Le.refl _,o,B.le p,n⟩,?_⟩
 rintro i m L z ⟨rfl,hi,W,Z,rfl,U,I,v,V⟩;by_cases G:i<X.length
 ·right
  obtain ⟨l,k⟩:=(A W U I i).1 _ (Ð G);rw [ζ G] at V;simp only [jz] at V
  cases F:g X[i] Z with
  |none=>rw [F] at V;exact V.elim
  |some u =>
   rw [F] at V;refine ⟨l,fun E T=>∃Y R,Y.H=T/\Le K M Y/\aD K Y/\br K Y R E/\Out K Ξ Y (jz g fs (X.drop (i+1)) R Y.aw) (vn K D0),fun E T ⟨Y,R,q⟩=>⟨X.length-(i+1),by omega,rfl,G,Y,R,q⟩,fun x T y=>?_⟩;obtain ⟨Y,rfl,Q,t,es,j⟩:=k x T y;refine ⟨Y,Z,X[i],u,rfl,t,v.le Q,j,F,fun E f=>⟨Y,u,rfl,t,f,?_⟩⟩;rw [<- es] at V;refine (Out.aj (V.from Q)).mono fun s c r P O=>?_
   cases c with
   |nx N=>exact fun b C=>⟨s,N,rfl,U.trans (Q.trans r),P,C,O⟩
   |ct N=>exact fun b C=>⟨s,N,rfl,U.trans (Q.trans r),P,C,O⟩
   |bk N=>have q:=az P O;exact q
   |rt d=>have q:=az P O;exact q
 ·left
  have e:i=X.length:=by omega
  subst e;rw [List.drop_length] at V;exact ⟨(A W U I _).2 (Wl _),az I V L v⟩
def mq {iter:ę} {it:Wh (List D)} {g:D->Env->Option Env} (hp:PassesOwn (ß X.prog X.w) X.A X.env X.xe) (hc:X.calm=true) (hi:PI X tg iter (dF X.K Ξ it)) (hg:PG X tg (gD X.K g)) (hb:cb X lL (tS X.K Ξ fs))
  (hs:∀x,þ iter X.env x=pure x:=by intro _;rfl):PS X (.For tg iter lL [] pos) (tS X.K Ξ (i6 it g fs)):=iR (Nm hp hc hi hg hb hs) Mo
theorem Out.ne {α:Type} {K:Ĉ} {w:Wd} {r:Res α} {k:Wd->α->Prop} (h:Out K Ξ w (DI.ne r) k):Out K bH w r k:=by
 match r,h with
 |some (.ok a,s),h=>exact h
def br.block {K:Ĉ} {w:Wd} {env:Env} {σ:St} (h:br K w env σ) (nt:Nat) (cap:List Nat) (o:St) (ho:o.length=nt):br K w (Î nt none++gC cap env) (o++ke cap σ):=by
 refine ⟨by simp [gC,ke,ho],fun i d e=>?_⟩;by_cases hi:i<nt
 ·rw [Û (by simpa using hi),ě,ê hi] at e
  cases e
 ·rw [ë (by simpa using ι hi)] at e
  rw [ë (by omega),ho];simp only [Ų] at e;unfold gC at e;unfold ke;rw [à] at e |-
  cases Z:cap[i-nt]? with
  |none=>rw [Z] at e;cases e
  |some j =>
   rw [Z] at e;have ev:(env[j]?).getD none=some d:=Wm e;have Y:env[j]?=some (some d):=by
    cases q:env[j]? with
    |none=>rw [q] at ev;cases ev
    |some z=>rw [q] at ev;exact ı some ev
   obtain ⟨v,e1,e2⟩:=h.val j d Y;exact ⟨v,by rw [Vg,e1];rfl,e2⟩
def JO {K:Ĉ} {nt:Nat} {cap:List Nat} {it:Wh (List D)} {g:D->Env->Option Env} {fin:List D->aa->Res D} (σ:St) (H:Hp) (Q:VK)
  (zg:∀(w2:Wd) (xs:List D) (vs:List V),aD K w2->ak K w2 xs vs->Out K Ξ w2 (fin xs w2.aw) (fun w' d=>∀v,DV K w' d v->Q v w'.H)->∀p,w2.H p=none->Q (.ref p) (upd w2.H p (.lst vs))) :
  tE K Ξ (fun env s=>aj (it env s) fun ds s=>fu ds (aj (dq nt (gC cap env) g ft f ds s) fin)) σ H Q->ml (dF K Ξ it) nt cap (gD K g) (tT K bH ft) (tE K bH f) σ H Q:=by
 rintro ⟨w,env,rfl,S,B,h⟩;refine ⟨w,env,rfl,S,B,(Out.aj h).mono fun N ds j c M J A=>?_⟩;obtain ⟨hz,M⟩:=pZ M;refine ⟨fun i m Y z=>m=ds.length-i/\i<=ds.length/\Y.length<=i/\∃w' Z,w'.H=z/\Le K N w'/\aD K w'/\ak K w' Z Y/\Out K Ξ w' (dq nt (gC cap env) g ft f (ds.drop i) w'.aw) fun w2 xs=>∀vs,ak K w2 (Z++xs) vs->∀p,w2.H p=none->Q (.ref p) (upd w2.H p (.lst vs)),
  ⟨ds.length,rfl,Ě _,Ě _,N,[],rfl,Le.refl _,c,rfl,(Out.aj M).mono fun w2 xs W P a vs O p U=>?_⟩,?_⟩
 ·exact zg w2 xs vs P O a p U
 rintro i m Y z ⟨rfl,hi,ha,w',Z,rfl,T,L,I,X⟩;by_cases G:i<ds.length
 ·right
  obtain ⟨eU,hy⟩:=(A w' T L i).1 _ (Ð G);rw [ζ G] at X;simp only [dq] at X
  cases F:g ds[i] (Î nt none++gC cap env) with
  |none=>rw [F] at X;exact X.elim
  |some E =>
   rw [F] at X;refine ⟨eU,by omega,fun C u=>C.length<=i+1/\∃w' Z,w'.H=u/\Le K N w'/\aD K w'/\ak K w' Z C/\Out K Ξ w' (dq nt (gC cap env) g ft f (ds.drop (i+1)) w'.aw) fun w2 xs=>∀vs,ak K w2 (Z++xs) vs->∀p,w2.H p=none->Q (.ref p) (upd w2.H p (.lst vs)),
    fun C u ⟨R4,q⟩=>⟨ds.length-(i+1),by omega,rfl,G,R4,q⟩,fun o x H3 ho y=>?_⟩
   obtain ⟨w2,rfl,W,P,es,dv⟩:=hy x H3 y;refine ⟨w2,_,ds[i],E,rfl,P,(B.le (j.trans (T.trans W))).block nt cap o ho,dv,F,fun kz t=>?_⟩;rw [<- es] at X;refine ⟨w2,E,rfl,P,t,(Out.aj (X.from W)).ne.mono fun r b R n l=>?_⟩
   cases b with
   |true =>
    refine ⟨r,E,rfl,n,t.le R,(Out.aj l).ne.mono fun w4 d k S4 h4 v Ai=>⟨by rw [ä];simp;omega,w4,Z++[d],rfl,T.trans (W.trans (R.trans k)),S4,ak.append ((W.trans (R.trans k)).all I) (ak.one Ai),(Out.aj h4).mono fun w5 xs l5 S5 h5 vs O p U=>?_⟩⟩;exact az S5 h5 vs (by rw [Ź] at O;exact O) p U
   |false =>
    exact ⟨by omega,r,Z,rfl,T.trans (W.trans R),n,(W.trans R).all I,l⟩
 ·left
  have e:i=ds.length:=by omega
  subst e;rw [List.drop_length] at X;refine ⟨(A w' T L _).2 (Wl _),by omega,fun p U=>az L X Y (by rw [Ń];exact I) p U⟩
def Cu {K:Ĉ} {nt:Nat} {cap:List Nat} {it:Wh (List D)} {g:D->Env->Option Env} (σ:St) (H:Hp) (Q:VK) :
  tE K Ξ (cN nt cap it g ft f) σ H Q->ml (dF K Ξ it) nt cap (gD K g) (tT K bH ft) (tE K bH f) σ H Q :=
 JO σ H Q fun X S W V U T p Y=>T (X.grow p (.lst W)) (Fw.grow Y).le (V.grow Y) rfl (.ref p) ⟨p,W,rfl,⟨(show ¬ X.Z p from j6 V Y),bO⟩,(Fw.grow Y).le.all U⟩
end
def C8 {o caps:St} {v:V} {i nt:Nat} (ho:o.length=nt) (hi:i<nt):(o++caps).set i (some v)=o.set i (some v)++caps:=by
 rw [List.set_append_left _ _ (by omega)]
def JP {i nt:Nat} (hi:i<nt):kC (iV i) nt:=by
 intro x o Z H R Y h;exact ⟨⟨o.set i (some x),by rw [Ć];exact Y,C8 Y hi⟩,h⟩
def q0 (g:jd) (nt:Nat):Prop:=∀(Y:List V) (o Z:St) (H:Hp) (R:St->Hp->Prop),o.length=nt->g Y (o++Z) H R->g Y (o++Z) H fun X U=>(∃W:St,W.length=nt/\X=W++Z)/\R X U
def K0:q0 yW nt:=fun X o Z H R Y h=>⟨h.1,⟨o,Y,rfl⟩,h.2⟩
def JQ {i nt:Nat} {g:jd} (hi:i<nt) (hg:q0 g nt):q0 (yu (iV i) g) nt:=by
 rintro X o Z H R Y ⟨v,r,e,h⟩;refine ⟨v,r,e,?_⟩;have h:g r ((o++Z).set i (some v)) H R:=h;show g r ((o++Z).set i (some v)) H _;rw [C8 Y hi] at h |-;exact hg r _ Z H R (by rw [Ć];exact Y) h
def K1 (hg:q0 g nt):kC (yX K n g) nt:=by
 rintro x o Z H R X ⟨a,Y,e,W,V,h⟩;exact ⟨a,Y,e,W,V,hg Y o Z H R X h⟩
structure Tg (K:Ĉ) (g0:TG) (g:D->Env->Option Env) (nt:Nat):Prop where
 m8:kC g0 nt
 imp:∀v σ H Q,gD K g v σ H Q->g0 v σ H Q
structure vX (K:Ĉ) (g0:jd) (g:List (D->Env->Option Env)) (nt:Nat):Prop where
 m8:q0 g0 nt
 imp:∀v σ H Q,sm K (ff g) v σ H Q->g0 v σ H Q
def nK (i:Nat) (hi:i<nt:=by decide):Tg K (iV i) (gN i) nt:=⟨JP hi,fun v σ H Q Y=>by
 obtain ⟨w,env,d,Z,U,S,X,W,V,k⟩:=Y;have e:env.set i (some d)=Z:=Wm V;subst e;exact k _ (X.set W i)⟩
def C9:vX K yW [] nt:=⟨K0,fun T σ H Q W=>by
 obtain ⟨w,env,Y,Z,R,S,V,U,X,k⟩:=W
 cases Y with
 |nil =>
  have e:env=Z:=Wm X;subst e;exact ⟨U,k _ V⟩
 |cons d Y=>cases X⟩
def tD (i:Nat) (h:vX K g0 gl nt) (hi:i<nt:=by decide):vX K (yu (iV i) g0) (gN i::gl) nt:=⟨JQ hi h.m8,fun O σ H Q W=>by
 obtain ⟨w,env,Y,Z,V,S,U,T,X,k⟩:=W
 cases Y with
 |nil=>cases X
 |cons d Y =>
  obtain ⟨v,r,rfl,R,P⟩:=T;exact ⟨v,r,rfl,h.imp _ _ _ _ ⟨w,_,Y,Z,V,S,U.set R i,P,X,k⟩⟩⟩
def DL (h:vX K g0 gl nt) (hn:gl.length=n:=by rfl):Tg K (yX K n g0) (gT gl) nt:=⟨K1 h.m8,fun v σ H Q V=>by
 obtain ⟨w,env,d,Z,U,S,T,X,Y,k⟩:=V
 cases d with
 |tup R =>
  simp only [DV] at X;obtain ⟨p,P,e1,O,W⟩:=X;subst U;exact ⟨p,P,e1,O,by rw [<- W.length,xa Y];exact hn,h.imp _ _ _ _ ⟨w,env,R,Z,rfl,S,T,W,Y,k⟩⟩
 |_=>cases Y⟩
section
variable {X:Cx} {Ξ:Wd->aW->Prop} {e a b c tg el src:ę} {es rest tests:List ę} {pos:Pos} {f g h:Wh D} {fa:Wh (List D)} {ft gt:Wh Bool} {st:Wc} {lL zf:List Wc} {fs gs:Wh Fl}
def NV (h:PF X tests t) (i:∀ σ H Q,t' σ H Q->t σ H Q):PF X tests t':=fun Z s σ H Q I Y=>h Z s σ H Q I (i σ H Q Y)
def jB:PF X [] (tT K Ξ fG):=NV NI fun σ H Q Z=>by
 obtain ⟨w,env,Y,S,W,h⟩:=Z;subst Y;exact az S h
def mr (h:PT X c (tT K Ξ ft)):PF X [c] (tT K Ξ ft):=NJ h
def BM (i_:∀v σ H Q,g1 v σ H Q->g0 v σ H Q) (wm:∀R R':It->Hp->Prop,(∀J H',R J H'->R' J H')->wi σ H R->wi σ H R') (h:ml wi nt cap g1 tf te σ H Q):ml wi nt cap g0 tf te σ H Q:=by
 refine wm _ _ (fun J H' Y=>?_) h;obtain ⟨W,X,step⟩:=Y;refine ⟨W,X,fun i m Z V hw=>?_⟩
 rcases step i m Z V hw with q | ⟨U,T,N,S,P⟩
 ·exact .inl q
 ·exact .inr ⟨U,T,N,S,fun o x O M y=>i_ _ _ _ _ (P o x O M y)⟩
def Cv (R R':It->Hp->Prop) (i:∀J H',R J H'->R' J H') (h:dF K Ξ it σ H R):dF K Ξ it σ H R':=by
 obtain ⟨w,env,Z,S,Y,h⟩:=h;exact ⟨w,env,Z,S,Y,h.mono fun V U _ _ X J W=>i J _ (X J W)⟩
def fx (f:Wh D):Wh (List D):=fun env s=>aj (f env s) fun d s=>match d with
 | .lst Z=>ok Z s
 | .tup Z=>ok Z s
 |_=>none
def K2 {K:Ĉ} {w:Wd} {a:Ó} {ds:List D} (h:DV K w (.lst ds) (.ref a)):jj K w (zL K a) ds:=fun V U T i=>by
 have X:=U _ _ h;simp only [DV] at X;obtain ⟨p,Z,e,Y,W⟩:=X;cases e;refine ⟨fun d S=>?_,fun R=>⟨Z,Y.sq,by rw [<- W.length];exact R⟩⟩;obtain ⟨v,ev,Q⟩:=W.get' i d S;exact ⟨⟨Z,v,Y.sq,ev⟩,fun x P ⟨e1,e2⟩=>⟨V,e1.symm,Le.refl _,T,rfl,by
  have q:=e2 Z Y.sq;rw [ev] at q;cases q;exact Q⟩⟩
def Mp {K:Ĉ} {w:Wd} {a:Ó} {ds:List D} (h:DV K w (.tup ds) (.ref a)):jj K w (zM K a) ds:=fun V U T i=>by
 have X:=U _ _ h;simp only [DV] at X;obtain ⟨p,Z,e,Y,W⟩:=X;cases e;refine ⟨fun d S=>?_,fun R=>⟨Z,Y,by rw [<- W.length];exact R⟩⟩;obtain ⟨v,ev,Q⟩:=W.get' i d S;exact ⟨⟨Z,v,Y,ev⟩,fun x P ⟨e1,e2⟩=>⟨V,e1.symm,Le.refl _,T,rfl,by
  have q:=e2 Z Y;rw [ev] at q;cases q;exact Q⟩⟩
def kZ (hl:PE X a (tE X.K Ξ f)):PI X tg a (dF X.K Ξ (fx f)):=by
 have both:PI X tg a (fun σ H R=>Em X.K (tE X.K Ξ f) σ H R\/Fd X.K (tE X.K Ξ f) σ H R):=fun N s σ H R I h=>h.elim (LS hl N s σ H R I) (Nl hl N s σ H R I);refine qm both fun σ H R ⟨w,env,M,S,W,h⟩=>?_;subst M;simp only [fx] at h
 cases Y:f env w.aw with
 |none=>rw [Y] at h;exact h.elim
 |some r =>
  obtain ⟨r,s⟩:=r;rw [Y] at h
  cases r with
  |error x=>exact .inl ⟨w,env,rfl,S,W,by rw [Y];exact h⟩
  |ok d =>
   rw [dj] at h
   cases d with
   |lst L =>
    refine .inl ⟨w,env,rfl,S,W,?_⟩;rw [Y];intro V U T e1 v Z;have Q:=Z;simp only [DV] at Z;obtain ⟨p,P,rfl,O,J⟩:=Z;exact ⟨p,rfl,⟨P,O.sq⟩,h V U T e1 _ (K2 Q)⟩
   |tup L =>
    refine .inr ⟨w,env,rfl,S,W,?_⟩;rw [Y];intro V U T e1 v Z;have Q:=Z;simp only [DV] at Z;obtain ⟨p,P,rfl,O,J⟩:=Z;exact ⟨p,rfl,⟨P,O⟩,h V U T e1 _ (Mp Q)⟩
   |_=>exact h.elim
noncomputable def bV (lo:Int) (n:Nat):List D:=(Ĺ n).map fun (i:Nat)=>D.int (lo+(i:Int))
def jY:(bV lo n)[i]?=if i<n then some (.int (lo+i)) else none:=by
 unfold bV;rw [à];by_cases h:i<n
 ·rw [VZ h,ê h];rfl
 ·rw [ħ (by simp;omega),ú h];rfl
def fk:(bV lo n).length=n:=by simp [bV]
def Dc:jj K w (rL lo n) (bV lo n):=fun X V W i=>by
 refine ⟨fun d Z=>?_,fun Y=>by rw [fk] at Y;exact Y⟩;rw [jY] at Z;split at Z
 ·cases Z
  exact ⟨by assumption,fun x U ⟨e1,e2⟩=>⟨X,e1.symm,Le.refl _,W,rfl,e2⟩⟩
 ·cases Z
noncomputable def jC (j:Int):Bool:=decide (-(2 ^ 62)<=j)&&decide (j<2 ^ 62)
def fH (fa:Wh (List D)):Wh (List D):=fun env s=>aj (fa env s) fun Z s=>match Z with
 | [.int j]=>if jC j=true then ok (bV 0 j.toNat) s else none
 |_=>none
def lM (fa:Wh (List D)):Wh (List D):=fun env s=>aj (fa env s) fun Z s=>match Z with
 | [.int i,.int j]=>if (jC i&&jC j)=true then ok (bV i (j-i).toNat) s else none
 |_=>none
def ju (hg:Gl X "range") (hm:X.mg "range"=none) (ha:PA X [a] (tA X.K Ξ fa)) (hs:Ê [a] X.env=[(false,ĺ a X.env)]:=by rfl):PI X tg (.Call (.Name "range" p) [a] [] pos) (dF X.K Ξ (fH fa)) :=
 qm (Jx hg hm ha hs) fun σ H R W=>by
  obtain ⟨w,env,V,S,U,h⟩:=W;subst V;refine ⟨w,env,rfl,S,U,(Out.aj h).mono fun N M L T Z J Q=>?_⟩;split at Z
  ·rename_i j
   split at Z
   ·rename_i Y
    simp only [jC,Ë,Ú] at Y;obtain ⟨v,r,rfl,P,O⟩:=Q;have e1:v=.int j:=P;have e2:r=[]:=O;subst e1 e2;exact ⟨j,rfl,Y.1,Y.2,az T Z _ Dc⟩
   ·exact Z.elim
  ·exact Z.elim
def xX {p:Pos} (hg:Gl X "range") (hm:X.mg "range"=none) (ha:PA X [a,b] (tA X.K Ξ fa)) (hs:Ê [a,b] X.env=[(false,ĺ a X.env),(false,ĺ b X.env)]:=by rfl) (fC:Ê [b] X.env=[(false,ĺ b X.env)]:=by rfl):PI X tg (.Call (.Name "range" p) [a,b] [] pos) (dF X.K Ξ (lM fa)) :=
 qm (Jy hg hm ha hs fC) fun σ H R W=>by
  obtain ⟨w,env,V,S,U,h⟩:=W;subst V;refine ⟨w,env,rfl,S,U,(Out.aj h).mono fun J I G T Z F Q=>?_⟩;split at Z
  ·rename_i i j
   split at Z
   ·rename_i Y
    simp only [jC,Ë,Ú] at Y;obtain ⟨v,r,rfl,P,v2,O,rfl,N,M⟩:=Q;have e1:v=.int i:=P;have e2:v2=.int j:=N;have L:O=[]:=M;subst e1 e2 L;exact ⟨i,j,rfl,⟨Y.1.1,Y.1.2,Y.2.1,Y.2.2⟩,az T Z _ Dc⟩
   ·exact Z.elim
  ·exact Z.elim
noncomputable def fy (xs ys:List D):List D:=(xs.zip ys).map fun p=>.tup [p.1,p.2]
def K3 {i:Nat} (h:(fy xs ys)[i]?=some d):∃x y,xs[i]?=some x/\ys[i]?=some y/\d=.tup [x,y]:=by
 unfold fy at h;rw [à] at h
 cases Z:(xs.zip ys)[i]? with
 |none=>rw [Z] at h;cases h
 |some p =>
  rw [Z] at h;obtain ⟨Y,X⟩:=η.mp Z;exact ⟨p.1,p.2,Y,X,(Wm h).symm⟩
def xb:(fy xs ys).length=min xs.length ys.length:=by simp [fy]
def Ce (S':aD K w') (hp:w'.H p=none) (h1:DV K w' d x) (h2:DV K w' d2 y) :
  ∃w2,w2.H=upd w'.H p (.tup [x,y])/\Le K w' w2/\aD K w2/\w2.aw=w'.aw/\DV K w2 (.tup [d,d2]) (.ref p) :=
 ⟨w'.grow p (.tup [x,y]),rfl,(Fw.grow hp).le,S'.grow hp,rfl,p,[x,y],rfl,aP.of bO,(Fw.grow hp).le.all (ak.two h1 h2)⟩
@[reducible] noncomputable def gU:Bool->List D->D
 |true=>.tup
 |false=>.lst
def uY {K:Ĉ} {w:Wd} {a:Ó} {ds:List D}:∀{k},DV K w (gU k ds) (.ref a)->∃xs,gQ k K w.H a xs/\ak K w ds xs
 |true,h=>by
  simp only [DV] at h;obtain ⟨p,xs,e,Z,Y⟩:=h;cases e;exact ⟨xs,Z,Y⟩
 |false,h=>by
  simp only [DV] at h;obtain ⟨p,xs,e,Z,Y⟩:=h;cases e;exact ⟨xs,Z.sq,Y⟩
def Cw {k l:Bool} {K:Ĉ} {w:Wd} {a b:Ó} {ds es:List D} (h:DV K w (gU k ds) (.ref a)) (g:DV K w (gU l es) (.ref b)):jj K w (vi k l K a b) (fy ds es):=fun F V P i=>by
 obtain ⟨Z,Y,U⟩:=uY (V _ _ h);obtain ⟨X,W,T⟩:=uY (V _ _ g);refine ⟨fun d O=>?_,fun N=>⟨Z,X,Y,W,?_⟩⟩
 ·obtain ⟨x,y,e1,e2,rfl⟩:=K3 O
  obtain ⟨v,ev,M⟩:=U.get' i x e1;obtain ⟨u,S,L⟩:=T.get' i y e2;refine ⟨⟨Z,X,v,u,Y,W,ev,S⟩,fun z E ⟨r,C,y1,J,I,H,G⟩=>?_⟩;obtain ⟨R,Q⟩:=G Z X Y W;rw [ev] at R;rw [S] at Q;cases R;cases Q;subst I H;exact Ce P J M L
 ·rw [xb] at N
  have:=U.length;have:=T.length;omega
def K4 {K:Ĉ} {w:Wd} {a b:Ó} {ds es:List D} (h:DV K w (.tup ds) (.ref a)) (g:DV K w (.tup es) (.ref b)):jj K w (QK K a b) (fy ds es):=Cw (k:=true) (l:=true) h g
def oO (fa:Wh (List D)):Wh (List D):=fun env s=>aj (fa env s) fun Z s=>match Z with
 | [.tup Y,.tup X]=>ok (fy Y X) s
 |_=>none
def Pp {p:Pos} {elts:List ę} {kk:Nat} {oG:Pos} (hg:Gl X "zip") (hm:X.mg "zip"=none) (ha:PA X [a,b] (tA X.K Ξ fa)) (hs:Ê [a,b] X.env=[(false,ĺ a X.env),(false,ĺ b X.env)]:=by rfl) (fC:Ê [b] X.env=[(false,ĺ b X.env)]:=by rfl) :
  PI X (.Tuple elts kk oG) (.Call (.Name "zip" p) [a,b] [] pos) (dF X.K Ξ (oO fa)):=by
 refine qm (Mc hg hm ha hs fC) fun σ H R U=>?_;obtain ⟨w,env,T,S,Q,h⟩:=U;subst T;refine ⟨w,env,rfl,S,Q,(Out.aj h).mono fun E D C P h B O=>?_⟩;split at h
 ·obtain ⟨v,r,rfl,Z,v2,N,rfl,Y,M⟩:=O
  have L:N=[]:=M;subst L;have W:=Z;have V:=Y;simp only [DV] at W V;obtain ⟨p,J,rfl,I,_⟩:=W;obtain ⟨q,G,rfl,F,_⟩:=V;exact ⟨p,q,J,G,rfl,I,F,az P h _ (K4 Z Y)⟩
 ·exact h.elim
noncomputable def kg (xs:List D):List D:=xs.zipIdx.map fun p=>.tup [.int p.2,p.1]
def JR {K:Ĉ} {w:Wd} {a:Ó} {ds:List D} (h:DV K w (.tup ds) (.ref a)):jj K w (zd K a) (kg ds):=fun J S R i=>by
 have V:=S _ _ h;simp only [DV] at V;obtain ⟨p,Y,e,X,U⟩:=V;cases e;refine ⟨fun d Z=>?_,fun Q=>⟨Y,X,by rw [<- U.length];simpa [kg] using Q⟩⟩;unfold kg at Z;rw [à,List.getElem?_zipIdx] at Z
 cases W:ds[i]? with
 |none=>rw [W] at Z;cases Z
 |some x =>
  rw [W] at Z;have Z:D.tup [.int ((0+i:Nat):Int),x]=d:=Wm Z;rw [Nat.zero_add] at Z;subst Z;obtain ⟨v,ev,P⟩:=U.get' i x W;refine ⟨⟨Y,v,X,ev⟩,fun z I ⟨r,H,O,N,M,L⟩=>?_⟩;have T:=L Y X;rw [ev] at T;cases T;subst N M;exact Ce R O rfl P
def yB (fa:Wh (List D)):Wh (List D):=fun env s=>aj (fa env s) fun Z s=>match Z with
 | [.tup Y]=>ok (kg Y) s
 |_=>none
def NW (hg:Gl X "enumerate") (hm:X.mg "enumerate"=none) (ha:PA X [a] (tA X.K Ξ fa)) (hs:Ê [a] X.env=[(false,ĺ a X.env)]:=by rfl) :
  PI X (.Tuple elts kk oG) (.Call (.Name "enumerate" p) [a] [] pos) (dF X.K Ξ (yB fa)) :=
 qm (KY hg hm ha hs) fun σ H R V=>by
  obtain ⟨w,env,U,S,T,h⟩:=V;subst U;refine ⟨w,env,rfl,S,T,(Out.aj h).mono fun J I G Q Z F P=>?_⟩;split at Z
  ·obtain ⟨v,r,rfl,Y,O⟩:=P
   have N:r=[]:=O;subst N;have W:=Y;simp only [DV] at W;obtain ⟨p,M,rfl,L,_⟩:=W;exact ⟨p,M,rfl,L,az Q Z _ (JR Y)⟩
  ·exact Z.elim
def aK (fn:List D->aa->Res D) (fa:Wh (List D)):Wh D:=fun env s=>aj (fa env s) fun Z s=>ne (fn Z s)
def uu {k:Nat} {fA:Ó} {fd:ė} {lN:List Str} {fn:List D->aa->Res D} {x:Str} {p:Pos} (F:bN X.prog X.w X.K X.mg X.base cH k fA fd lN (iD X.K fn)) (hr:bg k X.A) (hg:Gl X x) (hm:X.mg x=some (.ref fA)) (hk:Ĵ X.K (.ref fA)=true) (hb:Binds X.K fd lN [])
  (ha:PA X (e::es) (tA X.K Ξ fa)) (cJ:(x==("__debug__":Str))=false:=by decide) (he:Ê (e::es) X.env=(false,ĺ e X.env)::Ê es X.env:=by rfl) (aQ:(į pos (Ê es X.env)).any (·.1)=false:=by rfl) :
  PE X (.Call (.Name x p) (e::es) [] pos) (tE X.K Ξ (aK fn fa)):=bY (xt F hr hg hm hk hb .nil En ha cJ he aQ) fun σ H Q Y=>by
 obtain ⟨w,env,W,S,V,h⟩:=Y;subst W;refine ⟨w,env,rfl,S,V,(Out.aj h).mono fun Z U N T R P O=>?_⟩;show iD X.K fn (P++[]) Z.H Q E0;rw [Ń];exact ⟨Z,U,rfl,T,O,R.ne⟩
def ak.env (h:ak K w ds vs) (n:Nat):br K w (ds.map some++Î (n-ds.length) none) (vs.map some++Î (n-vs.length) none):=by
 have Y:=h.length;refine ⟨by simp [Y],fun i d e=>?_⟩;by_cases hi:i<ds.length
 ·rw [Û (by simpa using hi),à] at e
  rw [Û (by simp;omega),à]
  cases Z:ds[i]? with
  |none=>rw [Z] at e;cases e
  |some W =>
   rw [Z] at e;cases e;obtain ⟨v,ev,X⟩:=h.get' i d Z;exact ⟨v,by rw [ev];rfl,X⟩
 ·rw [ë (by simpa using ι hi),ě] at e
  split at e<;>cases e
end
def Ew (F:mY K x qual st f fd) (S:nJ N ps (cm st))
 (hb:∀(ba:Ä) (A:ó) (outer:List PySem.Env) (s:Ã) (H:Hp) (E:XK),bg k (A.deeper (š qual (cm st) s.heap.objs.size f ba))->cb (ic cH P w K mg base N qual (cm st) f ba A outer s H E).kr (gw st) (tS K bH b)) :
  bN P w K mg base cH (k+1) f fd ps (iD K (aS ps.length N.length b)):=by
 refine F.ok S (fun W H Q E h=>?_) (fun ba A outer s H W Q E V h=>?_)
 ·obtain ⟨w,U,rfl,S,Y,h⟩:=h
  rw [<- Y.length];unfold aS at h;split at h
  ·assumption
  ·exact h.elim
 ·obtain ⟨w,U,rfl,S,Y,h⟩:=h
  refine ⟨_,hb ba A outer s w.H E V,?_⟩;unfold aS at h;split at h
  ·rename_i T
   rw [<- T] at h;refine ⟨w,_,rfl,S,Y.env N.length,(Out.aj h).mono fun O R M X Z=>?_⟩
   cases R with
   |nx env=>intro L _;exact az X Z _ rfl
   |rt d=>have q:=az X Z;exact q
   |bk env=>exact Z.elim
   |ct env=>exact Z.elim
  ·exact h.elim
mutual
noncomputable def py:D->γ
 | .aq=>.none
 | .bl b=>.bool b
 | .int i=>.int i
 | .str x=>.str x
 | .tup Z=>.tuple (bA Z)
 | .lst Z=>.list (bA Z)
 | .aV Y=>.dict (Y.map fun p=>(oJ p.1,PyData.int p.2))
 | .ay _=>.none
 | .ty _=>.none
 | .bu _=>.none
 | .exc _=>.none
 | .cg _ _ _=>.none
noncomputable def bA:List D->List γ
 | []=>[]
 |d::Z=>py d::bA Z
end
mutual
noncomputable def plain:D->Bool
 | .aq=>true
 | .bl _=>true
 | .int _=>true
 | .str _=>true
 | .tup Z=>fM Z
 | .lst Z=>fM Z
 | .aV _=>true
 | .ay _=>false
 | .ty _=>false
 | .bu _=>false
 | .exc _=>false
 | .cg _ _ _=>false
noncomputable def fM:List D->Bool
 | []=>true
 |d::Z=>plain d&&fM Z
end
mutual
noncomputable def lay:D->Bool
 | .aq=>true
 | .bl _=>true
 | .int _=>true
 | .str x=>PyData.strOk x
 | .tup Z=>cU Z
 | .lst Z=>cU Z
 | .aV _=>false
 | .ay _=>false
 | .ty _=>false
 | .bu _=>false
 | .exc _=>false
 | .cg _ _ _=>false
noncomputable def cU:List D->Bool
 | []=>true
 |d::Z=>lay d&&cU Z
end
mutual
noncomputable def dep:D->Nat
 | .tup Z=>gJ Z+1
 | .lst Z=>gJ Z+1
 | .aV Y=>1
 | .aq=>0
 | .bl _=>0
 | .int _=>0
 | .str _=>0
 | .ay _=>0
 | .ty _=>0
 | .bu _=>0
 | .exc _=>0
 | .cg _ _ _=>0
noncomputable def gJ:List D->Nat
 | []=>0
 |d::Z=>max (dep d) (gJ Z)
end
mutual
noncomputable def beq:D->D->Bool
 | .aq,.aq=>true
 | .bl a,.bl b=>a==b
 | .bl a,.int j=>(if a then 1 else 0)==j
 | .int i,.bl b=>i==(if b then 1 else 0)
 | .int i,.int j=>i==j
 | .str x,.str y=>x==y
 | .tup Z,.tup Y=>oP Z Y
 | .lst Z,.lst Y=>oP Z Y
 |_,_=>false
noncomputable def oP:List D->List D->Bool
 | [],[]=>true
 |x::Z,y::Y=>beq x y&&oP Z Y
 |_,_=>false
end
mutual
theorem lU:∀(d:D),lay d=true->plain d=true
 | .aq,_=>rfl
 | .bl _,_=>rfl
 | .int _,_=>rfl
 | .str _,_=>rfl
 | .tup Z,h=>by simp only [lay,plain] at h |-;exact lS Z h
 | .lst Z,h=>by simp only [lay,plain] at h |-;exact lS Z h
 | .aV _,h=>by simp [lay] at h
 | .ay _,h=>by simp [lay] at h
 | .ty _,h=>by simp [lay] at h
 | .bu _,h=>by simp [lay] at h
 | .exc _,h=>by simp [lay] at h
 | .cg _ _ _,h=>by simp [lay] at h
theorem lS:∀(ds:List D),cU ds=true->fM ds=true
 | [],_=>rfl
 |d::ds,h=>by
  simp only [cU,fM,Ë] at h |-;exact ⟨lU d h.1,lS ds h.2⟩
end
mutual
theorem l7:∀(d:D),lay d=true->(py d).canLay0=true/\(py d).depth=dep d
 | .aq,_=>⟨rfl,by simp [py,dep,PyData.depth]⟩
 | .bl _,_=>⟨rfl,by simp [py,dep,PyData.depth]⟩
 | .int _,_=>⟨rfl,by simp [py,dep,PyData.depth]⟩
 | .str _,h=>⟨h,by simp [py,dep,PyData.depth]⟩
 | .tup Z,h=>by
  obtain ⟨Y,X⟩:=p9 Z (by simpa [lay] using h);simp only [py,dep,PyData.depth,PyData.canLay0];exact ⟨Y,by rw [X]⟩
 | .lst Z,h=>by
  obtain ⟨Y,X⟩:=p9 Z (by simpa [lay] using h);simp only [py,dep,PyData.depth,PyData.canLay0];exact ⟨Y,by rw [X]⟩
 | .aV _,h=>by simp [lay] at h
 | .ay _,h=>by simp [lay] at h
 | .ty _,h=>by simp [lay] at h
 | .bu _,h=>by simp [lay] at h
 | .exc _,h=>by simp [lay] at h
 | .cg _ _ _,h=>by simp [lay] at h
theorem p9:∀(ds:List D),cU ds=true->PyData.canLayAll0 (bA ds)=true/\Ś (bA ds)=gJ ds
 | [],_=>⟨rfl,rfl⟩
 |d::ds,h=>by
  simp only [cU,Ë] at h;obtain ⟨a1,a2⟩:=l7 d h.1;obtain ⟨Z,b2⟩:=p9 ds h.2;simp only [bA,gJ,PyData.canLayAll0,Ś,a1,Z,a2,b2,Ŀ,ĵ]
end
mutual
theorem uw:∀(d e:D),lay d=true->lay e=true->đ (py d) (py e)=beq d e
 | .tup Z,.tup Y,h,g=>by
  simp only [py,beq,đ];exact xc Z Y (by simpa [lay] using h) (by simpa [lay] using g)
 | .lst Z,.lst Y,h,g=>by
  simp only [py,beq,đ];exact xc Z Y (by simpa [lay] using h) (by simpa [lay] using g)
 | .aq,e,_,g=>by cases e<;>simp_all [py,beq,đ,lay]
 | .bl _,e,_,g=>by cases e<;>simp_all [py,beq,đ,lay]
 | .int _,e,_,g=>by cases e<;>simp_all [py,beq,đ,lay]
 | .str _,e,_,g=>by cases e<;>simp_all [py,beq,đ,lay]
 | .tup _,.aq,_,_=>by simp [py,beq,đ]
 | .tup _,.bl _,_,_=>by simp [py,beq,đ]
 | .tup _,.int _,_,_=>by simp [py,beq,đ]
 | .tup _,.str _,_,_=>by simp [py,beq,đ]
 | .tup _,.lst _,_,_=>by simp [py,beq,đ]
 | .lst _,.aq,_,_=>by simp [py,beq,đ]
 | .lst _,.bl _,_,_=>by simp [py,beq,đ]
 | .lst _,.int _,_,_=>by simp [py,beq,đ]
 | .lst _,.str _,_,_=>by simp [py,beq,đ]
 | .lst _,.tup _,_,_=>by simp [py,beq,đ]
 | .aV _,_,h,_=>by simp [lay] at h
 | .ay _,_,h,_=>by simp [lay] at h
 | .ty _,_,h,_=>by simp [lay] at h
 | .bu _,_,h,_=>by simp [lay] at h
 | .exc _,_,h,_=>by simp [lay] at h
 | .cg _ _ _,_,h,_=>by simp [lay] at h
 |_,.aV _,_,h=>by simp [lay] at h
 |_,.ay _,_,h=>by simp [lay] at h
 |_,.ty _,_,h=>by simp [lay] at h
 |_,.bu _,_,h=>by simp [lay] at h
 |_,.exc _,_,h=>by simp [lay] at h
 |_,.cg _ _ _,_,h=>by simp [lay] at h
theorem xc:∀(ds es:List D),cU ds=true->cU es=true->PyData.eqvAll (bA ds) (bA es)=oP ds es
 | [],[],_,_=>rfl
 | [],_::_,_,_=>rfl
 |_::_,[],_,_=>rfl
 |d::ds,e::es,h,g=>by
  simp only [cU,Ë] at h g;simp only [bA,oP,PyData.eqvAll,uw d e h.1 g.1,xc ds es h.2 g.2]
end
mutual
theorem DV.py:∀{d:D} {v:V},DV K w d v->plain d=true->L2.DV K (fun _=>False) w.H (DI.py d) v
 | .aq,_,h,_=>h
 | .bl _,_,h,_=>h
 | .int _,_,h,_=>h
 | .str _,_,h,_=>h
 | .tup X,v,h,p=>by
  simp only [DV] at h;obtain ⟨a,Y,e,Z,r⟩:=h;simp only [DI.py,L2.DV];exact ⟨a,Y,e,Z,ak.py r (by simpa [plain] using p)⟩
 | .lst X,v,h,p=>by
  simp only [DV] at h;obtain ⟨a,Y,e,Z,r⟩:=h;simp only [DI.py,L2.DV];exact ⟨a,Y,e,not_false,Z.2,ak.py r (by simpa [plain] using p)⟩
 | .aV W,v,h,p=>by
  simp only [DV] at h;obtain ⟨a,e,U,Z⟩:=h;simp only [DI.py,L2.DV];exact ⟨a,_,e,not_false,Z,W,rfl,rfl⟩
 | .ay _,_,_,p=>by simp [plain] at p
 | .ty _,_,_,p=>by simp [plain] at p
 | .bu _,_,_,p=>by simp [plain] at p
 | .exc _,_,_,p=>by simp [plain] at p
 | .cg _ _ _,_,_,p=>by simp [plain] at p
theorem ak.py:∀{ds:List D} {vs:List V},ak K w ds vs->fM ds=true->L2.ak K (fun _=>False) w.H (DI.bA ds) vs
 | [],_,h,_=>h
 |d::ds,vs,h,p=>by
  simp only [ak] at h;obtain ⟨v,r,e,Z,Y⟩:=h;simp only [fM,Ë] at p;exact ⟨v,r,e,DV.py Z p.1,ak.py Y p.2⟩
end
def res (d:D) (s:aa):D:=match d with
 | .ay k=>match s[k]? with
  |some (.lst Z)=>.lst Z
  |_=>d
 |_=>d
theorem DV.res (S:aD K w) (h:DV K w d v) (p:plain (DI.res d w.aw)=true):L2.DV K (fun _=>False) w.H (DI.py (DI.res d w.aw)) v:=by
 cases d with
 |ay k =>
  unfold DI.res at p |-;simp only at p |-
  split at p<;>rename_i Z
  ·rename_i V
   obtain ⟨a,e1,rfl⟩:=h;obtain ⟨Y,X,W⟩:=S.cell k a _ e1 Z;simp only [DI.py,L2.DV];exact ⟨a,Y,rfl,not_false,X,W.py (by simpa [plain] using p)⟩
  ·simp [plain] at p
 |_=>exact h.py p
noncomputable def m9:D->Bool
 | .str _=>true
 |_=>false
def NX (h:m9 d=true):∃x,d=.str x:=by cases d<;>first|exact ⟨_,rfl⟩|cases h
def k9 (x y:D):Option Bool:=if (m9 x&&m9 y)=true then some (beq x y) else if (lay x&&lay y&&decide (min (dep x) (dep y)<=100))=true then some (beq x y) else none
def bZ (x y:D) (s:aa):Res D:=match k9 (res x s) (res y s) with
 |some b=>ok (.bl b) s
 |none=>none
def dh (x y:D) (s:aa):Res D:=match k9 (res x s) (res y s) with
 |some b=>ok (.bl (!b)) s
 |none=>none
def Dd (S:aD K w) (hx:DV K w x v) (hy:DV K w y u) (h:k9 (res x w.aw) (res y w.aw)=some b) :
  (y0 v u=true/\decide (v=u)=b)\/∃(d e:γ),L2.DV K (fun _=>False) w.H d v/\L2.DV K (fun _=>False) w.H e u/\d.canLay0=true/\e.canLay0=true/\min d.depth e.depth<=100/\đ d e=b:=by
 have str:∀{d:D} {v:V},m9 (res d w.aw)=true->DV K w d v->∃x,res d w.aw=.str x/\v=.str x:=fun {d v} Z U=>by
  obtain ⟨x,e⟩:=NX Z
  cases d with
  |str y=>cases e;exact ⟨x,rfl,U⟩
  |ay k =>
   unfold res at e;simp only at e
   split at e<;>cases e
  |_=>cases e
 unfold k9 at h;split at h
 ·rename_i Z
  rw [Ë] at Z;obtain ⟨a,T,rfl⟩:=str Z.1 hx;obtain ⟨c,R,rfl⟩:=str Z.2 hy;rw [T,R] at h;exact .inl ⟨rfl,by rw [<- Wm h];exact xr⟩
 split at h
 ·rename_i W
  right;simp only [Ë,Ú] at W;obtain ⟨⟨Y,X⟩,Q⟩:=W;obtain ⟨P,O⟩:=l7 _ Y;obtain ⟨N,M⟩:=l7 _ X;exact ⟨_,_,hx.res S (lU _ Y),hy.res S (lU _ X),P,N,by rw [O,M];exact Q,by rw [uw _ _ Y X];exact Wm h⟩
 ·cases h
section
variable {X:Cx} {Ξ:Wd->aW->Prop}
def fR (hr:bg k X.A):aU X (ć .Eq) (rO X.K Ξ bZ):=by
 rintro W s σ H x y v u Q I V U ⟨w,J,G,rfl,S,T,R,h⟩;unfold bZ at h;split at h
 ·rename_i b P
  rcases Dd S T R P with ⟨Z,Y⟩ | ⟨d,e,Z,Y,O,N,M,L⟩
  ·exact OU W s σ w.H x y v u Q I V U ⟨Z,by rw [Y];exact az S h _ rfl⟩
  exact NM hr W s σ w.H x y v u Q I V U ⟨d,e,_,Z,Y,O,N,M,by simp only [Ç,û];rw [L];exact az S h _ rfl⟩
 ·exact h.elim
def kj (hr:bg k X.A):aU X (ć .NotEq) (rO X.K Ξ dh):=by
 rintro W s σ H x y v u Q I V U ⟨w,J,G,rfl,S,T,R,h⟩;unfold dh at h;split at h
 ·rename_i b P
  rcases Dd S T R P with ⟨Z,Y⟩ | ⟨d,e,Z,Y,O,N,M,L⟩
  ·exact OV W s σ w.H x y v u Q I V U ⟨Z,by rw [Y];exact az S h _ rfl⟩
  exact NN hr W s σ w.H x y v u Q I V U ⟨d,e,_,Z,Y,O,N,M,by simp only [ă];rw [L];exact az S h _ rfl⟩
 ·exact h.elim
end
end DI
namespace DI
open PySem L2
def bI (r:Option D) (s:aa):Res D:=match r with
 |some d=>ok d s
 |none=>none
def dH (h:Out K Ξ w (bI r w.aw) k):∃d,r=some d/\Out K Ξ w (ok d w.aw) k:=by
 unfold bI at h;split at h
 ·exact ⟨_,rfl,h⟩
 ·exact h.elim
noncomputable def i7 (xs ys:List D):Bool:=decide (xs.length+ys.length<=Ø)
def oQ:D->D->Option D
 | .int i,.int j=>some (.int (i+j))
 | .tup Z,.tup Y=>if i7 Z Y=true then some (.tup (Z++Y)) else none
 | .lst Z,.lst Y=>if i7 Z Y=true then some (.lst (Z++Y)) else none
 | .str x,.str y=>if decide (x.length+y.length<=Ø)=true then some (.str (x++y)) else none
 |_,_=>none
def aT (x y:D) (s:aa):Res D:=bI (oQ (res x s) (res y s)) s
noncomputable def Fq:D->D->Option D
 | .int i,.int j=>some (.int (i-j))
 |_,_=>none
def iX (x y:D) (s:aa):Res D:=bI (Fq x y) s
noncomputable def qG (i j:Int):Bool:=(decide (-(2 ^ 64)<i)&&decide (i<2 ^ 64))||(decide (-(2 ^ 64)<j)&&decide (j<2 ^ 64))
def zh:D->D->Option D
 | .int i,.int j=>if qG i j=true then some (.int (i*j)) else none
 | .tup Z,.int k=>if (!Z.isEmpty&&decide (1<=k)&&decide (Z.length*k.toNat<=Ø))=true then some (.tup (Î k.toNat Z).flatten) else none
 | .lst Z,.int k=>if (decide (-(2 ^ 63)<=k)&&decide (k<2 ^ 63)&&decide (Z.length*k.toNat<=Ø))=true then some (.lst (Î k.toNat Z).flatten) else none
 |_,_=>none
def gE (x y:D) (s:aa):Res D:=bI (zh x y) s
noncomputable def zi:D->D->Option D
 | .int i,.int j=>if decide (0<j)=true then some (.int (i % j)) else none
 |_,_=>none
def kh (x y:D) (s:aa):Res D:=bI (zi x y) s
noncomputable def zj:D->D->Option D
 | .int i,.int j=>if (decide (0<j)&&decide (j<1073741824))=true then some (.int (i / j)) else none
 |_,_=>none
def qH (x y:D) (s:aa):Res D:=bI (zj x y) s
noncomputable def zk:D->D->Option D
 | .int i,.int j=>if (decide (0<=j)&&decide (j<=1000000)&&decide (i.natAbs<2 ^ 64))=true then some (.int (i ^ j.toNat)) else none
 |_,_=>none
def om (x y:D) (s:aa):Res D:=bI (zk x y) s
noncomputable def Fs:D->Option D
 | .int i=>some (.int (-i))
 |_=>none
def qI (x:D) (s:aa):Res D:=bI (Fs x) s
theorem ak.flat (h:ak K w ds vs):∀n:Nat,ak K w (Î n ds).flatten (Î n vs).flatten
 |0=>rfl
 |n+1=>by
  rw [Ĳ,Ĳ,Ŗ,Ŗ];exact ak.append h (ak.flat h n)
def jq (S:aD K w) (h:DV K w d v) (e:res d w.aw=.lst ds):∃a xs,v=.ref a/\w.H a=some (.lst xs)/\ak K w ds xs:=by
 unfold res at e;split at e
 ·rename_i k
  split at e
  ·rename_i V Z
   cases e;obtain ⟨a,e1,rfl⟩:=h;obtain ⟨xs,Y,X⟩:=S.cell k a _ e1 Z;exact ⟨a,xs,rfl,Y,X⟩
  ·cases e
 ·subst e
  simp only [DV] at h;obtain ⟨a,xs,e,W,r⟩:=h;exact ⟨a,xs,e,W.2,r⟩
def cM (h:res d s=e) (hl:∀ds,e≠.lst ds):d=e:=by
 unfold res at h;split at h
 ·split at h
  ·exact absurd h.symm (hl _)
  ·exact h
 ·exact h
section
variable {X:Cx} {Ξ:Wd->aW->Prop}
def mH (S:aD K w) (ai:ak K w ds vs) (h:Out K Ξ w (ok (D.tup ds) w.aw) fun w' d=>∀v,DV K w' d v->Q v w'.H):lA K w.H vs Q:=fun a Z e Y =>
 h (w.same Z) (Fw.same e).le (S.same e) rfl (.ref a) ⟨a,vs,rfl,Y,(Fw.same e).le.all ai⟩
def ra {K:Ĉ} {w:Wd} {ds:List D} {vs:List V} {Q:VK} (S:aD K w) (ai:ak K w ds vs) (h:Out K Ξ w (ok (D.lst ds) w.aw) fun w' d=>∀v,DV K w' d v->Q v w'.H):∀p,w.H p=none->Q (.ref p) (upd w.H p (.lst vs)):=fun p Y =>
 h (w.grow p (.lst vs)) (Fw.grow Y).le (S.grow Y) rfl (.ref p) ⟨p,vs,rfl,⟨(show ¬ w.Z p from j6 S Y),bO⟩,(Fw.grow Y).le.all ai⟩
def NY {K:Ĉ} {w:Wd} {ds:List D} {vs:List V} {Q:VK} (S:aD K w) (ai:ak K w ds vs) (h:Out K Ξ w (ok (D.tup ds) w.aw) fun w' d=>∀v,DV K w' d v->Q v w'.H):∀p,w.H p=none->Q (.ref p) (upd w.H p (.tup vs)):=fun p Z =>
 h (w.grow p (.tup vs)) (Fw.grow Z).le (S.grow Z) rfl (.ref p) ⟨p,vs,rfl,aP.of bO,(Fw.grow Z).le.all ai⟩
def cu:aU X (ĳ .Add) (rO X.K Ξ aT):=by
 rintro T s σ H x y v u Q I R P ⟨w,J,G,rfl,S,Z,Y,h⟩;obtain ⟨d,e,h⟩:=dH h;unfold oQ at e;split at e
 ·rename_i i j e1 e2
  rw [cM e1 (by intro _ z;cases z)] at Z;rw [cM e2 (by intro _ z;cases z)] at Y;cases e;cases Z;cases Y;exact Nn T s σ w.H _ _ v u Q I R P ⟨i,j,rfl,rfl,az S h _ rfl⟩
 ·rename_i M L e1 e2
  rw [cM e1 (by intro _ z;cases z)] at Z;rw [cM e2 (by intro _ z;cases z)] at Y;split at e
  ·rename_i W
   cases e;simp only [DV] at Z Y;obtain ⟨a,as,rfl,O,V⟩:=Z;obtain ⟨b,bs,rfl,N,U⟩:=Y;exact L8 T s σ w.H _ _ v u Q I R P ⟨a,b,as,bs,rfl,rfl,O,N,by rw [<- V.length,<- U.length];exact ĕ W,mH S (V.append U) h⟩
  ·cases e
 ·rename_i M L e1 e2
  split at e
  ·rename_i W
   cases e;obtain ⟨a,as,rfl,O,V⟩:=jq S Z e1;obtain ⟨b,bs,rfl,N,U⟩:=jq S Y e2;exact NG T s σ w.H _ _ v u Q I R P ⟨a,b,as,bs,rfl,rfl,O,N,by rw [<- V.length,<- U.length];exact ĕ W,ra S (V.append U) h⟩
  ·cases e
 ·rename_i i j e1 e2
  rw [cM e1 (by intro _ z;cases z)] at Z;rw [cM e2 (by intro _ z;cases z)] at Y;split at e
  ·rename_i W
   cases e;cases Z;cases Y;exact Iw T s σ w.H _ _ v u Q I R P ⟨i,j,rfl,rfl,ĕ W,az S h _ rfl⟩
  ·cases e
 ·cases e
def oo:aU X (ĳ .Sub) (rO X.K Ξ iX):=by
 rintro Z s σ H x y v u Q I Y W ⟨w,T,R,rfl,S,V,U,h⟩;obtain ⟨d,e,h⟩:=dH h;unfold Fq at e;split at e
 ·rename_i i j
  cases e;cases V;cases U;exact Np Z s σ w.H _ _ v u Q I Y W ⟨i,j,rfl,rfl,az S h _ rfl⟩
 ·cases e
def qJ:aU X (ĳ .Mult) (rO X.K Ξ gE):=by
 rintro V s σ H x y v u Q I U T ⟨w,M,L,rfl,S,Y,R,h⟩;obtain ⟨d,e,h⟩:=dH h;unfold zh at e;split at e
 ·rename_i i j
  split at e
  ·rename_i Z
   cases e;cases Y;cases R;refine Nq V s σ w.H _ _ v u Q I U T ⟨i,j,rfl,rfl,?_,az S h _ rfl⟩;unfold va;simpa [qG] using Z
  ·cases e
 ·rename_i O k
  split at e
  ·rename_i Z
   cases e;cases R;simp only [Ë,Ú] at Z;simp only [DV] at Y;obtain ⟨a,as,rfl,P,W⟩:=Y;have N:=W.length;refine Mm V s σ w.H _ _ v u Q I U T ⟨a,as,k,rfl,rfl,P,?_,Z.1.2,by rw [<- N];exact Z.2,mH S (W.flat _) h⟩;intro z;subst z
   cases O with
   |nil=>simp at Z
   |cons _ _=>cases N
  ·cases e
 ·rename_i O k
  split at e
  ·rename_i Z
   cases e;cases R;simp only [Ë,Ú] at Z;simp only [DV] at Y;obtain ⟨a,as,rfl,P,W⟩:=Y;exact NH V s σ w.H _ _ v u Q I U T ⟨a,k,as,rfl,rfl,P.2,Z.1.1,Z.1.2,by rw [<- W.length];exact Z.2,ra S (W.flat _) h⟩
  ·cases e
 ·cases e
def oq:aU X (ĳ .Mod) (rO X.K Ξ kh):=by
 rintro Z s σ H x y v u Q I Y W ⟨w,R,P,rfl,S,V,U,h⟩;obtain ⟨d,e,h⟩:=dH h;unfold zi at e;split at e
 ·rename_i i j
  split at e
  ·rename_i T
   cases e;cases V;cases U;exact Nr Z s σ w.H _ _ v u Q I Y W ⟨i,j,rfl,rfl,ĕ T,az S h _ rfl⟩
  ·cases e
 ·cases e
def Ey:aU X (ĳ .FloorDiv) (rO X.K Ξ qH):=by
 rintro Y s σ H x y v u Q I W V ⟨w,R,P,rfl,S,U,T,h⟩;obtain ⟨d,e,h⟩:=dH h;unfold zj at e;split at e
 ·rename_i i j
  split at e
  ·rename_i Z
   simp only [Ë,Ú] at Z;cases e;cases U;cases T;exact LU Y s σ w.H _ _ v u Q I W V ⟨i,j,rfl,rfl,Z,az S h _ rfl⟩
  ·cases e
 ·cases e
def yC:aU X (ĳ .Pow) (rO X.K Ξ om):=by
 rintro Y s σ H x y v u Q I W V ⟨w,R,P,rfl,S,U,T,h⟩;obtain ⟨d,e,h⟩:=dH h;unfold zk at e;split at e
 ·rename_i i j
  split at e
  ·rename_i Z
   simp only [Ë,Ú] at Z;cases e;cases U;cases T;exact Nt Y s σ w.H _ _ v u Q I W V ⟨i,j,rfl,rfl,⟨Z.1.1,Z.1.2,Z.2⟩,az S h _ rfl⟩
  ·cases e
 ·cases e
def uZ:rP X (unaryOp .USub) (rU X.K Ξ qI):=by
 rintro Z s σ H x v Q I Y ⟨w,V,rfl,S,W,h⟩;obtain ⟨d,e,h⟩:=dH h;unfold Fs at e;split at e
 ·rename_i i
  cases e;cases W;exact Nu Z s σ w.H _ v Q I Y ⟨i,rfl,az S h _ rfl⟩
 ·cases e
noncomputable def oR (p:Int->Int->Bool):D->D->Option D
 | .int i,.int j=>some (.bl (p i j))
 |_,_=>none
def rf (x y:D) (s:aa):Res D:=bI (oR (fun i j=>decide (i<=j)) x y) s
def rg (x y:D) (s:aa):Res D:=bI (oR (fun i j=>decide (j<i)) x y) s
def vt (x y:D) (s:aa):Res D:=bI (oR (fun i j=>decide (j<=i)) x y) s
def Fu:aU X (ć .LtE) (rO X.K Ξ rf):=by
 rintro Z s σ H x y v u Q I Y W ⟨w,T,R,rfl,S,V,U,h⟩;obtain ⟨d,e,h⟩:=dH h;unfold oR at e;split at e
 ·rename_i i j
  cases e;cases V;cases U;exact OW Z s σ w.H _ _ v u Q I Y W ⟨i,j,rfl,rfl,az S h _ rfl⟩
 ·cases e
def Fv:aU X (ć .Gt) (rO X.K Ξ rg):=by
 rintro Z s σ H x y v u Q I Y W ⟨w,T,R,rfl,S,V,U,h⟩;obtain ⟨d,e,h⟩:=dH h;unfold oR at e;split at e
 ·rename_i i j
  cases e;cases V;cases U;exact OX Z s σ w.H _ _ v u Q I Y W ⟨i,j,rfl,rfl,az S h _ rfl⟩
 ·cases e
def QW:aU X (ć .GtE) (rO X.K Ξ vt):=by
 rintro Z s σ H x y v u Q I Y W ⟨w,T,R,rfl,S,V,U,h⟩;obtain ⟨d,e,h⟩:=dH h;unfold oR at e;split at e
 ·rename_i i j
  cases e;cases V;cases U;exact OY Z s σ w.H _ _ v u Q I Y W ⟨i,j,rfl,rfl,az S h _ rfl⟩
 ·cases e
noncomputable def Gk:D->Bool
 | .aq=>true
 |_=>false
def qK (x y:D) (s:aa):Res D:=match y with
 | .aq=>ok (.bl (Gk x)) s
 |_=>none
def NZ (h:DV K w d v):decide (v=.aq)=Gk d:=by
 cases d with
 |aq=>cases h;rfl
 |bl b=>cases h;rfl
 |int b=>cases h;rfl
 |str b=>cases h;rfl
 |ty b=>cases h;rfl
 |tup Z=>simp only [DV] at h;obtain ⟨a,Y,rfl,_⟩:=h;rfl
 |lst Z=>simp only [DV] at h;obtain ⟨a,Y,rfl,_⟩:=h;rfl
 |aV Z=>simp only [DV] at h;obtain ⟨a,rfl,_⟩:=h;rfl
 |ay k=>simp only [DV] at h;obtain ⟨a,_,rfl⟩:=h;rfl
 |bu k=>simp only [DV] at h;obtain ⟨a,rfl,_⟩:=h;rfl
 |exc o=>simp only [DV] at h;obtain ⟨a,_,_,rfl,_⟩:=h;rfl
 |cg o _ _=>simp only [DV] at h;obtain ⟨rfl,_⟩:=h;rfl
def Pq:aU X (ć .Is) (rO X.K Ξ qK):=by
 rintro Z s σ H x y v u Q I Y W ⟨w,T,R,rfl,S,V,U,h⟩;unfold qK at h;split at h
 ·cases U
  exact Nv Z s σ w.H _ _ v u Q I Y W ⟨rfl,by rw [NZ V];exact az S h _ rfl⟩
 ·exact h.elim
def ng (d i:D) (s:aa):Option D:=match res d s,i with
 | .lst Z,.int i=>cW Z i
 | .tup Z,.int i=>cW Z i
 | .bu Y,.int i=>(cW Y i).map D.int
 | .str x,.int i=>if decide (x.length<=Ø)=true then (cW x.cps.toList i).map fun c=>.str ⟨#[c]⟩ else none
 |_,_=>none
def aZ (x y:D) (s:aa):Res D:=bI (ng x y s) s
theorem ak.at (h:ak K w ds vs) (e:cW ds i=some d):∃v,cW vs i=some v/\DV K w d v:=by
 unfold cW at e |-;rw [h.length] at e
 cases hi:eR vs.length i with
 |none=>rw [hi] at e;cases e
 |some j =>
  rw [hi] at e;exact h.get' j d e
def QX:rT X (rO X.K Ξ aZ):=by
 rintro value slice T s σ H x y v u Q I R P ⟨w,A,t,rfl,S,Z,O,h⟩ N;obtain ⟨d,e,M⟩:=dH h;clear h;unfold ng at e;split at e
 ·rename_i C i e1
  cases O;obtain ⟨a,L,rfl,W,J⟩:=jq S Z e1;obtain ⟨z,G,F⟩:=J.at e;exact CV value slice T s σ w.H _ _ v u Q I R P ⟨a,L,i,z,rfl,rfl,bo.of W,G,az S M _ F⟩ N
 ·rename_i C i e1
  cases O;rw [cM e1 (by intro _ z;cases z)] at Z;simp only [DV] at Z;obtain ⟨a,L,rfl,W,J⟩:=Z;obtain ⟨z,G,F⟩:=J.at e;exact NB value slice T s σ w.H _ _ v u Q I R P ⟨a,L,i,z,rfl,rfl,W,G,az S M _ F⟩ N
 ·rename_i U i e1
  cases O;rw [cM e1 (by intro _ z;cases z)] at Z;simp only [DV] at Z;obtain ⟨a,rfl,W⟩:=Z
  cases Y:cW U i with
  |none=>rw [Y] at e;cases e
  |some n =>
   rw [Y] at e;cases e;refine CV value slice T s σ w.H _ _ v u Q I R P ⟨a,U.map V.int,i,.int n,rfl,rfl,W.sq,?_,az S M _ rfl⟩ N;unfold cW at Y |-;rw [Í]
   cases D:eR U.length i with
   |none=>rw [D] at Y;cases Y
   |some j =>
    rw [D] at Y;show (U.map V.int)[j]?=some (.int n);rw [à,show U[j]?=some n from Y];rfl
 ·rename_i z i e1
  cases O;rw [cM e1 (by intro _ z;cases z)] at Z;cases Z;split at e
  ·rename_i B
   cases E:cW z.cps.toList i with
   |none=>rw [E] at e;cases e
   |some c =>
    rw [E] at e;cases e;exact NC value slice T s σ w.H _ _ v u Q I R P ⟨z,i,c,rfl,rfl,ĕ B,E,az S M _ rfl⟩ N
  ·cases e
 ·cases e
def b9 (ha:PE X a (tE X.K Ξ f)) (hb:PE X b (tE X.K Ξ g)) (hs:CU b:=by intro _ _;rfl):PE X (.Subscript a b pos) (tE X.K Ξ (e2 aZ f g)):=bY (O3 QX ha hb hs) tR
def vv (d:D) (s:aa):Option D:=match res d s with
 | .lst Z=>some (.int Z.length)
 | .tup Z=>some (.int Z.length)
 | .bu Y=>some (.int Y.length)
 | .str x=>if decide (x.length<=Ø)=true then some (.int x.length) else none
 |_=>none
def bG (ds:List D) (s:aa):Res D:=match ds with
 | [d]=>bI (vv d s) s
 |_=>none
def nY (h:ak K w [d] vs):∃v,vs=[v]/\DV K w d v:=by
 obtain ⟨v,r,rfl,Z,Y⟩:=h;have e:r=[]:=Y;subst e;exact ⟨v,rfl,Z⟩
def qo (h:ak K w [d,e] vs):∃v u,vs=[v,u]/\DV K w d v/\DV K w e u:=by
 obtain ⟨v,r,rfl,Z,h⟩:=h;obtain ⟨u,rfl,Y⟩:=nY h;exact ⟨v,u,rfl,Z,Y⟩
def dP:bQ X (.builtin "len") (rC X.K Ξ bG):=by
 rintro U s σ H T R Q I r ⟨w,M,rfl,S,Y,h⟩;unfold bG at h;split at h
 ·obtain ⟨v,rfl,Z⟩:=nY Y
  obtain ⟨d,e,h⟩:=dH h;unfold vv at e;split at e
  ·rename_i P e1
   cases e;obtain ⟨a,T,rfl,W,Y⟩:=jq S Z e1;exact wx U s σ w.H _ R Q I r ⟨a,T,rfl,.inl (bo.of W),by rw [<- Y.length];exact az S h _ rfl⟩
  ·rename_i P e1
   cases e;rw [cM e1 (by intro _ z;cases z)] at Z;simp only [DV] at Z;obtain ⟨a,T,rfl,W,Y⟩:=Z;exact wx U s σ w.H _ R Q I r ⟨a,T,rfl,.inr W,by rw [<- Y.length];exact az S h _ rfl⟩
  ·rename_i O e1
   cases e;rw [cM e1 (by intro _ z;cases z)] at Z;simp only [DV] at Z;obtain ⟨a,rfl,W⟩:=Z;exact wx U s σ w.H _ R Q I r ⟨a,O.map V.int,rfl,.inl W.sq,by rw [Í];exact az S h _ rfl⟩
  ·rename_i z e1
   rw [cM e1 (by intro _ z;cases z)] at Z;cases Z;split at e
   ·rename_i N
    cases e;exact Hv U s σ w.H _ R Q I r ⟨z,rfl,ĕ N,az S h _ rfl⟩
   ·cases e
  ·cases e
 ·exact h.elim
noncomputable def iE:List D->Option (List Bool)
 | []=>some []
 | .bl b::Z=>(iE Z).map fun r=>b::r
 |_::_=>none
theorem ux:∀{ds:List D} {bs:List Bool},iE ds=some bs->ds=bs.map D.bl
 | [],bs,h=>by cases h;rfl
 | .bl b::ds,bs,h=>by
  simp only [iE] at h
  cases Z:iE ds with
  |none=>rw [Z] at h;cases h
  |some r=>rw [Z] at h;cases h;rw [ux Z];rfl
 | .aq::_,_,h=>by cases h
 | .int _::_,_,h=>by cases h
 | .str _::_,_,h=>by cases h
 | .tup _::_,_,h=>by cases h
 | .lst _::_,_,h=>by cases h
 | .aV _::_,_,h=>by cases h
 | .ay _::_,_,h=>by cases h
 | .ty _::_,_,h=>by cases h
 | .bu _::_,_,h=>by cases h
 | .exc _::_,_,h=>by cases h
 | .cg _ _ _::_,_,h=>by cases h
def Mq:iE (bs.map D.bl)=some bs:=by
 induction bs with
 |nil=>rfl
 |cons b bs ih=>simp only [ç,iE,ih,Vg]
def ik (ds:List D) (s:aa):Res D:=match ds with
 | [d]=>match res d s with
  | .lst Z=>bI ((iE Z).map fun bs=>.bl (bs.all id)) s
  |_=>none
 |_=>none
def lb (hc:X.calm=true):bQ X (.builtin "all") (rC X.K Ξ ik):=by
 rintro V s σ H U T Q I r ⟨w,O,rfl,S,Z,h⟩;unfold ik at h;split at h
 ·obtain ⟨v,rfl,R⟩:=nY Z
  split at h
  ·rename_i P e1
   obtain ⟨d,e,h⟩:=dH h
   cases Y:iE P with
   |none=>rw [Y] at e;cases e
   |some bs =>
    rw [Y] at e;cases e;obtain ⟨a,U,rfl,W,Z⟩:=jq S R e1;rw [ux Y] at Z;rw [Z.tQ] at W;exact Ky hc V s σ w.H _ T Q I r ⟨a,bs,rfl,bo.of W,az S h _ rfl⟩
  ·exact h.elim
 ·exact h.elim
def mv (ds:List D) (s:aa):Res D:=match ds with
 | [.int i,.int j]=>ok (.int (if j > i then j else i)) s
 |_=>none
def qL (ds:List D) (s:aa):Res D:=match ds with
 | [.int i,.int j]=>ok (.int (if j<i then j else i)) s
 |_=>none
def DM (hc:X.calm=true):bQ X (.builtin "max") (rC X.K Ξ mv):=by
 rintro Z s σ H T Y Q I r ⟨w,R,rfl,S,W,h⟩;unfold mv at h;split at h
 ·rename_i i j
  obtain ⟨v,u,rfl,V,U⟩:=qo W;cases V;cases U;exact Jz hc Z s σ w.H _ Y Q I r ⟨i,j,rfl,az S h _ rfl⟩
 ·exact h.elim
def N0 (hc:X.calm=true):bQ X (.builtin "min") (rC X.K Ξ qL):=by
 rintro Z s σ H T Y Q I r ⟨w,R,rfl,S,W,h⟩;unfold qL at h;split at h
 ·rename_i i j
  obtain ⟨v,u,rfl,V,U⟩:=qo W;cases V;cases U;exact JA hc Z s σ w.H _ Y Q I r ⟨i,j,rfl,az S h _ rfl⟩
 ·exact h.elim
def fm (ds:List D) (s:aa):Res D:=match ds with
 | [d]=>match res d s with
  | .lst Z=>ok (.tup Z) s
  | .tup Z=>ok (.tup Z) s
  |_=>none
 |_=>none
def nL:bQ X (.type "tuple") (rC X.K Ξ fm):=by
 rintro U s σ H Y T Q I r ⟨w,O,rfl,S,W,h⟩;unfold fm at h;split at h
 ·obtain ⟨v,rfl,Z⟩:=nY W
  split at h
  ·rename_i R e1
   obtain ⟨a,Y,rfl,V,W⟩:=jq S Z e1;exact Bs U s σ w.H _ T Q I r ⟨a,Y,rfl,.inl ⟨bo.of V,NY S W h⟩⟩
  ·rename_i R e1
   rw [cM e1 (by intro _ z;cases z)] at Z;have P:=Z;simp only [DV] at Z;obtain ⟨a,Y,rfl,V,W⟩:=Z;exact Bs U s σ w.H _ T Q I r ⟨a,Y,rfl,.inr ⟨V,az S h _ P⟩⟩
  ·exact h.elim
 ·exact h.elim
def mw (ds:List D) (s:aa):Res D:=match ds with
 | [d]=>match res d s with
  | .lst Z=>ok (.lst Z) s
  | .tup Z=>ok (.lst Z) s
  |_=>none
 |_=>none
def DN:bQ X (.type "list") (rC X.K Ξ mw):=by
 rintro U s σ H Y T Q I r ⟨w,P,rfl,S,Z,h⟩;unfold mw at h;split at h
 ·obtain ⟨v,rfl,W⟩:=nY Z
  split at h
  ·rename_i R e1
   obtain ⟨a,Y,rfl,V,Z⟩:=jq S W e1;exact Bv U s σ w.H _ T Q I r ⟨a,Y,rfl,.inl (bo.of V),ra S Z h⟩
  ·rename_i R e1
   rw [cM e1 (by intro _ z;cases z)] at W;simp only [DV] at W;obtain ⟨a,Y,rfl,V,Z⟩:=W;exact Bv U s σ w.H _ T Q I r ⟨a,Y,rfl,.inr V,ra S Z h⟩
  ·exact h.elim
 ·exact h.elim
end
def ot (n:Nat) (x:D) (ds:List D):Bool:=lay x&&cU ds&&decide (dep x<=n)
def inD (x:D) (ds:List D):Option Bool:=if ot 100 x ds=true then some (ds.any fun y=>beq y x) else none
def ou (d:D) (s:aa):Option (List D):=match res d s with
 | .lst Z=>some Z
 | .tup Z=>some Z
 |_=>none
def oS (x y:D) (s:aa):Res D:=match ou y s with
 |some Z=>bI ((inD x Z).map D.bl) s
 |none=>none
def nM (x y:D) (s:aa):Res D:=match ou y s with
 |some Z=>bI ((inD x Z).map fun b=>D.bl (!b)) s
 |none=>none
def Cy (S:aD K w) (h:DV K w d v) (e:ou d w.aw=some ds):∃a xs,v=.ref a/\(w.H a=some (.lst xs)\/aP K w.H a xs)/\ak K w ds xs:=by
 unfold ou at e;split at e
 ·rename_i X e1
  cases e;obtain ⟨a,xs,rfl,Z,Y⟩:=jq S h e1;exact ⟨a,xs,rfl,.inl Z,Y⟩
 ·rename_i X e1
  cases e;rw [cM e1 (by intro _ z;cases z)] at h;simp only [DV] at h;obtain ⟨a,xs,rfl,Z,Y⟩:=h;exact ⟨a,xs,rfl,.inr Z,Y⟩
 ·cases e
section
variable {X:Cx} {Ξ:Wd->aW->Prop} {π:List (Ó×Obj)} {σ:St} {s:Ã}
theorem xY (lx:lay x=true):∀{ds:List D},cU ds=true->((bA ds).any fun y=>đ y (py x))=ds.any fun y=>beq y x
 | [],_=>rfl
 |d::ds,h=>by
  simp only [cU,Ë] at h;simp only [bA,List.any_cons,uw d x h.1 lx,xY lx h.2]
def DO (h:inD x ds=some b):lay x=true/\cU ds=true/\dep x<=100/\(ds.any fun y=>beq y x)=b:=by
 unfold inD ot at h;split at h
 ·rename_i Z
  simp only [Ë,Ú] at Z;exact ⟨Z.1.1,Z.1.2,Z.2,Wm h⟩
 ·cases h
def QY (hr:bg k X.A):aU X (ć .In) (rO X.K Ξ oS):=by
 rintro π s σ H x y v u Q I J T ⟨w,W,B,rfl,S,G,F,h⟩;unfold oS at h;split at h
 ·rename_i Z E
  obtain ⟨d,e,h⟩:=dH h
  cases V:inD W Z with
  |none=>rw [V] at e;cases e
  |some b =>
   rw [V] at e;cases e;obtain ⟨U,Y,z,D⟩:=DO V;obtain ⟨R,C⟩:=l7 _ U;obtain ⟨P,t⟩:=p9 _ Y;obtain ⟨bs,O⟩:=(G.py (lU _ U)).reads I J;have N:X.A.units+1+min (Ś (bA Z)) (py W).depth<cLine:=by
    have:=hr.un;rw [C];omega
   obtain ⟨a,M,rfl,ha,L⟩:=Cy S F E;have fin:EP X π σ Q (.bool ((bA Z).any fun y=>đ y (py W))) s:=⟨.bl b,w.H,I,by rw [xY U Y,D];rfl,az S h _ rfl⟩
   rcases ha with ha|ha
   ·obtain ⟨cs,rc⟩:=(show L2.DV X.K (fun _=>False) w.H (.list (bA Z)) (.ref a) by simp only [L2.DV];exact ⟨a,M,rfl,not_false,ha,L.py (lS _ Y)⟩).reads I T
    exact SeqAt.in_list_reads rc O P R N fin
   ·obtain ⟨cs,rc⟩:=(show L2.DV X.K (fun _=>False) w.H (.tuple (bA Z)) (.ref a) by simp only [L2.DV];exact ⟨a,M,rfl,ha,L.py (lS _ Y)⟩).reads I T
    exact SeqAt.in_tuple_reads rc O P R N fin
 ·exact h.elim
def De (hr:bg k X.A):aU X (ć .NotIn) (rO X.K Ξ nM):=by
 rintro π s σ H x y v u Q I J T ⟨w,W,B,rfl,S,G,F,h⟩;unfold nM at h;split at h
 ·rename_i Z E
  obtain ⟨d,e,h⟩:=dH h
  cases V:inD W Z with
  |none=>rw [V] at e;cases e
  |some b =>
   rw [V] at e;cases e;obtain ⟨U,Y,z,D⟩:=DO V;obtain ⟨R,C⟩:=l7 _ U;obtain ⟨P,t⟩:=p9 _ Y;obtain ⟨bs,O⟩:=(G.py (lU _ U)).reads I J;have N:X.A.units+1+min (Ś (bA Z)) (py W).depth<cLine:=by
    have:=hr.un;rw [C];omega
   obtain ⟨a,M,rfl,ha,L⟩:=Cy S F E;have fin:EP X π σ Q (.bool (!(bA Z).any fun y=>đ y (py W))) s:=⟨.bl (!b),w.H,I,by rw [xY U Y,D];rfl,az S h _ rfl⟩
   rcases ha with ha|ha
   ·obtain ⟨cs,rc⟩:=(show L2.DV X.K (fun _=>False) w.H (.list (bA Z)) (.ref a) by simp only [L2.DV];exact ⟨a,M,rfl,not_false,ha,L.py (lS _ Y)⟩).reads I T
    exact SeqAt.notIn_list_reads rc O P R N fin
   ·obtain ⟨cs,rc⟩:=(show L2.DV X.K (fun _=>False) w.H (.tuple (bA Z)) (.ref a) by simp only [L2.DV];exact ⟨a,M,rfl,ha,L.py (lS _ Y)⟩).reads I T
    exact SeqAt.notIn_tuple_reads rc O P R N fin
 ·exact h.elim
def tP (K:Ĉ) (Ξ:Wd->aW->Prop) (f:Wh (Option Int)):TO:=fun σ H Q=>∃w env,w.H=H/\aD K w/\br K w env σ/\Out K Ξ w (f env w.aw) fun Z i=>Q i Z.H
def cX:Wh (Option Int):=fun _ s=>ok none s
def cV (f:Wh D):Wh (Option Int):=fun env s=>aj (f env s) fun d s=>match d with
 | .int i=>ok (some i) s
 |_=>none
variable {e a b:ę} {lo hi:Option ę} {pos p2 p3 p4:Pos} {f g:Wh D}
def DP (h:PO X lo t) (i:∀ σ H Q,t' σ H Q->t σ H Q):PO X lo t':=fun π s σ H Q I Z=>h π s σ H Q I (i σ H Q Z)
def mI:PO X none (tP X.K Ξ cX):=DP LZ fun σ H Q Z=>by
 obtain ⟨w,env,Y,S,W,h⟩:=Z;subst Y;exact az S h
def mx (he:PE X e (tE X.K Ξ f)):PO X (some e) (tP X.K Ξ (cV f)):=DP (L0 he) fun σ H Q Y=>by
 obtain ⟨w,env,W,S,V,h⟩:=Y;subst W;refine ⟨w,env,rfl,S,V,(Out.aj h).mono fun R d P U Z v T=>?_⟩
 cases d with
 |int i=>exact ⟨i,T,az U Z⟩
 |_=>exact Z.elim
noncomputable def cutD (xs:List D) (lo hi:Option Int):List D:=(xs.drop (HT.aJ xs.length 0 lo)).take (HT.aJ xs.length xs.length hi-HT.aJ xs.length 0 lo)
def l8 (d:D) (lo hi:Option Int) (s:aa):Res D:=match res d s with
 | .tup Z=>ok (.tup (cutD Z lo hi)) s
 | .lst Z=>ok (.lst (cutD Z lo hi)) s
 |_=>none
def cY (f:Wh D) (l h:Wh (Option Int)):Wh D:=fun env s=>aj (f env s) fun d s=>aj (l env s) fun lo s=>aj (h env s) fun hi s=>l8 d lo hi s
def R5 (K:Ĉ) (Ξ:Wd->aW->Prop):V->Option Int->Option Int->Hp->VK->Prop:=fun x lo hi H Q=>∃w Z,w.H=H/\aD K w/\DV K w Z x/\Out K Ξ w (l8 Z lo hi w.aw) fun Y d=>∀v,DV K Y d v->Q v Y.H
def N1:rS X (R5 X.K Ξ):=by
 rintro π s σ H x v U T lo hi R Q I P O N pu ⟨w,L,rfl,S,Y,h⟩;unfold l8 at h;split at h
 ·rename_i M e1
  rw [cM e1 (by intro _ z;cases z)] at Y;simp only [DV] at Y;obtain ⟨a,W,rfl,V,Z⟩:=Y;refine L7 π s σ w.H _ v U T lo hi R Q I P O N pu ⟨a,W,rfl,V,mH S ?_ h⟩;unfold cutD iZ;rw [Z.length];exact (Z.drop _).take _
 ·rename_i M e1
  obtain ⟨a,W,rfl,V,Z⟩:=jq S Y e1;refine L5 π s σ w.H _ v U T lo hi R Q I P O N pu ⟨a,W,rfl,bo.of V,ra S ?_ h⟩;unfold cutD iZ;rw [Z.length];exact (Z.drop _).take _
 ·exact h.elim
def mJ (he:PE X e (tE X.K Ξ f)) (hl:PO X lo (tP X.K Ξ fl)) (hu:PO X hi (tP X.K Ξ fh)):PE X (.Subscript e (.Slice lo hi none p2) pos) (tE X.K Ξ (cY f fl fh)) :=
 bY (Ku N1 he hl hu) fun σ H Q V=>by
  obtain ⟨w,env,U,S,Z,h⟩:=V;subst U;exact ⟨w,env,rfl,S,Z,(Out.aj h).mono fun T d Y R P v O=>⟨T,env,rfl,R,Z.le Y,(Out.aj P).mono fun N i W M L=>⟨N,env,rfl,M,Z.le (Y.trans W),(Out.aj L).mono fun J j I G F=>⟨J,d,rfl,G,(W.trans I) _ _ O,F⟩⟩⟩⟩
def mK (d x:D) (s:aa):Res D:=match d with
 | .ay k=>match s[k]? with
  |some (.lst Z)=>if decide (Z.length<Ø)=true then ok .aq (s.set k (.lst (Z++[x]))) else none
  |_=>none
 |_=>none
def lB (d:D) (s:aa):Bool:=match d with
 | .ay k=>match s[k]? with
  |some (.lst _)=>true
  |_=>false
 |_=>false
def oT (f g:Wh D):Wh D:=fun env s=>aj (f env s) fun d s=>if lB d s=true then aj (g env s) fun x s=>mK d x s else none
def Mr (S:aD K w) (dv:DV K w d v) (h:lB d w.aw=true):∃k a ds xs,d=.ay k/\v=.ref a/\w.ρ[k]?=some a/\w.aw[k]?=some (.lst ds)/\w.H a=some (.lst xs)/\ak K w ds xs:=by
 unfold lB at h;split at h
 ·rename_i k
  split at h
  ·rename_i ds Z
   obtain ⟨a,e1,rfl⟩:=dv;obtain ⟨xs,Y,X⟩:=S.cell k a _ e1 Z;exact ⟨k,a,ds,xs,rfl,rfl,e1,Z,Y,X⟩
  ·cases h
 ·cases h
def N2 (S:aD K w) (dv:DV K w d v) (du:DV K w y u) (h:Out K Ξ w (mK d y w.aw) q):∃a xs,v=.ref a/\w.H a=some (.lst xs)/\xs.length<Ø/\∃w',w'.H=upd w.H a (.lst (xs++[u]))/\q w' .aq:=by
 unfold mK at h;split at h
 ·rename_i k
  split at h
  ·rename_i Z Y
   split at h
   ·rename_i V
    obtain ⟨a,e1,rfl⟩:=dv;obtain ⟨xs,U,X⟩:=S.cell k a _ e1 Y;have W:(Cell.lst Z)≠.dead:=by intro z;cases z
    have le:=(Fw.put (K:=K) (o:=.lst (xs++[u])) (c:=.lst (Z++[y])) S e1 Y W).le;refine ⟨a,xs,rfl,U,by rw [<- X.length];exact ĕ V,w.put k a (.lst (xs++[u])) (.lst (Z++[y])),rfl,?_⟩;exact h _ le (S.ze e1 Y W ⟨_,bO,le.all (X.append (ak.one du))⟩) rfl
   ·exact h.elim
  ·exact h.elim
 ·exact h.elim
def yD {o:ę} {apos bh:Pos} (ho:PE X o (tE X.K Ξ f)) (ha:PE X a (tE X.K Ξ g))
  (mi:Ve o "append" X.env (ĺ o X.env)=ĺ o X.env:=by rfl)
  (mG:((į bh (Ê [a] X.env)).all (fun x=>!x.1)&&(backToKw bh (ς [] X.env)).all (fun x=>x.1.isSome)
   && decide (([a]:List ę).length+([]:List Vt).length+(if ([]:List Vt).isEmpty then 0 else 1)<30))=true:=by rfl)
  (mj:(apos.endLine==bh.line)=true:=by rfl) (hs:Ê [a] X.env=(false,ĺ a X.env)::Ê [] X.env:=by rfl) (iQ:(į bh (Ê [] X.env)).any (·.1)=false:=by rfl) :
  PE X (.Call (.Attribute o "append" apos) [a] [] bh) (tE X.K Ξ (oT f g)) :=
 bY (yx Vm PySem.F.slot_list_append PySem.F.type_list_append JC ho (gv ha js hs) mi mG mj hs iQ) fun σ H Q T=>by
  obtain ⟨w,env,Z,S,W,h⟩:=T;subst Z;refine ⟨w,env,rfl,S,W,(Out.aj h).mono fun R d P V Y v U=>?_⟩;split at Y
  ·rename_i O
   obtain ⟨k,p,t,N,rfl,rfl,e1,e2,M,s⟩:=Mr V U O;refine ⟨.inl ⟨rfl,N,bo.of M⟩,R,env,rfl,V,W.le P,(Out.aj Y).mono fun r y L J I u G=>?_⟩;obtain ⟨E,D,C,B,A,q,Z,z⟩:=N2 J (L _ _ U) G I;refine ⟨E,D,u,C,rfl,B,A,?_⟩;rw [<- Z];exact z _ rfl
  ·exact Y.elim
def il (d i x:D) (s:aa):Option aa:=match d,i with
 | .ay k,.int n=>match s[k]? with
  |some (.lst Z)=>(eR Z.length n).map fun j=>s.set k (.lst (Z.set j x))
  |_=>none
 |_,_=>none
def lC (f o i:Wh D):Wh Fl:=fun env s=>aj (f env s) fun x s=>aj (o env s) fun d s=>aj (i env s) fun n s=>match il d n x s with
 |some Z=>ok (.nx env) Z
 |none=>none
def N3 (S:aD K w) (dv:DV K w d v) (dn:DV K w i n) (du:DV K w x u) (h:il d i x w.aw=some s'):∃a xs k j,v=.ref a/\n=.int k/\w.H a=some (.lst xs)/\eR xs.length k=some j/\∃w',w'.H=upd w.H a (.lst (xs.set j u))/\w'.aw=s'/\Le K w w'/\aD K w':=by
 unfold il at h;split at h
 ·rename_i k m
  split at h
  ·rename_i Z Y
   cases X:eR Z.length m with
   |none=>rw [X] at h;cases h
   |some j =>
    rw [X] at h;cases h;obtain ⟨a,e1,rfl⟩:=dv;obtain ⟨xs,U,W⟩:=S.cell k a _ e1 Y;have V:(Cell.lst Z)≠.dead:=by intro z;cases z
    have le:=(Fw.put (K:=K) (o:=.lst (xs.set j u)) (c:=.lst (Z.set j x)) S e1 Y V).le;exact ⟨a,xs,m,j,rfl,dn,U,by rw [<- W.length];exact X,w.put k a (.lst (xs.set j u)) (.lst (Z.set j x)),rfl,rfl,le,S.ze e1 Y V ⟨_,bO,le.all (W.set du j)⟩⟩
  ·cases h
 ·cases h
def yE (he:PE X e (tE X.K Ξ f)) (ho:PE X o (tE X.K Ξ fo)) (hi:PE X i (tE X.K Ξ fi))
 (ha:∀v,Vo (.Subscript o i mL) X.env v=(do
   let ov <- U9 [v] (ĺ o X.env)
   let iv <- U9 [v,ov] (ĺ i X.env)
   VU mL
   U9 [v,ov,iv] (setItem ov iv v)
   release [v,ov,iv] []):=by intro _;rfl)
 (hs:VR [.Subscript o i mL] e pos.line X.env=pure false:=by rfl) (hw:VS [.Subscript o i mL] e X.env=pure none:=by rfl)
 (h1:(œ [.Subscript o i mL] X.env).map (·.2)=[Vo (.Subscript o i mL) X.env]:=by rfl):PS X (.Assign [.Subscript o i mL] e pos) (tS X.K Ξ (lC f fo fi)) :=
 iR (Du he (Ni ho hi set_list ha) hs hw h1) fun t σ H Q=>by
  obtain ⟨w,env,W,S,Z,h⟩:=Q;subst W;refine ⟨w,env,rfl,S,Z,(Out.aj h).mono fun P x V O h1 u N=>?_⟩;refine ⟨P,env,rfl,O,Z.le V,(Out.aj h1).mono fun M d U L J v I=>?_⟩;refine ⟨M,env,rfl,L,Z.le (V.trans U),(Out.aj J).mono fun G n T F Y m E=>?_⟩
  cases R:il d n x G.aw with
  |none=>rw [R] at Y;exact Y.elim
  |some s =>
   rw [R] at Y;obtain ⟨a,D,k,j,e1,e2,C,B,A,W,z,le,y⟩:=N3 F (T _ _ I) E ((U.trans T) _ _ N) R;refine ⟨a,D,k,j,e1,e2,C,B,?_⟩;rw [<- W];exact Y A le y z σ (Z.le (V.trans (U.trans (T.trans le))))
end
def kd (d:D) (s:aa):Option Kn:=match res d s with
 | .aq=>some .aq
 | .bl _=>some .bl
 | .int _=>some .int
 | .str _=>some .str
 | .tup _=>some .tup
 | .lst _=>some .lst
 | .aV _=>some .aV
 |_=>none
def Ez (S:aD K w) (h:DV K w d v) (e:kd d w.aw=some k):lH K w.H v k:=by
 unfold kd at e
 split at e<;>rename_i e1<;>first | (cases e;done) | (try cases e)
 ·rw [cM e1 (by intro _ z;cases z)] at h;cases h;trivial
 ·rw [cM e1 (by intro _ z;cases z)] at h;cases h;trivial
 ·rw [cM e1 (by intro _ z;cases z)] at h;cases h;trivial
 ·rw [cM e1 (by intro _ z;cases z)] at h;cases h;trivial
 ·rw [cM e1 (by intro _ z;cases z)] at h
  simp only [DV] at h;obtain ⟨a,Y,rfl,Z,_⟩:=h;exact ⟨Y,Z⟩
 ·obtain ⟨a,Y,rfl,Z,_⟩:=jq S h e1
  exact ⟨Y,bo.of Z⟩
 ·rw [cM e1 (by intro _ z;cases z)] at h
  simp only [DV] at h;obtain ⟨a,rfl,_,Z⟩:=h;exact ⟨_,Z⟩
noncomputable def EA (T:String):Bool:=T=="int"||T=="bool"||T=="str"||T=="tuple"||T=="list"
def bw (ds:List D) (s:aa):Res D:=match ds with
 | [d,.ty T]=>if EA T=true then bI ((kd d s).map fun k=>.bl (oH k T)) s else none
 |_=>none
section
variable {X:Cx} {Ξ:Wd->aW->Prop} {e a b:ę} {es:List ę} {pos:Pos} {f g:Wh D} {fa:Wh (List D)}
def fO:bQ X (.builtin "isinstance") (rC X.K Ξ bw):=by
 rintro Z s σ H M Y Q I r ⟨w,L,rfl,S,R,h⟩;unfold bw at h;split at h
 ·rename_i d T
  obtain ⟨v,u,rfl,P,O⟩:=qo R;have N:u=.ty T:=O;subst N;split at h
  ·rename_i U
   obtain ⟨J,e,h⟩:=dH h
   cases V:kd d w.aw with
   |none=>rw [V] at e;cases e
   |some k =>
    rw [V] at e;cases e;have W:=Ez S P V;simp only [EA,V0,beq_iff_eq] at U
    rcases U with (((rfl|rfl)|rfl)|rfl)|rfl
    ·exact Hw Z s σ w.H _ Y Q I r ⟨v,k,rfl,W,az S h _ rfl⟩
    ·exact Hl Z s σ w.H _ Y Q I r ⟨v,k,rfl,W,az S h _ rfl⟩
    ·exact Hx Z s σ w.H _ Y Q I r ⟨v,k,rfl,W,az S h _ rfl⟩
    ·exact He Z s σ w.H _ Y Q I r ⟨v,k,rfl,W,az S h _ rfl⟩
    ·exact Hm Z s σ w.H _ Y Q I r ⟨v,k,rfl,W,az S h _ rfl⟩
  ·exact h.elim
 ·exact h.elim
def fT (hv:ì x=some (.type T)) (hg:Gl X x) (hm:X.mg x=none) (hn:x≠"__name__":=by decide) (hd:(x==("__debug__":Str))=false:=by decide):PE X (.Name x pos) (tE X.K Ξ (eC (.ty T))):=oi (v:=.ty T) (tL hg hm hv rfl hn hd) fun _=>rfl
def vw (g:∃t,X.mg x=some (.int i t)) (hg:Gl X x) (hd:(x==("__debug__":Str))=false:=by decide):PE X (.Name x pos) (tE X.K Ξ (eC (.int i))):=by
 obtain ⟨t,e⟩:=g;exact oi (v:=.int i) (xp hg e ⟨t,rfl⟩ hd) fun _=>rfl
def oU (d:D) (s:aa):Res D:=bI ((kd d s).map fun k=>.bl (decide (k=.tup)||decide (k=.lst))) s
def Ms {x1} (ha:PE X a (tE X.K Ξ f)) (hg:Gl X "isinstance") (hm:X.mg "isinstance"=none) (hv:ì "isinstance"=some (.builtin "isinstance")) (h1:PE X (.Name "tuple" p1) (tC (.ty "tuple"))) (h2:PE X (.Name "list" p2) (tC (.ty "list")))
 (he:Ê (a::[.Tuple [.Name "tuple" p1,.Name "list" p2] x1 p3]) X.env=(false,ĺ a X.env)::Ê [.Tuple [.Name "tuple" p1,.Name "list" p2] x1 p3] X.env:=by rfl) :
  PE X (.Call (.Name "isinstance" p) [a,.Tuple [.Name "tuple" p1,.Name "list" p2] x1 p3] [] pos) (tE X.K Ξ (e1 oU f)) :=
 bY (tB HW hg hm hv (gv ha (gv (Kw (gv h1 (gv h2 js))) js) he) (by decide) (by decide) he) fun σ H Q T=>by
  obtain ⟨w,env,R,S,P,h⟩:=T;subst R;refine ⟨w,env,rfl,S,P,(Out.aj h).mono fun Y d M O h1 v N=>?_⟩;refine ⟨["tuple","list"],rfl,(by show 2<=Ø;decide),fun p W=>?_⟩;obtain ⟨L,e,h1⟩:=dH h1
  cases Z:kd d Y.aw with
  |none=>rw [Z] at e;cases e
  |some k =>
   rw [Z] at e;cases e;have V:=O.grow (o:=.ext (oh p ["tuple","list"])) W;have U:=(Fw.grow (K:=X.K) (o:=.ext (oh p ["tuple","list"])) W).le;exact ⟨v,k,p,rfl,Ez (w:=Y.grow p _) V (U _ _ N) Z,bO,h1 _ U V rfl _ rfl⟩
def u0 (d:D):Bool:=plain d&&(py d).showable&&(!(py d).hasDict||(match py d with | .tuple Z=>ie Z | .dict _=>true | _=>false))&&decide ((py d).depth<=100)&&decide ((py d).shown.length<=Ø)
def qM (ds:List D) (s:aa):Res D:=match ds with
 | [d]=>if u0 (res d s)=true then ok (.str (py (res d s)).shown) s else none
 |_=>none
def DQ (hr:bg k X.A):bQ X (.builtin "repr") (rC X.K Ξ qM):=by
 rintro Z s σ H G Y Q I r ⟨w,F,rfl,S,N,h⟩;unfold qM at h;split at h
 ·rename_i d
  obtain ⟨v,rfl,M⟩:=nY N;split at h
  ·rename_i R
   simp only [u0,Ë,Ú] at R;obtain ⟨⟨⟨⟨L,W⟩,O⟩,V⟩,U⟩:=R;have T:=M.res S L;have fin:=az S h _ rfl;generalize E:py (res d w.aw)=P at *
   cases P with
   |tuple J =>
    refine IL hr Z s σ w.H _ Y Q I r ⟨v,J,_,rfl,T,W,?_,V,U,fin⟩;simpa using O
   |dict D=>exact B5 hr Z s σ w.H _ Y Q I r ⟨v,_,_,rfl,T,W,.inr rfl,V,U,fin⟩
   |_ =>
    refine B5 hr Z s σ w.H _ Y Q I r ⟨v,_,_,rfl,T,W,.inl ?_,V,U,fin⟩;simpa using O
  ·exact h.elim
 ·exact h.elim
noncomputable def my:List D->Option (List Int)
 | []=>some []
 | .int i::Z=>(my Z).map fun r=>i::r
 |_::_=>none
theorem Cz:∀{ds:List D} {ns:List Int},my ds=some ns->ds=ns.map D.int
 | [],ns,h=>by cases h;rfl
 | .int b::ds,ns,h=>by
  simp only [my] at h
  cases Z:my ds with
  |none=>rw [Z] at h;cases h
  |some r=>rw [Z] at h;cases h;rw [Cz Z];rfl
 | .aq::_,_,h=>by cases h
 | .bl _::_,_,h=>by cases h
 | .str _::_,_,h=>by cases h
 | .tup _::_,_,h=>by cases h
 | .lst _::_,_,h=>by cases h
 | .aV _::_,_,h=>by cases h
 | .ay _::_,_,h=>by cases h
 | .ty _::_,_,h=>by cases h
 | .bu _::_,_,h=>by cases h
 | .exc _::_,_,h=>by cases h
 | .cg _ _ _::_,_,h=>by cases h
def JS:my (ns.map D.int)=some ns:=by
 induction ns with
 |nil=>rfl
 |cons b bs ih=>simp only [ç,my,ih,Vg]
noncomputable def jI (i:Int):List Int->List Int
 | []=>[i]
 |j::r=>if i<j then i::j::r else if i=j then j::r else j::jI i r
def dQ:List Int->List Int
 | []=>[]
 |i::r=>jI i (dQ r)
theorem xg:∀{l:List Int},k∈jI i l↔k=i\/k∈l
 | []=>by simp [jI]
 |j::r=>by
  unfold jI;split
  ·simp
  ·split
   ·rename_i h;subst h;simp
   ·rw [Ö,xg,Ö]
    constructor
    ·rintro (h|h|h)
     ·exact .inr (.inl h)
     ·exact .inl h
     ·exact .inr (.inr h)
    ·rintro (h|h|h)
     ·exact .inr (.inl h)
     ·exact .inl h
     ·exact .inr (.inr h)
theorem BE:∀{l:List Int},l.Pairwise (· < ·)->(jI i l).Pairwise (· < ·)
 | [],_=>by simp [jI]
 |j::r,h=>by
  obtain ⟨Z,Y⟩:=Ğ.mp h;unfold jI;split
  ·rename_i X
   refine Ğ.mpr ⟨fun k hk=>?_,h⟩
   rcases Ö.mp hk with rfl|hk
   ·exact X
   ·have:=Z k hk;omega
  ·split
   ·exact h
   ·refine Ğ.mpr ⟨fun k hk=>?_,BE Y⟩
    rcases xg.mp hk with rfl|hk
    ·omega
    ·exact Z k hk
theorem sY:∀{l:List Int},k∈dQ l↔k∈l
 | []=>by simp [dQ]
 |i::r=>by simp [dQ,xg,sY]
theorem wy:∀(l:List Int),(dQ l).Pairwise (· < ·)
 | []=>List.Pairwise.nil
 |i::r=>BE (wy r)
theorem Bu:∀{l m:List Int},l.Pairwise (· < ·)->m.Pairwise (· < ·)->(∀k,k∈l↔k∈m)->l=m
 | [],[],_,_,_=>rfl
 | [],j::m,_,_,h=>by have:=(h j).mpr Ô;cases this
 |i::l,[],_,_,h=>by have:=(h i).mp Ô;cases this
 |i::l,j::m,W,V,h=>by
  obtain ⟨Y,U⟩:=Ğ.mp W;obtain ⟨X,T⟩:=Ğ.mp V;have e:i=j:=by
   rcases Ö.mp ((h i).mp Ô) with e|e
   ·exact e
   ·rcases Ö.mp ((h j).mpr Ô) with e'|e'
    ·exact e'.symm
    ·have:=X i e;have:=Y j e';omega
  subst e;congr 1;refine Bu U T fun k=>?_;constructor
  ·intro Z
   rcases Ö.mp ((h k).mp (Ï _ Z)) with e|e
   ·subst e;have:=Y k Z;omega
   ·exact e
  ·intro Z
   rcases Ö.mp ((h k).mpr (Ï _ Z)) with e|e
   ·subst e;have:=X k Z;omega
   ·exact e
def JT (l:List Int):(dQ l).length<=l.length:=by
 induction l with
 |nil=>exact Wl _
 |cons x l ih =>
  have:(dQ (x::l)).length<=(dQ l).length+1:=by
   show (jI x (dQ l)).length<=_;generalize dQ l=m
   induction m with
   |nil=>exact Wl _
   |cons y m Z =>
    unfold jI;split
    ·simp
    ·split
     ·simp
     ·simp only [Ý];omega
  simp only [Ý];omega
def K5 (ns:List Int):(ns.foldl PyProof.Rows.step_dedup []).length<=(dQ ns).length:=sub_len (wB ns [] List.nodup_nil) fun k Z=>sY.mpr ((Cd ns k).mp Z)
def qa (d:D) (s:aa):Res D:=match d with
 | .lst Y=>match my Y with
  |some Z=>if decide ((dQ Z).length<64)=true then ok (.lst ((dQ Z).map D.int)) s else none
  |none=>none
 |_=>none
def IT {p p2 vz:Pos} (ha:PE X a (tE X.K Ξ f)) (hc:X.calm=true) (hg:Gl X "sorted") (hm:X.mg "sorted"=none) (hv:ì "sorted"=some (.builtin "sorted")) (R6:Gl X "set") (R7:X.mg "set"=none) (R8:ì "set"=some (.type "set"))
  (he:Ê [a] X.env=(false,ĺ a X.env)::Ê [] X.env:=by rfl) (aQ:(į vz (Ê [] X.env)).any (·.1)=false:=by rfl)
  (Gm:Ê [.Call (.Name "set" p2) [a] [] vz] X.env=(false,ĺ (.Call (.Name "set" p2) [a] [] vz) X.env)::Ê [] X.env:=by rfl) (QZ:(į pos (Ê [] X.env)).any (·.1)=false:=by rfl) :
  PE X (.Call (.Name "sorted" p) [.Call (.Name "set" p2) [a] [] vz] [] pos) (tE X.K Ξ (e1 qa f)) :=
 bY (tB (Hz hc) hg hm hv (gv (B1 (IK hc) R6 R7 R8 (gv ha js he) (by decide) (by decide) he aQ) js Gm) (by decide) (by decide) Gm QZ) fun σ H Q J=>by
  obtain ⟨w,env,I,S,G,h⟩:=J;subst I;refine ⟨w,env,rfl,S,G,(Out.aj h).mono fun U d z F W v P=>?_⟩;unfold qa at W;split at W
  ·rename_i y
   split at W
   ·rename_i Y E
    split at W
    ·rename_i T
     have T:=ĕ T;simp only [DV] at P;obtain ⟨p,x,rfl,O,N⟩:=P;rw [Cz E] at N;rw [N.Ct] at O;have D:=Nat.lt_of_le_of_lt (K5 Y) T;refine ⟨p,Y,rfl,O.sq,by omega,fun q M=>?_⟩;refine ⟨q,Y,rfl,bO,D,fun l u C B A=>?_⟩;have e:=Bu B (wy Y) fun k=>(A k).trans sY.symm;subst e;have R:(U.grow q (.ext (jH X.prog X.w q Y))).H l=none:=C;have L:=F.grow (o:=.ext (jH X.prog X.w q Y)) M;exact W ((U.grow q (.ext (jH X.prog X.w q Y))).grow l (.lst ((dQ Y).map V.int))) ((Fw.grow M).le.trans (Fw.grow R).le) (L.grow R) rfl (.ref l) ⟨l,_,rfl,⟨(show ¬ (U.grow q (.ext (jH X.prog X.w q Y))).Z l from j6 L R),bO⟩,ak.ints _⟩
    ·exact W.elim
   ·exact W.elim
  ·exact W.elim
def oV (i j:Nat) (fa:Wh (List D)):Wh Fl:=fun env s=>aj (fa env s) fun Z s=>match Z with
 | [x,y]=>ok (.nx ((env.set i (some x)).set j (some y))) s
 |_=>none
def xZ (i j:Nat) {x y:Str} {px py pt:Pos} {kt k2 mT} (hc:X.calm=true) (hN:X.N.Nodup) (ha:PA X [a,b] (tA X.K Ξ fa)) (hi:X.N[i]?=some x:=by rfl) (hj:X.N[j]?=some y:=by rfl) (ku:i≠j:=by decide)
  (hx:X.env.scope.names.lookup x=some .local:=by rfl) (hy:X.env.scope.names.lookup y=some .local:=by rfl)
  (hw:VS [.Tuple [.Name x px,.Name y py] kt pt] (.Tuple [a,b] k2 mT) X.env=pure (some [x,y]):=by rfl)
  (hs:VR [.Tuple [.Name x px,.Name y py] kt pt] (.Tuple [a,b] k2 mT) pos.line X.env=pure false:=by rfl) :
  PS X (.Assign [.Tuple [.Name x px,.Name y py] kt pt] (.Tuple [a,b] k2 mT) pos) (tS X.K Ξ (oV i j fa)):=iR (Nk hc hN hi hj ku hx hy ha hw hs) fun O σ H W=>by
 obtain ⟨w,env,V,S,Y,h⟩:=W;subst V;refine ⟨w,env,rfl,S,Y,(Out.aj h).mono fun M L U T Z J R=>?_⟩;split at Z
 ·obtain ⟨v,u,rfl,Q,P⟩:=qo R
  exact ⟨v,u,rfl,az T Z _ (((Y.le U).set Q i).set P j)⟩
 ·exact Z.elim
end
end DI
namespace L2
open PySem PySem.Spec PyProof.Rows
structure DS (Y:Cx) (D:Ó) (π:List (Ó×Obj)):Prop where
 loc:D≠Y.env.locals
 fs:D∉Y.fs
 new:Y.bR.heap.objs.size<=D
 cell:∀x c,Y.env.cells.lookup x=some c->c≠D
 pin:∀p∈Y.pn++π,p.1≠D
structure nh (Y:Cx) (D:Ó) (nt:Nat) (caps:St) (π:List (Ó×Obj)) (o:St) (H:Hp) (s:Ã) (acc:List V):Prop where
 inv:Inv Y π (o++caps) H s
 len:o.length=nt
 lst:∃ys,s.heap.PlainList D ys/\Vals acc ys.toList
 free:H D=none
 kE:acc.length<=Ø
abbrev i8:=St->Hp->List V->(St->List V->Hp->Prop)->Prop
def rj (Y:Cx) (D:Ó) (nt:Nat) (caps:St) (c:Code) (m:Sem PySem.Fin) (ta:i8):Prop :=
 ∀(X:List (Ó×Obj)) (o:St) (H:Hp) (s:Ã) (Z:List V) (Q:St->List V->Hp->Prop),DS Y D X->nh Y D nt caps X o H s Z->ta (o++caps) H Z Q ->
  Ù (ß Y.prog Y.w) Y.A m (fun fn S=>fn=.again c/\∃W U T,nh Y D nt caps X W U S T/\Q (W++caps) T U) (fun _ _=>False) s
def CA (J:It) (g:TG) (tf:TT) (ta:i8) (τ:St) (acc:List V) (H:Hp) (Q:St->List V->Hp->Prop):Prop:=∃W:Nat->Nat->St->List V->Hp->Prop,(∃m,W 0 m τ acc H) /\
 ∀i m τ acc Z,W i m τ acc Z->(J.stop i Z/\Q τ acc Z) \/
  (J.go i Z/\∃N:St->List V->Hp->Prop,(∀ X U T,N X U T->∃S,S < m/\W (i+1) S X U T) /\
   ∀x R,J.rJ i Z x R->g x τ R fun Y O=>tf Y O fun b P=>if b=true then ta Y P acc N else N Y acc P)
def EB (te:TE):i8:=fun Y H Z Q=>Z.length+1<=Ø/\te Y H fun v X=>Q Y (Z++[v]) X
def EC (wi:TI) (g:TG) (tf:TT) (ta:i8):i8:=fun Y H Z Q=>wi Y H fun J X=>CA J g tf ta Y Z X Q
section
variable {Y:Cx} {D:Ó} {nt:Nat} {caps:St}
def DS.obj (ds:DS Y D π) (B:nh Y D nt caps π o H s acc):∃oD ys nn,s.heap.get? D=some oD/\oD={ cls:=.type "list",data:=.seq ys nn }/\Vals acc ys.toList/\Inv Y (π++[(D,oD)]) (o++caps) H s:=by
 obtain ⟨ys,⟨nn,Z⟩,X⟩:=B.lst;refine ⟨_,ys,nn,Z,rfl,X,B.inv.gu fun p W=>?_⟩
 rcases æ.mp W with z|z
 ·exact B.inv.pin p (Å _ z)
 ·have e:p=(D,{ cls:=.type "list",data:=.seq ys nn }):=by simpa using z
  subst e;exact ⟨Z,B.free,ds.loc,ds.fs,fun v z=>by cases z⟩
def K6 (hx:Y.xe=fun _ _=>False) (hE:PE Y el te):rj Y D nt caps c ((do let _ <- call (.builtin "list.append") [.ref D,<- ĺ el Y.env]:Sem Unit) >>= fun _=>again c) (EB te):=by
 intro S o H s W Q Z B h;obtain ⟨O,h⟩:=h;obtain ⟨N,V,nn,u,M,R,I⟩:=Z.obj B;have q:=hE _ s _ H _ I h;rw [hx] at q;refine À (À (aA q fun y X L=>?_));obtain ⟨v,U,P,K,J⟩:=L;have T:=P.pin (D,N) (Å _ (Å _ (by simp)));have G:X.heap.PlainList D V:=⟨nn,by rw [<- M];exact T.1⟩;have F:V.size<=Ø:=by
  have e:=R.length;simp only [Ā] at e;omega
 refine À (wpAny_list_append_plain (hsz:=F) G fun E C A=>Â (Â ⟨rfl,?_⟩));have z:Inv Y S (o++caps) U X:=P.iN
 have x:Inv Y S (o++caps) U { X with heap:=E,toks:=X.toks }:=z.turned (it:=D) (fun b o w e=>(A.2 b w).trans e) T.2.1 Z.loc (.inr Z.new) Z.cell Z.pin
 refine ⟨o,U,W++[v],⟨x,B.len,⟨V.push y,C,?_⟩,T.2.1,by rw [ä];simpa using O⟩,J⟩;rw [Vz];exact Vals.append R (.cons K .nil)
def BN (hx:Y.xe=fun _ _=>False) (hc:Y.calm=true)
 (T:Turn Y.prog Y.w Y.K tg J fp it tn) (Sa:tn 0 s.heap) (hf:∀b∈fp,cx Y π H b) (kH:D∉fp) (hG:PG Y tg g) (eU:kC g nt) (hF:PF Y tests tf) (hA:rj Y D nt caps (.compLoop e d (.ref it) (.ref D) Y.env) act ta) (ds:DS Y D π) (B:nh Y D nt caps π o H s acc) (hq:(Code.compLoop e d (.ref it) (.ref D) Y.env).quiet=true)
 (Q0:∀(M:Model) (A:ó) (Q':Fin->Ã->Prop) (E':Ä->Ã->Prop) (s':Ã),Ù (ß Y.prog Y.w) A (compTurn e d (.ref it) (.ref D) Y.env) Q' (fun _ _=>False) s'->Ù (ß Y.prog Y.w) (A.under (.compLoop e d (.ref it) (.ref D) Y.env)) ((ß Y.prog Y.w).den (.compLoop e d (.ref it) (.ref D) Y.env)) Q' E' s')
 (ht:compTurn e d (.ref it) (.ref D) Y.env=(do
   VU p0
   match <- Ŕ (.ref it) with
   |none=>pure (.done .next)
   |some v =>
    ł tg (.ref it) v
    Vo tg Y.env v
    let mut ok:=true
    for c in tests do
     if ok then ok <- isTrue c Y.env (ĺ c Y.env)
    if ok then act else again (.compLoop e d (.ref it) (.ref D) Y.env)))
 (h:CA J g tf ta (o++caps) acc H Q) :
  Ŭ (ß Y.prog Y.w) Y.A (.compLoop e d (.ref it) (.ref D) Y.env) (fun r s'=>r=.ok .next/\∃o' H' gG,nh Y D nt caps π o' H' s' gG/\Q (o'++caps) gG H') s:=by
 obtain ⟨W,⟨m0,w0⟩,turn⟩:=h;have F:∀{H':Hp} {pl:List (Ó×Obj)},(∀b∈fp,H' b=none)->(∀p∈pl,p.1∉fp)->∀b∈fp,cx Y (π++pl) H' b:=fun {H' pl} hn X b Z=>by
  obtain ⟨_,f1,ni,f3,f4,f5⟩:=hf b Z;refine ⟨hn b Z,f1,ni,f3,f4,fun p su=>?_⟩
  rcases æ.mp su with z|z
  ·exact f5 p (ù _ z)
  ·rcases æ.mp z with z|z
   ·exact f5 p (Å _ z)
   ·exact fun e=>X p z (e ▸ Z)
 refine codeAny_loop hq (fun n s'=>∃i acc o H',nh Y D nt caps π o H' s' acc/\tn i s'.heap/\(∀b∈fp,H' b=none)/\W i n (o++caps) acc H') (fun n s3 hJ=>?_) m0 ⟨0,acc,o,H,B,Sa,fun b Z=>(hf b Z).1,w0⟩;obtain ⟨i,acc,o3,O,U,eQ,lF,w3⟩:=hJ;refine Q0 (ß Y.prog Y.w) _ _ _ _ ?_;rw [ht];obtain ⟨N,L,nn,ho,eo,E,sv⟩:=ds.obj U;have C:∀p∈[(D,N)],p.1∉fp:=fun p X=>by
  have e:p=(D,N):=by simpa using X
  subst e;exact kH
 have pJ:∀{pl:List (Ó×Obj)} {R:St} {H':Hp} {s':Ã},Inv Y (π++[(D,N)]++pl) R H' s'->s'.heap.PlainList D L/\H' D=none:=fun {pl R H' s'} I=>by
  have q:=I.pin (D,N) (Å _ (ù _ (Å _ (by simp))));exact ⟨⟨nn,by rw [<- eo];exact q.1⟩,q.2.1⟩
 refine À (Ō (À ?_))
 rcases turn i n _ acc O w3 with ⟨stop,q⟩ | ⟨go,N',hN,step⟩
 ·have y:=T.done Y rfl rfl rfl hc i _ s3 _ O (fun _ _=>False) sv (F lF C) eQ stop
  refine aA y fun r s4 P=>?_;obtain ⟨t,I4⟩:=P;subst t;obtain ⟨Aq,n4⟩:=pJ (pl:=[]) (by simpa using I4);exact Â ⟨rfl,o3,O,acc,⟨I4.iN,U.len,⟨L,Aq,E⟩,n4,U.kE⟩,q⟩
 ·have y:=T.item Y rfl rfl rfl hc i _ s3 _ O (fun _ _=>False) sv (F lF C) eQ go
  refine aA y fun r s4 P=>?_;obtain ⟨u,t,P⟩:=P;subst t;refine À (aA P fun _ s5 h5=>?_);obtain ⟨x,m,I5,r5,y5,l,rM⟩:=h5;have rN:=I5.pinned (F rM C) (T.obj _ _ l);have q5:=hG _ s5 _ m x u _ rN r5 (eU x o3 _ m _ U.len (step x m y5));rw [hx] at q5;refine À (aA q5 fun _ s6 h6=>?_);obtain ⟨pK,H6,I6,⟨k,sx,vA⟩,q6⟩:=h6;have V:=hF _ s6 pK H6 _ I6 q6;rw [hx] at V;refine À (aA V fun b s7 h7=>?_);obtain ⟨j,G,V⟩:=h7;subst vA;obtain ⟨vZ,n7⟩:=pJ G;have f:Inv Y (π++kR fp s5.heap) (k++caps) j s7:=G.gu fun p X=>by
   rcases æ.mp X with z|z
   ·exact G.pin p (Å _ (ù _ (ù _ z)))
   ·exact G.pin p (Å _ (Å _ z))
  have rl:∀{R:St} {H':Hp} {s':Ã},Inv Y (π++kR fp s5.heap) R H' s'->tn (i+1) s'.heap/\∀b∈fp,H' b=none:=fun {R H' s'} I=>by
   refine ⟨T.keep _ _ _ l fun b Z o e=>(I.pin (b,o) (Å _ (Å _ (nE Z e)))).1,fun b Z=>?_⟩;obtain ⟨o,e,_⟩:=T.obj _ _ l b Z;exact (I.pin (b,o) (Å _ (Å _ (nE Z e)))).2.1
  cases b with
  |false =>
   rw [ú Ñ] at V;obtain ⟨a,hm,w7⟩:=hN _ _ _ V;obtain ⟨t7,f7⟩:=rl f;exact Â ⟨rfl,a,hm,i+1,acc,k,j,⟨f.iN,sx,⟨L,vZ,E⟩,n7,U.kE⟩,t7,f7,w7⟩
  |true =>
   rw [ê rfl] at V;have As:DS Y D (π++kR fp s5.heap):=⟨ds.loc,ds.fs,ds.new,ds.cell,fun p X=>by
    rcases æ.mp X with z|z
    ·exact ds.pin p (ù _ z)
    ·rcases æ.mp z with z|z
     ·exact ds.pin p (Å _ z)
     ·exact fun e=>kH (e ▸ (BW z).1)⟩
   refine aA (hA _ k j s7 acc N' As ⟨f,sx,⟨L,vZ,E⟩,n7,U.kE⟩ V) fun fn s8 h8=>?_;obtain ⟨Sb,o8,H8,Q2,S,q8⟩:=h8;subst Sb;obtain ⟨a,hm,w8⟩:=hN _ _ _ q8;obtain ⟨t8,f8⟩:=rl S.inv;exact ⟨rfl,a,hm,i+1,Q2,o8,H8,⟨S.inv.iN,S.len,S.lst,S.free,S.kE⟩,t8,f8,w8⟩
end
def DR (A:ó) (Q':Fin->Ã->Prop) (E':Ä->Ã->Prop) (s':Ã)
 (h:Ù (ß P w) A (compTurn (.ListComp el gens sc ps) d eO av ce) Q' (fun _ _=>False) s'):Ù (ß P w) (A.under (.compLoop (.ListComp el gens sc ps) d eO av ce)) ((ß P w).den (.compLoop (.ListComp el gens sc ps) d eO av ce)) Q' E' s':=by
 show Ù _ A ((compTurn (.ListComp el gens sc ps) d eO av ce).onRaise (fun x=>do noteFrame x ce;theTreesLotGoes x)) _ _ s'
 exact wpAny_noted (ğ h (fun _ _ q=>q) fun _ _ z=>z.elim)
def K7 (hd:gens[d]?=some ⟨target,iter,ifs,0⟩)
 (h0:Ŭ (ß P w) A (.compLoop (.ListComp el gens sc ps) d it acc env) R s)
 (h:Ù (ß P w) A (pyIter it) (fun nk s'=>Ŭ (ß P w) A (.compLoop (.ListComp el gens sc ps) d nk acc env) R s') (fun _ _=>False) s) :
  Ŭ (ß P w) A (.compStart (.ListComp el gens sc ps) d it acc env) R s:=by
 refine codeAny_of_tree ?_
 show Ù _ _ ((compStart (.ListComp el gens sc ps) d it acc env).onRaise (fun x=>do noteFrame x env;VU theWindowsPlace)) _ _ s
 refine wpAny_notedAt ?_;have Z:(clausesOf (.ListComp el gens sc ps))[d]?=some ⟨target,iter,ifs,0⟩:=hd;unfold compStart;rw [Z];show Ù _ _ (ask >>= _) _ _ s;refine À (Ŋ (wpAny_ite ?_));split
 ·first
   |exact À (Â (Â (And.intro rfl h0)))
   |exact Â (And.intro rfl h0)
 ·refine À (Ň ?_)
  show Ù _ _ (VU iter.pos >>= _) _ _ s;exact À (Ō (À (ğ h (fun nk s' Y=>Â (And.intro rfl Y)) fun _ _ x=>x.elim)))
section
variable {Y:Cx} {D:Ó} {nt:Nat} {caps:St}
def K8 {el tg src:ę} {gens:List Comprehension} {sc:ŷ} {ps:Pos} {tests:List ę} {d:Nat} {wi:TI} {g:TG} {tf:TT} {ta:i8} {act:Ó->Sem PySem.Fin} {c:Code} (hx:Y.xe=fun _ _=>False) (hc:Y.calm=true) (hd:gens[d]?=some ⟨tg,src,tests,0⟩)
  (hi:PI Y tg src wi) (hG:PG Y tg g) (eU:kC g nt) (hF:PF Y tests tf) (hA:∀it:Ó,rj Y D nt caps (.compLoop (.ListComp el gens sc ps) d (.ref it) (.ref D) Y.env) (act it) ta)
  (ht:∀it:Ó,compTurn (.ListComp el gens sc ps) d (.ref it) (.ref D) Y.env=(do
   VU src.pos
   match <- Ŕ (.ref it) with
   |none=>pure (.done .next)
   |some v =>
    ł tg (.ref it) v
    Vo tg Y.env v
    let mut ok:=true
    for c in tests do
     if ok then ok <- isTrue c Y.env (ĺ c Y.env)
    if ok then act it else again (.compLoop (.ListComp el gens sc ps) d (.ref it) (.ref D) Y.env)))
  (hs:∀x,þ src Y.env x=pure x) :
  rj Y D nt caps c (do
   let x <- ĺ src Y.env
   VU src.pos
   let x <- þ src Y.env x
   let _ <- runOwn (.compStart (.ListComp el gens sc ps) d (<- U9 [x] (pyIter x)) (.ref D) Y.env) Y.env
   again c) (EC wi g tf ta):=by
 intro X o H s Z Q W B h;obtain ⟨V,M,nn,a,L,K,I⟩:=W.obj B;have q:=hi _ s _ H _ I h;rw [hx] at q;refine À (aA q fun v s1 G=>À (Ō ?_));rw [hs];refine À (Â (À (ą (aA G fun eO F E=>?_))));obtain ⟨it,U,tn,J,S,e,R,T,P,f2,ca⟩:=E;subst e;have O:=R.pin (D,V) (Å _ (Å _ (by simp)));have C:D∉U:=fun z=>(f2 D z).2.2.2.2.2 (D,V) (Å _ (Å _ (by simp))) rfl;have y:∀b∈U,cx Y X S b:=fun b w=>by
  obtain ⟨a1,a2,u,t,n,m⟩:=f2 b w;refine ⟨a1,a2,u,t,n,fun p l=>m p ?_⟩
  rcases æ.mp l with z|z
  ·exact ù _ z
  ·exact Å _ (ù _ z)
 have k:nh Y D nt caps X o S F Z:=⟨R.iN,B.len,⟨M,⟨nn,by rw [<- L];exact O.1⟩,K⟩,O.2.1,B.kE⟩;have loop:=BN (e:=.ListComp el gens sc ps) (d:=d) hx hc T P y C hG eU hF (hA it) W k rfl (fun _ A j i N h=>DR A j i N h) (ht it) ca;refine À (wpAny_runOwn ?_);refine ŝ (K7 hd loop (T.self _ _ _ _ _ P loop)) fun r N f=>?_;obtain ⟨e,q⟩:=f;subst e;exact Â ⟨rfl,q⟩
end
def x6 (wi:TI) (nt:Nat) (cap:List Nat) (g:TG) (tf:TT) (ta:i8):TE:=fun σ H Q=>wi σ H fun J X=>CA J g tf ta (Î nt none++ke cap σ) [] X fun _ Z Y=>∀D,Y D=none->Q (.ref D) (upd Y D (.lst Z))
section
variable {X:Cx}
def K9 {el tg src:ę} {tests:List ę} {rest:List Comprehension} {sc:ŷ} {ps pos pos':Pos} {N:List Str} {nt:Nat} {cap:List Nat} {wi:TI} {g:TG} {tf:TT} {ta:i8} {act:Env->Ó->Ó->Sem PySem.Fin} {i0:Nat} {x0:Str} (nq:X.N.Nodup) (nr:X.N[i0]?=some x0) (nu:Loc X.env.scope x0) (hc:X.calm=true) (S:ui X sc N nt cap) (eU:kC g nt) (hi:PI X tg src wi)
  (hY:∀(cl:List (Str×Ó)) (C:Ó) (s:Ã) (H:Hp) (ex:List Ó) (pn:List (Ó×Obj)),PG (fD X N sc cl C s H ex pn) tg g/\PF (fD X N sc cl C s H ex pn) tests tf/\∀D caps it,rj (fD X N sc cl C s H ex pn) D nt caps (.compLoop (.ListComp el (⟨tg,src,tests,0⟩::rest) sc ps) 0 (.ref it) (.ref D) (compEnvC sc cl C X.env)) (act (compEnvC sc cl C X.env) D it) ta)
  (ht:∀(it D:Ó) (ce:Env),compTurn (.ListComp el (⟨tg,src,tests,0⟩::rest) sc ps) 0 (.ref it) (.ref D) ce=(do
   VU src.pos
   match <- Ŕ (.ref it) with
   |none=>pure (.done .next)
   |some v =>
    ł tg (.ref it) v
    Vo tg ce v
    let mut ok:=true
    for c in tests do
     if ok then ok <- isTrue c ce (ĺ c ce)
    if ok then act ce D it else again (.compLoop (.ListComp el (⟨tg,src,tests,0⟩::rest) sc ps) 0 (.ref it) (.ref D) ce)))
  (hs:∀x,þ src X.env x=pure x:=by intro _;rfl)
  (kJ:VI (.ListComp el (⟨tg,src,tests,0⟩::rest) sc ps) (some (.Name x0 pos')) pos.line X.env=pure true:=by rfl)
  (nv:X.fn x0=true\/X.env.scope.names.lookup x0=some .local:=by first|exact .inl rfl|exact .inr rfl|assumption):PS X (.Assign [.Name x0 pos'] (.ListComp el (⟨tg,src,tests,0⟩::rest) sc ps) pos) (mC (x6 wi nt cap g tf ta) (iV i0)):=by
 intro π s σ H B I h;obtain ⟨cl,yF,f⟩:=DB (env:=X.env) (sc:=sc) fun n t=>I.ok.has n (S.frees _ t rfl).2;rw [exec_Assign_Name_used _ _ _ _ kJ];refine À (Ō (À ?_));obtain ⟨Q,hQ⟩:∃Q:VK,Q=fun v l=>iV i0 v σ l B.nx:=⟨_,rfl⟩;have h:x6 wi nt cap g tf ta σ H Q:=by rw [hQ];exact h
 have jQ:∀v l,Q v l->B.nx (σ.set i0 (some v)) l:=fun v l q=>by rw [hQ] at q;exact q
 unfold evalThenUse
 refine À (ğ (Q:=fun _ s'=>SP X π B .next s') ?_ (fun _ s' q=>Â (Â q)) (fun _ _ z=>z))
 refine wpAny_comprehension_free (use:=some (Vo (.Name x0 pos') X.env)) rfl hs yF S.kind S.names (aA (hi π s σ H _ I h) fun xv s1 h1=>aA h1 fun eO U h2=>?_);obtain ⟨it,M,tn,J,k,e,Z,T,a,f2,ca⟩:=h2;subst e;refine ô (wpAny_newFunctionEnv S.qk (by intro y hy;simp at hy) (fun h3 j K=>?_) S.kind);dsimp only at j K |-;generalize hD:U.heap.objs.size=D at j K |-;generalize hG:U.heap.push { cls:=.type "list",dict:=none,data:=.seq ([]:List Ä).toArray }=G at j K |-;generalize Au:G.objs.size=C at j K |-;have hC:C=D+1:=by rw [<- Au,<- hG,î,hD]
 have ny:D≠C:=by omega
 have L:U.heap.objs.size<=D:=Ŷ hD;have R:U.heap.objs.size<=C:=by omega
 have old:∀b o,U.heap.get? b=some o->h3.get? b=some o:=fun b o e=>K.extBut b o (Þ (Æ (É e) R)) (Á _ (hG ▸ Á _ e));have oM:h3.PlainList D #[]:=⟨_,K.extBut _ _ ny (Á _ (hG ▸ hD ▸ Ì _ rfl))⟩;have dE:∀b∈M,b<U.heap.objs.size:=fun b P=>by
  obtain ⟨o,e,_⟩:=T.obj _ _ a b P;exact É e
 have IB:=Z.block (t':=U.toks+([]:List (Str×Ä)).length) S f f2 dE old R ⟨_,j⟩;have Av:D∉bE X.stack:=fun z=>by
  rcases Ö.mp (Z.iP D z) with e|e
  ·exact absurd (Æ Z.lt L) (by rw [e];exact â _)
  ·exact Z.oB L e
 have kH:D∉M:=fun z=>absurd (Æ (dE D z) L) (â _);have x9:∀x c,cl.lookup x=some c->c≠D:=fun x c e z=>by
  obtain ⟨v,o,ho,_⟩:=Z.cell x c ((f x c).mp e).2;exact absurd (Æ (É ho) (by rw [z];exact L)) (â _)
 have yG:∀p∈X.pn++π,p.1≠D:=fun p O z=>absurd (Æ (É (Z.pin p O).1) (by rw [z];exact L)) (â _);have fin:∀(s':Ã) (τ:St) (W:Hp) (acc:List V) (F:Array Ä),Inv (fD X N sc cl C U k M (X.pn++π)) [] τ W s'->s'.heap.PlainList D F->Vals acc F.toList->W D=none->acc.length<=Ø->(∀D,W D=none->Q (.ref D) (upd W D (.lst acc))) ->
   compPost (ß X.prog X.w) X.A X.xe (some (Vo (.Name x0 pos') X.env)) (fun _ s'=>SP X π B .next s') (.ref D) C (.ok .next) s':=by
  intro s' τ W acc F E pl rv t hz q;obtain ⟨m,hm,_⟩:=id E.loc;have zl:bB X.prog X.w W s'.heap:=E.au;obtain ⟨n,ho⟩:=pl;have new:bM X.prog X.w (upd W D (.lst acc)) s'.heap D (.lst acc):=⟨hz,F.toList,n,rv,by simpa using ho⟩;have u:=(E.base.but R (Heap.SameBut.refl _ _)).adopt (o:=.lst acc) L t;have IX:Inv X π σ (upd W D (.lst acc)) s':=Z.qA (s':=s') (ch:=M) E.os u (zl.adopt t new) E.bare (fun b P=>by
   obtain ⟨_,f1,_,f3,f4,f5⟩:=f2 b P;exact ⟨f3,f1,f4,f5⟩)
  have sy:upd W D (.lst acc) C=none:=by
   rw [aI (Œ ny)];exact E.free
  have sA:C≠X.env.locals:=fun z=>absurd (Æ Z.lt R) (by rw [z];exact â _);have Aw:C∉X.fs:=Z.oB R;obtain ⟨oC,es,ep,Ax,sC,mS⟩:=id hm;have IP:Inv X ((C,oC)::π) σ (upd W D (.lst acc)) s':=IX.gu fun p O=>by
   rcases Ö.mp O with e|e
   ·subst e
    exact ⟨Ax,sy,sA,Aw,fun v z=>by rw [sC] at z;cases z⟩
   ·exact IX.pin p (Å _ e)
  show Ù _ _ (Vo (.Name x0 pos') X.env (.ref D)) _ _ s';refine wpAny_assign_Name (lV IP nq nr nu (show RelV (.ref D) (.ref D) from rfl) (fun s3 I3=>?_) nv);have p3:=(I3.pin (C,oC) (Å _ (Ô ..))).1;refine ⟨m,⟨oC,es,ep,p3,sC,mS⟩,fun h' sb=>⟨_,upd W D (.lst acc),?_,jQ _ _ (q D t)⟩⟩;have I4:Inv X π (σ.set i0 (some (.ref D))) (upd W D (.lst acc)) s3:=I3.gu fun p O=>I3.pin p (Å _ (Ï _ O));refine I4.turned (it:=C) (t':=s3.toks) (fun b o P e=>(sb.2 b P).trans e) sy sA (.inr (ã Z.sz R)) (fun x c e z=>?_) (fun p O z=>?_)
  ·obtain ⟨v,o,dX,_⟩:=Z.cell x c e
   exact absurd (Æ (É dX) (by rw [z];exact R)) (â _)
  ·exact absurd (Æ (É (Z.pin p O).1) (by rw [z];exact R)) (â _)
 have kI:∀b∈M,cx (fD X N sc cl C U k M (X.pn++π)) [] k b:=fun b P=>by
  obtain ⟨f0,f1,ni,f3,f4,f5⟩:=f2 b P;refine ⟨f0,Þ (Æ (dE b P) R),fun z=>?_,.inl P,fun x c e=>f4 x c ((f x c).mp e).2,fun p su=>?_⟩
  ·rcases Ö.mp (Z.iP b z) with e|e
   ·exact f1 e
   ·exact ni e
  ·exact f5 p (by simpa using su)
 obtain ⟨Ay,Az,Sd⟩:=hY cl C U k M (X.pn++π);have loop:=BN (Y:=fD X N sc cl C U k M (X.pn++π)) (D:=D) (nt:=nt) (caps:=ke cap σ) (e:=.ListComp el (⟨tg,src,tests,0⟩::rest) sc ps) (d:=0) (π:=[]) (o:=Î nt none) (acc:=[]) rfl hc T
  (T.keep _ _ _ a fun b _ o e=>old b o e) kI kH Ay eU Az (Sd D _ it) ⟨ny,Av,L,x9,fun p O=>yG p (by simpa using O)⟩ ⟨IB,by simp,⟨#[],oM,.nil⟩,Z.au.fresh L,Ě _⟩ rfl (fun _ A Q' E' s' h=>DR A Q' E' s' h) (ht it D _) ca
 have ED:=ŝ loop (R':=compPost (ß X.prog X.w) X.A X.xe (some (Vo (.Name x0 pos') X.env)) (fun _ s'=>SP X π B .next s') (.ref D) C) fun r s' hr=>by
  obtain ⟨e,o',W,gG,i,q'⟩:=hr;subst e;obtain ⟨F,pl,rv⟩:=i.lst;exact fin s' _ W gG F i.inv pl rv i.free i.kE q'
 exact codeAny_compStart_list ED (T.self _ _ _ _ _ (T.keep _ _ _ a fun b _ o e=>old b o e) ED)
end
end L2
namespace DI
open PySem L2
def ef:ì "isinstance"=some (.builtin "isinstance"):=by decide +kernel
def EE:ì "int"=some (.type "int"):=by decide +kernel
def uy:ì "bool"=some (.type "bool"):=by decide +kernel
def gy:ì "tuple"=some (.type "tuple"):=by decide +kernel
def qp:ì "list"=some (.type "list"):=by decide +kernel
def Pt:ì "set"=some (.type "set"):=by decide +kernel
def lg:ì "all"=some (.builtin "all"):=by decide +kernel
def dR:ì "len"=some (.builtin "len"):=by decide +kernel
def DT:ì "repr"=some (.builtin "repr"):=by decide +kernel
def EF:ì "max"=some (.builtin "max"):=by decide +kernel
def EG:ì "min"=some (.builtin "min"):=by decide +kernel
def La:ì "sorted"=some (.builtin "sorted"):=by decide +kernel
structure Gd (K:Ĉ) (mg:Str->Option Ä) (x:Str) (st:Wc) (ps:List Str) (f:Ó) (fd:ė):Prop where
 mg:mg x=some (.ref f)
 fn:mY K x x st f fd
 b:Binds K fd ps []
def Pu {P:á} {w:Ą} {K:Ĉ} {mg:Str->Option Ä} {base:Į} {k:Nat} {f:Ó} {fd:ė} {ps:List Str} {g:List D->aa->Res D} (h:∀ds s,g ds s=none):bN P w K mg base cH k f fd ps (iD K g) :=
 ⟨fun Y H Q E Z=>by obtain ⟨w,ds,_,_,_,q⟩:=Z;rw [h] at q;exact q.elim,fun A outer s H args X Y Q E _ _ _ _ Z=>by obtain ⟨w,ds,_,_,_,q⟩:=Z;rw [h] at q;exact q.elim⟩
def ip (g:D->Env->Option Env) (t:Wh Bool) (act:Wh (List D)) (lu:Env):List D->aa->Res (List D)
 | [],s=>ok [] s
 |d::Z,s=>match g d lu with
  |none=>none
  |some env=>aj (ne (t env s)) fun b s=>if b=true then aj (ne (act env s)) fun Y s=>aj (ip g t act lu Z s) fun X s=>ok (Y++X) s
   else ip g t act lu Z s
def emit (f:Wh D):Wh (List D):=fun env s=>aj (f env s) fun x s=>ok [x] s
def more (it:Wh (List D)) (g:D->Env->Option Env) (t:Wh Bool) (act:Wh (List D)):Wh (List D):=fun env s=>aj (it env s) fun Z s=>ip g t act env Z s
def uz (nt:Nat) (cap:List Nat) (it:Wh (List D)) (g:D->Env->Option Env) (t:Wh Bool) (act:Wh (List D)):Wh D:=fun env s =>
 aj (it env s) fun Y s=>aj (ne (ip g t act (Î nt none++gC cap env) Y s)) fun Z s=>fu Z (ok (.lst Z) s)
def Sl (g:D->Env->Option Env) (sl:List Nat):Prop:=∀d env Z,g d env=some Z->Z.length=env.length/\∀i,i∉sl->Z[i]?=env[i]?
def Dg (i:Nat):Sl (gN i) [i]:=fun d env Z h=>by
 have e:env.set i (some d)=Z:=Wm h;subst e;refine ⟨Ć ..,fun j Y=>?_⟩;rw [Ü (fun z=>Y (by simp [z]))]
theorem EH:∀(is:List Nat) (ds:List D) (env env':Env),ff (is.map gN) ds env=some env'->env'.length=env.length/\∀i,i∉is->env'[i]?=env[i]?
 | [],[],env,env',h=>by
  have e:env=env':=Wm h;rw [e];exact ⟨rfl,fun _ _=>rfl⟩
 | [],_::_,_,_,h=>by cases h
 |_::_,[],_,_,h=>by cases h
 |j::is,d::ds,env,env',h=>by
  have Z:ff (is.map gN) ds (env.set j (some d))=some env':=h;obtain ⟨Y,X⟩:=EH is ds _ env' Z;refine ⟨by rw [Y,Ć],fun i hi=>?_⟩;rw [X i (fun z=>hi (Ï _ z)),Ü (fun z=>hi (by rw [z];exact Ô ..))]
def Dz (is:List Nat):Sl (gT (is.map gN)) is:=fun d env Z h=>by
 cases d with
 |tup Y=>exact EH is Y env Z h
 |_=>cases h
def len_same {g:D->Env->Option Env} {sl:List Nat} {d:D} {env env':Env} (hs:Sl g sl) (hg:g d env=some env'):env'.length=env.length:=(hs d env env' hg).1
def jU (sl:List Nat) (env:Env):Prop:=∀i∈sl,∀d,env[i]?≠some (some d)
def br.back {K:Ĉ} {w:Wd} {env env':Env} {σ:St} {g:D->Env->Option Env} {sl:List Nat} {d:D} (hs:Sl g sl) (hf:jU sl env) (hg:g d env=some env') (hl:env.length=σ.length) (h:br K w env' σ):br K w env σ :=
 ⟨hl,fun i x e=>by
  by_cases hi:i∈sl
  ·exact absurd e (hf i hi x)
  ·exact h.val i x (by rw [(hs d env env' hg).2 i hi];exact e)⟩
def qN (K:Ĉ) (Pre:Env->Prop) (ta:i8) (act:Wh (List D)):Prop:=∀(w:Wd) (env:Env) (U:St) (Y:List V) (Z W:List D) (T:aa) (Q:St->List V->Hp->Prop),Pre env->aD K w->br K w env U->ak K w Z Y ->
 act env w.aw=some (.ok W,T)->Y.length+W.length<=Ø->(∀X S R,Le K w X->aD K X->X.aw=T->br K X env S->ak K X (Z++W) R->Q S R X.H)->ta U w.H Y Q
def nF {α β:Type} {r:Res α} {k:α->aa->Res β} {b:β} {s':aa} (h:aj r k=some (.ok b,s')):∃a s,r=some (.ok a,s)/\k a s=some (.ok b,s'):=by
 match r,h with
 |some (.ok a,s),h=>exact ⟨a,s,rfl,h⟩
def xE {α:Type} {r:Res α} {a:α} {s:aa} (h:ne r=some (.ok a,s)):r=some (.ok a,s):=by
 match r,h with
 |some (.ok b,Z),h=>exact h
def Ic {K:Ĉ} {f:Wh D}:qN K (fun _=>True) (EB (tE K bH f)) (emit f):=by
 intro w env W Z Y J I Q _ S X V h U T;obtain ⟨x,H,R,P⟩:=nF h;cases P;refine ⟨by simpa using U,w,env,rfl,S,X,?_⟩;rw [R];intro O le N M v L;exact T O W (Z++[v]) le N M (X.le le) (ak.append (le.all V) (ak.one L))
def Cf {K:Ĉ} {Pre:Env->Prop} {g0:TG} {g:D->Env->Option Env} {nt:Nat} {sl:List Nat} {t:Wh Bool} {act:Wh (List D)} {ta:i8} {env:Env} {w1:Wd} {J:It} {ds xs accD:List D} {s':aa} {τ:St} {acc:List V} {Q:St->List V->Hp->Prop}
  (T:Tg K g0 g nt) (hs:Sl g sl) (hf:jU sl env) (hp:∀d env',g d env=some env'->Pre env') (hA:qN K Pre ta act) (hJ:jj K w1 J ds) (S1:aD K w1) (eo:br K w1 env τ) (da:ak K w1 accD acc)
  (h:ip g t act env ds w1.aw=some (.ok xs,s')) (hl:acc.length+xs.length<=Ø) (hQ:∀w' bW vs,Le K w1 w'->aD K w'->w'.aw=s'->br K w' env bW->ak K w' (accD++xs) vs->Q bW vs w'.H) :
  CA J g0 (tT K bH t) ta τ acc w1.H Q:=by
 refine ⟨fun i m τ acc r=>m=ds.length-i/\i<=ds.length/\∃w' accD xs,w'.H=r/\Le K w1 w'/\aD K w'/\br K w' env τ/\ak K w' accD acc/\ip g t act env (ds.drop i) w'.aw=some (.ok xs,s')/\acc.length+xs.length<=Ø /\
   (∀Z bW vs,Le K w' Z->aD K Z->Z.aw=s'->br K Z env bW->ak K Z (accD++xs) vs->Q bW vs Z.H),
  ⟨ds.length,rfl,Ě _,w1,accD,xs,rfl,Le.refl _,S1,eo,da,h,hl,hQ⟩,?_⟩
 rintro i m τ acc r ⟨rfl,hi,w',accD,xs,rfl,P,L,p,O,Y,I,G⟩;by_cases F:i<ds.length
 ·right
  obtain ⟨eU,hy⟩:=(hJ w' P L i).1 _ (Ð F);rw [ζ F] at Y;simp only [ip] at Y
  cases X:g ds[i] env with
  |none=>rw [X] at Y;cases Y
  |some S =>
   rw [X] at Y;obtain ⟨b,s2,E,N⟩:=nF Y;have E:=xE E;refine ⟨eU,fun τ acc o=>∃w' accD xs,w'.H=o/\Le K w1 w'/\aD K w'/\br K w' env τ/\ak K w' accD acc/\ip g t act env (ds.drop (i+1)) w'.aw=some (.ok xs,s')/\acc.length+xs.length<=Ø /\
    (∀Z bW vs,Le K w' Z->aD K Z->Z.aw=s'->br K Z env bW->ak K Z (accD++xs) vs->Q bW vs Z.H),fun mZ vq o q=>⟨ds.length-(i+1),by omega,rfl,F,q⟩,fun x H3 y=>?_⟩
   obtain ⟨Z,rfl,U,n,es,dv⟩:=hy x H3 y;refine T.imp _ _ _ _ ⟨Z,env,ds[i],S,rfl,n,p.le U,dv,X,fun l R=>⟨Z,S,rfl,n,R,?_⟩⟩;have k:∀{j:St},j.length=l.length->S.length=j.length:=fun e=>by rw [R.len,e]
   have el:env.length=S.length\/True:=.inr trivial;rw [es,E];intro f W c a
   cases b with
   |true =>
    rw [ê rfl] at N |-;obtain ⟨ys,s3,M,h3⟩:=nF N;have M:=xE M;obtain ⟨zs,s4,hz,h4⟩:=nF h3;cases h4;rw [<- a] at M;refine hA f S l acc accD ys s3 _ (hp _ _ X) c (R.le W) ((U.trans W).all O) M (by rw [ä] at I;omega) fun w4 UT vs l4 S4 e4 Gn Fx=>?_;have lv:=Fx.length;refine ⟨w4,accD++ys,zs,rfl,P.trans (U.trans (W.trans l4)),S4,Gn.back hs hf X ?_,Fx,by rw [e4];exact hz,?_,fun C B A z w v u s=>G C B A (U.trans (W.trans (l4.trans z))) w v u (by rw [<- Ź];exact s)⟩
    ·rw [<- Gn.len]
     exact (len_same hs X).symm
    ·rw [ä] at I lv
     have:=O.length;omega
   |false =>
    rw [ú Ñ] at N |-;exact ⟨f,accD,xs,rfl,P.trans (U.trans W),c,(R.le W).back hs hf X (by rw [<- R.len];exact (len_same hs X).symm),(U.trans W).all O,by rw [a];exact N,I,fun C B A z w v u s=>G C B A (U.trans (W.trans z)) w v u s⟩
 ·left
  have e:i=ds.length:=by omega
  subst e;rw [List.drop_length] at Y;cases Y;exact ⟨(hJ w' P L _).2 (Wl _),G w' τ acc (Le.refl _) L rfl p (by rw [Ń];exact O)⟩
def Ie {K:Ĉ} {Pre zo:Env->Prop} {g0:TG} {g:D->Env->Option Env} {nt:Nat} {sl:List Nat} {it:Wh (List D)} {t:Wh Bool} {act:Wh (List D)} {ta:i8} (T:Tg K g0 g nt) (hs:Sl g sl) (hA:qN K Pre ta act)
  (h1:∀env,zo env->jU sl env) (h2:∀d env env',zo env->g d env=some env'->Pre env'):qN K zo (EC (dF K bH it) g0 (tT K bH t) ta) (more it g t act):=by
 intro w env y V Y x v Q X S W U h R P;obtain ⟨u,s,O,N⟩:=nF h;refine ⟨w,env,rfl,S,W,?_⟩;rw [O];intro r Z M e1 J L;exact Cf T hs (h1 env X) (fun d env' I=>h2 d env env' X I) hA L M (W.le Z) (Z.all U) (by rw [e1];exact N) R fun H G F E C B A z=>P H G F (Z.trans E) C B A z
def JU (T:Tg K g0 g nt) (hs:Sl g sl) (Gp:∀i∈sl,i<nt) (hA:qN K Pre ta act)
 (hp:∀d caps env',g d (Î nt none++caps)=some env'->Pre env') (σ:St) (H:Hp) (Q:VK) :
  tE K Ξ (uz nt cap it g t act) σ H Q->x6 (dF K Ξ it) nt cap g0 (tT K bH t) ta σ H Q:=by
 rintro ⟨w,env,rfl,S,U,h⟩;refine ⟨w,env,rfl,S,U,(Out.aj h).mono fun R M L I Y J G=>?_⟩
 cases V:ip g t act (Î nt none++gC cap env) M R.aw with
 |none=>rw [V] at Y;exact Y.elim
 |some r =>
  obtain ⟨r,F⟩:=r;rw [V] at Y
  cases r with
  |error x=>exact Y.elim
  |ok P =>
   have Y:Out K Ξ R (fu P (ok (D.lst P) F)) (fun X d=>∀v,DV K X d v->Q v X.H):=Y;obtain ⟨E,Y⟩:=pZ Y;have C:=(U.le L).block nt cap (Î nt none) (by simp);refine Cf T hs (fun i hi d e=>?_) (fun d env' B=>hp d _ env' B) hA G I C (accD:=[]) rfl V (by simpa using E) fun X u O A N z s y p W=>?_
   ·rw [Û (by simpa using Gp i hi),ě,ê (Gp i hi)] at e
    cases e
   ·exact Y (X.grow p (.lst O)) (A.trans (Fw.grow W).le) (N.grow W) z (.ref p) ⟨p,O,rfl,⟨(show ¬ X.Z p from j6 N W),bO⟩,(Fw.grow W).le.all y⟩
def jU.of {nt:Nat} {g:D->Env->Option Env} {sl cf:List Nat} (hs:Sl g sl) (hd:∀i∈cf,i<nt/\i∉sl) {d:D} {caps env':Env} (hg:g d (Î nt none++caps)=some env'):jU cf env':=fun i hi x e=>by
 obtain ⟨Z,Y⟩:=hd i hi;rw [(hs _ _ _ hg).2 i Y,Û (by simpa using Z),ě,ê Z] at e;cases e
def jU.on (hs:Sl g sl) (hd:∀i∈cf,i∉sl) (hf:jU cf env) (hg:g d env=some env'):jU cf env':=fun i hi x e=>by
 rw [(hs _ _ _ hg).2 i (hd i hi)] at e;exact hf i hi x e
section
variable {X:Cx} {Ξ:Wd->aW->Prop} {el tg src pL mM UU UE:ę} {tests qq Uz:List ę} {sc:ŷ} {ps pos:Pos} {N:List Str} {nt:Nat} {cap:List Nat} {it pB UW:Wh (List D)} {gd AE UX:D->Env->Option Env} {g0 Gq UY:TG} {sl cf wa:List Nat} {ft kF UZ:Wh Bool} {f:Wh D}
abbrev uA (nt:Nat) (cap:List Nat) (it:Wh (List D)) (g:D->Env->Option Env) (t:Wh Bool) (pB:Wh (List D)) (g2:D->Env->Option Env) (t2:Wh Bool) (f:Wh D):Wh D:=uz nt cap it g t (more pB g2 t2 (emit f))
noncomputable def apart (nt:Nat) (sl cf:List Nat):Bool:=cf.all (fun i=>decide (i<nt)&&!sl.contains i)
def CB (h:apart nt sl cf=true):∀i∈cf,i<nt/\i∉sl:=fun i hi=>by
 have:=õ.mp h i hi;simp only [Ë,Ú,ś,List.contains_eq_mem,decide_eq_false_iff_not] at this;exact this
noncomputable abbrev Q3 (e el:ę) (d:Nat):PySem.Env->Ó->Ó->Sem PySem.Fin:=fun ce D it=>(do let _ <- call (.builtin "list.append") [.ref D,<- ĺ el ce]:Sem Unit) >>= fun _=>again (.compLoop e d (.ref it) (.ref D) ce)
noncomputable abbrev Q4 (e src:ę) (d:Nat):PySem.Env->Ó->Ó->Sem PySem.Fin:=fun ce D it=>do
 let x <- ĺ src ce
 VU src.pos
 let x <- þ src ce x
 let _ <- runOwn (.compStart e (d+1) (<- U9 [x] (pyIter x)) (.ref D) ce) ce
 again (.compLoop e d (.ref it) (.ref D) ce)
def Mt {pos':Pos} (i0:Nat) {x0:Str} (nq:X.N.Nodup) (hc:X.calm=true) (S:ui X sc N nt cap) (T:Tg X.K g0 gd nt) (gb:Sl gd sl) (T2:Tg X.K Gq AE nt) (fC:Sl AE cf) (hi:PI X tg src (dF X.K Ξ it))
  (hY:∀(cl:List (Str×Ó)) (C:Ó) (s:Ã) (H:Hp) (ex:List Ó) (pn:List (Ó×Obj)),PG (fD X N sc cl C s H ex pn) tg g0/\PF (fD X N sc cl C s H ex pn) tests (tT X.K bH ft)/\PI (fD X N sc cl C s H ex pn) pL mM (dF X.K bH pB)/\PG (fD X N sc cl C s H ex pn) pL Gq/\PF (fD X N sc cl C s H ex pn) qq (tT X.K bH kF)/\PE (fD X N sc cl C s H ex pn) el (tE X.K bH f))
  (pz:apart nt sl cf=true:=by rfl) (pA:apart nt [] sl=true:=by rfl)
  (nr:X.N[i0]?=some x0:=by rfl) (nu:Loc X.env.scope x0:=by first|exact Vi rfl|exact Or.inr rfl)
  (hs:∀x,þ src X.env x=pure x:=by intro _;rfl) (Se:∀ce x,þ mM ce x=pure x:=by intro _ _;rfl)
  (kJ:VI (.ListComp el [⟨tg,src,tests,0⟩,⟨pL,mM,qq,0⟩] sc ps) (some (.Name x0 pos')) pos.line X.env=pure true:=by rfl)
  (nv:X.fn x0=true\/X.env.scope.names.lookup x0=some .local:=by first|exact .inl rfl|exact .inr rfl):PS X (.Assign [.Name x0 pos'] (.ListComp el [⟨tg,src,tests,0⟩,⟨pL,mM,qq,0⟩] sc ps) pos) (tS X.K Ξ (bp (uA nt cap it gd ft pB AE kF f) (gN i0))) :=
 iR (K9 (act:=Q4 (.ListComp el [⟨tg,src,tests,0⟩,⟨pL,mM,qq,0⟩] sc ps) mM 0) nq nr nu hc S T.m8 hi (fun cl C s H ex pn=>by
   obtain ⟨y1,y2,y3,y4,y5,V⟩:=hY cl C s H ex pn;exact ⟨y1,y2,fun D Z it=>K8 (d:=1) (act:=fun Y=>Q3 (.ListComp el [⟨tg,src,tests,0⟩,⟨pL,mM,qq,0⟩] sc ps) el 1 _ D Y) rfl hc rfl y3 y4 T2.m8 y5 (fun Y=>K6 rfl V) (fun _=>rfl) (Se _)⟩) (fun _ _ _=>rfl) hs kJ nv)
  fun D σ H h=>JU (Pre:=jU cf) T gb (fun i hi=>(CB pA i hi).1) (Ie T2 fC Ic (fun _ h=>h) (fun _ _ _ _ _=>trivial)) (fun d Z W U=>jU.of gb (CB pz) U) σ H _ (wM (te:=tE X.K Ξ f) D σ H (tU D σ H h))
end
end DI
namespace L2
open PySem PySem.Spec PyProof.Rows
noncomputable abbrev Cx.dG (X:Cx):Cx:={ X with A:=X.A.in1,xe:=fun _ _=>False }
theorem Inv.dG {X:Cx} {π:List (Ó×Obj)} {σ:St} {H:Hp} {s:Ã} (I:Inv X π σ H s):Inv X.dG π σ H s :=
 ⟨⟨I.ok.mod,I.ok.kind,I.ok.glob,I.ok.blt,I.ok.above,I.ok.inj,I.ok.has,I.ok.lE,I.ok.hd,I.ok.frames,I.ok.iu,I.ok.vJ,I.ok.bs,I.ok.fz,I.ok.jG,I.ok.oA,I.ok.fv,I.ok.jb⟩,I.os,I.bare,I.base,I.loc,I.cell,I.free,I.fq,I.pin,I.au,I.len⟩
def Inv.Fy {X:Cx} {π:List (Ó×Obj)} {σ:St} {H:Hp} {s:Ã} (I:Inv X.dG π σ H s):Inv X π σ H s :=
 ⟨⟨I.ok.mod,I.ok.kind,I.ok.glob,I.ok.blt,I.ok.above,I.ok.inj,I.ok.has,I.ok.lE,I.ok.hd,I.ok.frames,I.ok.iu,I.ok.vJ,I.ok.bs,I.ok.fz,I.ok.jG,I.ok.oA,I.ok.fv,I.ok.jb⟩,I.os,I.bare,I.base,I.loc,I.cell,I.free,I.fq,I.pin,I.au,I.len⟩
def zp (X:Cx) (kv:Ä) (rk:V->Hp->VK->Prop):Prop :=
 ∀(Z:List (Ó×Obj)) (s:Ã) (σ:St) (H:Hp) (x:V) (v:Ä) (Q:VK),Inv X Z σ H s->RelV x v->rk x H Q->Ù (ß X.prog X.w) X.A (call kv [v]) (EP X Z σ Q) X.xe s
def sD (K:Ĉ) (l:Ó) (all:List V) (rk:V->Hp->VK->Prop) (rc:R2):List V->V->V->Hp->VK->Prop
 | [],Z,_,H,Q=>bo K H l all/\Q Z H
 |x::Y,Z,X,H,Q=>bo K H l all/\rk x H fun k U=>rc k X U fun z W=>∃b,z=.bl b/\if b=true then sD K l all rk rc Y x k W Q else sD K l all rk rc Y Z X W Q
def zq (K:Ĉ) (l:Ó) (all:List V) (rk:V->Hp->VK->Prop) (rc:R2) (dv:V) (H:Hp) (Q:VK):Prop:=bo K H l all/\match all with
 | []=>Q dv H
 |x::Z=>rk x H fun k Y=>sD K l all rk rc Z x k Y Q
def DU (X:Cx) (π:List (Ó×Obj)) (σ:St) (Q:VK) (r:Result) (s':Ã):Prop:=match r with
 | .ok (.ret v)=>EP X π σ Q v s'
 | .ok _=>False
 | .error e=>X.xe e s'
def JV {X:Cx} {l I S:Ó} {q:Ó} {kw:List (Str×Ä)} {all:List V} {π:List (Ó×Obj)} {σ:St} {rk:V->Hp->VK->Prop} {rc:R2} {Q:VK} (hc:X.calm=true) (sE:l≠I) (nA:S≠I) (Gr:S≠l) (hK:zp X.dG (.ref q) rk) (hC:aU X.dG (ć .Lt) rc) :
  ∀(rest:List V) (j:Nat) (s:Ã) (H:Hp) (vb kb:V) (ub uk:Ä) (c:Nat),all.drop j=rest->j<=all.length->Inv X.dG π σ H s->cx X π H S->cx X π H I->s.heap.get? S=some { cls:=.type "list",dict:=none,data:=.seq #[ub,uk] c,slots:=#[] }->s.heap.IsListIter I l j->RelV vb ub->RelV kb uk ->
   sD X.K l all rk rc rest vb kb H Q->Ŭ (ß X.prog X.w) X.A (.builtin "min.loop" ⟨[.ref I,.ref q,.ref S],kw⟩) (DU X π σ Q) s:=by
 have qO:(toString "min"++toString ".loop":String)="min.loop":=by decide
 intro rest
 induction rest with
 |nil =>
  intro j s H vb kb ub uk c hd jm R U Z G hit t U0 h;obtain ⟨r,h⟩:=h;have hj:j=all.length:=Nat.le_antisymm jm (by simpa using hd);subst hj;obtain ⟨Y,D,n,hz⟩:=R.list r;have m:X.A.in1.handled=none:=R.ok.hd hc;have W:=Walks.list (prog:=X.prog) (w:=X.w) (A:=X.A.in1) m I l sE Y.toArray;have P:Y.toArray.size=all.length:=by rw [Õ];exact D.length.symm
  refine ī Vr ?_;rw [Ĝ Ġ _];show Ù _ X.A.in1 (seqItems? (.ref S) >>= _) _ _ _;refine À (Ē G rfl ?_);show Ù _ X.A.in1 (tryCatch (Ŕ (.ref I)) _ >>= _) _ _ _;refine À (ū (W.done _ _ _ ⟨by rw [P];exact hit,n.isList⟩ fun h' C F=>?_));have i:=F S _ (by simpa using nA) G
  have B:Inv X.dG π σ H { s with heap:=h',toks:=C }:=R.turned (it:=I) (fun b o O e=>F b o (by simpa using O) e) Z.1 Z.2.1 Z.2.2.2.1 Z.2.2.2.2.1 Z.2.2.2.2.2
  show Ù _ X.A.in1 (updateSeq S (fun _=>#[]) >>= _) _ _ _;refine À ?_;refine Vl i rfl (À (χ (Â ?_)));have g:=B.turned (h':=h'.update S (Ł fun _=>(#[]:Array Ä))) (t':=C) (it:=S) (fun b o O e=>(ĉ _ _ (Œ O)).trans e) U.1 U.2.1 U.2.2.2.1 U.2.2.2.2.1 U.2.2.2.2.2;exact ⟨vb,H,g.Fy,t,h⟩
 |cons x rest ih =>
  intro j s H vb kb ub uk c hd jm R U Z G hit t Gs h;obtain ⟨r,h⟩:=h;have y:all[j]?=some x:=by
   have:=ı (fun l=>l[0]?) hd;simpa using this
  have fV:all.drop (j+1)=rest:=by
   have:=ı (List.drop 1) hd;simpa [List.drop_drop] using this
  obtain ⟨Y,D,n,hz⟩:=R.list r;have m:X.A.in1.handled=none:=R.ok.hd hc;have W:=Walks.list (prog:=X.prog) (w:=X.w) (A:=X.A.in1) m I l sE Y.toArray;have P:Y.toArray.size=all.length:=by rw [Õ];exact D.length.symm
  refine ī Vr ?_;rw [Ĝ Ġ _];show Ù _ X.A.in1 (seqItems? (.ref S) >>= _) _ _ _;refine À (Ē G rfl ?_);show Ù _ X.A.in1 (tryCatch (Ŕ (.ref I)) _ >>= _) _ _ _;refine À (ū (W.item j _ _ _ (by rw [P];exact (È.mp y).1) ⟨hit,n.isList⟩ fun v h' C hP zr F=>?_));obtain ⟨T,pw,rx⟩:=D.get y;have ev:T=v:=by
   have:Y.toArray[j]?=some v:=hP;rw [List.getElem?_toArray,pw] at this;exact Wm this
  subst ev;have i:=F S _ (by simpa using nA) G
  have B:Inv X.dG π σ H { s with heap:=h',toks:=C }:=R.turned (it:=I) (fun b o O e=>F b o (by simpa using O) e) Z.1 Z.2.1 Z.2.2.2.1 Z.2.2.2.2.1 Z.2.2.2.2.2
  obtain ⟨E,AF,fW,f⟩:=id zr.1;have nS:∀v,({ cls:=.type "list",dict:=none,data:=.seq #[ub,uk] c,slots:=#[] }:Obj).data≠.cell v:=fun v z=>by cases z
  have nI:∀v,E.data≠.cell v:=fun v z=>by rw [f] at z;cases z
  have g:=B.gu (pins':=π++[(S,{ cls:=.type "list",dict:=none,data:=.seq #[ub,uk] c,slots:=#[] }),(I,E)]) fun p hp=>by
   rcases æ.mp hp with z|z
   ·exact B.pin p (Å _ z)
   ·rcases Ö.mp z with rfl|z
    ·exact ⟨i,U.1,U.2.1,U.2.2.1,nS⟩
    ·rw [ð.mp z]
     exact ⟨AF,Z.1,Z.2.1,Z.2.2.1,nI⟩
  show Ù _ X.A.in1 (tryCatch (U9 [T] (call (.ref q) [T])) _ >>= _) _ _ _;refine À (ū (ą (ğ (hK _ _ σ H x T _ g rx h) (fun N s2 iB=>?_) fun _ _ z=>z.elim)));obtain ⟨k,H2,I3,wb,h⟩:=iB;show Ù _ X.A.in1 (tryCatch (U9 [T,N] (richCompare .Lt N uk >>= _)) _ >>= _) _ _ _;refine À (ū (ą (À (ğ (hC _ s2 σ H2 k kb N uk _ I3 wb Gs h) (fun z L Sf=>?_) fun _ _ z=>z.elim))));obtain ⟨zv,J,d,rz,b,eb,h⟩:=Sf;subst eb;cases rz;refine À (ą (ŀ ?_));refine À (χ (Â ?_));have u:=d.pin (S,{ cls:=.type "list",dict:=none,data:=.seq #[ub,uk] c,slots:=#[] }) (Å _ (Å _ (by simp)));have a:=d.pin (I,E) (Å _ (Å _ (by simp)));have I5:Inv X.dG π σ J L:=d.iN;have M:cx X π J S:=⟨u.2.1,U.2⟩;have wc:cx X π J I:=⟨a.2.1,Z.2⟩
  cases b with
  |true =>
   rw [ê rfl] at h;rw [ê rfl];refine À ?_;refine Vl u.1 rfl (À (χ ?_));rw [qO];obtain ⟨c2,iz⟩:∃c2,(L.heap.update S (Ł fun _=>#[T,N])).get? S=some { cls:=.type "list",dict:=none,data:=.seq #[T,N] c2,slots:=#[] }:=⟨_,ü _ u.1 rfl⟩
   have I6:Inv X.dG π σ J { L with heap:=L.heap.update S (Ł fun _=>#[T,N]),toks:=L.toks }:=I5.turned (t':=L.toks) (it:=S) (fun b o O e=>(ĉ _ _ (Œ O)).trans e) M.1 M.2.1 M.2.2.2.1 M.2.2.2.2.1 M.2.2.2.2.2
   exact Â ⟨Š Ġ _,ih (j+1) _ J x k T N c2 fV (È.mp y).1 I6 M wc iz ⟨E,(ĉ _ _ nA).trans a.1,fW,f⟩ rx wb h⟩
  |false =>
   rw [ú Ñ] at h;rw [ú Ñ];refine À (χ ?_);rw [qO];exact Â ⟨Š Ġ _,ih (j+1) _ J vb kb ub uk c fV (È.mp y).1 I5 M wc u.1 ⟨E,a.1,fW,f⟩ t Gs h⟩
def Ig (a v d:Ä):argsOk "min" ⟨[a],[(Ă "key",v),(Ă "default",d)]⟩:=by unfold argsOk;kernel_rfl
def JW {X:Cx} {l:Ó} {q:Ó} {all:List V} {π:List (Ó×Obj)} {σ:St} {H:Hp} {s:Ã} {rk:V->Hp->VK->Prop} {rc:R2} {dv:V} {du:Ä} {Q:VK} (hc:X.calm=true) (hK:zp X.dG (.ref q) rk) (hC:aU X.dG (ć .Lt) rc)
  (I0:Inv X π σ H s) (rd:RelV dv du) (h:zq X.K l all rk rc dv H Q):Ù (ß X.prog X.w) X.A (call (.builtin "min") [.ref l] [(Ă "key",.ref q),(Ă "default",du)]) (EP X π σ Q) X.xe s:=by
 have j:(toString "min"++toString ".loop":String)="min.loop":=by decide
 obtain ⟨hq,h⟩:=h;obtain ⟨Y,g,B,hz⟩:=I0.list hq;have f:l<s.heap.objs.size:=by obtain ⟨o,n,ho,_⟩:=B;exact É ho
 have hh:X.A.in1.handled=none:=I0.dG.ok.hd hc;refine kmk_tree PySem.F.kind_min PySem.F.plain_min PySem.F.entry_min (Ig _ _ _) ?_;show Ù _ X.A.in1 (V2 "min" ["key","default"] 0 ⟨[],[(Ă "key",.ref q),(Ă "default",du)]⟩ >>= _) _ _ s;refine À (wpAny_of_eq (show V2 "min" ["key","default"] 0 ⟨[],[(Ă "key",.ref q),(Ă "default",du)]⟩=pure [some (.ref q),some du] from rfl) ?_);refine À (Â ?_);refine À (Ÿ B.isList ?_);refine À (wpAny_newList ?_ (Ě _));rw [j];generalize T:s.heap.objs.size=I at *;have J:(s.heap.push { cls:=.type "list_iterator",data:=.fields #[.ref l,.int 0 0] }).objs.size=I+1:=by rw [<- T];exact î ..
 generalize Sg:(s.heap.push { cls:=.type "list_iterator",data:=.fields #[.ref l,.int 0 0] }).objs.size=S at *;have d:l≠I:=Þ f;have y:S≠I:=by rw [J];exact Nat.succ_ne_self _
 have Gr:S≠l:=by rw [J];exact ĝ (Ĕ f)
 have c:∀b o,s.heap.get? b=some o->((s.heap.push { cls:=.type "list_iterator",data:=.fields #[.ref l,.int 0 0] }).push { cls:=.type "list",dict:=none,data:=.seq #[] 0,slots:=#[] }).get? b=some o:=fun b o e=>Á _ (Á _ e);have gI:((s.heap.push { cls:=.type "list_iterator",data:=.fields #[.ref l,.int 0 0] }).push { cls:=.type "list",dict:=none,data:=.seq #[] 0,slots:=#[] }).get? I=some { cls:=.type "list_iterator",data:=.fields #[.ref l,.int 0 0] }:=Á _ (T ▸ Ì _ rfl);have a:((s.heap.push { cls:=.type "list_iterator",data:=.fields #[.ref l,.int 0 0] }).push { cls:=.type "list",dict:=none,data:=.seq #[] 0,slots:=#[] }).get? S=some { cls:=.type "list",dict:=none,data:=.seq #[] 0,slots:=#[] }:=Sg ▸ Ì _ rfl;have nI:H I=none:=I0.au.fresh (Ŷ T);have nS:H S=none:=I0.au.fresh (by rw [J];exact ã (Ŷ T) (ψ _));have Z:cx X π H I:=I0.mE (Ŷ T) nI;have G:cx X π H S:=I0.mE (by rw [J];exact ã (Ŷ T) (ψ _)) nS;have I1:=I0.dG.kept (t':=s.toks) c;refine Â ⟨Š Ġ _,?_⟩;show Ŭ (ß X.prog X.w) X.A (.builtin "min.loop" ⟨[.ref I,.ref q,.ref S],[(Ă "default",du)]⟩) (DU X π σ Q) _;have W:=Walks.list (prog:=X.prog) (w:=X.w) (A:=X.A.in1) hh I l d Y.toArray;have O:Y.toArray.size=all.length:=by rw [Õ];exact g.length.symm
 have hit:Heap.IsListIter ((s.heap.push { cls:=.type "list_iterator",data:=.fields #[.ref l,.int 0 0] }).push { cls:=.type "list",dict:=none,data:=.seq #[] 0,slots:=#[] }) I l 0:=⟨_,gI,rfl,rfl⟩;have Gu:Heap.IsList ((s.heap.push { cls:=.type "list_iterator",data:=.fields #[.ref l,.int 0 0] }).push { cls:=.type "list",dict:=none,data:=.seq #[] 0,slots:=#[] }) l Y.toArray:=B.isList.at fun o e=>c l o e;refine ī Vr ?_;rw [Ĝ Ġ _];show Ù _ X.A.in1 (seqItems? (.ref S) >>= _) _ _ _;refine À (Ē a rfl ?_);show Ù _ X.A.in1 (tryCatch (Ŕ (.ref I)) _ >>= _) _ _ _
 cases all with
 |nil =>
  refine À (ū (W.done _ _ _ ⟨by rw [O];exact hit,Gu⟩ fun h' u E=>?_));have D:=I1.turned (h':=h') (t':=u) (it:=I) (fun b o N e=>E b o (by simpa using N) e) Z.1 Z.2.1 Z.2.2.2.1 Z.2.2.2.2.1 Z.2.2.2.2.2;refine À (Ň (Â ?_));exact ⟨dv,H,D.Fy,rd,h⟩
 |cons x rest =>
  refine À (ū (W.item 0 _ _ _ (by rw [O];simp) ⟨hit,Gu⟩ fun v h' u hP zr E=>?_));obtain ⟨U,pw,rx⟩:=g.get (i:=0) (x:=x) rfl;have ev:U=v:=by
   have:Y.toArray[0]?=some v:=hP;rw [List.getElem?_toArray,pw] at this;exact Wm this
  subst ev;have sF:=E S _ (by simpa using y) a;have D:=I1.turned (h':=h') (t':=u) (it:=I) (fun b o N e=>E b o (by simpa using N) e) Z.1 Z.2.1 Z.2.2.2.1 Z.2.2.2.2.1 Z.2.2.2.2.2;obtain ⟨C,AF,fW,gX⟩:=id zr.1;have cS:∀v,({ cls:=.type "list",dict:=none,data:=.seq #[] 0,slots:=#[] }:Obj).data≠.cell v:=fun v z=>by cases z
  have cI:∀v,C.data≠.cell v:=fun v z=>by rw [gX] at z;cases z
  have I3:=D.gu (pins':=π++[(S,{ cls:=.type "list",dict:=none,data:=.seq #[] 0,slots:=#[] }),(I,C)]) fun p hp=>by
   rcases æ.mp hp with z|z
   ·exact D.pin p (Å _ z)
   ·rcases Ö.mp z with rfl|z
    ·exact ⟨sF,G.1,G.2.1,G.2.2.1,cS⟩
    ·rw [ð.mp z]
     exact ⟨AF,Z.1,Z.2.1,Z.2.2.1,cI⟩
  show Ù _ X.A.in1 (tryCatch (U9 [U] (call (.ref q) [U])) _ >>= _) _ _ _;refine À (ū (ą (ğ (hK _ _ σ H x U _ I3 rx h) (fun M R iB=>?_) fun _ _ z=>z.elim)));obtain ⟨k,L,t,wb,h⟩:=iB;have r:=t.pin (S,{ cls:=.type "list",dict:=none,data:=.seq #[] 0,slots:=#[] }) (Å _ (Å _ (by simp)));have pI:=t.pin (I,C) (Å _ (Å _ (by simp)));have I5:Inv X.dG π σ L R:=t.iN;have P:cx X π L S:=⟨r.2.1,G.2⟩;have wc:cx X π L I:=⟨pI.2.1,Z.2⟩;show Ù _ X.A.in1 (updateSeq S (fun _=>#[U,M]) >>= _) _ _ _;refine À ?_;refine Vl r.1 rfl ?_;rw [j];obtain ⟨m,iz⟩:∃m,(R.heap.update S (Ł fun _=>#[U,M])).get? S=some { cls:=.type "list",dict:=none,data:=.seq #[U,M] m,slots:=#[] }:=⟨_,ü _ r.1 rfl⟩
  have I6:Inv X.dG π σ L { R with heap:=R.heap.update S (Ł fun _=>#[U,M]),toks:=R.toks }:=I5.turned (t':=R.toks) (it:=S) (fun b o N e=>(ĉ _ _ (Œ N)).trans e) P.1 P.2.1 P.2.2.2.1 P.2.2.2.2.1 P.2.2.2.2.2
  exact Â ⟨Š Ġ _,JV hc d y Gr hK hC rest 1 _ L x k U M m rfl (by simp) I6 P wc iz ⟨C,(ĉ _ _ y).trans pI.1,fW,gX⟩ rx wb h⟩
end L2
namespace HT
open PySem PyProof.Rows
def Fz (A:ó) (s:Ã) (y x:Ä) (b:Bool):Prop:=∀(prog:á) (w:Ą) (E:Ä->Ã->Prop) (Q:Ä->Ã->Prop),Q (.bool b) s->Ù (ß prog w) A (richCompare .Lt y x) Q E s
inductive jv (A:ó) (s:Ã):List Ä->List Ä->Bool->Prop where
 |nn:jv A s [] [] false
 |nc (y:Ä) (ys:List Ä):jv A s [] (y::ys) true
 |cn (x:Ä) (xs:List Ä):jv A s (x::xs) [] false
 |eq {x y:Ä} {xs ys:List Ä} {b:Bool}:SeqAt.EqAt A s x y true->jv A s xs ys b->jv A s (x::xs) (y::ys) b
 |lt {x y:Ä} {xs ys:List Ä} {b:Bool}:SeqAt.EqAt A s x y false->Fz A s x y b->jv A s (x::xs) (y::ys) b
section
open PySem.SeqAt
open PySem.AutoSeq1 (wpAny_loadPart')
open PySem.MeetsSeq PySem.MeetsSeq2 PySem.MeetsSeq3
def IU (l b:Ó) (items kS:Array Ä) (n n2:Nat) (dd lG:Option Ó) (sl cf:Array (Option Ä)) (kK:Bool) :
  Meets (Ř.«tuple.__lt__» ⟨[.ref l,.ref b],[]⟩)
   (fun A R s=>s.heap.get? l=some { cls:=.type "tuple",dict:=dd,data:=.seq items n,slots:=sl }/\s.heap.get? b=some { cls:=.type "tuple",dict:=lG,data:=.seq kS n2,slots:=cf } /\
    jv A.in1 s items.toList kS.toList kK/\R (.ok (.ret (.bool kK))) s) :=
 .of_wp fun prog w A R s h=>by
  obtain ⟨N,g,d,M,os⟩:=s;obtain ⟨K,J,I,h⟩:=h;have f2:=AutoSeq1.sub_tuple_tuple
  wp_walk using ŵ K,ŵ J,wpAny_forIn_list _ (fun rest b W=>b.1=none/\W=⟨N,g,d,M,os⟩/\∃(X ws:List Ä),rest=X.zip ws /\
   jv A.in1 ⟨N,g,d,M,os⟩ X ws kK/\X.length+kS.size=ws.length+items.size) _
  case turn =>
   rintro ⟨y,x⟩ rest b W ⟨V,rfl,X,ws,Y,U,Z⟩
   cases U with
   |nn=>cases Y
   |nc _ _=>cases Y
   |cn _ _=>cases Y
   |eq T S =>
    rw [ů] at Y
    injection Y with Q L
    injection Q with P O
    subst P O;simp only [Ý] at Z;refine À (T prog w _ _ ?_)
    wp_walk
    exact ⟨rfl,rfl,_,_,L,S,by omega⟩
   |lt T S =>
    rw [ů] at Y
    injection Y with Q L
    injection Q with P O
    subst P O;refine À (T prog w _ _ ?_);have H:=S prog w
    wp_walk using H
    exact ⟨_,rfl,by simpa using h⟩
  case fin =>
   rintro ⟨F,b2⟩ W ⟨V,rfl,X,ws,Y,U,Z⟩;simp only at V;subst V;have G:kK=decide (items.size<kS.size):=by
    cases U with
    |nn=>simp only [è] at Z;exact (Ę (by omega)).symm
    |nc _ _=>simp only [è,Ý] at Z;exact (ò (by omega)).symm
    |cn _ _=>simp only [è,Ý] at Z;exact (Ę (by omega)).symm
    |eq _ _=>rw [ů] at Y;cases Y
    |lt _ _=>rw [ů] at Y;cases Y
   rw [G] at h
   wp_walk
   exact ⟨_,rfl,by simpa [Builtin.Tuple.tupleCompareSizes] using h⟩
  case h =>
   exact ⟨rfl,rfl,items.toList,kS.toList,rfl,I,by simp only [Ā];omega⟩
end
open PySem.SeqAt PySem.MeetsSeq
section
variable {prog:á} {w:Ą} {A:ó} {E:Ä->Ã->Prop} {s:Ã}
def Mu (hl:IsTup s.heap l items) (hb:IsTup s.heap b kS) (hA:∀A':ó,A'.units<=A.units+4->jv A' s items.toList kS.toList kK)
 (hu:A.units<cLine) (h:Q (.bool kK) s):Ù (ß prog w) A (richCompare .Lt (.ref l) (.ref b)) Q E s:=by
 obtain ⟨⟨cls,U,data,T⟩,Z,Y,n,X⟩:=id hl;obtain ⟨⟨O,S,data2,R⟩,W,V,P,hd2⟩:=id hb;simp only at Y X V hd2;subst Y X V hd2;refine richCompare_meets_room (op:=.Lt) ⟨_,Z,rfl⟩ ⟨_,W,rfl⟩ PySem.F.slot_tuple_lt PySem.F.entry_tuple_lt (PySem.F.args_tuple_lt_2 _ _) (IU l b items kS n P U S T R kK)
  ⟨Z,W,hA _ ?_,show ņ kK≠Value.notImplemented/\Q (.bool kK) s from ⟨(fun x=>nomatch x),h⟩⟩ hu
 show A.units+1<=A.units+4;omega
end
end HT
namespace DI
open PySem L2 HT
mutual
noncomputable def nB:D->D->Option Bool
 | .int i,.int j=>some (decide (i<j))
 | .str x,.str y=>some (decide (x.cps.toList<y.cps.toList))
 | .tup Z,.tup Y=>ja Z Y
 |_,_=>none
noncomputable def ja:List D->List D->Option Bool
 | [],[]=>some false
 | [],_::_=>some true
 |_::_,[]=>some false
 |x::Z,y::Y=>if beq x y=true then ja Z Y else nB x y
end
section
variable {X:Cx} {Ξ:Wd->aW->Prop} {π:List (Ó×Obj)} {σ:St} {s:Ã} {w:Wd}
def Pw (I:Inv X π σ w.H s) (A:ó) (lx:lay x=true) (ly:lay y=true) (hu:A.units+dep x<cLine) (hx:DV X.K w x v) (hy:DV X.K w y u) (rx:RelV v vx) (ry:RelV u vy):SeqAt.EqAt A s vx vy (beq x y):=by
 obtain ⟨as,Z⟩:=(hx.py (lU _ lx)).reads I rx;obtain ⟨bs,Y⟩:=(hy.py (lU _ ly)).reads I ry;obtain ⟨W,V⟩:=l7 _ lx;obtain ⟨U,T⟩:=l7 _ ly;have:=SeqAt.eqAt_reads _ _ A s vx vy as bs Z Y W U (by rw [V];omega);rw [uw _ _ lx ly] at this;exact this
mutual
theorem EJ (I:Inv X π σ w.H s):∀(A:ó) (x y:D) (b:Bool) (v u:V) (vx vy:Ä),nB x y=some b->lay x=true->lay y=true->A.units+5*dep x+5<cLine->DV X.K w x v->DV X.K w y u->RelV v vx->RelV u vy->Fz A s vx vy b
 |A,.int i,.int j,b,v,u,vx,vy,h,_,_,_,Z,Y,W,U=>by
  cases h;cases Z;cases Y;obtain ⟨t,rfl⟩:=W;obtain ⟨T,rfl⟩:=U;intro prog w E Q q;exact Ks A s i t j T prog w E Q q
 |A,.str i,.str j,b,v,u,vx,vy,h,_,_,R,Z,Y,W,U=>by
  cases h;cases Z;cases Y;obtain ⟨t,rfl⟩:=W;obtain ⟨T,rfl⟩:=U;intro prog w E Q q;exact (PyProof.Rows.lt_str q:Ù (ß prog w) A (ć .Lt (.str i t) (.str j T)) Q E s)
 |A,.tup P,.tup O,b,v,u,vx,vy,h,N,M,R,Z,Y,W,U=>by
  simp only [nB] at h;simp only [DV] at Z Y;obtain ⟨a,as,rfl,L,J⟩:=Z;obtain ⟨c,cs,rfl,G,F⟩:=Y;cases W;cases U;obtain ⟨S,C,B,_⟩:=I.tuple L;obtain ⟨z,r,p,_⟩:=I.tuple G;intro prog n E Q q;simp only [dep] at R;exact Mu B p (fun o m=>by
   have:=DW I o P O b as cs S z h (by simpa [lay] using N) (by simpa [lay] using M) (by omega) J F C r;simpa using this) (by omega) q
 |_,.aq,_,_,_,_,_,_,h,_,_,_,_,_,_,_=>by cases h
 |_,.bl _,_,_,_,_,_,_,h,_,_,_,_,_,_,_=>by cases h
 |_,.lst _,_,_,_,_,_,_,h,_,_,_,_,_,_,_=>by cases h
 |_,.aV _,_,_,_,_,_,_,h,_,_,_,_,_,_,_=>by cases h
 |_,.ay _,_,_,_,_,_,_,h,_,_,_,_,_,_,_=>by cases h
 |_,.ty _,_,_,_,_,_,_,h,_,_,_,_,_,_,_=>by cases h
 |_,.bu _,_,_,_,_,_,_,h,_,_,_,_,_,_,_=>by cases h
 |_,.exc _,_,_,_,_,_,_,h,_,_,_,_,_,_,_=>by cases h
 |_,.cg _ _ _,_,_,_,_,_,_,h,_,_,_,_,_,_,_=>by cases h
 |_,.int _,.aq,_,_,_,_,_,h,_,_,_,_,_,_,_=>by cases h
 |_,.int _,.bl _,_,_,_,_,_,h,_,_,_,_,_,_,_=>by cases h
 |_,.int _,.str _,_,_,_,_,_,h,_,_,_,_,_,_,_=>by cases h
 |_,.int _,.tup _,_,_,_,_,_,h,_,_,_,_,_,_,_=>by cases h
 |_,.int _,.lst _,_,_,_,_,_,h,_,_,_,_,_,_,_=>by cases h
 |_,.int _,.aV _,_,_,_,_,_,h,_,_,_,_,_,_,_=>by cases h
 |_,.int _,.ay _,_,_,_,_,_,h,_,_,_,_,_,_,_=>by cases h
 |_,.int _,.ty _,_,_,_,_,_,h,_,_,_,_,_,_,_=>by cases h
 |_,.int _,.bu _,_,_,_,_,_,h,_,_,_,_,_,_,_=>by cases h
 |_,.int _,.exc _,_,_,_,_,_,h,_,_,_,_,_,_,_=>by cases h
 |_,.int _,.cg _ _ _,_,_,_,_,_,h,_,_,_,_,_,_,_=>by cases h
 |_,.str _,.aq,_,_,_,_,_,h,_,_,_,_,_,_,_=>by cases h
 |_,.str _,.bl _,_,_,_,_,_,h,_,_,_,_,_,_,_=>by cases h
 |_,.str _,.int _,_,_,_,_,_,h,_,_,_,_,_,_,_=>by cases h
 |_,.str _,.tup _,_,_,_,_,_,h,_,_,_,_,_,_,_=>by cases h
 |_,.str _,.lst _,_,_,_,_,_,h,_,_,_,_,_,_,_=>by cases h
 |_,.str _,.aV _,_,_,_,_,_,h,_,_,_,_,_,_,_=>by cases h
 |_,.str _,.ay _,_,_,_,_,_,h,_,_,_,_,_,_,_=>by cases h
 |_,.str _,.ty _,_,_,_,_,_,h,_,_,_,_,_,_,_=>by cases h
 |_,.str _,.bu _,_,_,_,_,_,h,_,_,_,_,_,_,_=>by cases h
 |_,.str _,.exc _,_,_,_,_,_,h,_,_,_,_,_,_,_=>by cases h
 |_,.str _,.cg _ _ _,_,_,_,_,_,h,_,_,_,_,_,_,_=>by cases h
 |_,.tup _,.aq,_,_,_,_,_,h,_,_,_,_,_,_,_=>by cases h
 |_,.tup _,.bl _,_,_,_,_,_,h,_,_,_,_,_,_,_=>by cases h
 |_,.tup _,.int _,_,_,_,_,_,h,_,_,_,_,_,_,_=>by cases h
 |_,.tup _,.str _,_,_,_,_,_,h,_,_,_,_,_,_,_=>by cases h
 |_,.tup _,.lst _,_,_,_,_,_,h,_,_,_,_,_,_,_=>by cases h
 |_,.tup _,.aV _,_,_,_,_,_,h,_,_,_,_,_,_,_=>by cases h
 |_,.tup _,.ay _,_,_,_,_,_,h,_,_,_,_,_,_,_=>by cases h
 |_,.tup _,.ty _,_,_,_,_,_,h,_,_,_,_,_,_,_=>by cases h
 |_,.tup _,.bu _,_,_,_,_,_,h,_,_,_,_,_,_,_=>by cases h
 |_,.tup _,.exc _,_,_,_,_,_,h,_,_,_,_,_,_,_=>by cases h
 |_,.tup _,.cg _ _ _,_,_,_,_,_,h,_,_,_,_,_,_,_=>by cases h
theorem DW (I:Inv X π σ w.H s):∀(A:ó) (xs ys:List D) (b:Bool) (vs us:List V) (ps qs:List Ä),ja xs ys=some b->cU xs=true->cU ys=true->A.units+5*gJ xs+5<cLine->ak X.K w xs vs->ak X.K w ys us->Vals vs ps->Vals us qs->jv A s ps qs b
 |A,[],[],b,vs,us,ps,qs,h,_,_,_,W,U,Z,Y=>by
  cases h;cases W;cases U;cases Z;cases Y;exact .nn
 |A,[],y::ys,b,vs,us,ps,qs,h,_,_,_,W,U,Z,Y=>by
  cases h;cases W;cases Z;obtain ⟨u,r,rfl,_,_⟩:=U;cases Y;exact .nc _ _
 |A,x::xs,[],b,vs,us,ps,qs,h,_,_,_,W,U,Z,Y=>by
  cases h;cases U;cases Y;obtain ⟨u,r,rfl,_,_⟩:=W;cases Z;exact .cn _ _
 |A,x::xs,y::ys,b,vs,us,ps,qs,h,T,S,N,W,U,Z,Y=>by
  obtain ⟨v,r,rfl,P,M⟩:=W;obtain ⟨u,F,rfl,O,L⟩:=U;simp only [cU,Ë] at T S;simp only [gJ] at N;have E:=Nat.le_max_left (dep x) (gJ xs);have C:=Nat.le_max_right (dep x) (gJ xs)
  cases Z with
  |cons Z J =>
   cases Y with
   |cons Y G =>
    have R:=Pw I A T.1 S.1 (by omega) P O Z Y;simp only [ja] at h;split at h
    ·rename_i Q
     rw [Q] at R;exact .eq R (DW I A xs ys b _ _ _ _ h T.2 S.2 (by omega) M L J G)
    ·rename_i Q
     rw [Bool.not_eq_true] at Q;rw [Q] at R;exact .lt R (EJ I A x y b _ _ _ _ h T.1 S.1 (by omega) P O Z Y)
end
def gK (x y:D) (s:aa):Res D:=if (lay x&&lay y&&decide (dep x<=30))=true then bI ((nB x y).map D.bl) s else none
def vB (hr:bg k X.A):aU X (ć .Lt) (rO X.K Ξ gK):=by
 rintro O s σ H x y v u Q I U T ⟨w,W,V,rfl,S,R,P,h⟩;unfold gK at h;split at h
 ·rename_i Z
  simp only [Ë,Ú] at Z;obtain ⟨d,e,h⟩:=dH h
  cases Y:nB W V with
  |none=>rw [Y] at e;cases e
  |some b =>
   rw [Y] at e;cases e;exact EJ I X.A W V b x y v u Y Z.1.1 Z.1.2 (by have:=hr.un;have:=Z.2;have:cLine=9900:=rfl;omega) R P U T _ _ _ _ ⟨.bl b,w.H,I,rfl,az S h _ rfl⟩
 ·exact h.elim
end
end DI
namespace DI
open PySem L2
def mO (kf:D->aa->Res D) (o:D->D->aa->Res D):D->D->List D->aa->Res D
 |b,_,[],s=>ok b s
 |b,k,d::Z,s=>aj (ne (kf d s)) fun Y s=>aj (ne (o Y k s)) fun c s=>match c with
  | .bl true=>mO kf o d Y Z s
  | .bl false=>mO kf o b k Z s
  |_=>none
def yH (kf:D->aa->Res D) (o:D->D->aa->Res D) (dflt:Option D):List D->aa->Res D
 | [],s=>match dflt with
  |some d=>ok d s
  |none=>none
 |d::Z,s=>aj (ne (kf d s)) fun k s=>mO kf o d k Z s
def rK (K:Ĉ) (kf:D->aa->Res D):V->Hp->VK->Prop:=fun x H Q=>∃w Z,w.H=H/\aD K w/\DV K w Z x/\Out K bH w (kf Z w.aw) fun Y d=>∀v,DV K Y d v->Q v Y.H
theorem ya:∀{ds:List D} {vs:List V} {w:Wd} {b k:D} {vb vk:V},aD K w->LstAt w l all->ak K w ds vs->DV K w b vb->DV K w k vk ->
  Out K Ξ w (mO kf o b k ds w.aw) (fun w' d=>∀v,DV K w' d v->Q v w'.H)->sD K l all (rK K kf) (rO K bH o) vs vb vk w.H Q
 | [],vs,w,b,k,vb,vk,S,Y,X,W,U,h=>by
  have e:vs=[]:=X;subst e;exact ⟨Y.sq,az S h _ W⟩
 |d::ds,vs,w,b,k,vb,vk,S,Y,X,W,U,h=>by
  obtain ⟨v,r,rfl,R,P⟩:=X;refine ⟨Y.sq,w,d,rfl,S,R,(Out.aj h).ne.mono fun J I O G F B N=>⟨J,I,k,rfl,G,N,O _ _ U,(Out.aj F).ne.mono fun A c M L T E C=>?_⟩⟩;have Z:=O.trans M
  cases c with
  |bl c =>
   have e:E=.bl c:=C;refine ⟨c,e,?_⟩
   cases c with
   |true =>
    rw [ê rfl];exact ya (Ξ:=Ξ) L (Z.lst _ _ Y) (Z.all P) (Z _ _ R) (M _ _ N) T
   |false =>
    rw [ú Ñ];exact ya (Ξ:=Ξ) L (Z.lst _ _ Y) (Z.all P) (Z _ _ W) (Z _ _ U) T
  |_=>exact T.elim
def Mv (S:aD K w) (hl:DV K w (.lst ds) v) (hd:∀d,dflt=some d->∀w',DV K w' d dv)
 (h:Out K Ξ w (yH kf o dflt ds w.aw) (fun w' d=>∀v,DV K w' d v->Q v w'.H)):∃l all,v=.ref l/\(all=[]->dflt≠none)/\zq K l all (rK K kf) (rO K bH o) dv w.H Q:=by
 simp only [DV] at hl;obtain ⟨l,all,rfl,X,Z⟩:=hl;refine ⟨l,all,rfl,fun e z=>?_,X.sq,?_⟩
 ·subst e z
  have V:ds.length=0:=Z.length
  cases ds with
  |nil=>exact h
  |cons _ _=>cases V
 ·cases ds with
  |nil =>
   have e:all=[]:=Z;subst e
   cases dflt with
   |none=>exact h.elim
   |some d=>exact az S h _ (hd d rfl w)
  |cons d ds =>
   obtain ⟨x,r,rfl,W,U⟩:=Z;exact ⟨w,d,rfl,S,W,(Out.aj h).ne.mono fun O k Y T R N P=>ya (Ξ:=Ξ) T (Y.lst _ _ X) (Y.all U) (Y _ _ W) P R⟩
def N4 {X:Cx} {kn:Nat} {fA:Ó} {fd:ė} {p:Str} {fn:List D->aa->Res D} (F:bN X.prog X.w X.K X.mg X.base cH kn fA fd [p] (iD X.K fn)) (hr:bg (kn+1) X.A) (hb:Binds X.K fd [p] []):zp X.dG (.ref fA) (rK X.K fun d s=>fn [d] s):=by
 rintro V s σ H x v Q I Z ⟨w,Y,rfl,S,W,h⟩;exact Dy (X:=X.dG) (us:=[v]) (vs:=[x]) F hr.in1 hb .nil En I (.cons Z .nil) ⟨w,[Y],rfl,S,ak.one W,h⟩
def yb (kf:D->aa->Res D) (o:D->D->aa->Res D) (dflt:Option D) (d:D) (s:aa):Res D:=match d with
 | .lst Z=>yH kf o dflt Z s
 |_=>none
abbrev yI (fn:List D->aa->Res D):D->aa->Res D:=yb (fun d s=>fn [d] s) gK (some .aq)
def Mw (S:aD K w) (hl:DV K w d v) (hd:∀d,dflt=some d->∀w',DV K w' d dv)
 (h:Out K Ξ w (yb kf o dflt d w.aw) (fun w' d=>∀v,DV K w' d v->Q v w'.H)):∃l all,v=.ref l/\(all=[]->dflt≠none)/\zq K l all (rK K kf) (rO K bH o) dv w.H Q:=by
 unfold yb at h;split at h
 ·exact Mv S hl hd h
 ·exact h.elim
section
variable {X:Cx} {Ξ:Wd->aW->Prop} {e:ę} {p pos Gw Gx vd FA:Pos} {f:Wh D}
def Mx {j:Nat} {kn:Nat} (F:bN X.prog X.w X.K X.mg X.base cH kn fA fd [pn] (iD X.K fn)) (hr:bg (kn+1) X.A) (hk:X.mg kx=some (.ref fA)) (hb:Binds X.K fd [pn] []) (he:PE X e (tE X.K Ξ f)) (hc:X.calm=true) (hg:Gl X "min") (hm:X.mg "min"=none) (So:Gl X kx)
 (hs:Ê [e] X.env=(false,ĺ e X.env)::Ê [] X.env:=by rfl) (Sq:(kx==("__debug__":Str))=false:=by decide)
 (Sr:į pos (Ê [e] X.env)=(false,ĺ e X.env)::į pos (Ê [] X.env):=by rfl) (aQ:(į pos (Ê [e] X.env)).any (·.1)=false:=by rfl) :
  PE X (.Call (.Name "min" p) [e] [⟨some "key",.Name kx vd,Gw⟩,⟨some "default",.Constant .none j FA,Gx⟩] pos) (tE X.K Ξ (e1 (yI fn) f)):=by
 rintro T s σ H Q I ⟨w,env,rfl,S,O,h⟩;refine Ů (kQ I hg hm EG ?_);have N:=gv he (js (X:=X)) hs;have M:PK X [⟨some "key",.Name kx vd,Gw⟩,⟨some "default",.Constant .none j FA,Gx⟩] (uW (tC (.ref fA)) (uW (tC .aq) y7)):=CO (xp So hk rfl Sq) (CO Ds Ny);refine PyProof.Rows.callWith_kw (aA (N pos T s σ w.H (fun R Y=>∃v,R=[v]/\∃(Z:Wd) (d:D),Z.H=Y/\aD X.K Z/\DV X.K Z d v/\Out X.K Ξ Z (yI fn d Z.aw) (fun W d=>∀v,DV X.K W d v->Q v W.H)) I ⟨w,env,rfl,S,O,(Out.aj h).mono fun Z d q V U v dv=>⟨v,rfl,Z,d,rfl,V,dv,U⟩⟩) fun o L ⟨R,Y,J,G,E⟩=>?_) Sr aQ;refine aA (M pos T L σ Y (fun zs P=>zs=[.ref fA,.aq]/\P=Y) J ⟨rfl,rfl⟩) fun ws n ⟨zs,P,C,B,z⟩=>?_;obtain ⟨e1,e2⟩:=z;subst e1 e2;obtain ⟨v,rfl,Z,d,rfl,V,dv,U⟩:=E;obtain ⟨l,all,rfl,_,y⟩:=Mw (dv:=.aq) V dv (fun d e W=>by cases e;rfl) U;obtain ⟨u,rfl,x⟩:=vals1 G;obtain ⟨m,k,rfl,t,r⟩:=vals2 B;cases x;cases t;cases r;exact JW (dv:=.aq) hc (N4 F hr hb) (vB (X:=X.dG) (hr.in1)) C rfl y
end
def pU:List D->aa->Res D:=aS 2 2 (aB (bT (bx (e2 gK (af 1) (eB bG (ae (af 0) ah)))) (aO (e2 aZ (af 0) (af 1))) cB) (aO (eC (.int 0))))
def tF:List D->aa->Res D:=aS 2 3 (aB (bp (aK pU (ae (af 0) (ae (af 1) ah))) (gN 2)) (aO (eNew (ae (eB mv (ae (eC (.int 0)) (ae (e2 iX (af 2) (e2 om (eC (.int 10)) (eC (.int 18)))) ah))) (ae (e2 kh (af 2) (eC (.int 2147483647))) ah)))))
def de:List D->aa->Res D:=aS 2 4 (aB (bT (bx (e2 rg (e2 aZ (af 0) (eC (.int 0))) (eC (.int 0)))) (aB (bp (e2 kh (e2 aZ (af 0) (eC (.int 0))) (af 1)) (gN 2)) (aB (lC (e2 qH (e2 aZ (af 0) (eC (.int 0))) (af 1)) (af 0) (eC (.int 0))) (aO (af 2)))) cB) (aB (lC (e2 kh (e2 aT (e2 gE (e2 aZ (af 0) (eC (.int 1))) (eC (.int 48271))) (eC (.int 29))) (eC (.int 2147483647))) (af 0) (eC (.int 1))) (aB (bp (e2 kh (e2 aT (e2 aT (e2 gE (e2 aZ (af 0) (eC (.int 1))) (e2 aZ (af 0) (eC (.int 1)))) (e2 gE (eC (.int 39373)) (e2 aZ (af 0) (eC (.int 1))))) (eC (.int 7))) (eC (.int 2147483629))) (gN 3)) (aB (bp (e2 kh (e2 aT (e2 gE (af 3) (af 3)) (e2 gE (eC (.int 16807)) (af 3))) (eC (.int 2147483587))) (gN 3)) (aO (e2 kh (e2 qH (af 3) (eC (.int 8))) (af 1)))))))
def lW:List D->aa->Res D:=aS 2 3 (aB (bp (e2 aT (eC (.int 1)) (aK de (ae (af 0) (ae (eC (.int 4)) ah)))) (gN 2)) (aO (eB fm (ae (cN 1 [0,2] (fH (ae (af 1) ah)) (gN 0) (bx (e2 bZ (aK de (ae (af 1) (ae (e2 aT (af 2) (eC (.int 1))) ah))) (eC (.int 0)))) (af 0)) ah))))
def hW:Nat->List D->aa->Res D
 |0=>fun _ _=>none
 |n+1=>aS 2 2 (aB (bT (eD (e1 oU (af 1))) (aB (bT (fX (bx (e2 dh (eB bw (ae (af 0) (ae (eC (.ty "tuple")) ah))) (eB bw (ae (af 1) (ae (eC (.ty "tuple")) ah))))) (bx (e2 dh (eB bw (ae (af 0) (ae (eC (.ty "list")) ah))) (eB bw (ae (af 1) (ae (eC (.ty "list")) ah)))))) (aO (eC (.bl false))) cB) (aO (fe (e2 bZ (eB bG (ae (af 0) ah)) (eB bG (ae (af 1) ah))) (eB ik (ae (cN 2 [] (oO (ae (af 0) (ae (af 1) ah))) (gT [gN 0,gN 1]) fG (aK (hW n) (ae (af 0) (ae (af 1) ah)))) ah))))) cB) (aO (fe (e2 bZ (eB bw (ae (af 0) (ae (eC (.ty "bool")) ah))) (eB bw (ae (af 1) (ae (eC (.ty "bool")) ah)))) (e2 bZ (af 0) (af 1)))))
def pR:List D->aa->Res D:=aS 1 1 (aO (cN 1 [0] (lM (ae (eC (.int 1)) (ae (eB bG (ae (af 0) ah)) ah))) (gN 0) (bx (e2 bZ (e2 aZ (af 1) (af 0)) (e2 aZ (af 1) (e2 iX (af 0) (eC (.int 1)))))) (af 0)))
def kL:List D->aa->Res D:=aS 1 1 (aO (bC (ae (eB bG (ae (aK pR (ae (af 0) ah)) ah)) (ae (af 0) ah))))
def sU:List D->aa->Res D:=aS 1 1 (aO (eB ik (ae (cN 2 [] (oO (ae (af 0) (ae (cY (af 0) (cV (eC (.int 1))) cX) ah))) (gT [gN 0,gN 1]) fG (e2 gK (af 0) (af 1))) ah)))
def pT:List D->aa->Res D:=aS 1 1 (aO (fe (eB bw (ae (af 0) (ae (eC (.ty "int")) ah))) (fe (vj (eB bw (ae (af 0) (ae (eC (.ty "bool")) ah)))) (e2 vt (af 0) (eC (.int 0))))))
def iK:List D->aa->Res D:=aS 2 2 (aO (fe (aK pT (ae (af 0) ah)) (e2 gK (af 0) (af 1))))
def sZ:List D->aa->Res D:=aS 1 1 (aO (aK iK (ae (af 0) (ae (eC (.int (8))) ah))))
def sV:List D->aa->Res D:=aS 1 1 (aO (fe (eB bw (ae (af 0) (ae (eC (.ty "tuple")) ah))) (fe (eB ik (ae (cN 1 [] (fx (af 0)) (gN 0) fG (aK sZ (ae (af 0) ah))) ah)) (aK sU (ae (af 0) ah)))))
def sN:List D->aa->Res D:=aS 2 2 (aO (fe (eB bw (ae (af 0) (ae (eC (.ty "tuple")) ah))) (fe (sk rf rf (eC (.int 1)) (eB bG (ae (af 0) ah)) (af 1)) (eB ik (ae (cN 1 [] (fx (af 0)) (gN 0) fG (aK sV (ae (af 0) ah))) ah)))))
def lT:List D->aa->Res D:=aS 1 1 (bT (fQ (eD (aK sN (ae (af 0) (ae (eC (.int (10))) ah))))) Gi cB)
def tj:List D->aa->Res D:=aS 2 2 (aO (eB ik (ae (cN 1 [0] (fx (af 1)) (gN 0) fG (e2 oS (af 0) (af 1))) ah)))
def pV:List D->aa->Res D:=aS 3 4 (aB (bp (e2 aZ (af 0) (eB bG (ae (af 1) ah))) (gN 3)) (aO (eB ik (ae (cN 1 [3,0,2,1] (fH (ae (eB bG (ae (af 1) ah)) ah)) (gN 0) (bx (e2 bZ (e2 aZ (af 4) (af 0)) (af 3))) (aK tj (ae (af 1) (ae (e2 aZ (af 2) (af 0)) ah)))) ah))))
def tm:List D->aa->Res D:=aS 1 3 (aB (bp (cA (ae (bC (ae (eC (.int 0)) ah)) ah)) (gN 1)) (aB (i6 (lM (ae (eC (.int 1)) (ae (eB bG (ae (af 0) ah)) ah))) (gN 2) (bp (uA 2 [0] (fx (af 1)) (gN 0) fG (fH (ae (eC (.int (2))) ah)) (gN 1) (eD (aK pV (ae (af 2) (ae (af 0) (ae (af 1) ah))))) (e2 aT (af 0) (bC (ae (af 1) ah)))) (gN 1))) (aO (af 1))))
def sP:List D->aa->Res D:=aS 1 1 (aB (jy (aK lT (ae (af 0) ah))) (aO (e1 (yI kL) (aK tm (ae (af 0) ah)))))
end DI
namespace ST
open PySem PySem.W PyProof.Rows
structure Ord (α:Type) where
 lt:α->α->Bool
 Gy:∀a,lt a a=false
 tr:∀a b c,lt a b=true->lt b c=true->lt a c=true
 Sx:∀a b,lt a b=false->lt b a=false->a=b
section
variable {α:Type} (O:Ord α)
def Ord.le (a b:α):Prop:=O.lt b a=false
variable {O}
def Ord.le_refl (a:α):O.le a a:=O.Gy a
def Ord.le_of_lt (h:O.lt a b=true):O.le a b:=by
 unfold Ord.le
 cases Z:O.lt b a with
 |false=>rfl
 |true=>have:=O.tr _ _ _ h Z;rw [O.Gy] at this;cases this
def Ord.EK (h:O.le a b) (g:O.le b c):O.le a c:=by
 unfold Ord.le at *
 cases Z:O.lt c a with
 |false=>rfl
 |true =>
  cases Y:O.lt a b with
  |true=>have:=O.tr _ _ _ Z Y;rw [g] at this;cases this
  |false =>
   have e:=O.Sx a b Y h;subst e;rw [g] at Z;cases Z
end
def ok {β:Type} (c:Nat->Nat->Bool) (n:Nat):KasT β->(β->Prop)->Prop
 | .ret a,Q=>Q a
 | .ask i j k,Q=>i<n/\j<n/\ok c n (k (c i j)) Q
section
variable {α:Type} {O:Ord α} {x:Nat->α} {n:Nat}
noncomputable def ky (x:Nat->α) (p:Array Nat) (i:Nat):α:=x (p.getD i 0)
def Pm (n:Nat) (p:Array Nat):Prop:=p.size=n/\p.toList.Perm (Ĺ n)
def Up (O:Ord α) (f:Nat->α) (k:Nat):Prop:=∀i j,i<j->j<k->O.le (f i) (f j)
def Dn (O:Ord α) (f:Nat->α) (k:Nat):Prop:=∀i j,i<j->j<k->O.le (f j) (f i)
def Up.more (h:Up O f k) (hk:1<=k) (h1:O.le (f (k-1)) (f k)):Up O f (k+1):=fun i j Z X=>by
 by_cases e:j=k
 ·subst e
  by_cases Y:i=j-1
  ·subst Y;exact h1
  ·exact Ord.EK (h i (j-1) (by omega) (by omega)) h1
 ·exact h i j Z (by omega)
def Dn.more (h:Dn O f k) (hk:1<=k) (h1:O.le (f k) (f (k-1))):Dn O f (k+1):=fun i j Z X=>by
 by_cases e:j=k
 ·subst e
  by_cases Y:i=j-1
  ·subst Y;exact h1
  ·exact Ord.EK h1 (h i (j-1) (by omega) (by omega))
 ·exact h i j Z (by omega)
def Pm.lt (h:Pm n p) (hi:i<n):p.getD i 0<n:=by
 have Z:i<p.size:=by rw [h.1];exact hi
 have:p[i]∈p.toList:=by simp
 have e:p.getD i 0=p[i]:=by simp [Array.getD,Z]
 rw [e];exact Č.mp (h.2.mem_iff.mp this)
def Pm.rev (h:Pm n p) (i j:Nat):Pm n (kas_rev p i j):=⟨by rw [kas_rev_size];exact h.1,(Array.perm_iff_toList_perm.mp (mirror_perm p i j _)).trans h.2⟩
def nN {p q:Array Nat} {i j:Nat} (h:p[i]?=q[j]?):p.getD i 0=q.getD j 0:=by
 rw [Array.getD_eq_getD_getElem?,Array.getD_eq_getD_getElem?,h]
def N5 {p:Array Nat} {i j:Nat} (hj:j<=p.size) (k:Nat):ky x (kas_rev p i j) k=if i<=k/\k<j then ky x p (i+j-1-k) else ky x p k:=by
 have e:=getElem?_mirror_all (i:=i) hj k;unfold ky kas_rev
 split<;>rename_i h
 ·rw [ê h] at e;rw [nN e]
 ·rw [ú h] at e;rw [nN e]
def My (hj:j<=p.size) (he:∀k,i<=k->k<j->ky x p k=ky x p (j-1)):ky x (kas_rev p i j)=ky x p:=funext fun k=>by
 rw [N5 hj];split
 ·rw [he _ (by omega) (by omega),he k (by omega) (by omega)]
 ·rfl
noncomputable abbrev asks (O:Ord α) (x:Nat->α) (i j:Nat):Bool:=O.lt (x i) (x j)
structure DS (O:Ord α) (x:Nat->α) (n:Nat) (p:Array Nat) (m q:Nat):Prop where
 pm:Pm n p
 q1:q+1<=m
 mn:m<=n
 dn:Dn O (ky x p) m
 bl:∀k,m-(q+1)<=k->k<m->ky x p k=ky x p (m-1)
def DS.turn (D:DS O x n p m q):Pm n (kas_rev p (m-(q+1)) m)/\ky x (kas_rev p (m-(q+1)) m)=ky x p :=
 ⟨D.pm.rev _ _,My (by rw [D.pm.1];exact D.mn) D.bl⟩
end
section
variable {α:Type} {O:Ord α} {x:Nat->α} {prog:á} {w:Ą} {A:ó} {E:Ä->Ã->Prop} {s:Ã}
def kE (us:List Ä) (h:us.length<2):(us.toArray.zip us.toArray).map (·.2)=((List.toArray (Ĺ us.length)).toList.map fun i=>us.getD i Value.none).toArray:=by
 rcases us with _ | ⟨u,_ | ⟨v,r⟩⟩
 ·exact Array.toList_inj.mp (by simp)
 ·exact Array.toList_inj.mp (by simp)
 ·(simp at h;omega)
end
open HT
section
variable {prog:á} {w:Ą} {A:ó} {E:Ä->Ã->Prop} {s:Ã}
inductive lD (h:Į):List Ä->List (List Int)->Prop where
 |nil:lD h [] []
 |cons {a:Ó} {its:Array Ä} {ns:List Int} {us:List Ä} {iF:List (List Int)}:IsTup h a its->Vu its.toList ns->lD h us iF->lD h (.ref a::us) (ns::iF)
def lD.keep (k:∀c o,h.get? c=some o->h'.get? c=some o) (t:lD h us iF):lD h' us iF:=by
 induction t with
 |nil=>exact .nil
 |cons a b _ ih =>
  obtain ⟨o,Z,r⟩:=a;exact .cons ⟨o,k _ _ Z,r⟩ b ih
theorem lD.at (t:lD h us iF):∀i,i<us.length->∃a its,us.getD i Value.none=.ref a/\IsTup h a its/\Vu its.toList (iF.getD i []):=by
 induction t with
 |nil=>intro i hi;simp at hi
 |cons a b _ ih =>
  intro i hi
  cases i with
  |zero=>exact ⟨_,_,rfl,a,b⟩
  |succ i =>
   obtain ⟨c,its,e,r⟩:=ih i (by simpa using hi);exact ⟨c,its,by simpa using e,r⟩
inductive sG:List (Option Ä)->List (List Int)->Prop where
 |nil:sG [] []
 |aq {fs:List (Option Ä)} {iF:List (List Int)}:sG fs iF->sG (none::fs) ([]::iF)
 |one {fs:List (Option Ä)} {iF:List (List Int)} {n:Int} {t:Tok} {r:List Int}:sG fs iF->sG (some (.int n t)::fs) ((n::r)::iF)
noncomputable def ins {α:Type} (O:Ord α) (a:α):List α->List α
 | []=>[a]
 |b::r=>if O.lt b a=true then b::ins O a r else a::b::r
end
section
variable {α:Type} {O:Ord α}
end
end ST
namespace DI
open PySem L2
section
variable {X:Cx} {Ξ:Wd->aW->Prop} {a e tg:ę} {p pos:Pos} {f:Wh D} {fa:Wh (List D)}
end
end DI
namespace L2
open PySem PySem.Spec PyProof.Rows
structure DY (sc:ŷ) (cl eV:List (Str×Ó)) (C:Nat) (h:Į):Prop where
 old:∀n c,eV.lookup n=some c->(C<c/\(n,NameKind.cell)∈sc.names/\∃v,h.IsCell c v)\/cl.lookup n=some c
 own:∀n,sc.names.lookup n=some .cell\/(cl.lookup n).isSome=true->∃c,eV.lookup n=some c
 inj:(∀x y c,cl.lookup x=some c->cl.lookup y=some c->x=y)->(∀x c,cl.lookup x=some c->c<C)->∀x y c,eV.lookup x=some c->eV.lookup y=some c->x=y
theorem wN:∀(names:List (Str×Ő)) (n:Nat) (acc:List (Str×Ó)),(ž n names acc).lookup x=some c->((x,NameKind.cell)∈names/\n<=c)\/acc.lookup x=some c
 | [],n,acc,h=>.inr h
 |(y,k)::r,n,acc,h=>by
  unfold ž at h;split at h
  ·rename_i Z
   have Z:k=.cell:=by simpa using Z
   subst Z
   rcases wN r (n+1) _ h with ⟨h1,Y⟩|h1
   ·exact .inl ⟨Ï _ h1,by omega⟩
   ·rw [Đ] at h1
    split at h1
    ·rename_i e
     have e:x=y:=by simpa using e
     subst e;cases h1;exact .inl ⟨Ô,Wl _⟩
    ·exact .inr h1
  ·rcases wN r n acc h with ⟨h1,Y⟩|h1
   ·exact .inl ⟨Ï _ h1,Y⟩
   ·exact .inr h1
theorem wO:∀(names:List (Str×Ő)) (n:Nat) (acc:List (Str×Ó)),(∀x y c,acc.lookup x=some c->acc.lookup y=some c->x=y)->(∀x c,acc.lookup x=some c->c<n)->∀x y c,(ž n names acc).lookup x=some c->(ž n names acc).lookup y=some c->x=y
 | [],n,acc,hi,X=>hi
 |(z,k)::r,n,acc,hi,X=>by
  unfold ž;split
  ·refine wO r (n+1) _ (fun x y c Z Y=>?_) fun x c Z=>?_
   ·rw [Đ] at Z Y
    split at Z
    ·rename_i e1
     split at Y
     ·rename_i e2
      exact (by simpa using e1:x=z).trans (by simpa using e2:y=z).symm
     ·cases Z
      exact absurd (X y _ Y) (â _)
    ·split at Y
     ·cases Y
      exact absurd (X x _ Z) (â _)
     ·exact hi x y c Z Y
   ·rw [Đ] at Z
    split at Z
    ·cases Z;exact ŋ _
    ·exact Ĕ (X x c Z)
  ·exact wO r n acc hi X
theorem xh {lo:Nat}:∀(names:List (Str×Ő)) (h:Į) (acc:List (Str×Ó)),lo<=h.objs.size->(∀x c,acc.lookup x=some c->lo<=c->h.IsCell c none)->(ž h.objs.size names acc).lookup x=some c->lo<=c->(pushCells h names).IsCell c none
 | [],h,acc,_,Z,e,Y=>Z x c e Y
 |(z,k)::r,h,acc,V,Z,e,Y=>by
  unfold ž at e;unfold pushCells;split at e
  ·rename_i W
   rw [ê W];have U:(h.push { cls:=.type "cell",data:=.cell none }).objs.size=h.objs.size+1:=î ..;refine xh (lo:=lo) r _ ((z,h.objs.size)::acc) (by omega) (fun y d X T=>?_) (by rw [U];exact e) Y;rw [Đ] at X;split at X
   ·cases X
    exact ⟨_,Ì _ rfl,rfl⟩
   ·exact (Z y d X T).keeps fun b o q=>Á _ q
  ·rename_i W
   rw [ú W];exact xh r h acc V Z e Y
def Hq {E:Ä->Ã->Prop} {Q:Env->Ã->Prop}
 (hQ:∀eV h3,((∀x c,cl.lookup x=some c->c<s.heap.objs.size)->DY scope cl eV s.heap.objs.size h3)->h3.Ns s.heap.objs.size (fun _=>none)->(∀b o,s.heap.get? b=some o->h3.get? b=some o)->Q (newEnv scope s.heap.objs.size globals eV qual none .none (some env) bi) { s with heap:=h3 }) :
  Ù M A (newFunctionEnv scope globals cl [] qual none .none (some env) bi) Q E s:=by
 simp only [newFunctionEnv,Option.isSome_some,ă];refine À (wpAny_alloc ?_)
 refine À (wpAny_layCells _ (fun name kind cells=>by cases Z:kind==NameKind.cell<;>simp [Z]) _ _ _ _ ?_)
 rw [show ({ s with heap:=s.heap.push { cls:=.type "dict",data:=.dict #[] } }:Ã).heap.objs.size=s.heap.objs.size+1 from î ..]
 simp only [List.forIn_nil];refine À (Â (Â ?_));have Y:(s.heap.push { cls:=.type "dict",data:=.dict #[] }).objs.size=s.heap.objs.size+1:=î ..;refine hQ (ž (s.heap.objs.size+1) scope.names cl) _ (fun X=>⟨fun n c e=>?_,fun n W=>?_,fun hi V=>wO _ _ _ hi fun x c e=>Ĕ (V x c e)⟩) ((Heap.Ns.new s.heap (.type "dict")).keeps (pushCells_keeps _ _)) fun b o e=>pushCells_keeps _ _ b o (Á _ e)
 ·rcases wN _ _ _ e with ⟨h1,U⟩|h1
  ·exact .inl ⟨by omega,h1,none,xh (lo:=s.heap.objs.size+1) scope.names _ cl (by omega) (fun x d q T=>absurd (X x d q) (Nat.not_lt.mpr (Nat.le_of_succ_le T))) (by rw [Y];exact e) U⟩
  ·exact .inr h1
 ·exact Option.isSome_iff_exists.mp (Vp scope.names _ cl W)
abbrev cZ (X:Cx) (N:List Str) (sc:ŷ) (cl:List (Str×Ó)) (C:Ó) (s:Ã) (H:Hp) (ex:List Ó) (pn:List (Ó×Obj)):Cx:={ fD X N sc cl C s H ex pn with fn:=fun x=>sc.names.lookup x==some .cell }
structure l9 (X:Cx) (sc:ŷ) (N:List Str) (nt:Nat) (cap:List Nat):Prop where
 kind:sc.kind=.function
 names:∀x∈sc.names,x.2=.local->sc.names.lookup x.1=some .local
 cells:∀x∈sc.names,x.2=.cell->sc.names.lookup x.1=some .cell
 frees:∀x∈sc.names,x.2=.free->sc.names.lookup x.1=some .free/\(X.env.scope.names.lookup x.1=some .cell\/X.env.scope.names.lookup x.1=some .free)
 len:N.length=nt+cap.length
 y9:∀(k:Nat) j,cap[k]?=some j->∃x,X.N[j]?=some x/\N[nt+k]?=some x/\(x,å)∈sc.names
section
variable {X:Cx} {sc:ŷ} {N:List Str} {nt:Nat} {cap:List Nat} {cl eV:List (Str×Ó)} {s:Ã} {h1:Į} {H:Hp} {σ:St} {π:List (Ó×Obj)} {fp:List Ó} {C:Ó} {t':Nat}
def Inv.N6 (I:Inv X π σ H s) (S:l9 X sc N nt cap) (bS:∀n c,cl.lookup n=some c↔((n,å)∈sc.names/\X.env.cells.lookup n=some c)) (fj:DY sc cl eV C h1) (hf:∀b∈fp,cx X π H b) (dE:∀b∈fp,b<s.heap.objs.size)
  (hk:∀b o,s.heap.get? b=some o->h1.get? b=some o) (hC:s.heap.objs.size<=C) (gP:∃m,h1.Ns C m):Inv (cZ X N sc eV C s H fp (X.pn++π)) [] (jt nt cap σ) H { s with heap:=h1,toks:=t' }:=by
 have O:∀b∈bE X.stack,b∈X.env.locals::X.fs:=I.iP;have J:∀x c,cl.lookup x=some c->c<s.heap.objs.size:=fun x c e=>by
  obtain ⟨v,o,V,_⟩:=I.cell x c ((bS x c).mp e).2;exact É V
 have G:∀x,(relabel sc X.env).names.lookup x=some .cell\/(relabel sc X.env).names.lookup x=some .free->(x,å)∈sc.names\/sc.names.lookup x=some .cell:=fun x Z=>by
  rw [sQ] at Z
  cases e:sc.names.lookup x with
  |none=>rw [e] at Z;rcases Z with z|z<;>cases z
  |some k =>
   have hm:(x,k)∈sc.names:=by
    obtain ⟨l1,l2,e1,_⟩:=List.lookup_eq_some_iff.mp e;rw [e1];simp
   rw [e] at Z
   cases k with
   |free=>exact .inl hm
   |cell=>exact .inr rfl
   |_=>exfalso;revert Z;simp
 have F:∀x,(x,å)∈sc.names->∃c,X.env.cells.lookup x=some c:=fun x Z=>I.ok.has x (S.frees _ Z rfl).2;have M:∀x c,(x,å)∈sc.names->X.env.cells.lookup x=some c->eV.lookup x=some c:=fun x c Z R=>by
  have e:=(bS x c).mpr ⟨Z,R⟩;obtain ⟨d,hd⟩:=fj.own x (.inr (by rw [e];rfl))
  rcases fj.old x d hd with ⟨_,q,_⟩|q
  ·have T:=S.cells _ q rfl
   have W:=(S.frees _ Z rfl).1;dsimp only at T W;rw [T] at W;cases W
  ·rw [e] at q
   cases q;exact hd
 have ok:Cx.Ok (cZ X N sc eV C s H fp (X.pn++π)):=by
  refine ⟨I.ok.mod,?_,I.ok.glob,I.ok.blt,hC,?_,?_,?_,I.ok.hd,I.ok.frames,.inl rfl,?_,I.bs,ã I.ok.fz I.sz,?_,?_,I.stack,I.qd⟩
  ·exact S.kind
  ·exact fj.inj (fun x y c Z E=>I.ok.inj x y c ((bS x c).mp Z).2 ((bS y c).mp E).2) fun x c e=>Æ (J x c e) hC
  ·intro x Z
   rcases G x Z with hm|hm
   ·obtain ⟨c,e⟩:=F x hm
    exact ⟨c,M x c hm e⟩
   ·exact fj.own x (.inl hm)
  ·intro x c Z e
   rcases fj.old x c e with ⟨q,_,_⟩|q
   ·exact ã hC (Nat.le_of_lt q)
   ·have W:=(S.frees _ ((bS x c).mp q).1 rfl).1
    have T:sc.names.lookup x=some .cell:=by simpa using Z
    dsimp only at W;rw [T] at W;cases W
  ·intro b Y
   refine ⟨Þ (Æ (dE b Y) hC),fun x c e=>?_⟩
   rcases fj.old x c e with ⟨q,_,_⟩|q
   ·exact ĝ (Æ (dE b Y) (ã hC (Nat.le_of_lt q)))
   ·exact (hf b Y).2.2.2.2.1 x c ((bS x c).mp q).2
  ·intro b o e Y
   rcases (hf b Y).2.2.2.1 with z|z
   ·exact I.ok.jG b o e z
   ·exact absurd (Æ (É e) (ã I.ok.fz z)) (â _)
  ·intro b Y z
   rcases Ö.mp (O b z) with e|e
   ·exact (hf b Y).2.1 e
   ·exact (hf b Y).2.2.1 e
 obtain ⟨m,hm⟩:=gP;obtain ⟨mX,RC,D⟩:=I.loc;refine ⟨ok,rfl,I.bare,Un.kept hk,⟨m,hm,fun i x v e1 e2 e3=>?_⟩,fun x c e=>?_,I.au.fresh hC,fun x c e=>?_,fun p B=>?_,I.au.kept hk,?_⟩
 ·
  have hi:nt<=i:=by
   apply ι;intro L;have:(jt nt cap σ)[i]?=some none:=by
    unfold jt;rw [Û (by simpa using L),ě,ê L]
   rw [this] at e2;cases e2
  have U:(cap.map fun j=>(σ[j]?).getD none)[i-nt]?=some (some v):=by
   have e:=e2;unfold jt at e;rw [ë (by simpa using hi)] at e;simpa using e
  rw [à] at U
  cases Q:cap[i-nt]? with
  |none=>rw [Q] at U;cases U
  |some j =>
   rw [Q] at U;have ev:(σ[j]?).getD none=some v:=Wm U;have A:σ[j]?=some (some v):=by
    cases q:σ[j]? with
    |none=>rw [q] at ev;cases ev
    |some z=>rw [q] at ev;exact ı some ev
   obtain ⟨y,f1,f2,K⟩:=S.y9 _ _ Q;rw [Nat.add_sub_cancel' hi] at f2;have w:y=x:=Wm (f2.symm.trans e1);subst w;obtain ⟨g1,g2⟩:=S.frees _ K rfl;have t:mR X.env.scope y:=.inr g2;obtain ⟨u,r,l⟩:=D j y v f1 A t;refine ⟨u,r,.inr ⟨?_,?_⟩⟩
   ·show (relabel sc X.env).names.lookup y=some .cell\/(relabel sc X.env).names.lookup y=some .free
    rw [sQ,g1];simp only [Vg];split
    ·exact .inl rfl
    ·exact .inr rfl
   ·rcases l with ⟨k,_⟩ | ⟨_,c,R,h⟩
    ·exfalso
     have g:X.env.scope.names.lookup y=some .local:=k;dsimp only at g2;rw [g] at g2
     rcases g2 with z|z<;>cases z
    ·obtain ⟨P,V,hd⟩:=h
     exact ⟨c,M y c K R,P,hk _ _ V,hd⟩
 ·rcases fj.old x c e with ⟨_,_,q⟩|q
  ·exact q
  ·obtain ⟨v,P,V,hd⟩:=I.cell x c ((bS x c).mp q).2
   exact ⟨v,P,hk _ _ V,hd⟩
 ·rcases fj.old x c e with ⟨q,_,_⟩|q
  ·exact I.au.fresh (by omega)
  ·exact I.fq x c ((bS x c).mp q).2
 ·have f:p∈X.pn++π:=by simpa using B
  obtain ⟨e,n,ne,a,d⟩:=I.pin p f;refine ⟨hk _ _ e,n,Þ (Æ (É e) hC),fun z=>?_,d⟩
  rcases Ö.mp (O p.1 z) with q|q
  ·exact ne q
  ·exact a q
 ·unfold jt
  rw [ä,Ų,Í];exact S.len.symm
end
structure EL (P:á) (w:Ą) (E el tg src:ę) (tests:List ę) (new:Sem Ä) (ap:String) (mk:Ó->List V->HO) (jg:List V->Prop) where
 o0:Obj
 live:o0.isFreed=false
 Ac:Ó->List V->Į->Prop
 clauses:clausesOf E=[⟨tg,src,tests,0⟩]
 turns:∀{A:ó} {R:Result->Ã->Prop} {s:Ã} {eO av:Ä} {ce:Env} (J:Nat->Ã->Prop)
  (turn:∀n s,J n s->Ù (ß P w) A (Ŕ eO) (fun r s1=>match r with
   |none=>R (.ok .next) s1
   |some v=>Ù (ß P w) A (ł tg eO v) (fun _ s2=>Ù (ß P w) A (Vo tg ce v) (fun _ s3 =>
     Ù (ß P w) A (forIn tests true fun c r=>if r=true then do let ok <- isTrue c ce (ĺ c ce);pure (Ī ok) else pure (Ī r)) (fun ok s4 =>
      if ok=true then Ù (ß P w) A (ĺ el ce) (fun y s5=>Ù (ß P w) A (call (.builtin ap) [av,y]) (fun _ s6=>∃m,m<n/\J m s6) (fun _ _=>False) s5) (fun _ _=>False) s4
      else ∃m,m<n/\J m s4) (fun _ _=>False) s3) (fun _ _=>False) s2) (fun _ _=>False) s1) (fun _ _=>False) s)
  (n:Nat) (_:J n s),Ŭ (ß P w) A (.compLoop E 0 eO av ce) R s
 new:∀{A:ó} {X:Ä->Ã->Prop} {s:Ã} {Q:Ä->Ã->Prop},Q (.ref s.heap.objs.size) { s with heap:=s.heap.push o0 }->Ù (ß P w) A new Q X s
 start:∀{A:ó} {R:Result->Ã->Prop} {s:Ã} {it acc:Ä} {env:Env},Ŭ (ß P w) A (.compLoop E 0 it acc env) R s->Ù (ß P w) A (pyIter it) (fun nk s'=>Ŭ (ß P w) A (.compLoop E 0 nk acc env) R s') (notedBy (ß P w) A env fun x s'=>R (.error x) s') s->Ŭ (ß P w) A (.compStart E 0 it acc env) R s
 init:∀{D:Ó} {h:Į},h.get? D=some o0->Ac D [] h
 obj:∀{D:Ó} {acc:List V} {h:Į},Ac D acc h->∃o,h.get? D=some o/\∀v,o.data≠.cell v
 cO:∀{D:Ó} {acc:List V} {h h':Į},Ac D acc h->(∀o,h.get? D=some o->h'.get? D=some o)->Ac D acc h'
 DZ:∀{D:Ó} {acc:List V} {h:Į} {H:Hp},jg acc->Ac D acc h->bM P w (upd H D (mk D acc)) h D (mk D acc)
 add:∀{A:ó} {s:Ã} {D:Ó} {acc:List V} {v:V} {y:Ä} {Q:Ä->Ã->Prop},Ac D acc s.heap->RelV v y->jg acc->jg (acc++[v])->(∀h' tk,Ĥ D s.heap h'->Ac D (acc++[v]) h'->Q .none { s with heap:=h',toks:=tk })->Ù (ß P w) A (call (.builtin ap) [.ref D,y]) Q (fun _ _=>False) s
section
variable {X:Cx}
def BO {E el tg src:ę} {tests:List ę} {sc:ŷ} {N:List Str} {nt:Nat} {cap:List Nat} {wi:TI} {g:TG} {tf:TT} {te:TE} {p1:Pos} {use:Option (Ä->Sem Unit)} {R:Ä->Ã->Prop} {π:List (Ó×Obj)} {s:Ã} {σ:St} {H:Hp} {Q:VK} {new:Sem Ä} {ap:String} {mk:Ó->List V->HO} {jg:List V->Prop} (B:EL X.prog X.w E el tg src tests new ap mk jg) (hc:X.calm=true) (S:l9 X sc N nt cap) (eU:kC g nt) (hi:PI X tg src wi)
  (hY:∀(cl:List (Str×Ó)) (C:Ó) (s:Ã) (H:Hp) (ex:List Ó) (pn:List (Ó×Obj)),PG (cZ X N sc cl C s H ex pn) tg g/\PF (cZ X N sc cl C s H ex pn) tests tf/\PE (cZ X N sc cl C s H ex pn) el te)
  (hs:∀x,þ src X.env x=pure x) (I:Inv X π σ H s) (h:wi σ H fun J H1=>F1 mk jg J nt (ke cap σ) g tf te H1 Q)
  (zg:∀(s':Ã) (H1:Hp) (D C:Ó) (m:Str->Option Ä),(∀h',Ĥ C s'.heap h'->Inv X π σ H1 { s' with heap:=h' })->s'.heap.Ns C m->H1 C=none->C≠X.env.locals->C∉X.fs->X.bR.heap.objs.size<=C->(∀x c,X.env.cells.lookup x=some c->c≠C)->(∀p∈X.pn++π,p.1≠C)->Q (.ref D) H1->compPost (ß X.prog X.w) X.A X.xe use R (.ref D) C (.ok .next) s') :
  Ù (ß X.prog X.w) X.A (comprehension E sc X.env p1 new false (ĺ src X.env) use) R X.xe s:=by
 obtain ⟨cl,yF,bS⟩:=DB (env:=X.env) (sc:=sc) fun n hn=>I.ok.has n (S.frees _ hn rfl).2;refine wpAny_comprehension_free (use:=use) B.clauses hs yF S.kind S.names (aA (hi π s σ H _ I h) fun xv s1 h1=>aA h1 fun eO k h2=>?_);obtain ⟨it,t,tn,J,H2,e,M,T,dW,f2,W,⟨m0,w0⟩,turn⟩:=h2;subst e;refine B.new (Hq fun eV h3 j i9 lK=>?_);dsimp only at j i9 lK |-;generalize hD:k.heap.objs.size=D at j i9 lK |-;generalize hG:k.heap.push B.o0=G at j i9 lK |-;generalize Au:G.objs.size=C at j i9 lK |-;have hC:C=D+1:=by rw [<- Au,<- hG,î,hD]
 have ny:D≠C:=by omega
 have d:k.heap.objs.size<=D:=Ŷ hD;have l:k.heap.objs.size<=C:=by omega
 have old:∀b o,k.heap.get? b=some o->h3.get? b=some o:=fun b o e=>lK b o (hG ▸ Á _ e);have oM:B.Ac D [] h3:=B.init (lK _ _ (hG ▸ hD ▸ Ì _ B.live));have dE:∀b∈t,b<k.heap.objs.size:=fun b P=>by
  obtain ⟨o,e,_⟩:=T.obj _ _ dW b P;exact É e
 have j:=j fun x c e=>by
  obtain ⟨v,o,ho,_⟩:=M.cell x c ((bS x c).mp e).2;exact Æ (É ho) l
 have IB:=M.N6 (t':=k.toks) S bS j f2 dE old l ⟨_,i9⟩;have Av:D∉bE X.stack:=fun z=>by
  rcases Ö.mp (M.iP D z) with e|e
  ·exact absurd (Æ M.lt d) (by rw [e];exact â _)
  ·exact M.oB d e
 have kH:D∉t:=fun z=>absurd (Æ (dE D z) d) (â _);have x9:∀x c,eV.lookup x=some c->c≠D:=fun x c e z=>by
  rcases j.old x c e with ⟨q,_,_⟩|e
  ·rw [z] at q
   exact absurd q (by rw [hC];exact Nat.not_lt.mpr (ψ D))
  ·obtain ⟨v,o,ho,_⟩:=M.cell x c ((bS x c).mp e).2
   exact absurd (Æ (É ho) (by rw [z];exact d)) (â _)
 have yG:∀p∈X.pn++π,p.1≠D:=fun p L z=>absurd (Æ (É (M.pin p L).1) (by rw [z];exact d)) (â _);generalize O:cZ X N sc eV C k H2 t (X.pn++π)=Y at IB;have kI:∀{U:Hp} {pl:List (Ó×Obj)},(∀b∈t,U b=none)->(∀p∈pl,p.1∉t)->∀b∈t,cx Y pl U b:=fun {U pl} hn L b P=>by
  subst O;obtain ⟨_,f1,ni,f3,f4,f5⟩:=f2 b P;refine ⟨hn b P,Þ (Æ (dE b P) l),fun z=>?_,.inl P,fun x c e=>(j.old x c e).elim (fun q z=>ĝ (Æ (dE b P) (ã l (Nat.le_of_lt q.1))) z) fun e=>f4 x c ((bS x c).mp e).2,fun p su=>?_⟩
  ·rcases Ö.mp (M.iP b z) with e|e
   ·exact f1 e
   ·exact ni e
  ·rcases æ.mp su with z|z
   ·exact f5 p z
   ·exact fun e=>L p z (e ▸ P)
 have Ay:PG Y tg g:=by subst O;exact (hY _ _ _ _ _ _).1
 have Az:PF Y tests tf:=by subst O;exact (hY _ _ _ _ _ _).2.1
 have Sz:PE Y el te:=by subst O;exact (hY _ _ _ _ _ _).2.2
 have eP:Y.prog=X.prog:=by subst O;rfl
 have eW:Y.w=X.w:=by subst O;rfl
 have eA:Y.A=X.A:=by subst O;rfl
 have eK:Y.K=X.K:=by subst O;rfl
 have eE:Y.env=compEnvC sc eV C X.env:=by subst O;rfl
 have eX:Y.xe=fun _ _=>False:=by subst O;rfl
 have eC:Y.calm=true:=by subst O;exact hc
 have eS:Y.bR.heap.objs.size<=D:=by subst O;exact d
 have eF:D∉Y.fs:=by subst O;exact Av
 have eL:D≠Y.env.locals:=by subst O;exact ny
 have SA:∀x c,Y.env.cells.lookup x=some c->c≠D:=by subst O;exact x9
 have eN:∀p∈Y.pn,p.1≠D:=by subst O;exact yG
 have fin:∀(s':Ã) (a:St) (U:Hp) (Z:List V),Inv Y [] a U s'->B.Ac D Z s'.heap->U D=none->jg Z->(∀D,U D=none->Q (.ref D) (upd U D (mk D Z))) ->
   compPost (ß X.prog X.w) X.A X.xe use R (.ref D) C (.ok .next) s':=by
  intro s' a U Z F pl hn hz q;subst O;obtain ⟨m,hm,_⟩:=id F.loc;refine zg s' (upd U D (mk D Z)) D C m (fun h' sb=>?_) hm ?_ (fun z=>absurd (Æ M.lt l) (by rw [z];exact â _)) (M.oB l) (ã M.sz l) (fun x c e z=>?_) (fun p L z=>absurd (Æ (É (M.pin p L).1) (by rw [z];exact l)) (â _)) (q D hn)
  ·have zl:bB X.prog X.w U h':=F.au.but F.free sb
   have u:=(F.base.but l sb).adopt (o:=mk D Z) d hn
   refine M.qA (s':={ s' with heap:=h' }) (ch:=t) F.os u (zl.adopt hn (B.DZ hz (B.cO pl fun o e=>(sb.2 D ny).trans e))) F.bare (fun b P=>?_)
   obtain ⟨_,f1,_,f3,f4,f5⟩:=f2 b P;exact ⟨f3,f1,f4,f5⟩
  ·rw [aI (Œ ny)]
   exact F.free
  ·obtain ⟨v,o,dX,_⟩:=M.cell x c e
   exact absurd (Æ (É dX) (by rw [z];exact l)) (â _)
 have loop:Ŭ (ß X.prog X.w) X.A (.compLoop E 0 (.ref it) (.ref D) (compEnvC sc eV C X.env)) (compPost (ß X.prog X.w) X.A X.xe use R (.ref D) C)
   { k with heap:=h3 }:=by
  refine B.turns (fun n s'=>∃i Z o U,Inv Y [] (o++ke cap σ) U s'/\o.length=nt/\tn i s'.heap/\(∀b∈t,U b=none)/\B.Ac D Z s'.heap/\U D=none/\W i n Z U) ?_ m0
   ⟨0,[],Î nt none,H2,IB,by simp,T.keep _ _ _ dW fun b _ o e=>old b o e,fun b P=>(f2 b P).1,oM,M.au.fresh d,w0⟩
  rintro n s3 ⟨i,Z,o3,H3,I3,Gz,eQ,lF,GA,SD,w3⟩;generalize SE:o3++ke cap σ=a at I3;obtain ⟨f,ho,Px⟩:=B.obj GA;have sv:Inv Y [(D,f)] a H3 s3:=I3.gu fun p L=>by
   have e:p=(D,f):=by simpa using L
   subst e;exact ⟨ho,SD,eL,eF,Px⟩
  have nj:∀p∈[(D,f)],p.1∉t:=fun p L=>by
   have e:p=(D,f):=by simpa using L
   subst e;exact kH
  have pJ:∀{pl:List (Ó×Obj)} {bW:St} {U:Hp} {s':Ã},Inv Y ([(D,f)]++pl) bW U s'->B.Ac D Z s'.heap/\U D=none:=fun {pl bW U s'} F=>by
   have q:=F.pin (D,f) (Å _ (ù _ (by simp)));exact ⟨B.cO GA fun o e=>by rw [ho] at e;cases e;exact q.1,q.2.1⟩
  rcases turn i n Z H3 w3 with ⟨stop,hz,q⟩ | ⟨go,hz,N',hN,step⟩
  ·have hd:=T.done Y eP eW eK eC i [(D,f)] s3 a H3 (fun _ _=>False) sv (kI lF nj) eQ stop
   rw [eA] at hd;refine aA hd fun r s4 h4=>?_;obtain ⟨hr,I4⟩:=h4;subst hr;obtain ⟨Aq,n4⟩:=pJ (pl:=[]) (by simpa using I4);exact fin s4 a H3 Z (Inv.iN (π:=[]) I4) Aq n4 hz q
  ·have hd:=T.item Y eP eW eK eC i [(D,f)] s3 a H3 (fun _ _=>False) sv (kI lF nj) eQ go
   rw [eA] at hd;refine aA hd fun r s4 h4=>?_;obtain ⟨u,hr,h4⟩:=h4;subst hr;refine aA h4 fun _ s5 h5=>?_;obtain ⟨x,H5,I5,r5,y5,fY,rM⟩:=h5;have rN:=I5.pinned (kI rM nj) (T.obj _ _ fY);have q5:=Ay _ s5 a H5 x u _ rN r5 (SE ▸ eU x o3 _ H5 _ Gz (step o3 x H5 Gz y5));rw [eP,eW,eA,eE,eX] at q5;refine aA q5 fun _ s6 h6=>?_;obtain ⟨pK,H6,I6,⟨o6,sx,vA⟩,q6⟩:=h6;have q7:=Az _ s6 pK H6 _ I6 q6;rw [eP,eW,eA,eE,eX] at q7;refine aA q7 fun b s7 h7=>?_;obtain ⟨H7,I7,q7⟩:=h7;have rl:∀{bW:St} {U:Hp} {s':Ã},Inv Y ([(D,f)]++kR t s5.heap) bW U s'->tn (i+1) s'.heap/\∀b∈t,U b=none:=fun {bW U s'} F=>by
    refine ⟨T.keep _ _ _ fY fun b P o e=>(F.pin (b,o) (Å _ (Å _ (nE P e)))).1,fun b P=>?_⟩;obtain ⟨o,e,_⟩:=T.obj _ _ fY b P;exact (F.pin (b,o) (Å _ (Å _ (nE P e)))).2.1
   cases b with
   |false =>
    rw [ú Ñ] at q7 |-;obtain ⟨m',hm,w7⟩:=hN _ _ q7;obtain ⟨vZ,n7⟩:=pJ I7;obtain ⟨t7,f7⟩:=rl I7;exact ⟨m',hm,i+1,Z,o6,H7,vA ▸ I7.gu (fun p L=>by simp at L),sx,t7,f7,vZ,n7,w7⟩
   |true =>
    rw [ê rfl] at q7 |-;have q8:=Sz _ s7 pK H7 _ I7 q7;rw [eP,eW,eA,eE,eX] at q8;refine aA q8 fun y s8 h8=>?_;obtain ⟨v,H8,I8,r8,q9⟩:=h8;obtain ⟨m',hm,w8⟩:=hN _ _ q9;obtain ⟨Am,n8⟩:=pJ I8;obtain ⟨t8,f8⟩:=rl I8;have iA:jg (Z++[v]):=by
     rcases turn (i+1) m' (Z++[v]) H8 w8 with q|q
     ·exact q.2.1
     ·exact q.2.1
    refine B.add Am r8 hz iA fun h9 SF vY An=>?_;have Ao:Inv Y [] pK H8 s8:=I8.gu (fun p L=>by simp at L)
    have I9:Inv Y [] pK H8 { s8 with heap:=h9,toks:=SF }:=Ao.turned (it:=D) (fun b o P e=>(vY.2 b P).trans e) n8 eL (.inr eS) SA (fun p L=>eN p (by simpa using L))
    exact ⟨m',hm,i+1,Z++[v],o6,H8,vA ▸ I9,sx,T.keep _ _ _ t8 fun b P o e=>(vY.2 b (fun z=>kH (z ▸ P))).trans e,f8,An,n8,w8⟩
 exact B.start loop (T.self _ _ _ _ _ (T.keep _ _ _ dW fun b _ o e=>old b o e) loop)
def FD {P:á} {w:Ą} {el tg src:ę} {tests:List ę} {sc:ŷ} {ps:Pos}:EL P w (.ListComp el [⟨tg,src,tests,0⟩] sc ps) el tg src tests (newList []) "list.append" (fun _ acc=>.lst acc) (fun acc=>acc.length<=Ø) where
 o0:={ cls:=.type "list",dict:=none,data:=.seq ([]:List Ä).toArray }
 live:=rfl
 Ac:=fun D acc h=>∃Z,h.PlainList D Z/\Vals acc Z.toList
 clauses:=rfl
 turns:=IC
 new:=fun h=>ô h
 start:=codeAny_compStart_list
 init:=fun e=>⟨#[],⟨_,e⟩,.nil⟩
 obj:=fun ⟨_,⟨_,e⟩,_⟩=>⟨_,e,fun _ z=>by cases z⟩
 cO:=fun ⟨Z,⟨n,e⟩,r⟩ k=>⟨Z,⟨n,k _ e⟩,r⟩
 DZ:=fun Y ⟨Z,⟨n,e⟩,r⟩=>⟨Y,Z.toList,n,r,by simpa using e⟩
 add:=fun {A s D acc v y Q} ⟨Z,X,r⟩ W Y _ q=>wpAny_list_append_plain (hsz:=by have e:=r.length;simp only [Ā] at e;omega) X fun V U T=>q V s.toks T ⟨Z.push y,U,by rw [Vz];exact Vals.append r (.cons W .nil)⟩
def Lb (hc:X.calm=true) (S:l9 X sc N nt cap) (eU:kC g nt) (hi:PI X tg src wi)
 (hY:∀(cl:List (Str×Ó)) (C:Ó) (s:Ã) (H:Hp) (ex:List Ó) (pn:List (Ó×Obj)),PG (cZ X N sc cl C s H ex pn) tg g/\PF (cZ X N sc cl C s H ex pn) tests tf/\PE (cZ X N sc cl C s H ex pn) el te)
 (hs:∀x,þ src X.env x=pure x:=by intro _;rfl):PE X (.ListComp el [⟨tg,src,tests,0⟩] sc ps) (ml wi nt cap g tf te):=by
 intro T s σ H Q I h;rw [eval_ListComp];exact BO FD (use:=none) hc S eU hi hY hs I h fun R Z D C m Y W _ _ _ _ _ _ q=>⟨m,W,fun V U=>⟨.ref D,Z,Y V U,rfl,q⟩⟩
def Lc {el tg src:ę} {tests:List ę} {sc:ŷ} {ps pos pos':Pos} {N:List Str} {nt:Nat} {cap:List Nat} {wi:TI} {g:TG} {tf:TT} {te:TE} {i0:Nat} {x0:Str} (nq:X.N.Nodup) (nr:X.N[i0]?=some x0) (nu:Loc X.env.scope x0) (hc:X.calm=true) (S:l9 X sc N nt cap) (eU:kC g nt) (hi:PI X tg src wi)
  (hY:∀(cl:List (Str×Ó)) (C:Ó) (s:Ã) (H:Hp) (ex:List Ó) (pn:List (Ó×Obj)),PG (cZ X N sc cl C s H ex pn) tg g/\PF (cZ X N sc cl C s H ex pn) tests tf/\PE (cZ X N sc cl C s H ex pn) el te)
  (hs:∀x,þ src X.env x=pure x:=by intro _;rfl)
  (kJ:VI (.ListComp el [⟨tg,src,tests,0⟩] sc ps) (some (.Name x0 pos')) pos.line X.env=pure true:=by rfl)
  (nv:X.fn x0=true\/X.env.scope.names.lookup x0=some .local:=by first|exact .inl rfl|exact .inr rfl|assumption):PS X (.Assign [.Name x0 pos'] (.ListComp el [⟨tg,src,tests,0⟩] sc ps) pos) (mC (ml wi nt cap g tf te) (iV i0)):=by
 intro W s σ H V I h;rw [exec_Assign_Name_used _ _ _ _ kJ];refine À (Ō (À ?_));obtain ⟨Q,P⟩:∃Q:VK,Q=fun v Z=>iV i0 v σ Z V.nx:=⟨_,rfl⟩;have h:ml wi nt cap g tf te σ H Q:=by rw [P];exact h
 have G:∀v Z,Q v Z->V.nx (σ.set i0 (some v)) Z:=fun v Z q=>by rw [P] at q;exact q
 unfold evalThenUse
 refine À (ğ (Q:=fun _ Y=>SP X W V .next Y) ?_ (fun _ Y q=>Â (Â q)) (fun _ _ z=>z))
 refine BO FD (use:=some (Vo (.Name x0 pos') X.env)) hc S eU hi hY hs I h fun Y Z D C m F E O M B A y w q=>?_;have L:Inv X W σ Z Y:=F Y.heap (Heap.SameBut.refl _ _);obtain ⟨U,u,t,r,K,n⟩:=id E;have l:Inv X ((C,U)::W) σ Z Y:=L.gu fun p T=>by
  rcases Ö.mp T with e|e
  ·subst e
   exact ⟨r,O,M,B,fun v z=>by rw [K] at z;cases z⟩
  ·exact L.pin p (Å _ e)
 show Ù _ _ (Vo (.Name x0 pos') X.env (.ref D)) _ _ Y;refine wpAny_assign_Name (lV l nq nr nu (show RelV (.ref D) (.ref D) from rfl) (fun J R=>?_) nv);have k:=(R.pin (C,U) (Å _ (Ô ..))).1;refine ⟨m,⟨U,u,t,k,K,n⟩,fun d j=>⟨_,Z,?_,G _ _ q⟩⟩;have i:Inv X W (σ.set i0 (some (.ref D))) Z J:=R.gu fun p T=>R.pin p (Å _ (Ï _ T));exact i.turned (it:=C) (t':=J.toks) (fun b o f e=>(j.2 b f).trans e) O M (.inr A) y w
end
noncomputable def yc (sc:ŷ) (on:List (Str×Ő)) (oN N:List Str) (nt:Nat) (cap:List Nat):Bool :=
 decide (sc.kind=.function)&&sc.names.all (fun x=>decide (x.2=.local->sc.names.lookup x.1=some .local))&&sc.names.all (fun x=>decide (x.2=.cell->sc.names.lookup x.1=some .cell)) &&
 sc.names.all (fun x=>decide (x.2=.free->sc.names.lookup x.1=some .free/\(on.lookup x.1=some .cell\/on.lookup x.1=some .free)))&&decide (N.length=nt+cap.length) &&
 (Ĺ cap.length).all (fun k=>match cap[k]? with
  |some j=>match oN[j]? with
   |some x=>decide (N[nt+k]?=some x)&&decide ((x,å)∈sc.names)
   |none=>false
  |none=>true)
def ow (h:yc sc X.env.scope.names X.N N nt cap=true):l9 X sc N nt cap:=by
 unfold yc at h;simp only [Ë,õ,Ú] at h;obtain ⟨⟨⟨⟨⟨Z,Y⟩,W⟩,V⟩,U⟩,T⟩:=h;refine ⟨Z,Y,W,fun x S e=>V x S e,U,fun k j e=>?_⟩;have R:k<cap.length:=(È.mp e).1;have:=T k (Č.mpr R);rw [e] at this;dsimp only at this
 cases ex:X.N[j]? with
 |none=>rw [ex] at this;cases this
 |some x =>
  rw [ex] at this;simp only [Ë,Ú] at this;exact ⟨x,rfl,this.1,this.2⟩
end L2
namespace DI
open PySem L2
section
variable {X:Cx} {Ξ:Wd->aW->Prop} {e a b c tg el src:ę} {es rest tests:List ę} {pos:Pos} {f g h:Wh D} {fa:Wh (List D)} {ft gt:Wh Bool}
def xF (hc:X.calm=true) (S:l9 X sc N nt cap) (T:Tg X.K g0 gd nt) (hi:PI X tg src (dF X.K Ξ it))
 (hY:∀(cl:List (Str×Ó)) (C:Ó) (s:Ã) (H:Hp) (ex:List Ó) (pn:List (Ó×Obj)),PG (cZ X N sc cl C s H ex pn) tg g0/\PF (cZ X N sc cl C s H ex pn) tests (tT X.K bH ft)/\PE (cZ X N sc cl C s H ex pn) el (tE X.K bH f))
 (hs:∀x,þ src X.env x=pure x:=by intro _;rfl):PE X (.ListComp el [⟨tg,src,tests,0⟩] sc ps) (tE X.K Ξ (cN nt cap it gd ft f)) :=
 bY (Lb hc S T.m8 hi hY hs) fun σ H Q h=>BM T.imp (fun R Z i h=>Cv R Z i h) (Cu σ H Q h)
def xG {sc:ŷ} {ps pos':Pos} {N:List Str} {nt:Nat} {cap:List Nat} {it:Wh (List D)} {gd:D->Env->Option Env} {g0:TG} (i0:Nat) {x0:Str} (nq:X.N.Nodup) (hc:X.calm=true) (S:l9 X sc N nt cap) (T:Tg X.K g0 gd nt) (hi:PI X tg src (dF X.K Ξ it))
  (hY:∀(cl:List (Str×Ó)) (C:Ó) (s:Ã) (H:Hp) (ex:List Ó) (pn:List (Ó×Obj)),PG (cZ X N sc cl C s H ex pn) tg g0/\PF (cZ X N sc cl C s H ex pn) tests (tT X.K bH ft)/\PE (cZ X N sc cl C s H ex pn) el (tE X.K bH f))
  (nr:X.N[i0]?=some x0:=by rfl) (nu:Loc X.env.scope x0:=by first|exact Vi rfl|exact Or.inr rfl)
  (hs:∀x,þ src X.env x=pure x:=by intro _;rfl)
  (kJ:VI (.ListComp el [⟨tg,src,tests,0⟩] sc ps) (some (.Name x0 pos')) pos.line X.env=pure true:=by rfl)
  (nv:X.fn x0=true\/X.env.scope.names.lookup x0=some .local:=by first|exact .inl rfl|exact .inr rfl):PS X (.Assign [.Name x0 pos'] (.ListComp el [⟨tg,src,tests,0⟩] sc ps) pos) (tS X.K Ξ (bp (cN nt cap it gd ft f) (gN i0))) :=
 iR (Lc nq nr nu hc S T.m8 hi hY hs kJ nv) fun D σ H h=>by
  have Z:=wM (te:=tE X.K Ξ f) D σ H (tU D σ H h);exact BM T.imp (fun R Y i h=>Cv R Y i h) (Cu σ H _ Z)
end
end DI
namespace L2
open PySem PySem.Spec PyProof.Rows
section
variable {X:Cx} {tg:ę}
end
end L2
namespace DI
open PySem L2
section
variable {X:Cx} {Ξ:Wd->aW->Prop} {a b c tg:ę} {pos:Pos} {fa:Wh (List D)}
end
end DI
namespace L2
open PySem PySem.Spec PyProof.Rows
section
variable {X:Cx}
end
end L2
namespace DI
open PySem L2
section
variable {X:Cx} {Ξ:Wd->aW->Prop} {a:ę} {p pos:Pos} {fa:Wh (List D)}
end
section
variable {X:Cx} {Ξ:Wd->aW->Prop} {a:ę} {p pos:Pos} {f g:Wh D} {fa:Wh (List D)}
theorem ak.erase:∀{ds:List D} {xs:List V} (j:Nat),ak K w ds xs->ak K w (ds.eraseIdx j) (xs.eraseIdx j)
 | [],xs,j,h=>by
  have e:xs=[]:=h;subst e;exact h
 |d::ds,xs,0,h=>by
  obtain ⟨v,r,rfl,_,Z⟩:=h;exact Z
 |d::ds,xs,j+1,h=>by
  obtain ⟨v,r,rfl,Y,Z⟩:=h;exact ⟨v,r.eraseIdx j,rfl,Y,ak.erase j Z⟩
end
open HT PyProof.Rows
section
variable {X:Cx} {Ξ:Wd->aW->Prop}
end
end DI
namespace ST
open PySem PySem.Spec PyProof.Rows
section
variable {prog:á} {w:Ą} {A:ó} {E:Ä->Ã->Prop} {s:Ã}
end
end ST
namespace DI
open PySem L2
section
variable {X:Cx} {Ξ:Wd->aW->Prop}
end
section
variable {X:Cx} {Ξ:Wd->aW->Prop} {e o i:ę} {pos mL:Pos} {f fo fi:Wh D}
end
end DI
namespace L2
open PySem PySem.Spec PyProof.Rows
section
variable {X:Cx}
end
end L2
namespace DI
open PySem L2
section
variable {X:Cx} {Ξ:Wd->aW->Prop}
end
end DI
namespace L2
open PySem PySem.Spec PyProof.Rows
section
variable {X:Cx}
end
end L2
namespace DI
open PySem L2
section
variable {X:Cx} {Ξ:Wd->aW->Prop} {a:ę} {pos:Pos} {f:Wh D}
end
end DI
namespace L2
open PySem PySem.Spec PyProof.Rows
section
variable {X:Cx}
end
end L2
namespace DI
open PySem L2
section
variable {X:Cx} {Ξ:Wd->aW->Prop} {pos:Pos}
def N7:PE X (.Dict [] [] pos) (tE X.K Ξ (eC (.aV []))):=bY KG fun σ H Q W=>by
 obtain ⟨w,env,V,S,U,h⟩:=W;subst V;intro p Y;exact h (w.grow p (.dK [])) (Fw.grow Y).le (S.grow Y) rfl (.ref p) ⟨p,rfl,(show ¬ w.Z p from j6 S Y),bO⟩
end
end DI
namespace L2
open PySem PySem.Spec PyProof.Rows
end L2
namespace DI
open PySem L2
section
variable {X:Cx} {Ξ:Wd->aW->Prop}
end
end DI
namespace L2
open PySem PySem.Spec PyProof.Rows
open AutoSeq1 (wpAny_loadPart')
section
variable {prog:á} {w:Ą} {A:ó} {E:Ä->Ã->Prop} {s:Ã}
end
section
variable {X:Cx}
end
end L2
namespace DI
open PySem L2
section
variable {X:Cx} {Ξ:Wd->aW->Prop} {a:ę} {p pos:Pos} {fa:Wh (List D)}
end
end DI
namespace L2
open PySem PySem.Spec PyProof.Rows
section
variable {X:Cx} {pos:Pos}
end
end L2
namespace DI
open PySem L2
section
variable {X:Cx} {Ξ:Wd->aW->Prop} {a b c:ę} {pos:Pos} {fa:Wh (List D)}
end
section
variable {X:Cx} {Ξ:Wd->aW->Prop} {a b:ę} {pos:Pos} {fa:Wh (List D)}
def N8 {j1 j2}:PE X (.Dict [some (.Constant (.str i) j1 p1)] [.Constant (.int v) j2 p2] pos) (tE X.K Ξ (eC (.aV [(Vs i,v)]))) :=
 bY (Mf (KH Dt Dr Me) rfl rfl (by simp) (by simp)) fun σ H Q V=>by
  obtain ⟨w,env,U,S,T,h⟩:=V;subst U;intro p W;refine ⟨bO,[(Vs i,.int v)],rfl,by simp,?_⟩;have e:upd (upd w.H p (.dK [])) p (.dK (nV [] [(Vs i,.int v)]))=upd w.H p (.dK [(Vs i,.int v)]):=by
   funext b;by_cases Y:b=p
   ·subst Y;rw [bO,bO];rfl
   ·rw [aI Y,aI Y,aI Y]
  rw [e];exact h (w.grow p (.dK [(Vs i,.int v)])) (Fw.grow W).le (S.grow W) rfl (.ref p) ⟨p,rfl,(show ¬ w.Z p from j6 S W),bO⟩
end
noncomputable def sH:D->Option (Bool×List D)
 | .tup Z=>some (true,Z)
 | .lst Z=>some (false,Z)
 |_=>none
def D1 (h:sH d=some (k,xs)):d=gU k xs:=by
 cases d with
 |tup Z=>cases h;rfl
 |lst Z=>cases h;rfl
 |_=>cases h
def oX (ds:List D) (s:aa):Res (List D):=match ds with
 | [x,y]=>match sH x,sH y with
  |some (_,Z),some (_,Y)=>ok (fy Z Y) s
  |_,_=>none
 |_=>none
def qP (fa:Wh (List D)):Wh (List D):=fun env s=>aj (fa env s) oX
section
variable {X:Cx} {Ξ:Wd->aW->Prop} {a b:ę} {fa:Wh (List D)} {pos:Pos}
def D2:∀{k},DV K w (gU k ds) v->∃a,v=.ref a
 |true,h=>by simp only [DV] at h;obtain ⟨p,_,rfl,_⟩:=h;exact ⟨p,rfl⟩
 |false,h=>by simp only [DV] at h;obtain ⟨p,_,rfl,_⟩:=h;exact ⟨p,rfl⟩
def N9 {p:Pos} {elts:List ę} {kk:Nat} {oG:Pos} (hg:Gl X "zip") (hm:X.mg "zip"=none) (ha:PA X [a,b] (tA X.K Ξ fa)) (hs:Ê [a,b] X.env=[(false,ĺ a X.env),(false,ĺ b X.env)]:=by rfl) (fC:Ê [b] X.env=[(false,ĺ b X.env)]:=by rfl) :
  PI X (.Tuple elts kk oG) (.Call (.Name "zip" p) [a,b] [] pos) (dF X.K Ξ (qP fa)):=by
 intro D s σ H R I N;obtain ⟨w,env,C,S,B,h⟩:=N;subst C;unfold qP at h;obtain ⟨k,l,A⟩:∃k l:Bool,Out X.K Ξ w (fa env w.aw) fun Z Y=>∃W V,Y=[gU k W,gU l V]/\∀J,jj X.K Z J (fy W V)->R J Z.H:=by
  have T:=Out.aj h
  cases F:fa env w.aw with
  |none=>rw [F] at T;exact T.elim
  |some r =>
   obtain ⟨r,m⟩:=r;rw [F] at T
   cases r with
   |error x=>exact ⟨true,true,T⟩
   |ok Y =>
    have:∃k l W V,Y=[gU k W,gU l V]\/(∀s,oX Y s=none):=by
     unfold oX;split
     ·rename_i x y
      cases e1:sH x with
      |none=>exact ⟨true,true,[],[],.inr fun _=>rfl⟩
      |some u=>cases e2:sH y with
       |none=>exact ⟨true,true,[],[],.inr fun _=>rfl⟩
       |some v=>exact ⟨u.1,v.1,u.2,v.2,.inl (by rw [D1 e1,D1 e2])⟩
     ·exact ⟨true,true,[],[],.inr fun _=>rfl⟩
    obtain ⟨k,l,W,V,e|e⟩:=this
    ·subst e
     refine ⟨k,l,fun Z O Q M=>?_⟩;have U:Out X.K Ξ Z (oX [gU k W,gU l V] Z.aw) fun P Y=>∀J,jj X.K P J Y->R J P.H:=T Z O Q M;refine ⟨W,V,rfl,fun J z=>?_⟩
     have e:oX [gU k W,gU l V] Z.aw=ok (fy W V) Z.aw:=by cases k<;>cases l<;>rfl
     rw [e] at U;exact az Q U J z
    ·refine ⟨true,true,fun Z O Q M=>?_⟩
     have U:Out X.K Ξ Z (oX Y Z.aw) fun P Y=>∀J,jj X.K P J Y->R J P.H:=T Z O Q M;rw [e] at U;exact U.elim
 refine C0 (k:=k) (l:=l) hg hm ha hs fC D s σ w.H R I ⟨w,env,rfl,S,B,A.mono fun Z Y O Q U E t=>?_⟩;obtain ⟨W,V,rfl,U⟩:=U;obtain ⟨v,u,rfl,L,G⟩:=qo t;obtain ⟨p,rfl⟩:=D2 L;obtain ⟨q,rfl⟩:=D2 G;obtain ⟨o,N,_⟩:=uY L;obtain ⟨E,n,_⟩:=uY G;exact ⟨p,q,o,E,rfl,N,n,U _ (Cw L G)⟩
end
noncomputable def notStar:ę->Bool
 | .Starred ..=>false
 |_=>true
def Mz (h:notStar e=true):Ê (e::es) env=(false,ĺ e env)::Ê es env:=by
 cases e<;>first|rfl|cases h
section
variable {X:Cx} {Ξ:Wd->aW->Prop} {e:ę} {es:List ę} {f:Wh D} {fa:Wh (List D)} {pos:Pos}
def cq (ha:PE X e (tE X.K Ξ f)) (hr:PA X es (tA X.K Ξ fa)) (h:notStar e=true):PA X (e::es) (tA X.K Ξ (ae f fa)):=cR ha hr (Mz h)
def Oa {e1 e2 e3 e4 e5 e6 e7 e8:ę} {f1 f2 f3 f4 f5 f6 f7 f8:Wh D} (h1:PE X e1 (tE X.K Ξ f1)) (h2:PE X e2 (tE X.K Ξ f2)) (h3:PE X e3 (tE X.K Ξ f3)) (h4:PE X e4 (tE X.K Ξ f4)) (h5:PE X e5 (tE X.K Ξ f5)) (h6:PE X e6 (tE X.K Ξ f6)) (h7:PE X e7 (tE X.K Ξ f7)) (h8:PE X e8 (tE X.K Ξ f8)) (s1:notStar e1=true:=by rfl) (s2:notStar e2=true:=by rfl) (s3:notStar e3=true:=by rfl) (s4:notStar e4=true:=by rfl) (s5:notStar e5=true:=by rfl) (s6:notStar e6=true:=by rfl) (s7:notStar e7=true:=by rfl) (s8:notStar e8=true:=by rfl):PE X (.List [e1,e2,e3,e4,e5,e6,e7,e8] pos) (tE X.K Ξ (cA (ae f1 (ae f2 (ae f3 (ae f4 (ae f5 (ae f6 (ae f7 (ae f8 ah)))))))))):=er (cq h1 (cq h2 (cq h3 (cq h4 (cq h5 (cq h6 (cq h7 (cq h8 dM s8) s7) s6) s5) s4) s3) s2) s1)
def MA {e1 e2 e3 e4 e5 e6 e7 e8 e9 bJ bK AI AJ AK AL AM AN AO:ę} {f1 f2 f3 f4 f5 f6 f7 f8 f9 GC GD GF GH GI GJ GK GN GO:Wh D} (h1:PE X e1 (tE X.K Ξ f1)) (h2:PE X e2 (tE X.K Ξ f2)) (h3:PE X e3 (tE X.K Ξ f3)) (h4:PE X e4 (tE X.K Ξ f4)) (h5:PE X e5 (tE X.K Ξ f5)) (h6:PE X e6 (tE X.K Ξ f6)) (h7:PE X e7 (tE X.K Ξ f7)) (h8:PE X e8 (tE X.K Ξ f8)) (h9:PE X e9 (tE X.K Ξ f9)) (SH:PE X bJ (tE X.K Ξ GC)) (pA:PE X bK (tE X.K Ξ GD)) (pz:PE X AI (tE X.K Ξ GF)) (SI:PE X AJ (tE X.K Ξ GH)) (SJ:PE X AK (tE X.K Ξ GI)) (rZ:PE X AL (tE X.K Ξ GJ)) (SK:PE X AM (tE X.K Ξ GK)) (SM:PE X AN (tE X.K Ξ GN)) (SN:PE X AO (tE X.K Ξ GO)) (s1:notStar e1=true:=by rfl) (s2:notStar e2=true:=by rfl) (s3:notStar e3=true:=by rfl) (s4:notStar e4=true:=by rfl) (s5:notStar e5=true:=by rfl) (s6:notStar e6=true:=by rfl) (s7:notStar e7=true:=by rfl) (s8:notStar e8=true:=by rfl) (s9:notStar e9=true:=by rfl) (SO:notStar bJ=true:=by rfl) (SQ:notStar bK=true:=by rfl) (SR:notStar AI=true:=by rfl) (SS:notStar AJ=true:=by rfl) (SU:notStar AK=true:=by rfl) (SV:notStar AL=true:=by rfl) (SW:notStar AM=true:=by rfl) (SX:notStar AN=true:=by rfl) (SY:notStar AO=true:=by rfl):PE X (.List [e1,e2,e3,e4,e5,e6,e7,e8,e9,bJ,bK,AI,AJ,AK,AL,AM,AN,AO] pos) (tE X.K Ξ (cA (ae f1 (ae f2 (ae f3 (ae f4 (ae f5 (ae f6 (ae f7 (ae f8 (ae f9 (ae GC (ae GD (ae GF (ae GH (ae GI (ae GJ (ae GK (ae GN (ae GO ah)))))))))))))))))))):=er (cq h1 (cq h2 (cq h3 (cq h4 (cq h5 (cq h6 (cq h7 (cq h8 (cq h9 (cq SH (cq pA (cq pz (cq SI (cq SJ (cq rZ (cq SK (cq SM (cq SN dM SY) SX) SW) SV) SU) SS) SR) SQ) SO) s9) s8) s7) s6) s5) s4) s3) s2) s1)
end
end DI
namespace L2
open PySem PySem.Spec PyProof.Rows
structure jV (P:á) (w:Ą) (outer:List Env) (H:Hp) (s:Ã) (H':Hp) (B:Į) (a:Ó) (cls a0:Ä) (h:Į):Prop where
 fl:Heap.FlyingW B outer a cls a0 h
 old:∀b o,s.heap.get? b=some o->H b=none->b∉bE outer->B.get? b=some o
 there:∀b o,s.heap.get? b=some o->b∉bE outer->∃o',B.get? b=some o'
 slot:∀b o,s.heap.get? b=some o->b∈bE outer->∃sl,h.get? b=some { o with slots:=sl }
 au:bB P w H' B
 free:∀b o,s.heap.get? b=some o->H b=none->H' b=none
 df:∀b xs,H b=some (.tup xs)->H' b=some (.tup xs)
 cP:∀b o u,H b=some (.aN o u)->H' b=some (.aN o u)
 dg:∀b ps,H b=some (.cD ps)->∃more,H' b=some (.cD (ps++more))
def eZ (P:á) (w:Ą):gM:=fun outer H s E e Z=>∃a cls X Y B,e=.ref a/\Z.os=s.os/\Wb Z.gens/\jV P w outer H s Y B a cls X Z.heap/\E cls none Y
section
variable {P:á} {w:Ą} {outer:List Env} {H H':Hp} {s:Ã} {B h h':Į} {a:Ó} {cls a0:Ä}
def jV.un (F:jV P w outer H s H' B a cls a0 h):Un (bE outer) [] H H' s.heap h where
 keep:=fun b o e n Z _=>F.fl.1 b o (F.old b o e n Z)
 slot:=fun b o e n Z _=>F.slot b o e Z
 free:=fun b o e n _=>F.free b o e n
 there:=fun b o e _=>by
  by_cases Z:b∈bE outer
  ·obtain ⟨X,q⟩:=F.slot b o e Z
   exact ⟨_,q⟩
  ·obtain ⟨Y,q⟩:=F.there b o e Z
   exact ⟨Y,F.fl.1 b Y q⟩
 df:=F.df
 cP:=F.cP
 dg:=F.dg
def jV.held (F:jV P w outer H s H' B a cls a0 h):bB P w H' h:=F.au.kept fun b o e=>F.fl.1 b o e
def jV.on (F:jV P w outer H s H' B a cls a0 h) (hf:Heap.FlyingW B outer a cls a0 h') (hs:h.UpToSlots h'):jV P w outer H s H' B a cls a0 h' :=
 { F with
  fl:=hf
  slot:=fun b o e Z=>by
   obtain ⟨U,q⟩:=F.slot b o e Z;obtain ⟨_,T,Y,X⟩:=F.fl.2.2.1.mem Z;rw [q] at Y;cases Y;obtain ⟨W,V⟩:=hs b _ q X;exact ⟨W,V⟩ }
def bM.Py {o:HO} (x:bM P w H h a o):∃ob,h.get? a=some ob:=by
 cases o with
 |lst Z=>obtain ⟨_,_,_,_,e⟩:=x;exact ⟨_,e⟩
 |tup Z=>obtain ⟨_,_,_,ob,e,_⟩:=x;exact ⟨ob,e⟩
 |dK Y=>obtain ⟨_,_,_,_,o,_,_,e,_⟩:=x;exact ⟨_,e⟩
 |dT Y=>obtain ⟨_,_,_,_,o,_,_,e,_⟩:=x;exact ⟨_,e⟩
 |set S n=>obtain ⟨o,_,_,_,e,_⟩:=x;exact ⟨_,e⟩
 |ins C X fs=>obtain ⟨_,_,_,e,_⟩:=x;exact ⟨_,e⟩
 |own y=>exact x
 |xd fs=>obtain ⟨_,⟨_,_,_,e,_⟩,_⟩:=x;exact ⟨_,e⟩
 |bV lo hi=>obtain ⟨_,_,_,e⟩:=x;exact ⟨_,e⟩
 |aN ob u=>obtain ⟨e,_⟩:=x;exact ⟨_,e⟩
 |cD W=>exact ⟨_,x⟩
 |met f y=>exact ⟨_,x⟩
 |ext V=>obtain ⟨_,e,_⟩:=x;exact e
def jV.new (F:jV P w outer H s H' B a cls a0 h):H' a=none:=by
 cases e:H' a with
 |none=>rfl
 |some o =>
  obtain ⟨Y,Z⟩:=(F.au a o e).Py;rw [F.fl.2.1] at Z;cases Z
end
structure Lv (X:Cx) (E:XK):Prop where
 xe:X.xe=fun e s'=>Ù (ß X.prog X.w) X.A (leaving X.env e) (fun _ gO=>eZ X.prog X.w X.outer X.jF X.bR E e gO) (fun e' gO=>eZ X.prog X.w X.outer X.jF X.bR E e' gO) s'
 iu:X.stack=X.env::X.outer
 fr:X.env.frame=some X.env.locals
 ex:X.ex=[]
section
variable {X:Cx} {E:XK} {π:List (Ó×Obj)} {σ:St} {H:Hp} {s:Ã}
def Inv.uB (I:Inv X π σ H s) (L:Lv X E) {b:Ó} {o:Obj} (e:X.bR.heap.get? b=some o) (hb:b∉bE X.outer):b∉bE X.stack:=fun z=>by
 rcases Ö.mp (I.iP b z) with q|q
 ·exact absurd (É e) (by rw [q];exact Nat.not_lt.mpr I.ok.above)
 ·exact hb q
def xi (L:Lv X E) {b:Ó} (hb:b∈bE X.outer):b∈bE X.stack:=by
 rw [L.iu];unfold bE;rw [ξ,L.fr];exact Ï _ hb
def Ob (L:Lv X E):Passes (eZ X.prog X.w) X E:=by
 intro π σ H s e G I h;obtain ⟨a,cls,T,S,B,rfl,os,bare,F,q⟩:=h;rw [L.xe];have fl:=F.fl;rw [L.iu] at fl;refine wpAny_leaves_onW (by rw [I.ok.frames,L.iu]) L.fr fl fun D R Q=>⟨a,cls,T,S,B,rfl,os.trans I.os,bare,⟨R,fun b o e n Z=>?_,fun b o e Z=>?_,fun b o e Z=>?_,F.au,fun b o e n=>?_,fun b V e=>F.df b V (I.base.df b V e),fun b o u e=>F.cP b o u (I.base.cP b o u e),fun b P e=>?_⟩,q⟩
 ·exact F.old b o (I.base.keep b o e n Z (by rw [L.ex];simp)) (I.base.free b o e n (by rw [L.ex];simp)) (I.uB L e Z)
 ·obtain ⟨W,Y⟩:=I.base.there b o e (by rw [L.ex];simp)
  exact F.there b W Y (I.uB L e Z)
 ·obtain ⟨C,Y⟩:=I.base.slot b o e (I.ok.jb b Z) Z (by rw [L.ex];simp)
  obtain ⟨A,e2⟩:=F.slot b _ Y (xi L Z);obtain ⟨_,z,U,O⟩:=F.fl.2.2.1.mem (xi L Z);rw [e2] at U;cases U;obtain ⟨N,M⟩:=Q b _ e2 O;exact ⟨N,M⟩
 ·obtain ⟨W,Y⟩:=I.base.there b o e (by rw [L.ex];simp)
  exact F.free b W Y (I.base.free b o e n (by rw [L.ex];simp))
 ·obtain ⟨K,e1⟩:=I.base.dg b P e
  obtain ⟨J,e2⟩:=F.dg b _ e1;exact ⟨K++J,by rw [e2,Array.append_assoc]⟩
def IV (L:Lv X E) (I:Inv X π σ H s) {h1:Į} {e:Ó} {cls:Ä} {us:List Ä} (hm:Heap.MadeExcOf s.heap h1 e cls us) (q:E cls none H):X.xe (.ref e) { s with heap:=h1 }:=by
 rw [L.xe];have V:=I.stack;have U:∀b u,H b=some u->b∉bE X.stack:=fun b u e z=>by rw [I.qd b z] at e;cases e
 refine wpAny_leaves_madeW (base:=PySem.W.hideAll s.heap (bE X.stack)) (h:=s.heap) (env:=X.env) (outer:=X.outer) (by rw [I.ok.frames,L.iu]) L.fr (fun b o e=>PySem.W.of_hideAll _ e) ?_ hm fun J t S _ _ R=>⟨e,cls,_,H,PySem.W.hideAll s.heap (bE X.stack),rfl,I.os,I.bare,⟨S,fun b o e n Z=>?_,fun b o e Z=>?_,fun b o e Z=>?_,fun b u e=>?_,fun b o e n=>I.base.free b o e n (by rw [L.ex];simp),I.base.df,I.base.cP,I.base.dg⟩,q⟩
 ·rw [<- L.iu]
  refine PySem.W.funFrames_hide V fun env Q a P=>?_;unfold bE;exact Va.mpr ⟨env,Q,P⟩
 ·exact ν _ (I.base.keep b o e n Z (by rw [L.ex];simp)) (I.uB L e Z)
 ·obtain ⟨O,Y⟩:=I.base.there b o e (by rw [L.ex];simp)
  exact ⟨O,ν _ Y (I.uB L e Z)⟩
 ·obtain ⟨G,Y⟩:=I.base.slot b o e (I.ok.jb b Z) Z (by rw [L.ex];simp)
  obtain ⟨_,F,T,N⟩:=V.mem (xi L Z);rw [Y] at T;cases T;obtain ⟨M,K⟩:=R b _ (hm.keeps b _ Y) N;exact ⟨M,K⟩
 ·refine (I.au b u e).cO (fun c v hc z=>ν _ z ?_) (fun _ z=>z) fun _ _ z=>z
  rcases hc with rfl|hc
  ·exact U c _ e
  ·exact U c _ hc
def Oc (X:Cx) (M:Mod X.K X.mg X.base) {x:Str} {C:Ó} {pM:List Ä} {newId:String} (eC:í X.K Ò x=some (some (.ref C))) (qC:Wf X.K C pM newId=true):OwnCls x C pM newId X.mg X.base:=by
 have KB:=M.kq;refine ⟨Ż KB M.glob eC,?_⟩;unfold Wf at qC;split at qC
 case h_2=>cases qC
 rename_i O cd Y N;split at qC
 case h_2=>cases qC
 rename_i G bm V a1 a2 U nw T S R;simp only [Ë,beq_iff_eq,ś] at qC;obtain ⟨⟨⟨⟨⟨L,J⟩,Q⟩,I⟩,Z⟩,P⟩:=qC;subst L J;cases cd;dsimp only at S Q Z P;subst S Q;have H:Y=#[V,a1,a2,U,some (.builtin nw),T]:=by cases Y;simp only at R;rw [R]
 subst H;exact ⟨bm,_,_,_,_,_,_,_,_,_,O,V,a1,a2,U,T,_,KB _ _ N,.of_isNs (PySem.W.isNs_of_in KB Z),PySem.W.nsMap_none_of_in KB Z P,PySem.W.tail_of_in KB I⟩
def Ld {x:Str} {C:Ó} {pM:List Ä} {B newId Od:String} {np bh pos:Pos} {ko:ę} {rest:List ę} {t:TA} (L:Lv X E) (eC:í X.K Ò x=some (some (.ref C))) (qC:Wf X.K C pM newId=true) (FB:ExcBaseFacts B newId Od pM) (hc:X.calm=true) (hg:Gl X x) (ha:PA X (ko::rest) t) (hd:(x==("__debug__":Str))=false:=by decide)
  (he:Ê (ko::rest) X.env=(false,ĺ ko X.env)::Ê rest X.env:=by rfl) (iQ:(į bh (Ê rest X.env)).any (·.1)=false:=by rfl) :
  PS X (.Raise (some (.Call (.Name x np) (ko::rest) [] bh)) none pos) (fun _ σ H=>t σ H fun vs H1=>vs.length<=Ø/\E (.ref C) none H1):=by
 intro π s σ H D I h;have O:OwnCls x C pM newId X.mg X.base:=Oc X I.ok.mod eC qC;obtain ⟨W,N,nm,q,bs,hdct,sn,sub,ab,col,dd,k0,k1,k2,k3,k5,mN,V,U,S,T⟩:=O.obj;refine wpAny_Raise_call_subT (C:=C) (nm:=nm) (q:=q) (N:=N) (bs:=bs) (bm:=W) (hdct:=hdct) (sn:=sn) (sub:=sub) (ab:=ab) (col:=col) (dd:=dd) (k0:=k0) (k1:=k1) (k2:=k2) (k3:=k3) (k5:=k5)
  FB (mN:=mN) (T.hasType FB.hasBase) (I.ok.hd hc) (by rw [he];show (false||(į bh (Ê rest X.env)).any (·.1))=false;rw [iQ];rfl) S (qe I hg O.bound ⟨rfl,?_⟩ hd)
 have Y:=ha bh π s σ H _ I h;rw [he] at Y |-;refine Calls.evalArgs_plain (aA Y fun P M ⟨vs,H1,Z,r,z,R⟩=>⟨rfl,by rw [<- r.length];exact z,Z.bk _ _ V,U.keeps Z.bk,T.keeps Z.bk,fun J e Q=>?_⟩);exact IV L Z Q R
end
end L2
namespace DI
open PySem L2
abbrev GG (K:Ĉ) (mg:Str->Option Ä) (x:Str) (st:Wc) (ps:List Str):Prop:=∃f fd,Gd K mg x st ps f fd
abbrev cE (P:á) (w:Ą) (K:Ĉ) (mg:Str->Option Ä) (base:Į) (x:Str) (st:Wc) (ps:List Str) (k:Nat) (fn:List D->aa->Res D):Prop:=∀{f:Ó} {fd:ė},Gd K mg x st ps f fd->bN P w K mg base cH k f fd ps (iD K fn)
noncomputable def oY (N ps:List Str) (sc:ŷ):Bool:=decide (sc.kind=.function)&&!sc.isCoroutine&&!sc.isGenerator&&decide N.Nodup&&decide (N.take ps.length=ps)&&ps.all (fun x=>decide (sc.names.lookup x=some .local\/sc.names.lookup x=some .cell))&&sc.names.all (fun y=>decide (y.2≠.free))
def kT (h:oY N ps sc=true):nJ N ps sc:=by
 unfold oY at h;simp only [Ë,ś,Ú,õ] at h;obtain ⟨⟨⟨⟨⟨⟨Z,Y⟩,X⟩,W⟩,V⟩,U⟩,T⟩:=h;exact ⟨Z,Y,X,W,V,U,T⟩
def cG (G:Gd K mg x st ps f fd) (N:List Str) (S:oY N ps (cm st)=true)
 (hb:N.Nodup->∀(ba:Ä) (A:ó) (outer:List PySem.Env) (s:Ã) (H:Hp) (E:XK),bg k (A.deeper (š x (cm st) s.heap.objs.size f ba))->cb (ic cH P w K mg base N x (cm st) f ba A outer s H E).kr (gw st) (tS K bH b)) :
  bN P w K mg base cH (k+1) f fd ps (iD K (aS ps.length N.length b)):=Ew G.fn (kT S) (hb (kT S).nd)
section
variable {X:Cx} {Ξ:Wd->aW->Prop} {e a b c tg el src:ę} {es rest tests:List ę} {pos:Pos} {f g h:Wh D} {fa:Wh (List D)} {ft gt:Wh Bool}
def bq {k n:Nat} {x:Str} {st:Wc} {ps:List Str} {fn:List D->aa->Res D} {p:Pos} (G:GG X.K X.mg x st ps) (F:cE X.prog X.w X.K X.mg X.base x st ps k fn) (hr:bg n X.A) (ha:PA X (e::es) (tA X.K Ξ fa)) (hk:k<=n:=by decide) (hg:Gl X x:=by rfl) (cJ:(x==("__debug__":Str))=false:=by decide)
  (he:Ê (e::es) X.env=(false,ĺ e X.env)::Ê es X.env:=by rfl) (aQ:(į pos (Ê es X.env)).any (·.1)=false:=by rfl):PE X (.Call (.Name x p) (e::es) [] pos) (tE X.K Ξ (aK fn fa)):=by
 obtain ⟨f,fd,G⟩:=G;exact uu (F G) (hr.mono hk) hg G.mg G.fn.kp G.b ha cJ he aQ
def aF (ha:PE X a (tE X.K Ξ f)) (hs:Ê [a] X.env=(false,ĺ a X.env)::Ê [] X.env:=by rfl):PA X [a] (tA X.K Ξ (ae f ah)):=cR ha dM hs
def aG (ha:PE X a (tE X.K Ξ f)) (hb:PE X b (tE X.K Ξ g)) (h1:Ê [a,b] X.env=(false,ĺ a X.env)::Ê [b] X.env:=by rfl) (h2:Ê [b] X.env=(false,ĺ b X.env)::Ê [] X.env:=by rfl):PA X [a,b] (tA X.K Ξ (ae f (ae g ah))):=cR ha (cR hb dM h2) h1
def md (ha:PE X a (tE X.K Ξ f)) (hb:PE X b (tE X.K Ξ g)) (hc:PE X c (tE X.K Ξ h)) (h1:Ê [a,b,c] X.env=(false,ĺ a X.env)::Ê [b,c] X.env:=by rfl) (h2:Ê [b,c] X.env=(false,ĺ b X.env)::Ê [c] X.env:=by rfl) (h3:Ê [c] X.env=(false,ĺ c X.env)::Ê [] X.env:=by rfl):PA X [a,b,c] (tA X.K Ξ (ae f (ae g (ae h ah)))):=cR ha (cR hb (cR hc dM h3) h2) h1
def jJ {x:Str} {px:Pos} {sc:ŷ} {ps:Pos} (N:List Str) {cap:List Nat} {it:Wh (List D)} (hi:PI X (.Name x px) src (dF X.K Ξ it))
  (hY:∀(cl:List (Str×Ó)) (C:Ó) (s:Ã) (H:Hp) (ex:List Ó) (pn:List (Ó×Obj)),PF (cZ X N sc cl C s H ex pn) tests (tT X.K bH ft)/\PE (cZ X N sc cl C s H ex pn) el (tE X.K bH f))
  (hc:X.calm=true:=by rfl) (S:yc sc X.env.scope.names X.N N 1 cap=true:=by kernel_rfl) (nd:N.Nodup:=by decide +kernel) (h0:N[0]?=some x:=by rfl) (hx:∀cl C s H ex pn,(cZ X N sc cl C s H ex pn).env.scope.names.lookup x=some .local:=by intros;rfl) (hs:∀x,þ src X.env x=pure x:=by intro _;rfl) :
  PE X (.ListComp el [⟨.Name x px,src,tests,0⟩] sc ps) (tE X.K Ξ (cN 1 cap it (gN 0) ft f)) :=
 xF hc (ow S) (nK 0) hi (fun cl C s H ex pn=>⟨iO nd h0 (.inl (hx cl C s H ex pn)) (.inr (hx cl C s H ex pn)),hY cl C s H ex pn⟩) hs
end
def gY (mg:Str->Option Ä) (E:XK):Wd->aW->Prop:=fun w x=>x.many=none/\∃C,mg x.c=some (.ref C)/\E (.ref C) none w.H
def pN (mg:Str->Option Ä) (K:Ĉ) (f:List D->aa->Res D):Sp:=fun X H Q E=>∃w Z,w.H=H/\aD K w/\ak K w Z X/\Out K (gY mg E) w (f Z w.aw) fun Y d=>∀v,DV K Y d v->Q v Y.H
def D3 (c:Str) (fa:Wh (List D)):Wh Fl:=fun env s=>aj (fa env s) fun Z s=>if decide (Z.length<=10)=true then some (.error ⟨c,none⟩,s) else none
def zt (K:Ĉ) (mg:Str->Option Ä) (x:Str):Prop:=∃C,í K Ò x=some (some (.ref C))/\mg x=some (.ref C)/\Wf K C [.type "ValueError",.type "Exception",.type "BaseException",.type "object"] "ValueError.__new__"=true
def nZ (fn:List D->aa->Res D) (fa:Wh (List D)):Wh D:=fun env s=>aj (fa env s) fn
section
variable {X:Cx} {E:XK} {Ξ:Wd->aW->Prop} {e a b c:ę} {es rest:List ę} {pos:Pos} {f g h:Wh D} {fa:Wh (List D)}
def MB {x:Str} {np bh:Pos} {ko:ę} (L:Lv X E) (hO:zt X.K X.mg x) (ha:PA X (ko::rest) (tA X.K (gY X.mg E) fa)) (hc:X.calm=true:=by rfl) (hg:Gl X x:=by rfl) (hd:(x==("__debug__":Str))=false:=by decide)
  (he:Ê (ko::rest) X.env=(false,ĺ ko X.env)::Ê rest X.env:=by rfl) (iQ:(į bh (Ê rest X.env)).any (·.1)=false:=by rfl) :
  PS X (.Raise (some (.Call (.Name x np) (ko::rest) [] bh)) none pos) (tS X.K (gY X.mg E) (D3 x fa)) :=
 let ⟨C,eC,V,U⟩:=hO
 iR (Ld L eC U PySem.F.excBase_ValueError hc hg ha hd he iQ) fun N σ H T=>by
  obtain ⟨w,env,R,S,Q,h⟩:=T;subst R;refine ⟨w,env,rfl,S,Q,(Out.aj h).mono fun W M J P Z I O=>?_⟩;split at Z
  ·rename_i Y
   have Y:=ĕ Y;obtain ⟨_,G,e1,q⟩:=Z W (Le.refl W) P rfl;rw [V] at e1;cases e1;exact ⟨ã (by rw [<- O.length];exact Y) (by decide),q⟩
  ·exact Z.elim
def MC {k:Nat} {fA:Ó} {fd:ė} {lN:List Str} {fn:List D->aa->Res D} {x:Str} {p:Pos} (L:Passes (eZ X.prog X.w) X E) (F:bN X.prog X.w X.K X.mg X.base (eZ X.prog X.w) k fA fd lN (pN X.mg X.K fn)) (hr:bg k X.A) (hg:Gl X x) (hm:X.mg x=some (.ref fA)) (hk:Ĵ X.K (.ref fA)=true) (hb:Binds X.K fd lN [])
  (ha:PA X (e::es) (tA X.K (gY X.mg E) fa)) (cJ:(x==("__debug__":Str))=false:=by decide) (he:Ê (e::es) X.env=(false,ĺ e X.env)::Ê es X.env:=by rfl) (aQ:(į pos (Ê es X.env)).any (·.1)=false:=by rfl) :
  PE X (.Call (.Name x p) (e::es) [] pos) (tE X.K (gY X.mg E) (nZ fn fa)):=bY (xt F hr hg hm hk hb .nil L ha cJ he aQ) fun σ H Q Y=>by
 obtain ⟨w,env,W,S,V,h⟩:=Y;subst W;refine ⟨w,env,rfl,S,V,(Out.aj h).mono fun Z U N T R P O=>?_⟩;show pN X.mg X.K fn (P++[]) Z.H Q E;rw [Ń];exact ⟨Z,U,rfl,T,O,R⟩
def Oe {α:Type} {K:Ĉ} {w:Wd} {r:Res α} {k:Wd->α->Prop} (h:Out K bH w r k):Out K Ξ w r k:=by
 match r,h with
 |some (.ok a,s),h=>exact h
 |some (.error x,s),h=>exact fun Z l S e=>(h Z l S e).elim
def Of:Passes (eZ X.prog X.w) X E0:=fun _ _ _ _ _ _ _ ⟨_,_,_,_,_,_,_,_,_,q⟩=>q.elim
def MD {k:Nat} {fA:Ó} {fd:ė} {lN:List Str} {fn:List D->aa->Res D} {x:Str} {p:Pos} (F:bN X.prog X.w X.K X.mg X.base (eZ X.prog X.w) k fA fd lN (pN X.mg X.K fn)) (hr:bg k X.A) (hg:Gl X x) (hm:X.mg x=some (.ref fA)) (hk:Ĵ X.K (.ref fA)=true) (hb:Binds X.K fd lN [])
  (ha:PA X (e::es) (tA X.K Ξ fa)) (cJ:(x==("__debug__":Str))=false:=by decide) (he:Ê (e::es) X.env=(false,ĺ e X.env)::Ê es X.env:=by rfl) (aQ:(į pos (Ê es X.env)).any (·.1)=false:=by rfl) :
  PE X (.Call (.Name x p) (e::es) [] pos) (tE X.K Ξ (aK fn fa)):=bY (xt F hr hg hm hk hb .nil Of ha cJ he aQ) fun σ H Q Y=>by
 obtain ⟨w,env,W,S,V,h⟩:=Y;subst W;refine ⟨w,env,rfl,S,V,(Out.aj h).mono fun Z U N T R P O=>?_⟩;show pN X.mg X.K fn (P++[]) Z.H Q E0;rw [Ń];exact ⟨Z,U,rfl,T,O,Oe R.ne⟩
end
def Og {P:á} {w:Ą} {K:Ĉ} {mg:Str->Option Ä} {base:Į} {x:Str} {st:Wc} {f:Ó} {fd:ė} {ps:List Str} {k:Nat} {b:Wh Fl} (G:Gd K mg x st ps f fd) (N:List Str) (S:oY N ps (cm st)=true)
  (hb:N.Nodup->∀(ba:Ä) (A:ó) (outer:List PySem.Env) (s:Ã) (H:Hp) (E:XK),bg k (A.deeper (š x (cm st) s.heap.objs.size f ba))->Lv (ic (eZ P w) P w K mg base N x (cm st) f ba A outer s H E) E->cb (ic (eZ P w) P w K mg base N x (cm st) f ba A outer s H E) (gw st) (tS K (gY mg E) b)) :
  bN P w K mg base (eZ P w) (k+1) f fd ps (pN mg K (aS ps.length N.length b)):=by
 obtain ⟨J,I,kV,doc,pm,an,ba,ct,F,rfl,lk,V⟩:=G.fn.ex;refine yw lk V (kT S) (fun U H Q E h=>?_) fun A outer s H U Q E T h=>?_
 ·obtain ⟨w,R,rfl,S,Y,h⟩:=h
  rw [<- Y.length];unfold aS at h;split at h
  ·assumption
  ·exact h.elim
 ·obtain ⟨X,R,rfl,O,Y,h⟩:=h
  refine ⟨_,hb (kT S).nd ba A outer s X.H E T ⟨rfl,rfl,rfl,rfl⟩,?_⟩;unfold aS at h;split at h
  ·rename_i M
   rw [<- M] at h;refine ⟨X,_,rfl,O,Y.env N.length,(Out.aj h).mono fun D L C W Z=>?_⟩
   cases L with
   |nx env=>intro B _;exact az W Z _ rfl
   |rt d=>have q:=az W Z;exact q
   |bk env=>exact Z.elim
   |ct env=>exact Z.elim
  ·exact h.elim
end DI
namespace L2
open PySem PySem.Spec PyProof.Rows PySem.W
structure Pz (env:Env) (names:List (Str×Ő)) (cl:List (Str×Ó)):Prop where
 qQ:∀x c,cl.lookup x=some c->env.cells.lookup x=some c
 all:∀x,(x,å)∈names->∃c,cl.lookup x=some c
theorem xj {env:Env}:∀(names:List (Str×Ő)) (acc:List (Str×Ó)),(∀x,(x,å)∈names->∃c,env.cells.lookup x=some c)->(∀x c,acc.lookup x=some c->env.cells.lookup x=some c) ->
  ∃cl,(forIn names acc fun (p:Str×Ő) (r:List (Str×Ó))=>(match p with | (name,kind)=>if kind==.free then (do let c <- cellOf env name;pure (Ī ((name,c)::r))) else pure (Ī r):Sem (ForInStep (List (Str×Ó)))))=pure cl /\
   (∀x c,cl.lookup x=some c->env.cells.lookup x=some c)/\(∀x,(x,å)∈names->∃c,cl.lookup x=some c)/\∀x c,acc.lookup x=some c->∃c,cl.lookup x=some c
 | [],acc,_,Y=>⟨acc,by simp,Y,fun _ h=>(Ģ h).elim,fun x c h=>⟨c,h⟩⟩
 |(y,k)::r,acc,W,Y=>by
  by_cases V:k=.free
  ·subst V
   obtain ⟨c,e⟩:=W y Ô;have Q:∀x Z,((y,c)::acc).lookup x=some Z->env.cells.lookup x=some Z:=fun x Z h=>by
    rw [Đ] at h;split at h
    ·rename_i q
     have q:x=y:=by simpa using q
     cases h;rw [q];exact e
    ·exact Y x Z h
   obtain ⟨cl,U,T,S,X⟩:=xj r ((y,c)::acc) (fun x h=>W x (Ï _ h)) Q;have R:∃c,cl.lookup y=some c:=X y c (by rw [Đ];simp);refine ⟨cl,?_,T,fun x h=>?_,fun x Z h=>?_⟩
   ·rw [Vf]
    simp only [Ť,ă,cellOf,e,pure_bind];exact U
   ·rcases Ö.mp h with q|q
    ·cases q;exact R
    ·exact S x q
   ·by_cases q:x=y
    ·rw [q];exact R
    ·exact X x Z (by rw [Đ,show (x==y)=false by simpa using q];exact h)
  ·obtain ⟨cl,U,T,S,X⟩:=xj r acc (fun x h=>W x (Ï _ h)) Y
   refine ⟨cl,?_,T,fun x h=>?_,X⟩
   ·rw [Vf]
    have P:(k==å)=false:=by simpa using V
    simp only [P,Ç,û,pure_bind];exact U
   ·rcases Ö.mp h with q|q
    ·cases q;exact absurd rfl V
    ·exact S x q
def Lf {env:Env} {scope:ŷ} (hc:∀x,(x,å)∈scope.names->∃c,env.cells.lookup x=some c):∃cl,closureFor scope env=pure cl/\Pz env scope.names cl:=by
 obtain ⟨cl,Z,Y,X,_⟩:=xj scope.names [] hc (fun x c h=>by cases h);refine ⟨cl,?_,Y,X⟩;unfold closureFor;simp only [pure_bind,bind_pure];exact Z
noncomputable abbrev uC (q:Str) (params:Arguments) (body:ę) (scope:ŷ) (cl:List (Str×Ó)) (pm:Ä) (c':Ó) (fJ:Ä):Obj:=kla_obj "<lambda>" q params body scope cl pm c' fJ
section
variable {X:Cx} {π:List (Ó×Obj)} {σ:St} {H:Hp} {s:Ã}
def Inv.table {P c':Ó} {ps we:Array Ä} {oc:Obj} {h':Į} {t':Nat} (I:Inv X π σ H s) (hP:H P=some (.cD ps)) (hx:υ P s.heap h') (hc:s.heap.objs.size<=c') (fW:h'.get? c'=some oc) (ht:h'.get? P=some (tabObj (ps++we))) :
  Inv X π σ (upd (upd H c' (.aN oc (.own c'))) P (.cD (ps++we))) { s with heap:=h',toks:=t' }:=by
 have Y:H c'=none:=I.au.fresh hc;have U:c'≠P:=fun z=>by rw [z,hP] at Y;cases Y
 have ne:∀b u,H b=u->u≠some (.cD ps)->b≠P:=fun b u e d z=>by rw [z,hP] at e;exact d e.symm
 have at_:∀b u,H b=some u->b≠P->upd (upd H c' (.aN oc (.own c'))) P (.cD (ps++we)) b=some u:=fun b u e n=>by rw [aI n,aI (bX e Y)];exact e
 refine I.un ⟨fun b o e n _ _=>hx b o (ne b _ n (by intro z;cases z)) e,fun b o e n _ _=>⟨o.slots,hx b o (ne b _ n (by intro z;cases z)) e⟩,fun b o e n _=>?_,fun b o e _=>?_,fun b V e=>at_ b _ e (ne b _ e (by intro z;cases z)),fun b o u e=>at_ b _ e (ne b _ e (by intro z;cases z)),fun b T e=>?_⟩ fun b u e=>?_
 ·rw [aI (ne b _ n (by intro z;cases z)),aI (Þ (Æ (É e) hc))];exact n
 ·by_cases Z:b=P
  ·exact ⟨_,Z ▸ ht⟩
  ·exact ⟨o,hx b o Z e⟩
 ·by_cases Z:b=P
  ·subst Z
   rw [hP] at e;cases e;exact ⟨we,bO⟩
  ·exact ⟨#[],by rw [at_ b _ e Z];simp⟩
 ·by_cases Z:b=P
  ·subst Z
   rw [bO] at e;cases e;exact ht
  ·rw [aI Z] at e
   by_cases W:b=c'
   ·subst W
    rw [bO] at e;cases e;exact ⟨fW,oc,fW⟩
   ·rw [aI W] at e
    refine (I.au b u e).cO (fun c v hc q=>hx c v ?_ q) (fun c q=>at_ c _ q (ne c _ q (by intro z;cases z))) fun c V q=>at_ c _ q (ne c _ q (by intro z;cases z))
    rcases hc with z|z
    ·rw [z];exact Z
    ·exact ne c _ z (by intro z;cases z)
def Lg {params:Arguments} {body:ę} {scope:ŷ} {eJ:Pos} {cl:List (Str×Ó)} {c P:Ó} {ps:Array Ä} {E:Ä->Ã->Prop} {A:ó} {Q:Ä->Ã->Prop} (I:Inv X π σ H s) (bS:closureFor scope X.env=pure cl) (u3:X.env.code=.ref c) (C:CodeHd X.base c P) (hb:X.base.BuiltinsAt X.mg P)
  (hP:H P=some (.cD ps)) (ht:TriplesOk ps.toList) (zu:defaultsOf params X.env=([],[]))
  (Q7:∀cv,codeAmong eJ ps.toList=some cv->∃c' oc vs t,cv=.ref c'/\H c'=some (.aN oc (.own c'))/\oc.data=.fields vs/\vs[1]?=some (.str (X.env.qual++"<lambda>") t))
  (h:∀(f c':Ó) (fJ:Ä) (oc:Obj) (vs:Array Ä) (t:Tok) (H1:Hp) (s1:Ã),Inv X π σ H1 s1->s.heap.objs.size<=f->H1 f=none->s1.heap.get? f=some (uC (X.env.qual++"<lambda>") params body scope cl ((X.mg "__name__").getD .none) c' fJ)->H1 c'=some (.aN oc (.own c'))->oc.data=.fields vs->vs[1]?=some (.str (X.env.qual++"<lambda>") t) ->
   (H1=H\/(H c'=none/\c'≠P/\H1=upd (upd H c' (.aN oc (.own c'))) P (.cD (ps++#[Ţ eJ.line,Ţ eJ.col,.ref c']))/\TriplesOk (ps++#[Ţ eJ.line,Ţ eJ.col,.ref c']).toList))->Q (.ref f) s1) :
  Ù (ß X.prog X.w) A (ĺ (.Lambda params body scope eJ) X.env) Q E s:=by
 have Y:s.heap.get? P=some (tabObj ps):=I.au P _ hP;have M:CodeHd s.heap c P:=C.keeps I.bk
 have L:s.heap.BuiltinsAt X.mg P:=let ⟨bm,o,a1,a2,G,F,D,r⟩:=hb;⟨bm,o,a1,a2,G,F,I.bk _ _ D,r⟩
 have W:s.heap.Ns Ò X.mg:=I.ok.mod.glob.keeps I.bk;have B:Ò≠P:=fun q=>by
  obtain ⟨o,g,d,e,V,_⟩:=W;rw [q,Y] at e;cases e;cases V
 refine kla_eval zu ?_
 cases U:codeAmong eJ ps.toList with
 |some cv =>
  obtain ⟨c',oc,vs,t,rfl,y,x,v⟩:=Q7 cv U;refine kla_makeFunctionHit bS I.ok.glob W u3 M Y ht U L fun fJ h' T u Z=>?_
  have S:Inv X π σ H { s with heap:=h'.push (uC (X.env.qual++"<lambda>") params body scope cl ((X.mg "__name__").getD .none) c' fJ),toks:=T }:=I.kept fun b o e=>Á _ (u b o e)
  exact h _ c' fJ oc vs t H _ S Z (I.au.fresh Z) (Ì _ rfl) y x v (.inl rfl)
 |none =>
  refine kla_makeFunction bS I.ok.glob W u3 M Y ht U B L fun c' fJ h' T p R K m l=>?_;obtain ⟨c₂,oc,vs,t,e2,k,V,j⟩:=m;cases e2;have O:H c'=none:=I.au.fresh R;have J:c'≠P:=fun z=>by rw [z,hP] at O;cases O
  have S:=I.table (t':=T) hP (h':=h'.push (uC (X.env.qual++"<lambda>") params body scope cl ((X.mg "__name__").getD .none) c' fJ)) (fun b o n e=>Á _ (p b o n e)) R (Á _ k) (Á _ l);have N:s.heap.objs.size<=h'.objs.size:=ã R (Nat.le_of_lt K);have i:h'.objs.size≠P:=fun z=>by have:=É Y;rw [<- z] at this;exact absurd (Æ this N) (â _)
  refine h _ c' fJ oc vs t _ _ S N ?_ (Ì _ rfl) ?_ V j (.inr ⟨O,J,rfl,?_⟩)
  ·rw [aI i,aI (ĝ K)];exact I.au.fresh N
  ·rw [aI J,bO]
  ·rw [Array.toList_append]
   exact TriplesOk_snoc _ _ _ _ ht
end
def JX {pos:Pos} {c cv:Ä} {a b:Int} (l:List Ä) (h:TriplesOk l) (e:codeAmong pos (l++[Ţ a,Ţ b,c])=some cv):codeAmong pos l=some cv\/cv=c:=by
 fun_induction TriplesOk l with
 |case1 =>
  simp only [ĩ,codeAmong,Ţ] at e;split at e
  ·cases e;exact .inr rfl
  ·cases e
 |case2 a t b u x rest ih =>
  simp only [ļ,codeAmong] at e |-;split
  ·rename_i q;rw [ê q] at e;exact .inl e
  ·rename_i q;rw [ú q] at e;exact ih h e
 |case3 l Z Y=>exact h.elim
def pO (P:á) (w:Ą) (K:Ĉ) (mg:Str->Option Ä) (base:Į) (N:List Str) (qual:Str) (scope:ŷ) (f:Ó) (cd:Ä) (cl:List (Str×Ó)) (A:ó) (outer:List Env) (s:Ã) (H:Hp) (E:XK):Cx where
 prog:=P
 w:=w
 K:=K
 mg:=mg
 base:=base
 A:=A.deeper (envX qual scope s.heap.objs.size f cd cl)
 N:=N
 bR:=s
 jF:=H
 env:=envX qual scope s.heap.objs.size f cd cl
 outer:=outer
 stack:=envX qual scope s.heap.objs.size f cd cl::outer
 ex:=[]
 calm:=true
 fn:=fun _=>false
 pn:=[]
 xe:=fun e Y=>Ù (ß P w) (A.deeper (envX qual scope s.heap.objs.size f cd cl)) (leaving (envX qual scope s.heap.objs.size f cd cl) e) (fun _ Z=>eZ P w outer H s E e Z) (fun X Z=>eZ P w outer H s E X Z) Y
structure Lh (N:List Str) (scope:ŷ):Prop where
 co:scope.isCoroutine=false
 gen:scope.isGenerator=false
 kind:scope.kind=.function
 qk:∀x∈scope.names,x.2≠.cell
def Oh {P:á} {w:Ą} {K:Ĉ} {mg:Str->Option Ä} {base:Į} {k:Nat} {f c':Ó} {N:List Str} {q:Str} {params:Arguments} {body:ę} {scope:ŷ} {cl:List (Str×Ó)} {pm fJ:Ä} {vs:List V} {t:XK->TE} {oc:Obj} {fs:Array Ä} {tq:Tok}
  (S:Lh N scope) (ho:base.get? f=some (uC q params body scope cl pm c' fJ)) (hl:N.length=vs.length)
  (inj:∀x y c,cl.lookup x=some c->cl.lookup y=some c->x=y) (has:∀x,scope.names.lookup x=some .free->∃c,cl.lookup x=some c) (iU:∀x c,cl.lookup x=some c->∃v,base.IsCell c v)
  (hv:∀(i:Nat) x v,N[i]?=some x->vs[i]?=some v->scope.names.lookup x=some .free/\∃c u,cl.lookup x=some c/\base.IsCell c (some u)/\RelV v u)
  (gX:oc.data=.fields fs) (dE:fs[1]?=some (.str q tq))
  (kc:∀(A:ó) (outer:List Env) (s:Ã) (H:Hp) (E:XK),bg k (A.deeper (envX q scope s.heap.objs.size f (.ref c') cl))->Lv (pO P w K mg base N q scope f (.ref c') cl A outer s H E) E->PE (pO P w K mg base N q scope f (.ref c') cl A outer s H E) body (t E)) :
  bN P w K mg base (eZ P w) (k+1) f (kla_fn "<lambda>" q params body scope cl pm (.ref c') fJ) [] (fun us H Q E=>us=[]/\H c'=some (.aN oc (.own c'))/\t E (vs.map some) H Q):=by
 refine ⟨fun us H Q E h=>by rw [h.1];rfl,fun A outer s H args us U3 Q E W Z R r O=>?_⟩;obtain ⟨_,M,L⟩:=O;have lim:s.heap.NoLimit:=Z.mod.nolimit.keeps fun b o e=>(Z.bs b o e).1;have bk:∀b o,base.get? b=some o->s.heap.get? b=some o:=fun b o e=>(Z.bs b o e).1;have G:s.heap.CodeRec (.ref c') q:=⟨c',oc,fs,tq,rfl,(Z.au c' _ M).1,gX,dE⟩;refine kla_callFunE W.depth (bk _ _ ho) rfl S.co S.gen rfl G (R _ _ _ _ ?_);refine wpAny_newFunctionEnv S.qk (fun x F=>absurd F (by simp)) (fun T D C=>?_) S.kind;have Y:∀b o,s.heap.get? b=some o->T.get? b=some o:=fun b o e=>C.extBut b o (Þ (É e)) (Á _ e);refine ⟨lim.keeps Y,?_⟩;show Ŭ _ _ (.expr body (envX q scope s.heap.objs.size f (.ref c') cl)) _ _;have B:bg k (A.deeper (envX q scope s.heap.objs.size f (.ref c') cl)):=W.deeper _;have n:∀c v,base.IsCell c v->H c=none:=fun c v ⟨o,e,_⟩=>(Z.bs c o e).2;have U:∀b:Ó,b∉(pO P w K mg base N q scope f (.ref c') cl A outer s H E).ex:=fun b z=>absurd (show b∈([]:List Ó) from z) (by simp)
 have I:Inv (pO P w K mg base N q scope f (.ref c') cl A outer s H E) [] (vs.map some) H { s with heap:=T,toks:=s.toks+([]:List (Str×Ä)).length }:=by
  refine ⟨⟨Z.mod,S.kind,rfl,rfl,Wl _,inj,fun y hy=>?_,fun y c h=>absurd h Ñ,fun _=>W.hd,Around.frames_deeper Z.frames,.inr ⟨rfl,rfl⟩,fun b z=>absurd z (U b),Z.bs,Z.fz,fun b _ _=>U b,fun b z=>absurd z (U b),Z.fv,Z.jb⟩,
   rfl,Z.bare,Un.kept Y,⟨_,D,fun i y v m X h3=>?_⟩,fun y c h=>?_,Z.au.fresh (Wl _),fun y c h=>?_,fun p l=>absurd (show p∈([]:List (Ó×Obj)) from l) (by simp),Z.au.kept Y,?_⟩
  ·have hy:scope.names.lookup y=some .cell\/scope.names.lookup y=some .free:=hy
   rcases hy with hy|hy
   ·exact absurd rfl (S.qk _ (ģ hy))
   ·exact has y hy
  ·have j:vs[i]?=some v:=by
    rw [à] at X
    cases e:vs[i]? with
    |none=>rw [e] at X;cases X
    |some a=>rw [e] at X;cases X;rfl
   obtain ⟨g,c,u,e1,e2,d⟩:=hv i y v m j;exact ⟨u,d,.inr ⟨.inr g,c,e1,(e2.keeps bk).keeps Y⟩⟩
  ·obtain ⟨v,e⟩:=iU y c h
   exact ⟨v,(e.keeps bk).keeps Y⟩
  ·obtain ⟨v,e⟩:=iU y c h
   exact n c v e
  ·rw [Í];exact hl.symm
 refine kla_codeExpr (ğ (kc A outer s H E B ⟨rfl,rfl,rfl,rfl⟩ [] _ (vs.map some) H Q I L) (fun u s' h=>?_) fun e s' h=>h);obtain ⟨v,H',J,rv,z⟩:=h;exact ⟨v,H',J.os,J.bare,J.base,J.au,rv,z⟩
end L2
namespace DI
open PySem L2 PySem.W
def PC (pre:Hp->Prop):Prop:=∀H Z:Hp,(∀b o u,H b=some (.aN o u)->Z b=some (.aN o u))->pre H->pre Z
def wk (P:á) (w:Ą) (K:Ĉ) (mg:Str->Option Ä) (base:Į) (k:Nat) (pre:Hp->Prop) (f:Ó) (vs:List V) (ds:List D) (th:aa->Res D):Prop :=
 PC pre/\∃fd,(∃o,base.get? f=some o/\o.data=.func fd)/\Binds K fd [] [] /\
  bN P w K mg base (eZ P w) k f fd [] (fun X H Q E=>X=[]/\pre H/\∃Z:Wd,Z.H=H/\aD K Z/\ak K Z ds vs/\Out K (gY mg E) Z (th Z.aw) fun Y d=>∀v,DV K Y d v->Q v Y.H)
def nD (cl:D) (th:aa->Res D) (i:Nat):Wh D:=fun env s=>open Classical in if env[i]?=some (some cl) then th s else none
section
variable {X:Cx} {E:XK} {Ξ:Wd->aW->Prop} {pos:Pos}
end
def spT (K:Ĉ) (pre:Hp->Prop) (cl:D) (fn:List D->aa->Res D):Sp:=fun Y H Q _=>pre H/\∃w:Wd,w.H=H/\aD K w/\ak K w [cl] Y/\Out K bH w (fn [cl] w.aw) fun Z d=>∀v,DV K Z d v->Q v Z.H
def PD {P:á} {w:Ą} {K:Ĉ} {mg:Str->Option Ä} {base:Į} {x:Str} {st:Wc} {f:Ó} {fd:ė} {ps:List Str} {k:Nat} {b:Wh Fl} {pre:Hp->Prop} {cl:D} (G:Gd K mg x st ps f fd) (N:List Str) (S:oY N ps (cm st)=true)
  (hb:N.Nodup->∀(ba:Ä) (A:ó) (outer:List PySem.Env) (s:Ã) (H:Hp) (E:XK),pre H->bg k (A.deeper (š x (cm st) s.heap.objs.size f ba))->cb (ic cH P w K mg base N x (cm st) f ba A outer s H E).kr (gw st) (tS K bH b)) :
  bN P w K mg base cH (k+1) f fd ps (spT K pre cl (aS ps.length N.length b)):=by
 refine G.fn.ok (kT S) (fun W H Q E h=>?_) (fun ba A outer s H W Q E V h=>?_)
 ·obtain ⟨_,w,rfl,S,Y,h⟩:=h
  rw [<- Y.length];unfold aS at h;split at h
  ·assumption
  ·exact h.elim
 ·obtain ⟨U,w,rfl,T,Y,h⟩:=h
  refine ⟨_,hb (kT S).nd ba A outer s w.H E U V,?_⟩;unfold aS at h;split at h
  ·rename_i R
   rw [<- R] at h;refine ⟨w,_,rfl,T,Y.env N.length,(Out.aj h).mono fun M O L X Z=>?_⟩
   cases O with
   |nx env=>intro J _;exact az X Z _ rfl
   |rt d=>have q:=az X Z;exact q
   |bk env=>exact Z.elim
   |ct env=>exact Z.elim
  ·exact h.elim
def lj (env:Env):List Nat->Option (List D)
 | []=>some []
 |i::r=>match env[i]?,lj env r with
  |some (some d),some Z=>some (d::Z)
  |_,_=>none
theorem CC {K:Ĉ} {w:Wd} {env:Env} {σ:St} (eo:br K w env σ):∀{caps:List Nat} {ds:List D},lj env caps=some ds->∃vs,ak K w ds vs/\∀(i:Nat) j v,caps[i]?=some j->vs[i]?=some v->σ[j]?=some (some v)
 | [],ds,h=>by cases h;exact ⟨[],rfl,fun i j v h=>by simp at h⟩
 |j::r,ds,h=>by
  unfold lj at h;split at h
  ·rename_i d R e1 e2
   cases h;obtain ⟨v,X,W⟩:=eo.val j d e1;obtain ⟨vs,V,U⟩:=CC eo e2;refine ⟨v::vs,⟨v,vs,rfl,W,V⟩,fun i T S Z Y=>?_⟩
   cases i with
   |zero=>cases Z;cases Y;exact X
   |succ i=>exact U i T S (by simpa using Z) (by simpa using Y)
  ·cases h
def rm (x:Str) (caps:List Nat) (fb:Wh D) (g:D->(aa->Res D)->List D->aa->Res D):Wh D:=fun env s=>match (lj env caps:Option (List D)) with
 |some Z=>match (s[0]?:Option Cell) with
  |some (.tb y)=>if decide (y=x)=true then ne (g .aq (fb (Z.map some)) [.aq] s) else none
  |_=>none
 |none=>none
noncomputable def D4 (dN N:List Str) (caps:List Nat) (GS sc:ŷ):Bool:=decide (sc.kind=.function)&&!sc.isCoroutine&&!sc.isGenerator&&sc.names.all (fun y=>decide (y.2≠.cell))&&decide (N.length=caps.length) &&
 (N.zip caps).all (fun p=>decide (dN[p.2]?=some p.1)&&decide (GS.names.lookup p.1=some .cell)&&decide (sc.names.lookup p.1=some .free))&&sc.names.all (fun y=>decide (y.2≠.free)||decide (GS.names.lookup y.1=some .cell))
abbrev GU (P:á) (w:Ą) (K:Ĉ) (mg:Str->Option Ä) (x:Str) (st:Wc) (ps:List Str) (k kt:Nat) (g:D->(aa->Res D)->List D->aa->Res D):Prop :=
 ∀{base:Į} {pre:Hp->Prop} {f:Ó} {vs:List V} {ds:List D} {th:aa->Res D},wk P w K mg base kt pre f vs ds th->∀{gA:Ó} {fd:ė},Gd K mg x st ps gA fd->bN P w K mg base cH k gA fd ps (spT K pre (.cg f vs ds) (g (.cg f vs ds) th))
section
variable {X:Cx} {Ξ:Wd->aW->Prop} {pos:Pos}
def lp (X:Cx) (H:Hp) (s:Ã):Į:=hideAll s.heap (bE X.stack++pf s.heap H)
def tu {H:Hp} {s:Ã} {b:Ó} {o:Obj} (e:s.heap.get? b=some o) (n:H b=none) (hf:b∉bE X.stack):(lp X H s).get? b=some o:=hideAll_get _ e fun z=>by
 rcases æ.mp z with z|z
 ·exact hf z
 ·unfold pf at z
  have:=(ő.mp z).2;rw [n] at this;cases this
def CD {H:Hp} {s:Ã} {b:Ó} {o:Obj} (e:(lp X H s).get? b=some o):s.heap.get? b=some o/\H b=none/\b∉bE X.stack:=by
 have e1:=of_hideAll _ e;refine ⟨e1,?_,fun z=>?_⟩
 ·cases q:H b with
  |none=>rfl
  |some u =>
   have:(lp X H s).get? b=none:=hideAll_none _ (Å _ (ő.mpr ⟨Č.mpr (É e1),by rw [q];rfl⟩));rw [e] at this;cases this
 ·have:(lp X H s).get? b=none:=hideAll_none _ (ù _ z)
  rw [e] at this;cases this
def _root_.L2.Inv.Oi {π:List (Ó×Obj)} {σ:St} {H:Hp} {s:Ã} (I:Inv X π σ H s):∀b o,X.base.get? b=some o->(lp X H s).get? b=some o:=fun b o e=>tu (I.bs b o e).1 (I.bs b o e).2 fun z=>by
 have:=(I.stack.mem z).1;rw [e] at this;cases this
def _root_.L2.Inv.PH {π:List (Ó×Obj)} {σ:St} {H:Hp} {s:Ã} (I:Inv X π σ H s):qY X.prog X.w X.K X.mg (lp X H s) X.A X.stack s H:=by
 have k:=I.Oi;refine ⟨I.ok.frames,⟨I.ok.mod.kq.keeps k,I.ok.mod.glob.keeps k,?_,I.ok.mod.nolimit.keeps k⟩,fun b o e=>⟨(CD e).1,(CD e).2.1⟩,Ŷ (hideAll_size _ _),?_,I.qd,I.au,I.bare⟩
 ·obtain ⟨Z,Y,W⟩:=I.ok.mod.blt
  exact ⟨Z,Y.keeps k,W⟩
 ·refine funFrames_hide I.stack fun env V a U=>ù _ ?_
  unfold bE;exact Va.mpr ⟨env,V,U⟩
def PJ {x g:Str} {p eJ:Pos} {params:Arguments} {body:ę} {sc:ŷ} {c P:Ó} {GV:Wc} {GW:List Str} {k n kb:Nat} {gf:D->(aa->Res D)->List D->aa->Res D} {fb:Wh D} (N:List Str) {caps:List Nat}
  (u3:X.env.code=.ref c) (EM:X.env.qual=x++".<locals>.") (ht:tabIn X.K x=some (c,P)) (hC:codeHdIn X.K c P=true) (hb:X.base.BuiltinsAt X.mg P)
  (G:GG X.K X.mg g GV GW) (F:GU X.prog X.w X.K X.mg g GV GW k (kb+1) gf) (Ra:∀cl th s,gf cl th [cl] s=gf .aq th [.aq] s) (hr:bg n X.A)
  (kc:∀(base:Į) (q:Str) (f:Ó) (cd:Ä) (cl:List (Str×Ó)) (A:ó) (outer:List PySem.Env) (s:Ã) (H:Hp) (E:XK),bg kb (A.deeper (envX q sc s.heap.objs.size f cd cl))->Lv (pO X.prog X.w X.K X.mg base N q sc f cd cl A outer s H E) E->PE (pO X.prog X.w X.K X.mg base N q sc f cd cl A outer s H E) body (tE X.K (gY X.mg E) fb))
  (hk:k<=n:=by decide) (zw:D4 X.N N caps X.env.scope sc=true:=by kernel_rfl) (rG:∀x,X.fn x=true:=by intro _;rfl) (yJ:∀(cl:List (Str×Ó)) (pm:Ä) (c':Ó) (fJ:Ä),bindArgs (kla_fn "<lambda>" (x++".<locals>."++"<lambda>") params body sc cl pm (.ref c') fJ) ⟨[],[]⟩=pure []:=by intros;rfl)
  (zu:defaultsOf params X.env=([],[]):=by rfl) (hg:Gl X g:=by rfl) (cJ:(g==("__debug__":Str))=false:=by decide)
  (he:Ê [.Lambda params body sc eJ] X.env=(false,ĺ (.Lambda params body sc eJ) X.env)::Ê [] X.env:=by rfl) (aQ:(į pos (Ê [] X.env)).any (·.1)=false:=by rfl) :
  PE X (.Call (.Name g p) [.Lambda params body sc eJ] [] pos) (tE X.K Ξ (rm x caps fb gf)):=by
 intro π s σ H Q I ar;have C:=codeHd_of_K I.ok.mod.kq hC;obtain ⟨w,env,eH,S,eo,h⟩:=ar;subst eH;unfold rm at h
 cases jf:lj env caps with
 |none=>rw [jf] at h;exact h.elim
 |some V =>
 rw [jf] at h
 cases R:w.aw[0]? with
 |none=>simp only [R] at h;exact h.elim
 |some c0 =>
 simp only [R] at h
 cases c0 with
 |dead=>exact h.elim
 |lst _=>exact h.elim
 |dK _=>exact h.elim
 |dT _=>exact h.elim
 |tb y =>
 dsimp only at h;by_cases hy:y=x
 case neg=>rw [ú (by simpa using hy)] at h;exact h.elim
 rw [ê (by simpa using hy)] at h;subst hy;obtain ⟨vs,ai,Td⟩:=CC eo jf;obtain ⟨a,ha⟩:∃a,w.ρ[0]?=some a:=by
  have:=S.len
  cases Te:w.ρ with
  |nil=>rw [Te] at this;have h0:=(È.mp R).1;rw [<- this] at h0;simp at h0
  |cons a r=>exact ⟨a,rfl⟩
 have Rb:=S.cell 0 a _ ha R;obtain ⟨c2,ps,t1,t2,t3,t4⟩:=Rb;rw [ht] at t1;cases t1;unfold D4 at zw;simp only [Ë,V0,ś,Ú,õ] at zw;obtain ⟨⟨⟨⟨⟨⟨k1,k2⟩,k3⟩,k4⟩,k5⟩,k6⟩,k7⟩:=zw;obtain ⟨cl,bS,O⟩:=Lf (env:=X.env) (scope:=sc) fun z hz=>by
  rcases k7 _ hz with q|q
  ·exact absurd rfl q
  ·exact I.ok.has z (.inl q)
 obtain ⟨gA,U4,G⟩:=G;refine Ů (qe I hg G.mg ?_ cJ);refine PySem.W.callWith_K (h₀:=X.base) I.ok.mod.kq G.fn.kp ?_ he aQ;rw [he];show Ù _ _ (spliced ((false,ĺ (.Lambda params body sc eJ) X.env)::į pos (Ê [] X.env))) _ _ s;refine Calls.spliced_cons (Lg I bS u3 C hb t2 t3 zu (fun cv q=>?_) fun f c' fJ oc fs tq H1 B Y hf FF AS fB gX dE hH=>?_)
 ·rw [EM]
  obtain ⟨c',oc,fs,t,r1,r2,r3,r4⟩:=t4 eJ cv q;exact ⟨c',oc,fs,t,r1,r2.2,r3,r4⟩
 rw [EM] at AS dE;refine Calls.spliced_nil ⟨Y.iw,?_⟩;have W1:∃U:Wd,U.H=H1/\aD X.K U/\Le X.K w U/\U.aw=w.aw:=by
  rcases hH with rfl | ⟨hn,wg,rfl,Af⟩
  ·exact ⟨w,rfl,S,Le.refl w,rfl⟩
  ·have S2:=S.grow (o:=.aN oc (.own c')) hn
   have M:=(Fw.grow (K:=X.K) (o:=.aN oc (.own c')) hn).le;have l2:=(Fw.put (o:=.cD (ps++#[Ţ eJ.line,Ţ eJ.col,.ref c'])) (c:=.tb y) S2 ha R (by intro z;cases z)).le;refine ⟨(w.grow c' (.aN oc (.own c'))).put 0 P (.cD (ps++#[Ţ eJ.line,Ţ eJ.col,.ref c'])) (.tb y),rfl,S2.ze ha R (by intro z;cases z) ⟨c,_,ht,bO,Af,fun pos cv e=>?_⟩,M.trans l2,?_⟩
   ·rw [Array.toList_append] at e
    rcases JX _ t3 e with e|e
    ·obtain ⟨c3,o3,v3,Tf,r1,r2,r3⟩:=t4 pos cv e
     exact ⟨c3,o3,v3,Tf,r1,(M.trans l2).aN c3 o3 _ r2.1 r2.2,r3⟩
    ·refine ⟨c',oc,fs,tq,e,?_,gX,dE⟩
     exact l2.aN c' oc _ (fun z=>j6 S hn z) bO
   ·exact Vx fun i=>by
     show (w.aw.set 0 (.tb y))[i]?=w.aw[i]?
     cases i with
     |zero=>rw [é (È.mp R).1,R]
     |succ i=>rw [Ü (by omega)]
 obtain ⟨U,rfl,S1,M,es⟩:=W1;have cells:∀z Z,cl.lookup z=some Z->∀v,B.heap.IsCell Z v->(lp X U.H B).IsCell Z v:=fun z Z e v ⟨o,ho,hd⟩=>by
  have e2:=O.qQ z Z e;refine ⟨o,tu ho (Y.fq z Z e2) fun q=>?_,hd⟩
  rcases Ö.mp (Y.iP _ q) with q|q
  ·exact Y.ix z Z e2 q
  ·obtain ⟨_,o2,dX,_⟩:=Y.ok.fv.mem q
   exact absurd (É dX) (Nat.not_lt.mpr (Y.ok.lE z Z (rG z) e2))
 have FG:f∉bE X.stack:=fun q=>by
  obtain ⟨_,o2,dX,_⟩:=I.stack.mem q;exact absurd (É dX) (Nat.not_lt.mpr hf)
 have nl:N.length=vs.length:=by
  have e1:=ai.length;have e2:∀(cs:List Nat) (V:List D),lj env cs=some V->V.length=cs.length:=fun cs=>by
   induction cs with
   |nil=>intro V h;cases h;rfl
   |cons i r ih =>
    intro V h;unfold lj at h;split at h
    ·cases h;rename_i e;simp [ih _ e]
    ·cases h
  rw [k5,<- e2 caps V jf,e1]
 have T:wk X.prog X.w X.K X.mg (lp X U.H B) (kb+1) (fun H=>H c'=some (.aN oc (.own c'))) f vs V (fb (V.map some)):=by
  refine ⟨fun H H' st q=>st _ _ _ q,_,⟨_,tu AS FF FG,rfl⟩,Binds.all fun us hl=>?_,(Oh (t:=fun E=>tE X.K (gY X.mg E) fb) (vs:=vs) (oc:=oc) ⟨k2,k3,k1,k4⟩ (tu AS FF FG) nl (fun z1 z2 Z J l=>Y.ok.inj z1 z2 Z (O.qQ _ _ J) (O.qQ _ _ l)) (fun z hz=>O.all z (ģ hz)) (fun z Z e=>?_) (fun i z v J l=>?_) gX dE
   (fun A outer s H E hr L=>kc _ _ f (.ref c') cl A outer s H E hr L)).imp fun us H Q E h=>?_⟩
  ·have:us=[]:=List.eq_nil_of_length_eq_zero (by simpa using hl)
   subst this;exact yJ _ _ _ _
  ·obtain ⟨v,q⟩:=Y.cell z Z (O.qQ z Z e)
   exact ⟨v,cells z Z e v q⟩
  ·have hi:i<caps.length:=by
    have:=(È.mp J).1;rw [k5] at this;exact this
   obtain ⟨j,hj⟩:∃j,caps[i]?=some j:=⟨caps[i],Ð hi⟩;have hm:(z,j)∈N.zip caps:=by
    refine Ė (i:=i) ?_;rw [η];exact ⟨J,hj⟩
   obtain ⟨⟨q1,q2⟩,q3⟩:=k6 _ hm;obtain ⟨m,hn,hl⟩:=Y.loc;obtain ⟨u,r,lk⟩:=hl j z v q1 (Td i j v hj l) (.inr (.inl q2));refine ⟨q3,?_⟩
   rcases lk with ⟨lk,_⟩ | ⟨_,Z,e1,e2⟩
   ·rw [show X.env.kindOf z=X.env.scope.names.lookup z from rfl,q2] at lk;cases lk
   ·obtain ⟨c3,e3⟩:=O.all z (ģ q3)
    have e4:=O.qQ z c3 e3;rw [e1] at e4;cases e4;exact ⟨Z,u,e3,cells z Z e3 _ e2,r⟩
  ·obtain ⟨J,l,w',rfl,S',jS,hh⟩:=h
   refine ⟨J,l,w',V.map some,rfl,S',⟨?_,fun i d e=>?_⟩,hh⟩
   ·rw [Í,Í];exact jS.length
   ·rw [à] at e
    cases q:V[i]? with
    |none=>rw [q] at e;cases e
    |some d' =>
     rw [q] at e;cases e;obtain ⟨v,e1,e2⟩:=jS.get' i d q;exact ⟨v,by rw [à,e1];rfl,e2⟩
 have hq:=(h.from M).ne;rw [<- es,<- Ra (.cg f vs V)] at hq;refine wpAny_call (ŝ ((F T G).run X.A X.stack B U.H ⟨[.ref f],[]⟩ [.ref f] [.ref f] Q (fun _ _ _=>False) (hr.mono hk) Y.PH (G.b B [.ref f] Y.iw ?_) (.cons rfl .nil) ⟨fB,U,rfl,S1,⟨.ref f,[],rfl,⟨rfl,M.all ai⟩,rfl⟩,hq⟩) fun r s' gZ=>?_)
 ·have:=(F T G).len [.ref f] U.H Q (fun _ _ _=>False) ⟨fB,U,rfl,S1,⟨.ref f,[],rfl,⟨rfl,M.all ai⟩,rfl⟩,hq⟩
  simpa using this
 ·cases r with
  |error e=>exact gZ.elim
  |ok fl =>
   cases fl with
   |ret u=>exact Y.after gZ
   |next=>exact ĥ gZ
   |brk=>exact ĥ gZ
   |cont=>exact ĥ gZ
end
end DI
namespace L2
open PySem PySem.Spec PyProof.Rows PySem.W
section
variable {X:Cx} {π:List (Ó×Obj)} {σ:St} {H:Hp} {s:Ã}
def tV {M:Model} {A:ó} {E:Ä->Ã->Prop} {i:Nat} {x:Str} {pos:Pos} {Q:Unit->Ã->Prop} (I:Inv X π σ H s) (hN:X.N.Nodup) (hi:X.N[i]?=some x) (hk:X.env.scope.names.lookup x=some .local) (h:∀s',Inv X π (σ.set i none) H s'->Q () s') :
  Ù M A (do bindName X.env x .none;unbindBehindTheSuite X.env x pos) Q E s:=by
 obtain ⟨m,U,R⟩:=id I.loc;have P:(X.env.scope.kind==.class||(X.env.scope.kind==.module&&X.env.locals != X.env.globals))=false:=by rw [I.ok.kind];rfl
 have ix:=I.ix;refine wpAny_nameGoes_keeps hk U P fun t v O Z=>?_;obtain ⟨r,_,_,l,_⟩:=id U;refine h _ ⟨I.ok,I.os,I.bare,⟨fun b o e n W Y=>?_,fun b o e n W Y=>?_,I.base.free,fun b o e Y=>?_,I.base.df,I.base.cP,I.base.dg⟩,⟨_,O,fun j y L e1 e2 K=>?_⟩,fun y c e=>?_,I.free,I.fq,fun p J=>?_,fun b G e=>?_,by rw [Ć];exact I.len⟩
 ·exact (Z.2 b (Þ (Æ (É e) I.ok.above))).trans (I.base.keep b o e n W Y)
 ·obtain ⟨F,e1⟩:=I.base.slot b o e n W Y
  exact ⟨F,(Z.2 b (Þ (Æ (É e) I.ok.above))).trans e1⟩
 ·obtain ⟨D,e1⟩:=I.base.there b o e Y
  exact ⟨D,(Z.2 b (Þ (Æ (É e) I.ok.above))).trans e1⟩
 ·by_cases V:j=i
  ·subst V
   have T:=(È.mp e2).1;rw [Ć] at T;rw [é T] at e2;cases e2
  ·rw [Ü (Œ V)] at e2
   obtain ⟨C,B,q⟩:=R j y L e1 e2 K;refine ⟨C,B,?_⟩
   rcases q with ⟨k,e⟩ | ⟨k,c,e,z⟩
   ·refine .inl ⟨k,?_⟩
    have:y≠x:=fun e=>V (wZ hN e1 (e ▸ hi));simp [this,e]
   ·exact .inr ⟨k,c,e,z.sameBut Z (ix y c e)⟩
 ·obtain ⟨S,z⟩:=I.cell y c e
  exact ⟨S,z.sameBut Z (ix y c e)⟩
 ·obtain ⟨e,n,ne,w,d⟩:=I.pin p J
  exact ⟨(Z.2 p.1 ne).trans e,n,ne,w,d⟩
 ·refine (I.au b G e).cO (fun c S u q=>(Z.2 c ?_).trans q) (fun _ q=>q) fun _ _ q=>q
  rintro rfl
  rcases u with z|z
  ·have:=I.free;rw [z,e] at this;cases this
  ·have:=I.free;rw [z] at this;cases this
noncomputable abbrev Cx.held (X:Cx) (a:Ó):Cx:={ X with A:=X.A.mark (some (.ref a)),calm:=false,xe:=fun _ _=>False }
theorem Inv.held (I:Inv X π σ H s) (a:Ó):Inv (X.held a) π σ H s:=by
 obtain ⟨⟨a1,a2,Z,Y,W,V,U,T,w,S,R,Q,P,O,N,M,L,K⟩,J,G,F,E,D,C,B,A,y,x⟩:=I;exact ⟨⟨a1,a2,Z,Y,W,V,U,T,fun z=>absurd z Ñ,S,R,Q,P,O,N,M,L,K⟩,J,G,F,E,D,C,B,A,y,x⟩
def Inv.uD {a:Ó} (ok:X.Ok) (I:Inv (X.held a) π σ H s):Inv X π σ H s:=by
 obtain ⟨_,Z,Y,W,V,U,T,S,R,Q,P⟩:=I;exact ⟨ok,Z,Y,W,V,U,T,S,R,Q,P⟩
def yd (X:Cx) (π:List (Ó×Obj)) (σ:St) (E:XK) (e:Ä) (s':Ã):Prop:=∃Z Y,Inv X π σ Z Y/\eZ X.prog X.w X.stack Z Y E e s'
def hX {E:XK} {E':Ä->Ã->Prop} {e:Ä} {s':Ã} {cn n:Str} {np zx:Pos} {rn:Wc} {qS:List Wc} {j:Nat} {CM:Ó} {D:Ends} (Th:yd X π σ E e s') (L:X.stack=X.env::X.outer) (hf:X.env.frame=some X.env.locals)
  (hN:X.N.Nodup) (hj:X.N[j]?=some n) (jm:X.env.scope.names.lookup n=some .local) (hg:Gl X cn) (hm:X.mg cn=some (.ref CM)) (hd:(cn==("__debug__":Str))=false)
  (h:∀cls H' ,E cls none H'->exmOne X.K cls (.ref CM)=some true/\∀(a:Ó) (o:Obj),H' a=none->o.cls=cls->∀s5,Inv (X.held a) π (σ.set j (some (.ref a))) (upd H' a (.aN o (.own a))) s5 ->
   Ù (ß X.prog X.w) (X.held a).A (execs (rn::qS) X.env) (SP (X.held a) π { nx:=fun aE H'=>D.nx (aE.set j none) H',rt:=D.rt,bk:=fun aE H'=>D.bk (aE.set j none) H',ct:=fun aE H'=>D.ct (aE.set j none) H' }) (fun _ _=>False) s5) :
  Ù (ß X.prog X.w) X.A (noteFrame e X.env) (fun _ oF=>Ù (ß X.prog X.w) X.A (setFlight e none) (fun _ Rc=>Ù (ß X.prog X.w) X.A (handleBy e X.env [.ExceptHandler (some (.Name cn np)) (some n) (rn::qS) zx]) (SP X π D) E' Rc) E' oF) E' s':=by
 obtain ⟨H1,P,Z,a,cls,p,H',B,rfl,os,bare,F,m⟩:=Th;obtain ⟨O,l⟩:=h cls H' m;refine wpAny_looks_onW (by rw [Z.ok.frames,L]) hf (by have:=F.fl;rw [L] at this;exact this) fun h2 k i=>?_;refine wpAny_landsW k fun V g d=>?_;have S:Heap.FlyingW B X.stack a cls p V:=by rw [L];exact g
 have R:=F.on S (i.trans d);have Rg:P.heap.get? a=none:=by
  cases q:P.heap.get? a with
  |none=>rfl
  |some o =>
   by_cases U:a∈bE X.stack
   ·obtain ⟨sl,e1⟩:=R.slot a o q U
    obtain ⟨_,o2,e2,hd2⟩:=S.2.2.1.mem U
    obtain ⟨Q,ws,e3,_,e4,_⟩:=S.first
    rw [e3] at e2;cases e2;exact absurd e4 (hd2 _)
   ·obtain ⟨o',e1⟩:=F.there a o q U
    rw [F.fl.2.1] at e1;cases e1
 have G:Inv X π σ H' { s' with heap:=V }:=Z.qA (s':={ s' with heap:=V }) (ch:=[]) os R.un R.held bare (fun b z=>absurd z (by simp))
 refine wpAny_handleBy_cons (codeAny_handlers_test ?_) (by intro q;cases q);refine (show Ù (ß X.prog X.w) (X.held a).A (ĺ (.Name cn np) (X.held a).env) _ _ _ from qe (G.held a) hg hm ?_ hd);obtain ⟨ob,Tz,qW⟩:=S.there;have LT:Looks (ß X.prog X.w) V (typeOf (.ref a)) cls:=by subst qW;exact (Looks.ld Tz).andThen .now
 refine (exm_one (M:=ß X.prog X.w) (K:=X.K) (h:=V) G.iw LT O).here ?_;refine codeAny_handlers_suite_as ?_
 refine lands_againW (s:={ s' with heap:=V }) S fun C y TB=>?_
 have I:=R.on y TB;obtain ⟨Q,x,Rh⟩:=y.there;have T:H' a=none:=I.new
 have I4:Inv X π σ (upd H' a (.aN Q (.own a))) { s' with heap:=C }:=by
  have u:=I.un;have cK:∀b o,P.heap.get? b=some o->b≠a:=fun b o e z=>by rw [z,Rg] at e;cases e
  refine Z.qA (s':={ s' with heap:=C }) (ch:=[]) os ⟨u.keep,u.slot,fun b o e n O=>?_,u.there,fun b t e=>?_,fun b o v e=>?_,fun b ps e=>?_⟩ (fun b v e=>?_) bare (fun b z=>absurd z (by simp))
  ·rw [aI (cK b o e)];exact u.free b o e n O
  ·have:=u.df b t e;rw [aI (bX this T)];exact this
  ·have:=u.cP b o v e;rw [aI (bX this T)];exact this
  ·obtain ⟨more,this⟩:=u.dg b ps e;exact ⟨more,by rw [aI (bX this T)];exact this⟩
  ·by_cases U:b=a
   ·subst U
    rw [bO] at e;cases e;exact ⟨x,Q,x⟩
   ·rw [aI U] at e
    refine (I.held b v e).cO (fun _ _ _ q=>q) (fun c q=>?_) fun c t q=>?_
    ·rw [aI (bX q T)];exact q
    ·rw [aI (bX q T)];exact q
 refine lV I4 hN hj (.inl jm) (v:=.ref a) (u:=.ref a) rfl (fun s5 I5=>?_) (.inr jm);refine ğ (l a Q T Rh s5 (I5.held a)) (fun f s6 q=>?_) fun _ _ z=>z.elim
 cases f with
 |next =>
  obtain ⟨aE,Y,J,q⟩:=q;exact tV (J.uD Z.ok) hN hj jm fun H W=>⟨_,Y,W,q⟩
 |brk =>
  obtain ⟨aE,Y,J,q⟩:=q;exact tV (J.uD Z.ok) hN hj jm fun H W=>⟨_,Y,W,q⟩
 |cont =>
  obtain ⟨aE,Y,J,q⟩:=q;exact tV (J.uD Z.ok) hN hj jm fun H W=>⟨_,Y,W,q⟩
 |ret u =>
  obtain ⟨v,aE,Y,J,r,q⟩:=q;exact tV (J.uD Z.ok) hN hj jm fun H W=>⟨v,_,Y,W,r,q⟩
end
end L2
namespace DI
open PySem L2 PySem.W
def jK (cs:List Str) (f:Wh D) (j:Nat) (b:Wh Fl):Wh Fl:=fun env s=>match f env s with
 |none=>none
 |some (.ok _,s)=>ok (.nx env) s
 |some (.error x,s)=>if (decide (x.c∈cs)&&x.many.isNone)=true then aj (b (env.set j (some (.exc x.c))) s) fun Z s=>match Z with
   | .nx env=>ok (.nx (env.set j none)) s
   |_=>none else none
def br.unset {K:Ĉ} {w:Wd} {env:Env} {σ:St} (h:br K w env σ) (i:Nat):br K w (env.set i none) (σ.set i none):=by
 refine ⟨by rw [Ć,Ć];exact h.len,fun j X e=>?_⟩;by_cases Z:i=j
 ·subst Z
  have Y:=(È.mp e).1;rw [Ć] at Y;rw [é Y] at e;cases e
 ·rw [Ü Z] at e
  rw [Ü Z];exact h.val j X e
section
variable {X:Cx} {E:XK} {pos:Pos}
def Oj {π:List (Ó×Obj)} {σ:St} {s:Ã} {w:Wd} {env:Env} {Q:VK} {k i:Nat} {x:Str} {p:Pos} {pre:Hp->Prop} {f:Ó} {vs:List V} {ds:List D} {th:aa->Res D} (T:wk X.prog X.w X.K X.mg X.base k pre f vs ds th) (h0:pre X.jF) (hr:bg k X.A)
  (hN:X.N[i]?=some x) (hv:mR X.env.scope x) (hd:(x==("__debug__":Str))=false) (dC:(x==("__classdict__":Str))=false)
  (I:Inv X π σ w.H s) (S:aD X.K w) (eo:br X.K w env σ) (he:env[i]?=some (some (.cg f vs ds))) (h:Out X.K (gY X.mg E) w (th w.aw) fun w' d=>∀v,DV X.K w' d v->Q v w'.H) :
  Ù (ß X.prog X.w) X.A (ĺ (.Call (.Name x p) [] [] pos) X.env) (EP X π σ Q) (yd X π σ E) s:=by
 obtain ⟨M,fd,⟨o,L,J⟩,G,F⟩:=T;obtain ⟨v,e1,e2⟩:=eo.val i _ he;obtain ⟨rfl,C⟩:=e2;refine PySem.wpAny_Call_Name_kw ?_;have U:=(Dq (X:=X.ia fun e O=>yd X π σ E e O) (pos:=p) hN hv hd dC π s σ w.H (fun v B=>v=.ref f/\B=w.H) (I.ia _) ⟨_,e1,rfl,rfl⟩);refine aA U fun u R U=>?_;obtain ⟨v,t,Z,r,rfl,rfl⟩:=U;have Z:=Z.j5;have r:u=.ref f:=r;subst r;have z:∀h:Į,h.get? f=some o->∃k,(k=Keeper.frame\/k=Keeper.machine\/k=Keeper.boundFrame)/\Looks (ß X.prog X.w) h (keeperOf (.ref f)) k:=fun h e=>by
  obtain ⟨q,n,m,os⟩:=o;cases J;exact ⟨.frame,.inl rfl,(Looks.ld (part:=none) e).andThen .now⟩
 refine PySem.W.callWith_of (P:=fun h=>h.get? f=some o) rfl z (PyProof.Rows.evalArgs_nil3 ⟨Z.bk _ _ L,?_⟩);refine wpAny_call (ŝ (F.run X.A X.stack R w.H ⟨[],[]⟩ [] [] Q E hr Z.lu (G R [] Z.iw rfl) .nil ⟨rfl,M _ _ (fun b o u e=>Z.base.cP b o u e) h0,w,rfl,S,C,h⟩) fun r O Y=>?_)
 cases r with
 |error e=>exact ⟨w.H,R,Z,Y⟩
 |ok y =>
  cases y with
  |ret u=>exact Z.after Y
  |next=>exact ĥ Y
  |brk=>exact ĥ Y
  |cont=>exact ĥ Y
def PM {k i j:Nat} {x cn n:Str} {p bh FI np zx:Pos} {pre:Hp->Prop} {f:Ó} {vs:List V} {ds:List D} {th:aa->Res D} {rn:Wc} {qS:List Wc} {b:Wh Fl} {cs:List Str} (T:wk X.prog X.w X.K X.mg X.base k pre f vs ds th) (h0:pre X.jF) (hr:bg k X.A)
  (hc:∃CM,X.mg cn=some (.ref CM)/\∀c∈cs,∃C,nsIn X.K Ò c=some (some (.ref C))/\X.mg c=some (.ref C)/\exmOne X.K (.ref C) (.ref CM)=some true)
  (hs:∀a,cb (X.held a) (rn::qS) (tS X.K bH b)) (lI:X.N.Nodup)
  (L:X.stack=X.env::X.outer:=by rfl) (hf:X.env.frame=some X.env.locals:=by rfl) (hj:X.N[j]?=some n:=by rfl) (jm:X.env.scope.names.lookup n=some .local:=by rfl) (hg:Gl X cn:=by rfl) (TC:(cn==("__debug__":Str))=false:=by decide)
  (hN:X.N[i]?=some x:=by rfl) (hv:mR X.env.scope x:=by first|exact Vi rfl|exact Or.inr (Vi rfl)|exact Or.inr (Or.inr rfl)) (hd:(x==("__debug__":Str))=false:=by decide) (dC:(x==("__classdict__":Str))=false:=by decide)
  (kJ:VI (.Call (.Name x p) [] [] bh) none FI.line X.env=pure false:=by rfl) :
  PS X (.Try [.Expr (.Call (.Name x p) [] [] bh) FI] [.ExceptHandler (some (.Name cn np)) (some n) (rn::qS) zx] [] [] pos) (tS X.K bH (jK cs (nD (.cg f vs ds) th i) j b)):=by
 intro F s σ H D I r;obtain ⟨w,env,m,S,O,h⟩:=r;subst m;obtain ⟨CM,g,B⟩:=hc;unfold jK nD at h;by_cases M:env[i]?=some (some (.cg f vs ds))
 case neg=>rw [ú M] at h;exact h.elim
 rw [ê M] at h;refine wpAny_Try_except ?_
 let E:XK:=fun cls _ Y=>∃(Z:Wd) (c:Str) (C:Ó),Z.H=Y/\aD X.K Z/\br X.K Z env σ/\cls=.ref C/\c∈cs/\X.mg c=some (.ref C)/\Out X.K bH Z (aj (b (env.set j (some (.exc c))) Z.aw) fun Q s=>match Q with
   | .nx env=>ok (.nx (env.set j none)) s
   |_=>none) (vn X.K D)
 have TF:Out X.K (gY X.mg E) w (th w.aw) fun Z d=>∀v,DV X.K Z d v->D.nx σ Z.H:=by
  cases hr:th w.aw with
  |none=>rw [hr] at h;exact h.elim
  |some q =>
   obtain ⟨q,s2⟩:=q;rw [hr] at h
   cases q with
   |ok d=>exact fun Z l R e v _=>h Z l R e σ (O.le l)
   |error y =>
    intro Z l R e;dsimp only at h;split at h
    ·rename_i P
     rw [Ë,Ú] at P;obtain ⟨C,_,u,_⟩:=B _ P.1;refine ⟨θ.mp P.2,C,u,Z,y.c,C,rfl,R,O.le l,rfl,P.1,u,?_⟩;rw [e];exact h.from l
    ·exact h.elim
 have kc:=Oj (pos:=bh) (p:=p) T h0 hr hN hv hd dC I S O M TF
 refine wpAny_execs_cons (ğ (wpAny_Expr_any (aA kc fun v J hq=>(show SP X F { nx:=fun W Y=>D.nx W Y,rt:=D.rt } .next J from by
  obtain ⟨v',H1,I1,_,q1⟩:=hq;exact ⟨σ,H1,I1,q1⟩)) I.quiet kJ) (fun Q J q=>?_) fun e J q=>?_)
 ·cases Q with
  |next=>exact U8 (U8 q)
  |ret v=>exact q
  |brk=>obtain ⟨_,_,_,z⟩:=q;exact ĥ z
  |cont=>obtain ⟨_,_,_,z⟩:=q;exact ĥ z
 ·refine hX (D:=D) q L hf lI hj jm hg g TC fun cls Y hE=>?_
  obtain ⟨Z,c,C,rfl,R,gg,rfl,vM,TH,ho⟩:=hE;obtain ⟨C2,k1,t,k3⟩:=B c vM;rw [TH] at t;cases t;refine ⟨k3,fun a o G fW s5 I5=>?_⟩;have le:=(Fw.grow (K:=X.K) (o:=.aN o (.own a)) G).le;have S5:=R.grow (o:=.aN o (.own a)) G;have dv:DV X.K (Z.grow a (.aN o (.own a))) (.exc c) (.ref a):=⟨a,o,C,rfl,⟨fun z=>j6 R G z,bO⟩,fW,k1⟩;have hd:=hs a F s5 (σ.set j (some (.ref a))) _ { nx:=fun W Y=>D.nx (W.set j none) Y,rt:=D.rt,bk:=fun W Y=>D.bk (W.set j none) Y,ct:=fun W Y=>D.ct (W.set j none) Y } I5
   ⟨Z.grow a (.aN o (.own a)),env.set j (some (.exc c)),rfl,S5,(gg.le le).set dv j,(Out.aj (ho.from le)).mono fun w6 Q l6 S6 q=>?_⟩
  ·exact hd
  ·cases Q with
   |nx U=>exact fun W e'=>az S6 q (W.set j none) (e'.unset j)
   |rt d=>exact q.elim
   |bk U=>exact q.elim
   |ct U=>exact q.elim
end
end DI
namespace L2
open PySem PySem.Spec PySem.Calls PyProof.Rows PySem.W PySem.Builtin PySem.Builtin.ObjectAttr PySem.Builtin.Getset_descriptor
section
variable {prog:á} {w:Ą} {A:ó} {E:Ä->Ã->Prop} {s:Ã} {K:Ĉ} {x C:Ó}
noncomputable def lq (K:Ĉ) (C:Ó):Bool:=(findIn K (.ref C) "__getattribute__"==some (some (.builtin "BaseException.__getattribute__")))&&(findIn K (.ref C) "__getattr__"==some none)&&(clsIn K C).isSome&&(findIn K (.ref C) "__class__"==some (some (.builtin "object.__class__")))&&(specialIn K (.builtin "object.__class__") "__get__"==some (some (.builtin "getset_descriptor.__get__")))&&(takesIn K (.builtin "object.__class__")==some true)&&(mroIn K C (.type "object")==some true)&&(mroIn K C (.type "BaseException")==some true)
def Ol {M:Model} {EN:Ä} {Q:Unit->Ã->Prop} (LT:Looks M s.heap (typeOf (.ref x)) (.ref C)) (M5:Looks M s.heap (isSubtype (.ref C) (.type "BaseException")) true) (hq:Q () s):Ù M A (checkBuiltinCall "BaseException.__getattribute__" ⟨[.ref x,EN],[]⟩) Q E s:=by
 have Z:builtinKind "BaseException.__getattribute__"=some .slot:=by decide +kernel
 have Y:splitId "BaseException.__getattribute__"=some ("BaseException","__getattribute__"):=by decide +kernel
 have X:=F.args_bexc_ga (.ref x) EN;simp only [checkBuiltinCall,Z,Y];refine À ?_;unfold isInstance
 repeat (first|with_reducible refine LT.at ?_|with_reducible refine M5.at ?_|wp_step)
 exact hq
def cls_read {Q:Option Ä->Ã->Prop} (X:K.In s.heap) (LT:Looks (ß prog w) s.heap (typeOf (.ref x)) (.ref C)) (hc:lq K C=true) (h:Q (some (.ref C)) { s with toks:=s.toks+1 }) :
  Ù (ß prog w) A (getAttr? (.ref x) "__class__") Q E s:=by
 unfold lq at hc;simp only [Ë,beq_iff_eq] at hc;obtain ⟨⟨⟨⟨⟨⟨⟨Y,W⟩,_⟩,V⟩,U⟩,T⟩,S⟩,R⟩:=hc;obtain ⟨Z,g,d,t,os⟩:=s;have M1:=looks_findIn (M:=ß prog w) X Y;have M2:=looks_findIn (M:=ß prog w) X W;have P:Looks (ß prog w) Z (find (.ref x) (.ref C) "__class__") (.bind (.builtin "getset_descriptor.__get__") (.builtin "object.__class__")) :=
  (looks_findIn X V).andThen ((looks_specialIn X U).andThen ((show Looks (ß prog w) Z (dataDescriptor? (some (.builtin "object.__class__")) (some (.builtin "getset_descriptor.__get__"))) (some (.builtin "getset_descriptor.__get__",.builtin "object.__class__")) from (looks_takesIn X T).andThen .now).andThen (Looks.tag .now)))
 have L:=looks_mroIn (M:=ß prog w) X S;have O:=looks_mroIn (M:=ß prog w) X R;have N:=F.attr_ValueError.ga.bind (.ref x);unfold getAttr? getAttrBy? getAttrBy;refine À (wpAny_mkText (À (Ľ (ą (À (LT.at (À (M1.at ?_))))))));show Ù _ _ (getAttrByItsOwn (.ref x) _ (.ref C) (.builtin "BaseException.__getattribute__") false false) _ _ _;unfold getAttrByItsOwn;refine À (M2.at (À (Ľ (ą ?_))));show Ù _ _ (boundAndCalled (.builtin "BaseException.__getattribute__") (.ref x) _) _ _ _;unfold boundAndCalled;rw [N];refine À (Â (wpAny_call (codeAny_call_builtin F.attr_ValueError.ga.plain F.entry_bexc_ga ?_)));refine Ol LT O ?_;unfold Ř.«object.__getattribute__»;rw [show slotArgs "__getattribute__" 1 ⟨[.ref x]++[.str "__class__" t],[]⟩=pure (.ref x,[.str "__class__" t]) from rfl];refine À (Â ?_);dsimp only;rw [show attrName (.str "__class__" t)=pure ("__class__":Str) from rfl];refine À (Â (À (LT.at (À (P.at ?_)))));show Ù _ _ (U9 [Value.builtin "object.__class__"] (call (.builtin "getset_descriptor.__get__") [.builtin "object.__class__",.ref x,.ref C]) >>= ret) _ _ _;refine À (ą (wpAny_call ?_));refine codeAny_call_builtin KF.slot_gs.plain KF.entry_gs (KF.slot_gs.check _ _ _ _ _ _ _ _ KF.type_class (KF.args_gs _ _ _) ?_);unfold Ř.«getset_descriptor.__get__» descrGet;rw [dga_obj];refine À (Â ?_);unfold descrGetter descrCheckInstance descrNameAndClass isInstance;simp only [KF.owner_class]
 repeat lk
 refine ⟨Code.quiet_builtin _ (by decide +kernel),ī KF.entry_class ?_⟩;unfold Ř.«object.__class__» shownTypeOf
 repeat lk
 exact h
def Li {o:Obj} (ho:o.cls=.ref C) (hc:lq K C=true):KitX K (.ref x) (.ref C) (fun h=>h.get? x=some o) where
 ty:=fun M h _ e=>ho ▸ (Looks.ld e).andThen .now
 it:=fun M h X _=>by
  unfold lq at hc;simp only [Ë] at hc;have z:=hc.1.1.1.1.1.2;unfold clsIn at z;split at z
  ·rename_i q
   intro V U T S k r;unfold isType loadHead;exact À (wpAny_loadPart (k _ _ (X _ _ q)) (Â r))
  ·cases z
 ne:=fun h Z R Y n Q X W=>by
  unfold lq at hc;simp only [Ë] at hc;have z:=hc.1.1.1.1.1.2;refine Bool.eq_false_iff.mpr fun q=>?_;have e:C=Z:=Value.ref.inj (beq_iff_eq.mp q);subst e;unfold clsIn at z;split at z
  ·rename_i r
   have z:=(X _ _ r).symm.trans W;cases z
  ·cases z
 ca:=fun X e k=>cls_read X (ho ▸ (Looks.ld e).andThen .now) hc k
end
end L2
namespace DI
open PySem L2 PySem.W
def cC (cs:List Str) (yes:Str->Bool) (d:D) (s:aa):Res D:=match d with
 | .aq=>ok (.bl false) s
 | .exc c=>if decide (c∈cs)=true then ok (.bl (yes c)) s else none
 |_=>none
def nO (K:Ĉ) (cs:List Str) (T:Ä) (yes:Str->Bool):Prop:=kitOne K (.type "NoneType") T=some false/\∀c∈cs,∃C,nsIn K Ò c=some (some (.ref C))/\lq K C=true/\kitOne K (.ref C) T=some (yes c)
section
variable {X:Cx} {Ξ:Wd->aW->Prop} {a:ę} {pos:Pos} {f:Wh D}
def Oo {cs:List Str} {T:Ä} {yes:Str->Bool} (hc:nO X.K cs T yes) {vT:V} (hT:∀u,RelV vT u->u=T):bQ X (.builtin "isinstance") (fun xs H Q=>∃(w:Wd) (d:D) (x:V),w.H=H/\aD X.K w/\DV X.K w d x/\xs=[x,vT]/\Out X.K Ξ w (cC cs yes d w.aw) fun w' d=>∀v,DV X.K w' d v->Q v w'.H):=by
 rintro A s σ H y N Q I r ⟨w,d,x,rfl,S,U,rfl,h⟩;obtain ⟨Y,W,R,Z⟩:∃Y,RelV x Y/\∃R,N=[Y,R]/\RelV vT R:=by
  cases r with
  |cons W Z=>cases Z with|cons Z M=>cases M;exact ⟨_,W,_,rfl,Z⟩
 obtain ⟨rfl,Z⟩:=Z;cases hT _ Z
 cases d with
 |aq =>
  have e:x=.aq:=U;subst e;have e:Y=Value.none:=W;subst e;exact kia_one kitx_none I.iw trivial hc.1 (by intro z;cases z) fun P=>⟨.bl false,w.H,I.tok P,rfl,az S h _ rfl⟩
 |exc c =>
  simp only [DV] at U;obtain ⟨b,o,C,rfl,L,J,G⟩:=U;have e:Y=VH b:=W;subst e;unfold cC at h;dsimp only at h;split at h
  ·rename_i F
   obtain ⟨t,O,E,B⟩:=hc.2 c (ĕ F);rw [G] at O;cases O;exact kia_one (Li J E) I.iw (I.au b _ L.2).1 B (by intro z;cases z) fun P=>⟨.bl (yes c),w.H,I.tok P,rfl,az S h _ rfl⟩
  ·exact h.elim
 |_=>exact h.elim
def D5 {cs:List Str} {T:Ä} {yes:Str->Bool} {vT:V} {cn:Str} {p np:Pos} (hc:nO X.K cs T yes) (hT:∀u,RelV vT u->u=T) (h1:PE X (.Name cn np) (tC vT)) (ha:PE X a (tE X.K Ξ f)) (hm:X.mg "isinstance"=none) (hv:ì "isinstance"=some (.builtin "isinstance")) (hg:Gl X "isinstance":=by rfl)
  (hs:Ê [a,.Name cn np] X.env=(false,ĺ a X.env)::Ê [.Name cn np] X.env:=by rfl) (gb:Ê [.Name cn np] X.env=(false,ĺ (.Name cn np) X.env)::Ê [] X.env:=by rfl) (aQ:(į pos (Ê [.Name cn np] X.env)).any (·.1)=false:=by rfl) :
  PE X (.Call (.Name "isinstance" p) [a,.Name cn np] [] pos) (tE X.K Ξ (e1 (cC cs yes) f)) :=
 bY (tB (Oo (Ξ:=Ξ) hc hT) hg hm hv (gv ha (gv h1 js gb) hs) (by decide) (by decide) hs aQ) fun σ H Q Z=>by
  obtain ⟨w,env,Y,S,W,h⟩:=Z;subst Y;exact ⟨w,env,rfl,S,W,(Out.aj h).mono fun U x O R h1 v1 P=>⟨U,x,v1,rfl,R,P,rfl,h1⟩⟩
end
open PyProof.Rows PySem.SeqAt
def zy (d:D) (s:aa):Res D:=match d with
 | .lst Z=>match iE Z with
  |some bs=>ok (.int (bs.count true:Nat)) s
  |none=>none
 |_=>none
def AV (d:D) (s:aa):Res D:=match d with
 | .lst Z=>match iE Z with
  |some bs=>if (decide (bs.idxOf true<bs.length)&&decide (bs.length<=100))=true then ok (.int (bs.idxOf true:Nat)) s else none
  |none=>none
 |_=>none
theorem EO:∀(bs:List Bool) (m:Nat) (h:m<bs.length),m<bs.idxOf true->bs[m]=false
 | [],m,h,_=>absurd h (Nat.not_lt_zero _)
 |true::r,m,h,g=>by simp at g
 |false::r,0,h,g=>rfl
 |false::r,m+1,h,g=>by
  have e:(false::r).idxOf true=r.idxOf true+1:=by rw [List.idxOf_cons];rfl
  rw [e] at g;exact EO r m (by simpa using h) (by omega)
noncomputable def oZ:Ä->Bool
 | .bool b=>b
 |_=>false
theorem wQ:∀{bs:List Bool} {its:List Ä},Vals (bs.map V.bl) its->its=bs.map ņ
 | [],_,.nil=>rfl
 |b::r,_,.cons e t=>by
  have e:_=ņ b:=e;rw [e,wQ t];rfl
theorem Dh:∀bs:List Bool,(bs.map ņ).countP oZ=bs.count true
 | []=>rfl
 |b::r=>by
  rw [ç,List.countP_cons,List.count_cons,Dh r]
  cases b<;>rfl
def D6 {A:ó} {s:Ã} {bs:List Bool} (y:Ä) (hy:y∈(bs.map ņ).toArray):EqAt A s y (.bool true) (oZ y):=by
 have hy:y∈bs.map ņ:=by simpa using hy
 obtain ⟨b,_,rfl⟩:=ķ.mp hy;have h:=EqAt.bool_bool (A:=A) (s:=s) b true
 cases b<;>exact h
section
variable {X:Cx} {Ξ:Wd->aW->Prop} {o:ę} {f:Wh D} {p apos bh:Pos} {j:Nat}
def Lj:zQ X "list.count" (fun x xs H Q=>∃(a:Ó) (bs:List Bool),x=.ref a/\xs=[.bl true]/\bo X.K H a (bs.map V.bl)/\Q (.int (bs.count true:Nat)) H):=by
 rintro D s σ H x xs v U Q I T S ⟨a,bs,rfl,rfl,R,h⟩;have e:v=VH a:=T;subst e;obtain ⟨u,rfl,rfl⟩:∃u,U=[u]/\u=ņ true:=by
  cases S with|cons P O=>cases O;exact ⟨_,rfl,P⟩
 obtain ⟨N,M,L,_⟩:=I.list R;cases wQ M;obtain ⟨⟨cls,J,data,G⟩,n,Z,Y,_,W⟩:=L;simp only at Y W;subst Y W;refine call_meets PySem.F.slot_list_count ⟨_,Z,rfl⟩ PySem.F.entry_list_count (PySem.F.args_list_count_2 _ _) (list_countAt a _ n J G (.bool true) oZ) ⟨Z,fun y E=>D6 y E,?_⟩;rw [show (bs.map ņ).toArray.toList=bs.map ņ from rfl,Dh];exact ⟨.int _,H,I.tok _,⟨_,rfl⟩,h⟩
def Lk:zQ X "list.index" (fun x xs H Q=>∃(a:Ó) (bs:List Bool),x=.ref a/\xs=[.bl true]/\bo X.K H a (bs.map V.bl)/\bs.idxOf true<bs.length/\bs.length<=100/\Q (.int (bs.idxOf true:Nat)) H):=by
 rintro z s σ H x xs v T Q I S R ⟨a,bs,rfl,rfl,P,O,w,h⟩;have e:v=VH a:=S;subst e;obtain ⟨u,rfl,rfl⟩:∃u,T=[u]/\u=ņ true:=by
  cases R with|cons N M=>cases M;exact ⟨_,rfl,N⟩
 obtain ⟨L,J,G,_⟩:=I.list P;cases wQ J;obtain ⟨⟨cls,E,data,D⟩,n,Z,Y,_,W⟩:=G;simp only at Y W;subst Y W;have sz:(bs.map ņ).toArray.size=bs.length:=by simp
 refine call_meets PySem.F.slot_list_index ⟨_,Z,rfl⟩ PySem.F.entry_list_index (PySem.F.args_list_index_2 _ _) (list_indexAt a _ n E D (.bool true) oZ (bs.idxOf true) (by rw [sz];exact O) (by omega) ?_ ?_) ⟨Z,fun y C=>D6 y C,?_⟩
 ·simp [oZ,List.getElem_idxOf]
 ·intro m U B
  have A:=EO bs m (by rw [sz] at U;exact U) B;simp [oZ,A]
 ·exact ⟨.int _,H,I.tok _,⟨_,rfl⟩,h⟩
def Oq (ho:PE X o (tE X.K Ξ f))
  (mi:Ve o "count" X.env (ĺ o X.env)=ĺ o X.env:=by rfl)
  (mG:((į bh (Ê [.Constant (.bool true) j p] X.env)).all (fun x=>!x.1)&&(backToKw bh (ς [] X.env)).all (fun x=>x.1.isSome)
   && decide (([.Constant (.bool true) j p]:List ę).length+([]:List Vt).length+(if ([]:List Vt).isEmpty then 0 else 1)<30))=true:=by rfl)
  (mj:(apos.endLine==bh.line)=true:=by rfl) (hs:Ê [.Constant (.bool true) j p] X.env=(false,ĺ (.Constant (.bool true) j p) X.env)::Ê [] X.env:=by rfl) (iQ:(į bh (Ê [] X.env)).any (·.1)=false:=by rfl) :
  PE X (.Call (.Attribute o "count" apos) [.Constant (.bool true) j p] [] bh) (tE X.K Ξ (e1 zy f)) :=
 bY (yx Vm PySem.F.slot_list_count PySem.F.type_list_count Lj ho (gv yt js hs) mi mG mj hs iQ) fun σ H Q V=>by
  obtain ⟨w,env,U,S,T,h⟩:=V;subst U;refine ⟨w,env,rfl,S,T,(Out.aj h).mono fun O d N R Z v Y=>?_⟩
  cases d with
  |lst M =>
   unfold zy at Z;dsimp only at Z;split at Z
   ·rename_i bs P
    simp only [DV] at Y;obtain ⟨a,L,rfl,W,r⟩:=Y;cases ux P;cases r.tQ;exact ⟨.inl ⟨rfl,_,W.sq⟩,a,bs,rfl,rfl,W.sq,az R Z _ rfl⟩
   ·exact Z.elim
  |_=>exact Z.elim
def PN (ho:PE X o (tE X.K Ξ f))
  (mi:Ve o "index" X.env (ĺ o X.env)=ĺ o X.env:=by rfl)
  (mG:((į bh (Ê [.Constant (.bool true) j p] X.env)).all (fun x=>!x.1)&&(backToKw bh (ς [] X.env)).all (fun x=>x.1.isSome)
   && decide (([.Constant (.bool true) j p]:List ę).length+([]:List Vt).length+(if ([]:List Vt).isEmpty then 0 else 1)<30))=true:=by rfl)
  (mj:(apos.endLine==bh.line)=true:=by rfl) (hs:Ê [.Constant (.bool true) j p] X.env=(false,ĺ (.Constant (.bool true) j p) X.env)::Ê [] X.env:=by rfl) (iQ:(į bh (Ê [] X.env)).any (·.1)=false:=by rfl) :
  PE X (.Call (.Attribute o "index" apos) [.Constant (.bool true) j p] [] bh) (tE X.K Ξ (e1 AV f)) :=
 bY (yx Vm PySem.F.slot_list_index PySem.F.type_list_index Lk ho (gv yt js hs) mi mG mj hs iQ) fun σ H Q U=>by
  obtain ⟨w,env,T,S,R,h⟩:=U;subst T;refine ⟨w,env,rfl,S,R,(Out.aj h).mono fun N d M P Z v W=>?_⟩
  cases d with
  |lst L =>
   unfold AV at Z;dsimp only at Z;split at Z
   ·rename_i bs O
    split at Z
    ·rename_i Y
     rw [Ë,Ú,Ú] at Y;simp only [DV] at W;obtain ⟨a,J,rfl,V,r⟩:=W;cases ux O;cases r.tQ;exact ⟨.inl ⟨rfl,_,V.sq⟩,a,bs,rfl,rfl,V.sq,Y.1,Y.2,az P Z _ rfl⟩
    ·exact Z.elim
   ·exact Z.elim
  |_=>exact Z.elim
end
end DI
namespace L2
open PySem PySem.Spec PyProof.Rows PySem.W
def JY {Pr:á} {w:Ą} {K:Ĉ} {mg mb:Str->Option Ä} {CX:gM} {k:Nat} {fa a c P:Ó} {fd:ė} {x:Str} {sp:Sp} {bb:Ã} {vs:List Ä} {ns:List Int}
  (KX:K.In bb.heap) (gP:bb.heap.Ns Ò mg) (hb:bb.heap.Ns builtinsNs mb) (TJ:∀x:Str,x≠"__name__"->mb x=ì x) (Ri:bb.heap.NoLimit) (hg:bb.gens=#[])
  (ha:bb.heap.get? a=some { cls:=.type "list",data:=.seq vs.toArray }) (hi:Vu vs ns) (hl:ns.length<=Ø) (hr:bg k callerA)
  (CT:CodeHd bb.heap c P) (hP:bb.heap.get? P=some (tabObj #[])) (AW:K.lookup P=none) (AX:bb.heap.BuiltinsAt mg P)
  (F:∀base:Į,K.In base->base.Ns Ò mg->base.BuiltinsAt mg P->bN Pr w K mg base CX k fa fd [x] sp) (yJ:∀(s:Ã) (u:Ä),BindsTo s fd ⟨[u],[]⟩ [(x,u)])
  (jP:∀H:Hp,H P=some (.cD #[])->bo K H a (ns.map V.int)->sp [.ref a] H (fun v _=>v=.bl true) fun _ _ _=>False)
  (AY:∀H e s',CX [] H bb (fun _ _ _=>False) e s'->False) :
  Ŭ (ß Pr w) callerA (.call (.ref fa) ⟨[.ref a],[]⟩) (fun r s'=>r=.ok (.ret (.bool true))/\OldK bb.heap s'.heap/\s'.os=bb.os/\Wb s'.gens) bb:=by
 have Q:=B4 hi;have D:=hi.length;have O:a≠P:=fun z=>by rw [z,hP] at ha;cases ha
 have core:∀H:Hp,H P=some (.cD #[])->(∀b,H b=none\/b=P\/(b=a/\∃o U,H b=some (.aN o (.lst U))))->bo K H a (ns.map V.int)->bB Pr w H bb.heap->(H a≠none->K.lookup a=none) ->
   Ŭ (ß Pr w) callerA (.call (.ref fa) ⟨[.ref a],[]⟩) (fun r s'=>r=.ok (.ret (.bool true))/\OldK bb.heap s'.heap/\s'.os=bb.os/\Wb s'.gens) bb:=by
  intro H N T C M B;have free:∀{b:Ó} {o:Obj},bb.heap.get? b=some o->o≠tabObj #[]->o≠{ cls:=.type "list",data:=.seq vs.toArray }->H b=none:=fun {b o} e A y=>by
   rcases T b with z|z | ⟨z,_⟩
   ·exact z
   ·rw [z,hP] at e;exact absurd (Wm e).symm A
   ·rw [z,ha] at e;exact absurd (Wm e).symm y
  have X:∀{b:Ó} {m:Str->Option Ä},bb.heap.Ns b m->(ki bb.heap H).Ns b m:=fun {b m} ⟨o,t,p,e,d,r⟩=>⟨o,t,p,wY e (free e (fun z=>by rw [z] at d;cases d) fun z=>by rw [z] at d;cases d),d,r⟩;have L:K.In (ki bb.heap H):=fun b o e=>wY (KX b o e) (by
   rcases T b with z|z | ⟨z,J,U,W⟩
   ·exact z
   ·rw [z,AW] at e;cases e
   ·subst z;rw [B (by rw [W];intro z;cases z)] at e;cases e)
  have l:Mod K mg (ki bb.heap H):=⟨L,X gP,⟨mb,X hb,TJ⟩,let ⟨j,i,g⟩:=Ri;⟨j,X i,g⟩⟩
  have f:(ki bb.heap H).BuiltinsAt mg P:=let ⟨bm,o,b1,b2,b3,b4,I,S,r⟩:=AX;⟨bm,o,b1,b2,b3,b4,wY I (free I (fun z=>by rw [z] at S;cases S) fun z=>by rw [z] at r;cases r.2),S,r⟩
  have e0:qY Pr w K mg (ki bb.heap H) callerA [] bb H:=⟨rfl,l,fun b o e=>LM e,Ŷ (Ju _ _),trivial,fun b hb=>absurd (show b∈([]:List Ó) from hb) (by simp),M,.of_eq hg⟩;refine ŝ ((F _ L (X gP) f).run callerA [] bb H ⟨[.ref a],[]⟩ [.ref a] [.ref a] _ _ hr e0 (yJ bb (.ref a)) (.cons rfl .nil) (jP H N C)) fun r s' h=>?_
  cases r with
  |error e=>exact (AY H e s' h).elim
  |ok fl =>
   cases fl with
   |next=>exact ĥ h
   |brk=>exact ĥ h
   |cont=>exact ĥ h
   |ret u =>
    obtain ⟨v,H',os,bare,un,G,r',q⟩:=h;have q':v=.bl true:=q;subst q';obtain rfl:u=ņ true:=r';have keep:∀b o,bb.heap.get? b=some o->b≠P->s'.heap.get? b=some o:=fun b o e n=>by
     rcases T b with z|z | ⟨z,J,U,W⟩
     ·exact un.keep b o e z (by intro z;exact absurd (show b∈([]:List Ó) from z) (by simp)) (by simp)
     ·exact absurd z n
     ·obtain ⟨e1,_⟩:=M b _ W
      obtain ⟨e2,_⟩:=G b _ (un.cP b J _ W);rw [e] at e1;cases e1;exact e2
    obtain ⟨more,hm⟩:=un.dg P _ N;have E:s'.heap.get? P=some (tabObj (#[]++more)):=G P _ hm;refine ⟨rfl,⟨fun b o e=>?_,fun b o e=>?_⟩,os,bare⟩
    ·by_cases hb:b=P
     ·subst hb
      rw [hP] at e;cases e;exact .inr (.inl ⟨(CT.tab hP).isCodeTable,rfl,#[],more,rfl,E⟩)
     ·exact .inl (keep b o e hb)
    ·by_cases hb:b=P
     ·subst hb;exact ⟨_,E⟩
     ·exact ⟨o,keep b o e hb⟩
 cases R:K.lookup a with
 |some o =>
  have e:=KX a o R;rw [ha] at e;cases e
  refine core (fun b=>if b=P then some (.cD #[]) else none) (ê rfl) (fun b=>?_) (.inr ⟨_,vs.toArray,_,R,rfl,rfl,rfl,by rw [Õ,D];exact hl,by simpa using Q⟩) (fun b u z=>?_) (fun z=>absurd (ú O) z)
  ·by_cases hb:b=P
   ·exact .inr (.inl hb)
   ·exact .inl (ú hb)
  ·by_cases hb:b=P
   ·have Z:=(ê hb).symm.trans z
    cases Z;subst hb;exact hP
   ·have Z:=(ú hb).symm.trans z
    cases Z
 |none =>
  refine core (fun b=>if b=P then some (.cD #[]) else if b=a then some (.aN { cls:=.type "list",data:=.seq vs.toArray } (.lst (ns.map V.int))) else none) (ê rfl) (fun b=>?_) (.inl (.inr ⟨{ cls:=.type "list",data:=.seq vs.toArray },(ú O).trans (ê rfl)⟩)) (fun b u z=>?_) (fun _=>R)
  ·by_cases hb:b=P
   ·exact .inr (.inl hb)
   ·by_cases Y:b=a
    ·exact .inr (.inr ⟨Y,_,_,(ú hb).trans (ê Y)⟩)
    ·exact .inl ((ú hb).trans (ú Y))
  ·by_cases hb:b=P
   ·have Z:=(ê hb).symm.trans z
    cases Z;subst hb;exact hP
   ·by_cases Y:b=a
    ·have Z:=((ú hb).trans (ê Y)).symm.trans z
     cases Z;subst Y;exact ⟨ha,by rw [Í];exact hl,vs,_,Q,ha⟩
    ·have Z:=((ú hb).trans (ú Y)).symm.trans z
     cases Z
def Ot {l:OpenLaw} {n k:Nat} {q:á} {loose:List Str} {XP:(Str->Option Ä)->Į->Prop} {YP:Ą->Į->Prop} {d:DefRec} {K:Params->Ĉ} {CX:Ą->gM} {sp:Ą->Ó->Sp} {x:Str}
  (hn:l.most=some n) (TK:n<=Ø) (rV:d.params.defaults=[]) (hr:bg k callerA)
  (hY:∀(w:Ą) (h:Į),YP w h->(K w.params).In h) (hd:(recsOf q).find? (fun e=>e.name==d.name)=some d)
  (F:∀(w:Ą) (mg:Str->Option Ä) (fa:Ó) (h:Į),(K w.params).In h->h.Ns Ò mg->mg d.name=some (.ref fa) ->
   ∃(c P:Ó) (fd:ė),tabIn (K w.params) d.name=some (c,P)/\(K w.params).lookup P=none/\(∀(s:Ã) (u:Ä),BindsTo s fd ⟨[u],[]⟩ [(x,u)]) /\
    ∀base:Į,(K w.params).In base->base.Ns Ò mg->base.BuiltinsAt mg P->bN l.prog w (K w.params) mg base (CX w) k fa fd [x] (sp w P))
  (jP:∀(w:Ą) (P:Ó) (H:Hp) (a:Ó) (ns:List Int),ns.length<=n->H P=some (.cD #[])->bo (K w.params) H a (ns.map V.int)->sp w P [.ref a] H (fun v _=>v=.bl true) fun _ _ _=>False)
  (AY:∀(w:Ą) (H:Hp) (s:Ã) (e:Ä) (s':Ã),CX w [] H s (fun _ _ _=>False) e s'->False) :
  WalkO q loose XP YP l.row.toRowW d [] (fun f vs=>PySem.call f vs):=by
 refine F0.HV hn rV fun w p S mg m fa o pm cd doc a vs ns G Y j i dC O N hints Z M=>?_;have W:=hY w _ Y;obtain ⟨c,P,fd,L,J,I,E⟩:=F w mg fa _ W G.T.g O;obtain ⟨D,R⟩:=tab_of G.T W hd L;have C:S.heap.BuiltinsAt mg P:=by
  obtain ⟨bm,B,A,b2,X,Q,y,U⟩:=G.T.bmain;refine ⟨bm,B,A,b2,fun z=>?_,fun z=>?_,X,Q,y,U⟩
  ·obtain ⟨o,es,ep,e,hd,_⟩:=G.T.g
   rw [z,e] at X;cases X;rw [hd] at U;cases U
  ·rw [z,R] at X;cases X;cases Q
 exact JY W G.T.g G.T.b G.T.builtins G.T.nolimit M N hints (ã Z TK) hr D R J C E I (fun H t r=>jP w P H a ns Z t r) fun H e s'=>AY w H S e s'
end L2
namespace DI
open PySem L2 PySem.W
def PQ {P:á} {w:Ą} {K:Ĉ} {mg:Str->Option Ä} {base:Į} {x:Str} {st:Wc} {f c T:Ó} {fd:ė} {ps:List Str} {k:Nat} {b:Wh Fl} (G:Gd K mg x st ps f fd) (hx:nsIn K Ò x=some (some (.ref f))) (ht:tabIn K x=some (c,T)) (N:List Str) (S:oY N ps (cm st)=true)
  (hb:N.Nodup->∀(A:ó) (outer:List PySem.Env) (s:Ã) (H:Hp) (E:XK),bg k (A.deeper (š x (cm st) s.heap.objs.size f (.ref c)))->cb (ic cH P w K mg base N x (cm st) f (.ref c) A outer s H E).kr (gw st) (tS K bH b)) :
  bN P w K mg base cH (k+1) f fd ps (iD K (aS ps.length N.length b)):=by
 obtain ⟨D,C,kV,doc,pm,an,X,ct,B,rfl,lk,U⟩:=G.fn.ex;have R:X=.ref c:=by
  unfold tabIn at ht;rw [hx] at ht;dsimp only at ht;rw [lk] at ht;dsimp only at ht
  cases X with
  |ref z =>
   dsimp only at ht;split at ht
   ·split at ht
    ·cases ht;rfl
    ·cases ht
   ·cases ht
  |_=>cases ht
 subst R;refine yw lk U (kT S) (fun O H Q E h=>?_) fun A outer s H O Q E M h=>?_
 ·obtain ⟨w,L,rfl,S,Y,h⟩:=h
  rw [<- Y.length];unfold aS at h;split at h
  ·assumption
  ·exact h.elim
 ·obtain ⟨W,L,rfl,J,Y,h⟩:=h
  refine ⟨_,(hb (kT S).nd A outer s W.H E M).kr,?_⟩;unfold aS at h;split at h
  ·rename_i I
   rw [<- I] at h;refine ⟨W,_,rfl,J,Y.env N.length,(Out.aj h).mono fun y F v V Z=>?_⟩
   cases F with
   |nx env=>intro u _;exact az V Z _ rfl
   |rt d=>have q:=az V Z;exact q
   |bk env=>exact Z.elim
   |ct env=>exact Z.elim
  ·exact h.elim
def uE (K:Ĉ) (T:Ó):Sp:=fun Y H Q _=>∃(a:Ó) (Z:List Int),Y=[.ref a]/\bo K H a (Z.map V.int)/\Z.length<=63/\H T=some (.cD #[])/\∀X,Q (.bl true) X
def ME {P:á} {w:Ą} {K:Ĉ} {mg:Str->Option Ä} {base:Į} {k:Nat} {f c T:Ó} {fd:ė} {x y:Str} {g:List D->aa->Res D} (F:bN P w K mg base cH k f fd [x] (iD K g)) (ht:tabIn K y=some (c,T))
  (h:∀ns:List Int,ns.length<=63->∃s,g [.bu ns] [.tb y]=some (.ok (.bl true),s)):bN P w K mg base cH k f fd [x] (uE K T):=F.imp fun R H Q E ⟨a,ns,e,hS,X,Y,q⟩=>by
 subst e;obtain ⟨s,W⟩:=h ns X;have V:∀b,(⟨[T],[.tb y],H⟩:Wd).Z b->b=T:=fun b ⟨k,c,e1,_,_⟩=>by
  cases k with
  |zero=>exact (Wm e1).symm
  |succ k=>cases e1
 have S:aD K ⟨[T],[.tb y],H⟩:=by
  refine ⟨rfl,by simp,fun k a e=>?_,fun k a O e1 e2=>?_⟩
  ·cases k with
   |zero=>cases e;show H T≠none;rw [Y];intro z;cases z
   |succ k=>cases e
  ·cases k with
   |zero=>cases e1;cases e2;exact ⟨c,#[],ht,Y,trivial,fun pos N z=>by cases z⟩
   |succ k=>cases e1
 refine ⟨⟨[T],[.tb y],H⟩,[.bu ns],rfl,S,ak.one ⟨a,rfl,?_⟩,?_⟩
 ·rcases hS with hS|hS
  ·refine .inl ⟨fun z=>?_,hS⟩
   rw [V a z] at hS
   rcases hS with hS | ⟨_,hS⟩<;>(rw [Y] at hS;cases hS)
  ·exact .inr hS
 ·show Out K bH _ (g [.bu ns] [.tb y]) _
  rw [W];intro M _ _ _ v U;have e:v=.bl true:=U;subst e;exact q _
def HC:ì "ValueError"=some (.type "ValueError"):=by decide +kernel
noncomputable def isNm (n c:Str):Bool:=decide (c=n)
noncomputable def anyS (_:Str):Bool:=true
abbrev AZ (P:á) (w:Ą) (K:Ĉ) (mg:Str->Option Ä) (base:Į) (x:Str) (st:Wc) (ps:List Str) (k:Nat) (fn:List D->aa->Res D):Prop:=∀{f:Ó} {fd:ė},Gd K mg x st ps f fd->bN P w K mg base (eZ P w) k f fd ps (pN mg K fn)
def c8 (K:Ĉ) (mg:Str->Option Ä) (cs:List Str) (n:Str):Prop:=∃C,mg n=some (.ref C)/\nO K cs (.ref C) (isNm n)
def G2 (K:Ĉ) (mg:Str->Option Ä) (cs:List Str) (n:Str):Prop:=∃Z,mg n=some (.ref Z)/\∀c∈cs,∃C,nsIn K Ò c=some (some (.ref C))/\mg c=some (.ref C)/\exmOne K (.ref C) (.ref Z)=some true
section
variable {X:Cx} {E:XK} {Ξ:Wd->aW->Prop} {e a b c:ę} {es rest:List ę} {pos:Pos} {f g h:Wh D} {fa:Wh (List D)}
def PR {k n:Nat} {x:Str} {st:Wc} {ps:List Str} {fn:List D->aa->Res D} {p:Pos} (G:GG X.K X.mg x st ps) (F:AZ X.prog X.w X.K X.mg X.base x st ps k fn) (L:Passes (eZ X.prog X.w) X E) (hr:bg n X.A) (ha:PA X (e::es) (tA X.K (gY X.mg E) fa)) (hk:k<=n:=by decide) (hg:Gl X x:=by rfl) (cJ:(x==("__debug__":Str))=false:=by decide)
  (he:Ê (e::es) X.env=(false,ĺ e X.env)::Ê es X.env:=by rfl) (aQ:(į pos (Ê es X.env)).any (·.1)=false:=by rfl):PE X (.Call (.Name x p) (e::es) [] pos) (tE X.K (gY X.mg E) (nZ fn fa)):=by
 obtain ⟨f,fd,G⟩:=G;exact MC L (F G) (hr.mono hk) hg G.mg G.fn.kp G.b ha cJ he aQ
def PU {k n:Nat} {x:Str} {st:Wc} {ps:List Str} {fn:List D->aa->Res D} {p:Pos} (G:GG X.K X.mg x st ps) (F:AZ X.prog X.w X.K X.mg X.base x st ps k fn) (hr:bg n X.A) (ha:PA X (e::es) (tA X.K Ξ fa)) (hk:k<=n:=by decide) (hg:Gl X x:=by rfl) (cJ:(x==("__debug__":Str))=false:=by decide)
  (he:Ê (e::es) X.env=(false,ĺ e X.env)::Ê es X.env:=by rfl) (aQ:(į pos (Ê es X.env)).any (·.1)=false:=by rfl):PE X (.Call (.Name x p) (e::es) [] pos) (tE X.K Ξ (aK fn fa)):=by
 obtain ⟨f,fd,G⟩:=G;exact MD (F G) (hr.mono hk) hg G.mg G.fn.kp G.b ha cJ he aQ
def dw {cs:List Str} {cn:Str} {p np:Pos} (hc:c8 X.K X.mg cs cn) (ha:PE X a (tE X.K Ξ f)) (hm:X.mg "isinstance"=none) (hg:Gl X "isinstance":=by rfl) (A0:Gl X cn:=by rfl) (hd:(cn==("__debug__":Str))=false:=by decide)
  (hs:Ê [a,.Name cn np] X.env=(false,ĺ a X.env)::Ê [.Name cn np] X.env:=by rfl) (gb:Ê [.Name cn np] X.env=(false,ĺ (.Name cn np) X.env)::Ê [] X.env:=by rfl) (aQ:(į pos (Ê [.Name cn np] X.env)).any (·.1)=false:=by rfl) :
  PE X (.Call (.Name "isinstance" p) [a,.Name cn np] [] pos) (tE X.K Ξ (e1 (cC cs (isNm cn)) f)):=by
 obtain ⟨C,Z,h⟩:=hc;exact D5 (vT:=.ref C) h (fun u r=>r) (xp A0 Z rfl hd) ha hm ef hg hs gb aQ
def Ou {cs:List Str} {p np:Pos} (hc:nO X.K cs (.type "ValueError") anyS) (ha:PE X a (tE X.K Ξ f)) (hm:X.mg "isinstance"=none) (TL:X.mg "ValueError"=none) (hg:Gl X "isinstance":=by rfl) (A0:Gl X "ValueError":=by rfl)
  (hs:Ê [a,.Name "ValueError" np] X.env=(false,ĺ a X.env)::Ê [.Name "ValueError" np] X.env:=by rfl) (gb:Ê [.Name "ValueError" np] X.env=(false,ĺ (.Name "ValueError" np) X.env)::Ê [] X.env:=by rfl) (aQ:(į pos (Ê [.Name "ValueError" np] X.env)).any (·.1)=false:=by rfl) :
  PE X (.Call (.Name "isinstance" p) [a,.Name "ValueError" np] [] pos) (tE X.K Ξ (e1 (cC cs anyS) f)) :=
 D5 (vT:=.ty "ValueError") hc (fun u r=>r) (tL A0 TL HC rfl) ha hm ef hg hs gb aQ
end
def jw (K:Ĉ) (cs asked:List Str) (hX:Str):Bool :=
 cs.all (fun c=>match nsIn K Ò c with
  |some (some (.ref C))=>excIn K C [.type "ValueError",.type "Exception",.type "BaseException",.type "object"] "ValueError.__new__"&&lq K C&&(kitOne K (.ref C) (.type "ValueError")==some true) &&
   (match nsIn K Ò hX with|some (some (.ref Z))=>exmOne K (.ref C) (.ref Z)==some true | _=>false) &&
   asked.all (fun n=>match nsIn K Ò n with|some (some (.ref A))=>kitOne K (.ref C) (.ref A)==some (isNm n c) | _=>false)
  |_=>false) &&
 asked.all (fun n=>match nsIn K Ò n with|some (some (.ref A))=>kitOne K (.type "NoneType") (.ref A)==some false | _=>false)&&(kitOne K (.type "NoneType") (.type "ValueError")==some false) &&
 (match nsIn K Ò hX with|some (some (.ref _))=>true | _=>false)
noncomputable def ye (K:Ĉ) (x:Str):Bool:=match tabIn K x with
 |some (c,P)=>codeHdIn K c P&&(K.lookup P).isNone
 |none=>false
def MF {K:Ĉ} {x:Str} (h:ye K x=true):∃c P,tabIn K x=some (c,P)/\codeHdIn K c P=true/\K.lookup P=none:=by
 unfold ye at h;split at h
 ·rename_i c P e
  rw [Ë] at h;exact ⟨c,P,e,h.1,θ.mp h.2⟩
 ·cases h
def qr {K:Ĉ} {x:Str} {p:Ó->Bool} (h:(match nsIn K Ò x with|some (some (.ref C))=>p C | _=>false)=true):∃C,nsIn K Ò x=some (some (.ref C))/\p C=true:=by
 split at h
 ·rename_i C e
  exact ⟨C,e,h⟩
 ·cases h
section
variable {K:Ĉ} {cs asked:List Str} {hX:Str} {h:Į} {mg:Str->Option Ä}
def x_at (f:jw K cs asked hX=true) {c:Str} (hc:c∈cs):∃C,nsIn K Ò c=some (some (.ref C))/\excIn K C [.type "ValueError",.type "Exception",.type "BaseException",.type "object"] "ValueError.__new__"=true/\lq K C=true/\kitOne K (.ref C) (.type "ValueError")=some true /\
  (∃CM,nsIn K Ò hX=some (some (.ref CM))/\exmOne K (.ref C) (.ref CM)=some true)/\∀n∈asked,∃A,nsIn K Ò n=some (some (.ref A))/\kitOne K (.ref C) (.ref A)=some (isNm n c):=by
 unfold jw at f;simp only [Ë] at f;obtain ⟨C,e,q⟩:=qr (õ.mp f.1.1.1 c hc);simp only [Ë,beq_iff_eq] at q;obtain ⟨⟨⟨⟨X,W⟩,V⟩,Z⟩,Y⟩:=q;obtain ⟨CM,U,Z⟩:=qr Z;refine ⟨C,e,X,W,V,⟨CM,U,beq_iff_eq.mp Z⟩,fun n T=>?_⟩;obtain ⟨A,S,Y⟩:=qr (õ.mp Y n T);exact ⟨A,S,beq_iff_eq.mp Y⟩
def Rk (X:K.In h) (G:h.Ns Ò mg) (f:jw K cs asked hX=true) {c:Str} (hc:c∈cs):zt K mg c:=by
 obtain ⟨C,e,q,_⟩:=x_at f hc;exact ⟨C,e,mg_of X G e,q⟩
def Rl (X:K.In h) (G:h.Ns Ò mg) (f:jw K cs asked hX=true):G2 K mg cs hX:=by
 have Z:=f;unfold jw at Z;simp only [Ë] at Z;obtain ⟨Y,e,_⟩:=qr Z.2;refine ⟨Y,mg_of X G e,fun c W=>?_⟩;obtain ⟨C,e1,_,_,_,⟨V,e2,q⟩,_⟩:=x_at f W;rw [e] at e2;cases e2;exact ⟨C,e1,mg_of X G e1,q⟩
def dB (X:K.In h) (G:h.Ns Ò mg) (f:jw K cs asked hX=true) {n:Str} (hn:n∈asked):c8 K mg cs n:=by
 have Z:=f;unfold jw at Z;simp only [Ë] at Z;obtain ⟨A,e,q⟩:=qr (õ.mp Z.1.1.2 n hn);refine ⟨A,mg_of X G e,beq_iff_eq.mp q,fun c Y=>?_⟩;obtain ⟨C,e1,_,W,_,_,V⟩:=x_at f Y;obtain ⟨T,e2,U⟩:=V n hn;rw [e] at e2;cases e2;exact ⟨C,e1,W,U⟩
def PV (f:jw K cs asked hX=true):nO K cs (.type "ValueError") anyS:=by
 have Z:=f;unfold jw at Z;simp only [Ë,beq_iff_eq] at Z;refine ⟨Z.1.2,fun c Y=>?_⟩;obtain ⟨C,e1,_,X,W,_⟩:=x_at f Y;exact ⟨C,e1,X,W⟩
end
def rp (f:ę->Option D):List ę->Option (List D)
 | []=>some []
 |e::Z=>match f e,rp f Z with
  |some d,some Y=>if notStar e=true then some (d::Y) else none
  |_,_=>none
def cst:Nat->ę->Option D
 |0,_=>none
 |n+1,e=>match e with
  | .Constant (.str x) _ _=>some (.str x)
  | .Constant (.int i) _ _=>some (.int i)
  | .Constant (.bool b) _ _=>some (.bl b)
  | .Constant .none _ _=>some .aq
  | .UnaryOp .USub (.Constant (.int i) _ _) _=>some (.int (-i))
  | .Tuple Y _ _=>match rp (cst n) Y with
   |some Z=>if Z.length<=100 then some (.tup Z) else none
   |none=>none
  | .List Y _=>match rp (cst n) Y with
   |some Z=>if Z.length<=100 then some (.lst Z) else none
   |none=>none
  |_=>none
def aC (ds:List D):Wh (List D):=fun _ s=>ok ds s
def PX {ds:List D} (h:ds.length<=100):bC (aC ds)=eC (.tup ds):=by
 funext env s;show fu ds (ok (D.tup ds) s)=_;exact ê (ã h (by decide))
def PY {ds:List D} (h:ds.length<=100):cA (aC ds)=eC (.lst ds):=by
 funext env s;show fu ds (ok (D.lst ds) s)=_;exact ê (ã h (by decide))
section
variable {X:Cx} {Ξ:Wd->aW->Prop}
theorem yK {f:ę->Option D} (hf:∀e d,f e=some d->PE X e (tE X.K Ξ (eC d))):∀{es:List ę} {ds:List D},rp f es=some ds->PA X es (tA X.K Ξ (aC ds))
 | [],ds,h=>by cases h;exact dM
 |e::es,ds,h=>by
  unfold rp at h;split at h
  ·rename_i d Y e1 e2
   split at h
   ·rename_i Z
    cases h;exact cq (hf e d e1) (yK hf e2) Z
   ·cases h
  ·cases h
theorem u4:∀(n:Nat) {e:ę} {d:D},cst n e=some d->PE X e (tE X.K Ξ (eC d))
 |0,e,d,h=>by cases h
 |n+1,e,d,h=>by
  unfold cst at h;split at h
  ·cases h;exact jx
  ·cases h;exact ax
  ·cases h;exact eG
  ·cases h;exact qE
  ·cases h;exact vm uZ ax
  ·split at h
   ·rename_i W Z
    split at h
    ·rename_i Y
     cases h;rw [<- PX Y];exact bU (yK (fun e d=>u4 n) Z)
    ·cases h
   ·cases h
  ·split at h
   ·rename_i W Z
    split at h
    ·rename_i Y
     cases h;rw [<- PY Y];exact er (yK (fun e d=>u4 n) Z)
    ·cases h
   ·cases h
  ·cases h
end
end DI
namespace DI.cQ
open PySem L2 DI
noncomputable section
noncomputable def bc:List Str:=["NoLaying"]
def wR:Wh Fl:=(aB (bp (cN 1 [0,5] (fH (ae (eC (.int 8)) ah)) (gN 0) (bx (e2 bZ (aK de (ae (af 1) (ae (e2 aT (af 2) (eC (.int 4))) ah))) (eC (.int 0)))) (af 0)) (gN 7)) (aB (lC (eB fm (ae (e1 qa (e2 aT (eB mw (ae (e2 aZ (af 1) (af 4)) ah)) (af 7))) ah)) (af 1) (af 4)) (aB (jy (oT (af 2) (e2 aZ (af 1) (af 4)))) (aB (jy (oT (af 3) (af 4))) (bp (sj (bx (e2 rg (aK de (ae (af 0) (ae (af 5) ah))) (eC (.int 0)))) (e2 iX (eC (.int 1)) (af 4)) (af 4)) (gN 4))))))
def tG:List D->aa->Res D:=aS 1 8 (aB (bp (bC (ae (eNew (ae (aK lW (ae (af 0) (ae (eC (.int 4)) ah))) (ae (aK lW (ae (af 0) (ae (eC (.int 4)) ah))) ah))) (ae (eNew ah) (ae (eNew ah) (ae (eC (.int 0)) ah))))) (gT [(gN 1),(gN 2),(gN 3),(gN 4)])) (aB (bp (e2 aT (eC (.int 2)) (aK de (ae (af 0) (ae (eC (.int 6)) ah)))) (gN 5)) (aB (i6 (fH (ae (e2 aT (eC (.int 1)) (aK de (ae (af 0) (ae (eC (.int 10)) ah)))) ah)) (gN 6) wR) (aO (bC (ae (eB fm (ae (af 2) ah)) (ae (eB fm (ae (af 3) ah)) ah)))))))
def uF:List D->aa->Res D:=aS 1 2 (aB (bp (cA (ae (eC .aq) (ae (eC (.bl true)) (ae (eC (.bl false)) (ae (e1 qI (eC (.int 1))) (ae (eC (.int 8)) (ae (eC (.int 31)) (ae (eC (.int 4)) (ae (eC (.str "")) (ae (eC (.str "0")) (ae (eC (.str "made")) (ae (bC ah) (ae (cA ah) (ae (eC (.aV [])) (ae (bC (ae (eC (.int 0)) ah)) (ae (cA (ae (eC (.int 0)) ah)) (ae (e2 om (eC (.int 10)) (eC (.int 29))) (ae (e1 qI (e2 om (eC (.int 10)) (eC (.int 20)))) (ae (bC (ae (eC (.int 8)) ah)) ah))))))))))))))))))) (gN 1)) (aB (bp (e2 aT (af 1) (cA (ae (bC (ae (eC (.str "made")) ah)) (ae (bC (ae (eC (.int 0)) (ae (eC (.int 0)) ah))) (ae (bC (ae (bC (ae (eC (.int 0)) ah)) (ae (bC (ae (eC (.int 0)) ah)) ah))) (ae (eC (.aV [(Vs "made",0)])) (ae (bC (ae (bC ah) (ae (bC ah) ah))) (ae (bC (ae (bC (ae (eC (.bl true)) ah)) (ae (bC ah) ah))) (ae (bC (ae (bC (ae (eC (.int 1)) (ae (eC (.int 0)) ah))) (ae (bC ah) ah))) (ae (eC (.str "made 0 0 -/-")) ah)))))))))) (gN 1)) (aO (e2 aZ (af 1) (aK de (ae (af 0) (ae (eC (.int 26)) ah)))))))
def qf:List D->aa->Res D:=aS 2 5 (aB (oV 2 3 (ae (aK de (ae (af 0) (ae (eB bG (ae (af 1) ah)) ah))) (ae (aK de (ae (af 0) (ae (eC (.int 6)) ah))) ah))) (aB (bp (e2 aZ (cA (ae (e1 qI (eC (.int 1))) (ae (eC (.int 2)) (ae (eC (.bl true)) (ae (eC .aq) (ae (eC (.str "0")) (ae (eC (.bl false)) ah))))))) (aK de (ae (af 0) (ae (eC (.int 6)) ah)))) (gN 4)) (aB (bT (bx (e2 bZ (af 3) (eC (.int 0)))) (aO (e2 aZ (cA (ae (cY (af 1) (cV (eC (.int 1))) cX) (ae (e2 aT (af 1) (bC (ae (eC (.int 0)) ah))) (ae (eB mw (ae (af 1) ah)) (ae (e2 aT (e2 aT (cY (af 1) cX (cV (af 2))) (bC (ae (af 4) ah))) (cY (af 1) (cV (e2 aT (af 2) (eC (.int 1)))) cX)) ah))))) (aK de (ae (af 0) (ae (eC (.int 4)) ah))))) cB) (aB (bT (bx (e2 bZ (af 3) (eC (.int 1)))) (aO (eB fm (ae (cN 1 [] (fx (af 1)) (gN 0) fG (e2 iX (eC (.int 1)) (af 0))) ah))) cB) (aO (e2 aT (e2 aT (cY (af 1) cX (cV (af 2))) (bC (ae (e2 iX (eC (.int 1)) (e2 aZ (af 1) (af 2))) ah))) (cY (af 1) (cV (e2 aT (af 2) (eC (.int 1)))) cX)))))))
def xk:Wh Fl:=(aB (bp (cN 1 [0,2] (fx (e2 aZ (af 0) (af 4))) (gN 0) (bx (e2 nM (af 0) (e2 aZ (af 1) (af 2)))) (af 0)) (gN 5)) (bT (oE (bx (e2 bZ (e2 aZ (af 1) (af 4)) (af 3))) (bx (e2 dh (af 5) (cA ah)))) (aO (eC (.bl false))) cB))
def nG:Wh Fl:=(aB (bT (fX (fQ (eD (eB bw (ae (af 3) (ae (eC (.ty "int")) ah))))) (fX (eD (eB bw (ae (af 3) (ae (eC (.ty "bool")) ah)))) (fX (bx (e2 nM (af 3) (bC (ae (eC (.int 0)) (ae (eC (.int 1)) ah))))) (bx (e2 dh (e2 aZ (af 1) (eC (.int 0))) (eC (.int 0))))))) (aO (eC (.bl false))) cB) (i6 (fH (ae (af 2) ah)) (gN 4) xk))
def qg:List D->aa->Res D:=aS 2 6 (aB (bT (fX (fQ (eD (eB bw (ae (af 1) (ae (eC (.ty "tuple")) ah))))) (bx (e2 dh (eB bG (ae (af 1) ah)) (eB bG (ae (af 0) ah))))) (aO (eC (.bl false))) cB) (aB (i6 (yB (ae (af 1) ah)) (gT [(gN 2),(gN 3)]) nG) (aO (eC (.bl true)))))
def hW:Nat->List D->aa->Res D
 |0=>fun _ _=>none
 |n+1=>aS 2 2 (aB (bT (eD (e1 oU (af 1))) (aB (bT (fX (bx (e2 dh (eB bw (ae (af 0) (ae (eC (.ty "tuple")) ah))) (eB bw (ae (af 1) (ae (eC (.ty "tuple")) ah))))) (bx (e2 dh (eB bw (ae (af 0) (ae (eC (.ty "list")) ah))) (eB bw (ae (af 1) (ae (eC (.ty "list")) ah)))))) (aO (eC (.bl false))) cB) (aO (fe (e2 bZ (eB bG (ae (af 0) ah)) (eB bG (ae (af 1) ah))) (eB ik (ae (cN 2 [] (qP (ae (af 0) (ae (af 1) ah))) (gT [gN 0,gN 1]) fG (aK (hW n) (ae (af 0) (ae (af 1) ah)))) ah))))) cB) (aO (fe (e2 bZ (eB bw (ae (af 0) (ae (eC (.ty "bool")) ah))) (eB bw (ae (af 1) (ae (eC (.ty "bool")) ah)))) (e2 bZ (af 0) (af 1)))))
def iM:List D->aa->Res D:=aS 2 2 (aB (bT (fX (fQ (eD (eB bw (ae (af 1) (ae (eC (.ty "tuple")) ah))))) (bx (e2 dh (eB bG (ae (af 1) ah)) (eB bG (ae (af 0) ah))))) (aO (eC (.bl false))) cB) (aO (fe (eB ik (ae (cN 1 [] (fx (af 1)) (gN 0) fG (aK iK (ae (af 0) (ae (eC (.int (2))) ah)))) ah)) (fe (e2 bZ (e2 aZ (af 1) (eC (.int 0))) (eC (.int 0))) (eB ik (ae (cN 1 [0,1] (fH (ae (eB bG (ae (af 0) ah)) ah)) (gN 0) fG (aK pV (ae (af 1) (ae (cY (af 2) cX (cV (af 0))) (ae (e2 aZ (af 2) (af 0)) ah))))) ah))))))
def sW:List D->aa->Res D:=aS 2 2 (aB (jy (aK lT (ae (af 0) ah))) (aO (aK iM (ae (af 0) (ae (af 1) ah)))))
def CF:List D->aa->Res D:=aS 1 2 (aB (bp (cA (ae (e1 (cC bc (isNm "NoMarks")) (af 0)) (ae (e1 (cC bc (isNm "NoSheet")) (af 0)) (ae (e1 (cC bc (isNm "NoPage")) (af 0)) ah)))) (gN 1)) (aB (bp (e2 aT (af 1) (cA (ae (e1 (cC bc (isNm "NoBook")) (af 0)) (ae (e1 (cC bc (isNm "NoMould")) (af 0)) (ae (e1 (cC bc (isNm "NoDay")) (af 0)) ah))))) (gN 1)) (aB (bp (e2 aT (af 1) (cA (ae (e1 (cC bc (isNm "NoSort")) (af 0)) (ae (e1 (cC bc (isNm "NoNumber")) (af 0)) (ae (e1 (cC bc (isNm "NoSheets")) (af 0)) ah))))) (gN 1)) (aB (bp (e2 aT (af 1) (cA (ae (e1 (cC bc (isNm "NoRun")) (af 0)) (ae (e1 (cC bc (isNm "NoLaying")) (af 0)) (ae (e1 (cC bc (isNm "NoHeap")) (af 0)) ah))))) (gN 1)) (aB (bp (e2 aT (af 1) (cA (ae (e1 (cC bc (isNm "NoCount")) (af 0)) (ae (e1 (cC bc (isNm "Clash")) (af 0)) (ae (e1 (cC bc (isNm "NoDeed")) (af 0)) ah))))) (gN 1)) (aB (bp (e2 aT (af 1) (cA (ae (e1 (cC bc (isNm "NoText")) (af 0)) (ae (e1 (cC bc (isNm "NoRow")) (af 0)) ah)))) (gN 1)) (aO (e2 aT (af 1) (cA (ae (e1 (cC bc (isNm "TooMany")) (af 0)) (ae (e1 (cC bc (isNm "Lacking")) (af 0)) ah)))))))))))
def jo:List D->aa->Res D:=aS 2 2 (aB (jy (aK lT (ae (af 0) ah))) (aB (bT (fQ (eD (aK iM (ae (af 0) (ae (af 1) ah))))) (D3 "NoLaying" (ae (eC (.str "a laying tells of each sheet of the run the mould, 0 or 1, by which it can be")) ah)) cB) (aO (aK pR (ae (af 1) ah)))))
def iL (cl:D) (th:aa->Res D):List D->aa->Res D:=aS 1 5 (aB (bp (eC .aq) (gN 1)) (aB (jK bc (nD cl th 0) 2 (bp (af 2) (gN 1))) (aB (bp (aK CF (ae (af 1) ah)) (gN 3)) (aB (bT (fX (fQ (eD (e1 (cC bc anyS) (af 1)))) (bx (e2 dh (e1 zy (af 3)) (eC (.int 1))))) (aO (eC (.str "none"))) cB) (aB (bp (eC (.lst [.str "marks",.str "sheet",.str "page",.str "book",.str "mould",.str "day",.str "sort",.str "number",.str "sheets",.str "run",.str "laying",.str "heap"])) (gN 4)) (aO (e2 aZ (e2 aT (af 4) (eC (.lst [.str "count",.str "clash",.str "deed",.str "text",.str "row",.str "many",.str "lacking"]))) (e1 AV (af 3)))))))))
def yf:Wh Fl:=(jy (oT (af 6) (aK qf (ae (af 2) (ae (sj (fX (bx (e2 qK (af 5) (eC .aq))) (bx (e2 bZ (aK de (ae (af 2) (ae (eC (.int 2)) ah))) (eC (.int 0))))) (af 4) (af 5)) ah)))))
def yg:Wh Fl:=(aB (oV 9 10 (ae (eB qM (ae (bC (ae (af 3) (ae (af 8) ah))) ah)) (ae (aK qg (ae (af 3) (ae (af 8) ah))) ah))) (aB (bT (fQ (eD (aK (hW 8) (ae (aK sW (ae (af 3) (ae (af 8) ah))) (ae (af 10) ah))))) (aO (eC (.bl false))) cB) (aB (bT (eD (af 10)) (aB (bp (cN 1 [8] (lM (ae (eC (.int 1)) (ae (eB bG (ae (af 3) ah)) ah))) (gN 0) (bx (e2 bZ (e2 aZ (af 1) (af 0)) (e2 aZ (af 1) (e2 iX (af 0) (eC (.int 1)))))) (af 0)) (gN 11)) (bT (fQ (eD (aK (hW 8) (ae (aK jo (ae (af 3) (ae (af 8) ah))) (ae (af 11) ah))))) (aO (eC (.bl false))) cB)) (bT (bx (e2 dh (rm "law" [3,8] (nZ jo (ae (af 0) (ae (af 1) ah))) iL) (eC (.str "laying")))) (aO (eC (.bl false))) cB)) (bT (bx (e2 dh (eB qM (ae (bC (ae (af 3) (ae (af 8) ah))) ah)) (af 9))) (aO (eC (.bl false))) cB))))
def yh:Wh Fl:=(aB (bp (aK tF (ae (af 0) (ae (af 1) ah))) (gN 2)) (aB (bp (aK tG (ae (af 2) ah)) (gT [(gN 3),(gN 4)])) (aB (bT (bx (e2 bZ (aK de (ae (af 2) (ae (eC (.int 3)) ah))) (eC (.int 0)))) (bp (eB fm (ae (cN 1 [2] (fH (ae (eB bG (ae (af 3) ah)) ah)) (gN 0) fG (aK lW (ae (af 1) (ae (eC (.int 3)) ah)))) ah)) (gN 3)) cB) (aB (oV 5 6 (ae (aK sP (ae (af 3) ah)) (ae (eNew (ae (af 4) (ae (aK uF (ae (af 2) ah)) ah))) ah))) (aB (i6 (fH (ae (eC (.int 8)) ah)) (gN 7) yf) (i6 (fx (e2 aT (af 6) (cA (ae (af 5) ah)))) (gN 8) yg))))))
def u5:List D->aa->Res D:=aS 1 12 (aB (i6 (fH (ae (eB mv (ae (eC (.int 1)) (ae (eB qL (ae (eB bG (ae (af 0) ah)) (ae (eC (.int 5)) ah))) ah))) ah)) (gN 1) yh) (aO (eC (.bl true))))
end
end DI.cQ
namespace DI
open PySem L2
def Wp {α:Type} (r:Res α) (Q:α->aa->Prop):Prop:=∃a s,r=some (.ok a,s)/\Q a s
section
variable {α β:Type} {r:Res α} {k:α->aa->Res β} {Q Q':α->aa->Prop} {R:β->aa->Prop} {env:Env} {s:aa}
theorem Wp.ok {a:α} (h:Q a s):Wp (DI.ok a s) Q:=⟨a,s,rfl,h⟩
def Wp.mono (h:Wp r Q) (i:∀a s,Q a s->Q' a s):Wp r Q':=by
 obtain ⟨a,s,e,q⟩:=h;exact ⟨a,s,e,i a s q⟩
theorem Wp.aj (h:Wp r fun a s=>Wp (k a s) R):Wp (DI.aj r k) R:=by
 obtain ⟨a,s,e,b,Z,Y,q⟩:=h;exact ⟨b,Z,by rw [e];exact Y,q⟩
theorem Wp.ne (h:Wp r Q):Wp (DI.ne r) Q:=by
 obtain ⟨a,s,e,q⟩:=h;exact ⟨a,s,by rw [e];rfl,q⟩
def Wi (e:r=some (.ok a,s)) (h:Q a s):Wp r Q:=⟨a,s,e,h⟩
def Wp.seq {f g:Wh Fl} {Q:Fl->aa->Prop} (h:Wp (f env s) fun fl s=>match fl with
  | .nx env=>Wp (g env s) Q
  |fl=>Q fl s):Wp (aB f g env s) Q:=by
 obtain ⟨fl,Z,e,h⟩:=h;unfold aB;rw [e]
 cases fl with
 |nx env=>exact h
 |rt d=>exact ⟨_,_,rfl,h⟩
 |bk e=>exact ⟨_,_,rfl,h⟩
 |ct e=>exact ⟨_,_,rfl,h⟩
def Wp.mP {Q:Fl->aa->Prop} (I:Nat->Env->aa->Prop) (all:List D) (h0:I 0 env s)
 (step:∀i d env s,all[i]?=some d->I i env s->∃env',g d env=some env'/\Wp (b env' s) fun fl s=>match fl with
   | .nx e=>I (i+1) e s
   | .ct e=>I (i+1) e s
   | .bk e=>Q (.nx e) s
   | .rt d=>Q (.rt d) s) (fin:∀env s,I all.length env s->Q (.nx env) s):Wp (jz g b all env s) Q:=by
 have key:∀(Z:List D) (i:Nat) (env:Env) (s:aa),all.drop i=Z->i<=all.length->I i env s->Wp (jz g b Z env s) Q:=by
  intro Z
  induction Z with
  |nil =>
   intro i env s Y hi h;have e:i=all.length:=by
    have:=ı List.length Y;simp at this;omega
   subst e;exact Wp.ok (fin _ _ h)
  |cons d Z ih =>
   intro i env s Y hi h;have X:all[i]?=some d:=by
    have:=ı (fun l=>l[0]?) Y;simpa using this
   have W:all.drop (i+1)=Z:=by
    have:=ı (List.drop 1) Y;simpa [List.drop_drop] using this
   obtain ⟨env',U,T⟩:=step i d env s X h;have V:=(È.mp X).1;unfold jz;rw [U];refine Wp.aj (T.mono fun fl s q=>?_)
   cases fl with
   |nx e=>exact ih (i+1) e s W V q
   |ct e=>exact ih (i+1) e s W V q
   |bk e=>exact Wp.ok q
   |rt d=>exact Wp.ok q
 exact key all 0 env s rfl (Ě _) h0
def xH {nt:Nat} {t:Wh Bool} {Q:List D->aa->Prop} (I:Nat->List D->aa->Prop) (all:List D) (h0:I 0 [] s)
 (step:∀i d acc s,all[i]?=some d->I i acc s->∃env,g d (Î nt none++caps)=some env/\Wp (t env s) fun b s=>if b=true then Wp (f env s) fun x s=>I (i+1) (acc++[x]) s else I (i+1) acc s)
 (fin:∀acc s,I all.length acc s->Q acc s):Wp (dq nt caps g t f all s) Q:=by
 have key:∀(Z:List D) (i:Nat) (acc:List D) (s:aa),all.drop i=Z->i<=all.length->I i acc s->Wp (dq nt caps g t f Z s) fun X s=>Q (acc++X) s:=by
  intro Z
  induction Z with
  |nil =>
   intro i acc s Y hi h;have e:i=all.length:=by
    have:=ı List.length Y;simp at this;omega
   subst e;exact Wp.ok (by rw [Ń];exact fin _ _ h)
  |cons d Z ih =>
   intro i acc s Y hi h;have W:all[i]?=some d:=by
    have:=ı (fun l=>l[0]?) Y;simpa using this
   have V:all.drop (i+1)=Z:=by
    have:=ı (List.drop 1) Y;simpa [List.drop_drop] using this
   obtain ⟨U,S,R⟩:=step i d acc s W h;have T:=(È.mp W).1;unfold dq;rw [S];refine Wp.aj (Wp.ne (R.mono fun b s q=>?_))
   cases b with
   |true =>
    rw [ê rfl] at q |-;refine Wp.aj (Wp.ne (q.mono fun x s q=>?_));refine Wp.aj ((ih (i+1) (acc++[x]) s V T q).mono fun X s q=>Wp.ok ?_);rw [Ź] at q;exact q
   |false =>
    rw [ú Ñ] at q |-;exact ih (i+1) acc s V T q
 have:=key all 0 [] s rfl (Ě _) h0;simpa using this
end
section
variable {α β:Type} {Q:D->aa->Prop} {QL:List D->aa->Prop} {QB:Bool->aa->Prop} {QF:Fl->aa->Prop} {QO:Option Int->aa->Prop} {env:Env} {s:aa} {f g h:Wh D} {fa:Wh (List D)} {c c':Wh Bool} {st dD:Wh Fl} {o o':D->D->aa->Res D} {u:D->aa->Res D} {bf:List D->aa->Res D}
def aY {a:α} {Q:α->aa->Prop}:Wp (ok a s) Q=Q a s:=propext ⟨fun ⟨b,Z,e,q⟩=>by cases e;exact q,fun q=>⟨a,s,rfl,q⟩⟩
def uG {Q:α->aa->Prop}:Wp (some (Except.ok a,s)) Q=Q a s:=aY
def bz {r:Res α} {k:α->aa->Res β} {R:β->aa->Prop}:Wp (aj r k) R=Wp r fun a s=>Wp (k a s) R:=propext ⟨fun ⟨b,Z,e,q⟩=>by
 obtain ⟨a,s,e1,e2⟩:=nF e;exact ⟨a,s,e1,b,Z,e2,q⟩,fun h=>Wp.aj h⟩
def ox {Q:α->aa->Prop}:Wp (ne r) Q=Wp r Q:=propext ⟨fun ⟨b,Z,e,q⟩=>⟨b,Z,xE e,q⟩,fun h=>h.ne⟩
def dI {a:D} {r:Env}:Wp (af 0 (some a::r) s) Q=Q a s:=by rw [show af 0 (some a::r) s=ok a s from rfl,aY]
def eh {i:Nat} {a:Option D} {r:Env}:Wp (af (i+1) (a::r) s) Q=Wp (af i r s) Q:=by rw [show af (i+1) (a::r) s=af i r s from rfl]
def fU:Wp (eC d env s) Q=Q d s:=by rw [show eC d env s=ok d s from rfl,aY]
def u6:Wp (e1 u f env s) Q=Wp (f env s) fun x s=>Wp (u x s) Q:=by unfold e1;rw [bz]
def fc:Wp (e2 o f g env s) Q=Wp (f env s) fun x s=>Wp (g env s) fun y s=>Wp (o x y s) Q:=by unfold e2;simp only [bz]
def ek:Wp (ah env s) QL=QL [] s:=by unfold ah;rw [aY]
def c9:Wp (ae f fa env s) QL=Wp (f env s) fun x s=>Wp (fa env s) fun xs s=>QL (x::xs) s:=by unfold ae;simp only [bz,aY]
def qU:Wp (eB bf fa env s) Q=Wp (fa env s) fun ds s=>Wp (bf ds s) Q:=by unfold eB;rw [bz]
def wp_call:Wp (aK fn fa env s) Q=Wp (fa env s) fun ds s=>Wp (fn ds s) Q:=by unfold aK;simp only [bz,ox]
def qb {Q:α->aa->Prop}:Wp (fu ds r) Q=(ds.length<=Ø/\Wp r Q):=propext ⟨fun ⟨b,Z,e,q⟩=>by
 unfold fu at e;split at e
 ·exact ⟨by assumption,b,Z,e,q⟩
 ·(cases e),fun ⟨Y,b,Z,e,q⟩=>⟨b,Z,by unfold fu;rw [ê Y];exact e,q⟩⟩
def qt:Wp (bC fa env s) Q=Wp (fa env s) fun ds s=>ds.length<=Ø/\Q (.tup ds) s:=by unfold bC;simp only [bz,qb,aY]
def n5:Wp (cA fa env s) Q=Wp (fa env s) fun ds s=>ds.length<=Ø/\Q (.lst ds) s:=by unfold cA;simp only [bz,qb,aY]
def qu:Wp (eNew fa env s) Q=Wp (fa env s) fun ds s=>ds.length<=Ø/\Q (.ay s.length) (s++[.lst ds]):=by unfold eNew;simp only [bz,qb,aY]
def uH:Wp (Fo f env s) Q=Wp (f env s) fun d s=>Wp (aN d s) Q:=by unfold Fo;rw [bz]
def j7:Wp (bx f env s) QB=Wp (f env s) fun d s=>Wp (dS d s) QB:=by unfold bx;rw [bz]
def jr {b:Bool}:Wp (dS (.bl b) s) QB=QB b s:=by rw [show dS (.bl b) s=ok b s from rfl,aY]
def qv:Wp (eD f env s) QB=Wp (f env s) fun d s=>Wp (truth d s) QB:=by unfold eD;rw [bz]
def lY {b:Bool}:Wp (truth (.bl b) s) QB=QB b s:=by rw [show truth (.bl b) s=ok b s from rfl,aY]
def tW:Wp (oE c c' env s) QB=Wp (c env s) fun b s=>if b=true then Wp (c' env s) QB else QB false s:=by
 unfold oE;rw [bz];congr 1;funext b s
 cases b<;>simp [aY]
def qw:Wp (fX c c' env s) QB=Wp (c env s) fun b s=>if b=true then QB true s else Wp (c' env s) QB:=by
 unfold fX;rw [bz];congr 1;funext b s
 cases b<;>simp [aY]
def tX:Wp (fQ c env s) QB=Wp (c env s) fun b s=>QB (!b) s:=by unfold fQ;simp only [bz,aY]
def tY:Wp (fe f g env s) Q=Wp (f env s) fun x s=>Wp (dS x s) fun b s=>if b=true then Wp (g env s) Q else Q (.bl false) s:=by
 unfold fe;rw [bz];congr 1;funext x s;rw [bz];congr 1;funext b s
 cases b<;>simp [aY]
def uJ:Wp (Gh f g env s) Q=Wp (f env s) fun x s=>Wp (dS x s) fun b s=>if b=true then Q (.bl true) s else Wp (g env s) Q:=by
 unfold Gh;rw [bz];congr 1;funext x s;rw [bz];congr 1;funext b s
 cases b<;>simp [aY]
def tZ:Wp (vj f env s) Q=Wp (f env s) fun x s=>Wp (dS x s) fun b s=>Q (.bl (!b)) s:=by unfold vj;simp only [bz,aY]
def qx:Wp (sj c f g env s) Q=Wp (c env s) fun b s=>if b=true then Wp (f env s) Q else Wp (g env s) Q:=by
 unfold sj;rw [bz];congr 1;funext b s
 cases b<;>simp
def uK:Wp (sk o o' f g h env s) Q=Wp (f env s) fun x s=>Wp (g env s) fun y s=>Wp (o x y s) fun z s=>Wp (dS z s) fun b s=>if b=true then Wp (h env s) fun u s=>Wp (o' y u s) Q else Q (.bl false) s:=by
 unfold sk;simp only [bz];congr 1;funext x s;congr 1;funext y s;congr 1;funext z s;congr 1;funext b s
 cases b<;>simp [aY,bz]
def lZ:Wp (cB env s) QF=QF (.nx env) s:=by unfold cB;rw [aY]
def jZ:Wp (aO f env s) QF=Wp (f env s) fun d s=>QF (.rt d) s:=by unfold aO;simp only [bz,aY]
def qc:Wp (jy f env s) QF=Wp (f env s) fun _ s=>QF (.nx env) s:=by unfold jy;simp only [bz,aY]
def tH:Wp (Et env s) QF=QF (.ct env) s:=by unfold Et;rw [aY]
def pP (st:Wh Fl) (Q:Fl->aa->Prop):Fl->aa->Prop:=fun fl s=>match fl with
 | .nx env=>Wp (st env s) Q
 |fl=>Q fl s
def nP:Wp (aB st dD env s) QF=Wp (st env s) (pP dD QF):=propext ⟨fun h=>by
 unfold aB at h;rw [bz] at h;refine h.mono fun Z s q=>?_
 cases Z with
 |nx e=>exact q
 |rt d=>have q:Wp (ok (Fl.rt d) s) QF:=q;rw [aY] at q;exact q
 |bk d=>have q:Wp (ok (Fl.bk d) s) QF:=q;rw [aY] at q;exact q
 |ct d=>have q:Wp (ok (Fl.ct d) s) QF:=q;rw [aY] at q;exact q,fun h=>Wp.seq (h.mono fun Z s q=>by cases Z<;>exact q)⟩
def Wk (h:∀R,R=dD->Wp (st env s) (pP R QF)):Wp (aB st dD env s) QF:=by rw [nP];exact h _ rfl
def ER {env':Env} {s':aa} (h:st env s=ok (.nx env') s') (k:Wp (dD env' s') QF):Wp (aB st dD env s) QF:=by
 rw [nP,h,aY];exact k
def iS:pP st QF (.nx env) s=Wp (st env s) QF:=rfl
def me:pP st QF (.rt d) s=QF (.rt d) s:=rfl
def uL:pP st QF (.ct env) s=QF (.ct env) s:=rfl
def j8:Wp (bT c st dD env s) QF=Wp (c env s) fun b s=>if b=true then Wp (st env s) QF else Wp (dD env s) QF:=by
 unfold bT;rw [bz];congr 1;funext b s
 cases b<;>simp
def j3 {gd:D->Env->Option Env}:Wp (bp f gd env s) QF=Wp (f env s) fun d s=>∃e,gd d env=some e/\QF (.nx e) s:=by
 unfold bp;rw [bz];congr 1;funext d s
 cases h:gd d env with
 |none=>exact propext ⟨fun ⟨_,_,e,_⟩=>(by cases e),fun ⟨_,e,_⟩=>(by cases e)⟩
 |some e=>rw [aY];exact propext ⟨fun q=>⟨e,rfl,q⟩,fun ⟨Z,z,q⟩=>by cases z;exact q⟩
def mz {i:Nat} {P:Env->Prop}:(∃e,gN i d env=some e/\P e)=P (env.set i (some d)):=propext ⟨fun ⟨e,z,q⟩=>by cases z;exact q,fun q=>⟨_,rfl,q⟩⟩
def u7 {P:Env->Prop}:(∃e,gT gs (.tup ds) env=some e/\P e)=∃e,ff gs ds env=some e/\P e:=rfl
def t5 {P:Env->Prop}:(∃e,ff [] [] env=some e/\P e)=P env:=propext ⟨fun ⟨e,z,q⟩=>by cases z;exact q,fun q=>⟨_,rfl,q⟩⟩
def tI {i:Nat} {P:Env->Prop}:(∃e,ff (gN i::gs) (d::ds) env=some e/\P e)=∃e,ff gs ds (env.set i (some d))=some e/\P e:=rfl
def qh {i j:Nat}:Wp (oV i j fa env s) QF=Wp (fa env s) fun ds s=>∃x y,ds=[x,y]/\QF (.nx ((env.set i (some x)).set j (some y))) s:=by
 unfold oV;rw [bz];congr 1;funext ds s
 match ds with
 | [x,y] =>
  show Wp (ok (Fl.nx ((env.set i (some x)).set j (some y))) s) QF=_;rw [aY];exact propext ⟨fun q=>⟨x,y,rfl,q⟩,fun ⟨Z,Y,e,q⟩=>by cases e;exact q⟩
 | []=>exact propext ⟨fun ⟨_,_,e,_⟩=>(by cases e),fun ⟨_,_,e,_⟩=>(by cases e)⟩
 | [_]=>exact propext ⟨fun ⟨_,_,e,_⟩=>(by cases e),fun ⟨_,_,e,_⟩=>(by cases e)⟩
 |_::_::_::_=>exact propext ⟨fun ⟨_,_,e,_⟩=>(by cases e),fun ⟨_,_,e,_⟩=>(by cases e)⟩
def uM {P:D->D->Prop}:(∃x' y',[x,y]=[x',y']/\P x' y')=P x y:=propext ⟨fun ⟨_,_,e,q⟩=>by cases e;exact q,fun q=>⟨x,y,rfl,q⟩⟩
def j4:Wp (i6 it gd st env s) QF=Wp (it env s) fun ds s=>Wp (jz gd st ds env s) QF:=by unfold i6;rw [bz]
def t6 {fo fi:Wh D}:Wp (lC f fo fi env s) QF=Wp (f env s) fun x s=>Wp (fo env s) fun d s=>Wp (fi env s) fun n s=>∃s',il d n x s=some s'/\QF (.nx env) s':=by
 unfold lC;simp only [bz];congr 1;funext x s;congr 1;funext d s;congr 1;funext n s
 cases h:il d n x s with
 |none=>exact propext ⟨fun ⟨_,_,e,_⟩=>(by cases e),fun ⟨_,e,_⟩=>(by cases e)⟩
 |some e=>simp only [aY];exact propext ⟨fun q=>⟨e,rfl,q⟩,fun ⟨Z,z,q⟩=>by cases z;exact q⟩
def qy:Wp (oT f g env s) Q=Wp (f env s) fun d s=>lB d s=true/\Wp (g env s) fun x s=>Wp (mK d x s) Q:=by
 unfold oT;rw [bz];congr 1;funext d s
 cases h:lB d s with
 |true=>rw [ê rfl,bz];simp
 |false=>rw [ú Ñ];exact propext ⟨fun ⟨_,_,e,_⟩=>(by cases e),fun ⟨e,_⟩=>(by cases e)⟩
def zz (Q:D->aa->Prop):Fl->aa->Prop:=fun Z s=>match Z with
 | .rt d=>Q d s
 | .nx _=>Q .aq s
 |_=>False
def jD:Wp (aS np ns st ds s) Q=(ds.length=np/\Wp (st (ds.map some++Î (ns-np) none) s) (zz Q)):=by
 unfold aS;by_cases h:ds.length=np
 ·rw [ê h,bz]
  refine propext ⟨fun q=>⟨h,q.mono fun Z s q=>?_⟩,fun ⟨_,q⟩=>q.mono fun Z s q=>?_⟩
  ·cases Z with
   |rt d=>exact (show Wp (ok d s) Q from q) |> fun z=>by rw [aY] at z;exact z
   |nx e=>exact (show Wp (ok D.aq s) Q from q) |> fun z=>by rw [aY] at z;exact z
   |bk e=>obtain ⟨_,_,e,_⟩:=q;cases e
   |ct e=>obtain ⟨_,_,e,_⟩:=q;cases e
  ·cases Z with
   |rt d=>exact Wp.ok q
   |nx e=>exact Wp.ok q
   |bk e=>exact q.elim
   |ct e=>exact q.elim
 ·rw [ú h]
  exact propext ⟨fun ⟨_,_,e,_⟩=>(by cases e),fun ⟨e,_⟩=>absurd e h⟩
def j9:zz Q (.rt d) s=Q d s:=rfl
def uN:zz Q (.nx env) s=Q .aq s:=rfl
def qi:Wp (cN nt cap it gd c f env s) Q=Wp (it env s) fun ds s=>ds.length<=Ø/\Wp (dq nt (gC cap env) gd c f ds s) fun xs s=>Q (.lst xs) s:=by
 unfold cN;simp only [bz,qb,aY]
def oy:Wp (cY f l' h' env s) Q=Wp (f env s) fun d s=>Wp (l' env s) fun lo s=>Wp (h' env s) fun hi s=>Wp (l8 d lo hi s) Q:=by unfold cY;simp only [bz]
def n6:Wp (cX env s) QO=QO none s:=by unfold cX;rw [aY]
def xI {i:Int} (hi:f env s=ok (.int i) s):Wp (cV f env s) QO=QO (some i) s:=by unfold cV;rw [hi,dj,aY]
end
open DI.cQ
def MG {cl:D} {th:aa->Res D} {r:Env} {s:aa}:nD cl th 0 (some cl::r) s=th s:=ê rfl
def Ll {cl:D} {th:aa->Res D} {r:Env} {s:aa} {cs:List Str} {j:Nat} {b:Wh Fl}:jK cs (nD cl th 0) j b (some cl::r) s=jK cs (fun _=>th) j b (some cl::r) s:=by
 unfold jK;rw [MG]
def Ov {f g f':Wh Fl} {env:Env} {s:aa} (h:f env s=f' env s):aB f g env s=aB f' g env s:=by unfold aB;rw [h]
def Ow {d:D} {i:Nat} {g:Wh Fl} {env:Env} {s:aa} {env':Env} (h:gN i d env=some env'):aB (bp (eC d) (gN i)) g env s=g env' s:=by
 unfold aB bp eC;simp [aj,h]
def ES (b rest:Wh Fl) (cl:D) (r:Res D) (s:aa):Res D:=aj (aB (jK bc (fun _ _=>r) 2 b) rest [some cl,some .aq,none,none,none] s) fun Z s=>match Z with
 | .rt d=>ok d s
 | .nx _=>ok .aq s
 |_=>none
def nQ {cl:D} {th:aa->Res D} {s:aa} {b rest:Wh Fl}:aS 1 5 (aB (bp (eC .aq) (gN 1)) (aB (jK bc (nD cl th 0) 2 b) rest)) [cl] s=ES b rest cl (th s) s:=by
 show aj (aB (bp (eC .aq) (gN 1)) (aB (jK bc (nD cl th 0) 2 b) rest) [some cl,none,none,none,none] s) _=_;rw [Ow (env':=[some cl,some .aq,none,none,none]) rfl,Ov Ll];rfl
def D7 {cl d:D} {th:aa->Res D} {s s':aa} (h:th s=some (.ok d,s')):iL cl th [cl] s=ok (.str "none") s':=by
 unfold iL;rw [nQ,h]
 kernel_rfl
def xJ {cl:D} {th:aa->Res D} {s s':aa} (h:th s=some (.error ⟨"NoLaying",none⟩,s')):iL cl th [cl] s=ok (.str "laying") s':=by
 unfold iL;rw [nQ,h]
 kernel_rfl
def HD (cl:D) (th:aa->Res D) (s:aa):iL cl th [cl] s=iL .aq th [.aq] s:=by
 cases h:th s with
 |none=>unfold iL;rw [nQ,nQ,h];rfl
 |some q =>
  obtain ⟨q,Y⟩:=q
  cases q with
  |ok d=>rw [D7 h,D7 h]
  |error x =>
   obtain ⟨c,m⟩:=x;by_cases Z:(decide (c∈bc)&&m.isNone)=true
   ·rw [Ë,Ú] at Z
    have e1:c="NoLaying":=by simpa [bc] using Z.1
    have e2:m=none:=θ.mp Z.2;subst e1 e2;rw [xJ h,xJ h]
   ·unfold iL
    rw [nQ,nQ,h];unfold ES aB jK;dsimp only;rw [ú Z,ú Z]
end DI
namespace DI.cQ
open PySem L2 DI
noncomputable def top (i:Nat):Wc:=PySem.Challenge.pw_twinmoulds_k10_layings_looked_at.main.body.getD i (.Pass ⟨0,0,0,0⟩)
noncomputable abbrev rq:List Str:=[Wo,"_law_k"]
noncomputable abbrev FK:List Str:=[Wn,"_law_many"]
noncomputable abbrev FL:List Str:=[Wn,"_law_most"]
noncomputable abbrev vC:List Str:=[Wn]
noncomputable abbrev o7:List Str:=["laying"]
noncomputable abbrev zA:List Str:=["things"]
noncomputable abbrev iq:List Str:=["thing"]
noncomputable abbrev zB:List Str:=["thing","many"]
noncomputable abbrev zC:List Str:=["thing","most"]
noncomputable abbrev zD:List Str:=["marks","others"]
noncomputable abbrev ET:List Str:=["run","laid","mould"]
noncomputable abbrev qV:List Str:=["run"]
noncomputable abbrev EU:List Str:=[Wn,Wu]
noncomputable abbrev EV:List Str:=[Wr,Ws]
noncomputable abbrev PZ:List Str:=[Wq,Wt]
noncomputable abbrev oz:List Str:=["run","thing"]
noncomputable abbrev EW:List Str:=[Wx]
noncomputable abbrev yL:List Str:=["run","laying"]
noncomputable abbrev EX:List Str:=["_law_call"]
noncomputable abbrev EY:List Str:=[Wo]
structure cj (K:Ĉ) (mg:Str->Option Ä):Prop where
 Hr:mg "ValueError"=none
 kU:mg "all"=none
 t9:mg "bool"=none
 HE:mg "enumerate"=none
 D8:mg "int"=none
 bF:mg "isinstance"=none
 dJ:mg "len"=none
 qj:mg "list"=none
 D9:mg "max"=none
 Ea:mg "min"=none
 gk:mg "range"=none
 Di:mg "repr"=none
 Ox:mg "set"=none
 JZ:mg "sorted"=none
 gm:mg "tuple"=none
 Eb:mg "zip"=none
 IW:c8 K mg bc "NoMarks"
 IY:c8 K mg bc "NoSheet"
 J0:c8 K mg bc "NoPage"
 J1:c8 K mg bc "NoBook"
 IZ:c8 K mg bc "NoMould"
 Lm:c8 K mg bc "NoDay"
 J2:c8 K mg bc "NoSort"
 Ih:c8 K mg bc "NoNumber"
 Ii:c8 K mg bc "NoSheets"
 Ln:c8 K mg bc "NoRun"
 Ij:c8 K mg bc "NoLaying"
 J3:c8 K mg bc "NoHeap"
 Ja:c8 K mg bc "NoCount"
 Lo:c8 K mg bc "Clash"
 J4:c8 K mg bc "NoDeed"
 J5:c8 K mg bc "NoText"
 Lp:c8 K mg bc "NoRow"
 Jb:c8 K mg bc "TooMany"
 Jc:c8 K mg bc "Lacking"
 Hs:nO K bc (.type "ValueError") anyS
 Ik:zt K mg "NoLaying"
 Ht:G2 K mg bc "MouldError"
 xl:∃t,mg "MARKS"=some (.int (8) t)
 yi:∃t,mg "RUN"=some (.int (10) t)
 tJ:∃t,mg "TWINS"=some (.int (2) t)
 Il:GG K mg "_law_cell_at" (top 44) rq
 J6:GG K mg "_law_state" (top 45) rq
 gp:GG K mg "_law_take" (top 46) FK
 wU:GG K mg "_law_marks" (top 51) FL
 J8:GG K mg "_law_grown" (top 53) vC
 Bz:GG K mg "breaks_in" (top 41) o7
 HF:GG K mg "by_breaks" (top 42) o7
 HG:GG K mg "is_rising" (top 26) zA
 HH:GG K mg "is_number" (top 23) iq
 BF:GG K mg "is_below" (top 24) zB
 Jd:GG K mg "is_mark" (top 25) iq
 HI:GG K mg "are_marks" (top 28) iq
 Ha:GG K mg "are_laid_marks" (top 30) zC
 wC:GG K mg "need_run" (top 37) iq
 Je:GG K mg "has_all" (top 29) zD
 BP:GG K mg "may_lay" (top 39) ET
 Jf:GG K mg "layings" (top 40) qV
 Hi:GG K mg "best_laying" (top 36) qV
 MH:GG K mg "_law_odd" (top 50) vC
 Lq:GG K mg "_law_bent" (top 54) EU
 Lr:GG K mg "_law_good" (top 55) EV
 Ls:GG K mg "_law_same" (top 49) PZ
 BQ:GG K mg "is_laid" (top 38) oz
 HJ:GG K mg "is_laying" (top 34) oz
 J9:GG K mg "_law_kinds" (top 47) EW
 BA:GG K mg "breaks_of" (top 35) yL
 Im:GG K mg "_law_refused" (top 48) EX
section
variable {P:á} {w:Ą} {K:Ĉ} {mg:Str->Option Ä} {base:Į}
def Io (F:cj K mg):cE P w K mg base "_law_cell_at" (top 44) rq 1 pU:=fun {_ _} G =>
 cG G rq (by kernel_rfl) fun Y _ _ _ _ _ _ Z=>(aL (dA (cy (vB Z) (ag 1) (bj dP rfl F.dJ dR (aF (ag 0))) (bP _)) (aM (bt (b9 (ag 0) (ag 1)))) dO) (aM (bt ax)))
def Ka (F:cj K mg):cE P w K mg base "_law_state" (top 45) rq 2 tF:=fun {_ _} G =>
 cG G [Wo,"_law_k","_law_cell"] (by kernel_rfl) fun Z _ _ _ _ _ _ Y=>(aL (cF 2 Z (bq F.Il (Io F) Y (aG (ag 0) (ag 1)))) (aM (bt (qF (aG (bj (DM rfl) rfl F.D9 EF (aG ax (aX oo (ag 2) (aX yC ax ax)))) (aX oq (ag 2) ax))))))
def gr (F:cj K mg):cE P w K mg base "_law_take" (top 46) FK 1 de:=fun {_ _} G =>
 cG G [Wn,"_law_many",Wq,"_law_stirred"] (by kernel_rfl) fun Z _ _ _ _ _ _ Y=>(aL (dA (cy Fv (b9 (ag 0) ax) ax (bP _)) (aL (cF 2 Z (aX oq (b9 (ag 0) ax) (ag 1))) (aL (yE (aX Ey (b9 (ag 0) ax) (ag 1)) (ag 0) ax) (aM (bt (ag 2))))) dO) (aL (yE (aX oq (aX cu (aX qJ (b9 (ag 0) ax) ax) ax) ax) (ag 0) ax) (aL (cF 3 Z (aX oq (aX cu (aX cu (aX qJ (b9 (ag 0) ax) (b9 (ag 0) ax)) (aX qJ ax (b9 (ag 0) ax))) ax) ax)) (aL (cF 3 Z (aX oq (aX cu (aX qJ (ag 3) (ag 3)) (aX qJ ax (ag 3))) ax)) (aM (bt (aX oq (aX Ey (ag 3) ax) (ag 1))))))))
def wV (F:cj K mg):cE P w K mg base "_law_marks" (top 51) FL 2 lW:=fun {_ _} G =>
 cG G [Wn,"_law_most","_law_way"] (by kernel_rfl) fun Y _ _ _ _ _ _ Z=>(aL (cF 2 Y (aX cu ax (bq F.gp (gr F) Z (aG (ag 0) ax)))) (aM (bt (kM nL rfl F.gm gy (aF (jJ [Wv,Wn,"_law_way"] (ju rfl F.gk (aF (ag 1))) (fun _ _ _ _ _ _=>⟨(mr (cy (fR Z) (bq F.gp (gr F) Z (aG (ag 1) (aX cu (ag 2) ax))) ax (bP _))),(ag 0)⟩)))))))
def Kb (F:cj K mg):cE P w K mg base "_law_grown" (top 53) vC 3 tG:=fun {_ _} G=>by
 have X:([Wv,Wn,"_law_often"]:List Str).Nodup:=by decide +kernel
 exact cG G [Wn,"_law_moulds",Wr,Wu,"_law_now","_law_often","_law_turn","_law_more"] (by kernel_rfl) fun Z _ _ _ _ _ _ Y=>(aL (Eu (bU (cR (qF (aG (bq F.wU (wV F) Y (aG (ag 0) ax)) (bq F.wU (wV F) Y (aG (ag 0) ax)))) (cR (qF dM) (cR (qF dM) (cR ax dM))))) (yA rfl (kN (fL 1 Z) (kN (fL 2 Z) (kN (fL 3 Z) (kN (fL 4 Z) xW)))))) (aL (cF 5 Z (aX cu ax (bq F.gp (gr F) Y (aG (ag 0) ax)))) (aL (mq Ŝ rfl (ju rfl F.gk (aF (aX cu ax (bq F.gp (gr F) Y (aG (ag 0) ax))))) (fL 6 Z) (aL (xG 7 (N:=[Wv,Wn,"_law_often"]) (nt:=1) (cap:=[0,5]) Z rfl (ow (by kernel_rfl)) (nK 0) (ju rfl F.gk (aF ax)) (fun cl C s H ex W=>⟨(iO (i:=0) X rfl (Vi rfl)),(mr (cy (fR Y) (bq F.gp (gr F) Y (aG (ag 1) (aX cu (ag 2) ax))) ax (bP _))),(ag 0)⟩)) (aL (yE (kM nL rfl F.gm gy (aF (IT (aX cu (kM DN rfl F.qj qp (aF (b9 (ag 1) (ag 4)))) (ag 7)) rfl rfl F.JZ La rfl F.Ox Pt))) (ag 1) (ag 4)) (aL (nX (yD (ag 2) (b9 (ag 1) (ag 4)))) (aL (nX (yD (ag 3) (ag 4))) (aM (cF 4 Z (Fp (cy Fv (bq F.gp (gr F) Y (aG (ag 0) (ag 5))) ax (bP _)) (aX oo ax (ag 4)) (ag 4))))))))) (aM (bt (bU (aG (kM nL rfl F.gm gy (aF (ag 2))) (kM nL rfl F.gm gy (aF (ag 3))))))))))
def BB (F:cj K mg):cE P w K mg base "breaks_in" (top 41) o7 1 pR:=fun {_ _} G =>
 cG G o7 (by kernel_rfl) fun Y _ _ _ _ _ _ Z=>(aM (bt (jJ ["at","laying"] (xX rfl F.gk (aG ax (bj dP rfl F.dJ dR (aF (ag 0))))) (fun _ _ _ _ _ _=>⟨(mr (cy (fR Z) (b9 (ag 1) (ag 0)) (b9 (ag 1) (aX oo (ag 0) ax)) (bP _))),(ag 0)⟩))))
def HK (F:cj K mg):cE P w K mg base "by_breaks" (top 42) o7 2 kL:=fun {_ _} G =>
 cG G o7 (by kernel_rfl) fun Y _ _ _ _ _ _ Z=>(aM (bt (bU (aG (bj dP rfl F.dJ dR (aF (bq F.Bz (BB F) Z (aF (ag 0))))) (ag 0)))))
def HL (F:cj K mg):cE P w K mg base "is_rising" (top 26) zA 1 sU:=fun {_ _} G=>by
 have Z:(["ahead","behind"]:List Str).Nodup:=by decide +kernel
 exact cG G zA (by kernel_rfl) fun X _ _ _ _ _ _ Y=>(aM (bt (bj (lb rfl) rfl F.kU lg (aF (xF (N:=["ahead","behind"]) (nt:=2) (cap:=[]) rfl (ow (by kernel_rfl)) (DL (tD 0 (tD 1 C9))) (Pp rfl F.Eb (aG (ag 0) (mJ (ag 0) (mx ax) mI))) (fun cl C s H ex W=>⟨(xS rfl (pX (iO (i:=0) Z rfl (Vi rfl)) (pX (iO (i:=1) Z rfl (Vi rfl)) xq))),jB,(kX (vB Y) (ag 0) (ag 1) (bP _))⟩))))))
def HM (F:cj K mg):cE P w K mg base "is_number" (top 23) iq 1 pT:=fun {_ _} G =>
 cG G iq (by kernel_rfl) fun Z _ _ _ _ _ _ Y=>(aM (bt (iW (bj fO rfl F.bF ef (aG (ag 0) (fT EE rfl F.D8))) (iW (Po (bj fO rfl F.bF ef (aG (ag 0) (fT uy rfl F.t9)))) (mm (kX QW (ag 0) ax (bP _)))))))
def BG (F:cj K mg):cE P w K mg base "is_below" (top 24) zB 2 iK:=fun {_ _} G =>
 cG G zB (by kernel_rfl) fun Y _ _ _ _ _ _ Z=>(aM (bt (iW (bq F.HH (HM F) Z (aF (ag 0))) (mm (kX (vB Z) (ag 0) (ag 1) (bP _))))))
def Jg (F:cj K mg):cE P w K mg base "is_mark" (top 25) iq 3 sZ:=fun {_ _} G =>
 cG G iq (by kernel_rfl) fun Y _ _ _ _ _ _ Z=>(aM (bt (bq F.BF (BG F) Z (aG (ag 0) (vw F.xl rfl)))))
def HN (F:cj K mg):cE P w K mg base "are_marks" (top 28) iq 4 sV:=fun {_ _} G =>
 cG G iq (by kernel_rfl) fun Y _ _ _ _ _ _ Z=>(aM (bt (iW (bj fO rfl F.bF ef (aG (ag 0) (fT gy rfl F.gm))) (iW (bj (lb rfl) rfl F.kU lg (aF (jJ ["mark"] (kZ (ag 0)) (fun _ _ _ _ _ _=>⟨jB,(bq F.Jd (Jg F) Z (aF (ag 0)))⟩)))) (mm (bq F.HG (HL F) Z (aF (ag 0))))))))
def Hb (F:cj K mg):cE P w K mg base "are_laid_marks" (top 30) zC 5 sN:=fun {_ _} G =>
 cG G zC (by kernel_rfl) fun Y _ _ _ _ _ _ Z=>(aM (bt (iW (bj fO rfl F.bF ef (aG (ag 0) (fT gy rfl F.gm))) (iW (Mn Fu Fu ax (bj dP rfl F.dJ dR (aF (ag 0))) (ag 1)) (mm (bj (lb rfl) rfl F.kU lg (aF (jJ ["marks"] (kZ (ag 0)) (fun _ _ _ _ _ _=>⟨jB,(bq F.HI (HN F) Z (aF (ag 0)))⟩)))))))))
def wD (F:cj K mg):cE P w K mg base "need_run" (top 37) iq 6 lT:=fun {_ _} G =>
 cG G iq (by kernel_rfl) fun Y _ _ _ _ _ _ Z=>(aM (dA (kY (hZ (bq F.Ha (Hb F) Z (aG (ag 0) (vw F.yi rfl))))) KZ dO))
def Jh (F:cj K mg):cE P w K mg base "has_all" (top 29) zD 1 tj:=fun {_ _} G =>
 cG G zD (by kernel_rfl) fun Y _ _ _ _ _ _ Z=>(aM (bt (bj (lb rfl) rfl F.kU lg (aF (jJ ["mark","marks"] (kZ (ag 1)) (fun _ _ _ _ _ _=>⟨jB,(kX (QY Z) (ag 0) (ag 1) rfl)⟩))))))
def BR (F:cj K mg):cE P w K mg base "may_lay" (top 39) ET 2 pV:=fun {_ _} G =>
 cG G ["run","laid","mould","marks"] (by kernel_rfl) fun Y _ _ _ _ _ _ Z=>(aL (cF 3 Y (b9 (ag 0) (bj dP rfl F.dJ dR (aF (ag 1))))) (aM (bt (bj (lb rfl) rfl F.kU lg (aF (jJ ["at","marks","run","mould","laid"] (ju rfl F.gk (aF (bj dP rfl F.dJ dR (aF (ag 1))))) (fun _ _ _ _ _ _=>⟨(mr (cy (fR Z) (b9 (ag 4) (ag 0)) (ag 3) (bP _))),(bq F.Je (Jh F) Z (aG (ag 1) (b9 (ag 2) (ag 0))))⟩)))))))
def Ji (F:cj K mg):cE P w K mg base "layings" (top 40) qV 3 tm:=fun {_ _} G=>by
 have Y:(["laid","mould","run"]:List Str).Nodup:=by decide +kernel
 exact cG G ["run","told","at"] (by kernel_rfl) fun Z _ _ _ _ _ _ X=>(aL (cF 1 Z (er (aF (bU (aF ax))))) (aL (mq Ŝ rfl (xX rfl F.gk (aG ax (bj dP rfl F.dJ dR (aF (ag 0))))) (fL 2 Z) (aM (Mt 1 (N:=["laid","mould","run"]) (nt:=2) (cap:=[0]) Z rfl (Pe (by kernel_rfl)) (nK 0) (Dg 0) (nK 1) (Dg 1) (kZ (ag 1)) (fun cl C s H ex W=>⟨(iO (i:=0) Y rfl (Vi rfl)),jB,(ju rfl F.gk (aF (vw F.tJ rfl))),(iO (i:=1) Y rfl (Vi rfl)),(mr (hZ (bq F.BP (BR F) X (md (ag 2) (ag 0) (ag 1))))),(aX cu (ag 0) (bU (aF (ag 1))))⟩)))) (aM (bt (ag 1)))))
def Hj (F:cj K mg):cE P w K mg base "best_laying" (top 36) qV 8 sP:=fun {_ _} G=>by
 obtain ⟨_,_,Z⟩:=F.HF;exact cG G qV (by kernel_rfl) fun X _ _ _ _ _ _ Y=>(aL (nX (bq F.wC (wD F) Y (aF (ag 0)))) (aM (bt (Mx (HK F Z) (Y.mono (by decide)) Z.mg Z.b (bq F.Jf (Ji F) Y (aF (ag 0))) rfl rfl F.Ea rfl))))
def MI (F:cj K mg):cE P w K mg base "_law_odd" (top 50) vC 2 uF:=fun {_ _} G =>
 cG G [Wn,"_law_some"] (by kernel_rfl) fun Z _ _ _ _ _ _ Y=>(aL (cF 1 Z (by refine' MA ?_ ?_ ?_ ?_ ?_ ?_ ?_ ?_ ?_ ?_ ?_ ?_ ?_ ?_ ?_ ?_ ?_ ?_;exact qE;exact eG;exact eG;exact (vm uZ ax);exact ax;exact ax;exact ax;exact jx;exact jx;exact jx;exact (bU dM);exact (er dM);exact N7;exact (bU (aF ax));exact (er (aF ax));exact (aX yC ax ax);exact (vm uZ (aX yC ax ax));exact (bU (aF ax)))) (aL (cF 1 Z (aX cu (ag 1) (by refine' Oa ?_ ?_ ?_ ?_ ?_ ?_ ?_ ?_;exact (bU (aF jx));exact (bU (aG ax ax));exact (bU (aG (bU (aF ax)) (bU (aF ax))));exact N8;exact (bU (aG (bU dM) (bU dM)));exact (bU (aG (bU (aF eG)) (bU dM)));exact (bU (aG (bU (aG ax ax)) (bU dM)));exact jx))) (aM (bt (b9 (ag 1) (bq F.gp (gr F) Y (aG (ag 0) ax)))))))
def Lu (F:cj K mg):cE P w K mg base "_law_bent" (top 54) EU 2 qf:=fun {_ _} G =>
 cG G [Wn,Wu,"_law_at","_law_way","_law_odd_here"] (by kernel_rfl) fun Y _ _ _ _ _ _ Z=>(aL (xZ 2 3 rfl Y (aG (bq F.gp (gr F) Z (aG (ag 0) (bj dP rfl F.dJ dR (aF (ag 1))))) (bq F.gp (gr F) Z (aG (ag 0) ax)))) (aL (cF 4 Y (b9 (er (cR (vm uZ ax) (cR ax (cR eG (cR qE (cR jx (cR eG dM))))))) (bq F.gp (gr F) Z (aG (ag 0) ax)))) (aL (dA (cy (fR Z) (ag 3) ax (bP _)) (aM (bt (b9 (er (cR (mJ (ag 1) (mx ax) mI) (cR (aX cu (ag 1) (bU (aF ax))) (cR (kM DN rfl F.qj qp (aF (ag 1))) (cR (aX cu (aX cu (mJ (ag 1) mI (mx (ag 2))) (bU (aF (ag 4)))) (mJ (ag 1) (mx (aX cu (ag 2) ax)) mI)) dM))))) (bq F.gp (gr F) Z (aG (ag 0) ax))))) dO) (aL (dA (cy (fR Z) (ag 3) ax (bP _)) (aM (bt (kM nL rfl F.gm gy (aF (jJ ["_law_one"] (kZ (ag 1)) (fun _ _ _ _ _ _=>⟨jB,(aX oo ax (ag 0))⟩)))))) dO) (aM (bt (aX cu (aX cu (mJ (ag 1) mI (mx (ag 2))) (bU (aF (aX oo ax (b9 (ag 1) (ag 2)))))) (mJ (ag 1) (mx (aX cu (ag 2) ax)) mI))))))))
def Lw (F:cj K mg):cE P w K mg base "_law_good" (top 55) EV 1 qg:=fun {_ _} G=>by
 have X:([Wv,Wr,Ww]:List Str).Nodup:=by decide +kernel
 exact cG G [Wr,Ws,Ww,"_law_one","_law_ahead","_law_gone"] (by kernel_rfl) fun Y _ _ _ _ _ _ Z=>(aL (dA (PW.pt (w_or (kY (hZ (bj fO rfl F.bF ef (aG (ag 1) (fT gy rfl F.gm))))) (oj (cy (kj Z) (bj dP rfl F.dJ dR (aF (ag 1))) (bj dP rfl F.dJ dR (aF (ag 0))) (bP _))))) (aM (bt eG)) dO) (aL (mq Ŝ rfl (NW rfl F.HE (aF (ag 1))) (yA rfl (kN (fL 2 Y) (kN (fL 3 Y) xW))) (aL (dA (PW.pt (w_or (kY (hZ (bj fO rfl F.bF ef (aG (ag 3) (fT EE rfl F.D8))))) (w_or (hZ (bj fO rfl F.bF ef (aG (ag 3) (fT uy rfl F.t9)))) (w_or (cy (De Z) (ag 3) (bU (aG ax ax)) rfl) (oj (cy (kj Z) (b9 (ag 1) ax) ax (bP _))))))) (aM (bt eG)) dO) (aM (mq Ŝ rfl (ju rfl F.gk (aF (ag 2))) (fL 4 Y) (aL (xG 5 (N:=[Wv,Wr,Ww]) (nt:=1) (cap:=[0,2]) Y rfl (ow (by kernel_rfl)) (nK 0) (kZ (b9 (ag 0) (ag 4))) (fun cl C s H ex W=>⟨(iO (i:=0) X rfl (Vi rfl)),(mr (cy (De Z) (ag 0) (b9 (ag 1) (ag 2)) rfl)),(ag 0)⟩)) (aM (dA (PW.pt (w_and (cy (fR Z) (b9 (ag 1) (ag 4)) (ag 3) (bP _)) (NU (cy (kj Z) (ag 5) (er dM) (bP _))))) (aM (bt eG)) dO))))))) (aM (bt eG))))
def CG:nJ [Wq,Wt] [Wq,Wt] (cm (top 49)):=⟨rfl,rfl,rfl,by decide +kernel,rfl,by decide +kernel,by decide +kernel⟩
theorem xm (F:cj K mg) {f:Ó} {fd:ė} (G:Gd K mg "_law_same" (top 49) [Wq,Wt] f fd):∀n,bN P w K mg base cH (1+n) f fd [Wq,Wt] (iD K (hW n))
 |0=>Pu fun _ _=>rfl
 |n+1=>by
  have Y:(["_law_one","_law_other"]:List Str).Nodup:=by decide +kernel
  have X:=CG.nd;have ih:=xm F G n;exact Ew G.fn CG fun W A outer s H E Z=>(aL (dA (hZ (Ms (ag 1) rfl F.bF ef (tL rfl F.gm gy rfl) (tL rfl F.qj qp rfl))) (aL (dA (PW.pt (w_or (cy (kj Z) (bj fO rfl F.bF ef (aG (ag 0) (fT gy rfl F.gm))) (bj fO rfl F.bF ef (aG (ag 1) (fT gy rfl F.gm))) (bP _)) (oj (cy (kj Z) (bj fO rfl F.bF ef (aG (ag 0) (fT qp rfl F.qj))) (bj fO rfl F.bF ef (aG (ag 1) (fT qp rfl F.qj))) (bP _))))) (aM (bt eG)) dO) (aM (bt (iW (kX (fR Z) (bj dP rfl F.dJ dR (aF (ag 0))) (bj dP rfl F.dJ dR (aF (ag 1))) (bP _)) (mm (bj (lb rfl) rfl F.kU lg (aF (xF (N:=["_law_one","_law_other"]) (nt:=2) (cap:=[]) rfl (ow (by kernel_rfl)) (DL (tD 0 (tD 1 C9))) (N9 rfl F.Eb (aG (ag 0) (ag 1))) (fun cl C s H ex V=>⟨(xS rfl (pX (iO (i:=0) Y rfl (Vi rfl)) (pX (iO (i:=1) Y rfl (Vi rfl)) xq))),jB,(uu ih Z rfl G.mg G.fn.kp G.b (aG (ag 0) (ag 1)))⟩))))))))) dO) (aM (bt (iW (kX (fR Z) (bj fO rfl F.bF ef (aG (ag 0) (fT uy rfl F.t9))) (bj fO rfl F.bF ef (aG (ag 1) (fT uy rfl F.t9))) (bP _)) (mm (kX (fR Z) (ag 0) (ag 1) (bP _)))))))
def BS (F:cj K mg):cE P w K mg base "is_laid" (top 38) oz 3 iM:=fun {_ _} G =>
 cG G oz (by kernel_rfl) fun Y _ _ _ _ _ _ Z=>(aL (dA (PW.pt (w_or (kY (hZ (bj fO rfl F.bF ef (aG (ag 1) (fT gy rfl F.gm))))) (oj (cy (kj Z) (bj dP rfl F.dJ dR (aF (ag 1))) (bj dP rfl F.dJ dR (aF (ag 0))) (bP _))))) (aM (bt eG)) dO) (aM (bt (iW (bj (lb rfl) rfl F.kU lg (aF (jJ ["mould"] (kZ (ag 1)) (fun _ _ _ _ _ _=>⟨jB,(bq F.BF (BG F) Z (aG (ag 0) (vw F.tJ rfl)))⟩)))) (iW (kX (fR Z) (b9 (ag 1) ax) ax (bP _)) (mm (bj (lb rfl) rfl F.kU lg (aF (jJ ["at","run","thing"] (ju rfl F.gk (aF (bj dP rfl F.dJ dR (aF (ag 0))))) (fun _ _ _ _ _ _=>⟨jB,(bq F.BP (BR F) Z (md (ag 1) (mJ (ag 2) mI (mx (ag 0))) (b9 (ag 2) (ag 0))))⟩))))))))))
def HP (F:cj K mg):cE P w K mg base "is_laying" (top 34) oz 7 sW:=fun {_ _} G =>
 cG G oz (by kernel_rfl) fun Y _ _ _ _ _ _ Z=>(aL (nX (bq F.wC (wD F) Z (aF (ag 0)))) (aM (bt (bq F.BQ (BS F) Z (aG (ag 0) (ag 1))))))
def Kc (F:cj K mg):cE P w K mg base "_law_kinds" (top 47) EW 1 CF:=fun {_ _} G =>
 cG G [Wx,Wq] (by kernel_rfl) fun Z _ _ _ _ _ _ Y=>(aL (cF 1 Z (er (md (dw F.IW (ag 0) F.bF) (dw F.IY (ag 0) F.bF) (dw F.J0 (ag 0) F.bF)))) (aL (cF 1 Z (aX cu (ag 1) (er (md (dw F.J1 (ag 0) F.bF) (dw F.IZ (ag 0) F.bF) (dw F.Lm (ag 0) F.bF))))) (aL (cF 1 Z (aX cu (ag 1) (er (md (dw F.J2 (ag 0) F.bF) (dw F.Ih (ag 0) F.bF) (dw F.Ii (ag 0) F.bF))))) (aL (cF 1 Z (aX cu (ag 1) (er (md (dw F.Ln (ag 0) F.bF) (dw F.Ij (ag 0) F.bF) (dw F.J3 (ag 0) F.bF))))) (aL (cF 1 Z (aX cu (ag 1) (er (md (dw F.Ja (ag 0) F.bF) (dw F.Lo (ag 0) F.bF) (dw F.J4 (ag 0) F.bF))))) (aL (cF 1 Z (aX cu (ag 1) (er (aG (dw F.J5 (ag 0) F.bF) (dw F.Lp (ag 0) F.bF))))) (aM (bt (aX cu (ag 1) (er (aG (dw F.Jb (ag 0) F.bF) (dw F.Jc (ag 0) F.bF))))))))))))
def BC (F:cj K mg):AZ P w K mg base "breaks_of" (top 35) yL 7 jo:=fun {_ _} G =>
 Og G yL (by kernel_rfl) fun Y _ _ _ _ _ _ Z L=>(aL (nX (bq F.wC (wD F) Z (aF (ag 0)))) (aL (dA (kY (hZ (bq F.BQ (BS F) Z (aG (ag 0) (ag 1))))) (aM (MB L F.Ik (aF jx))) dO) (aM (bt (bq F.Bz (BB F) Z (aF (ag 1)))))))
def Ip (F:cj K mg):GU P w K mg "_law_refused" (top 48) EX 9 8 iL:=fun {_ _ _ _ _ _} T {_ _} G =>
 PD G ["_law_call",Wx,"e",Wq,"_law_names"] (by kernel_rfl) fun Z _ _ _ _ _ _ X Y=>(aL (cF 1 Z qE) (aL (PM T X (Y.mono (by decide)) F.Ht (fun _=>(aM (cF 1 Z (ag 2)))) Z) (aL (cF 3 Z (bq F.J9 (Kc F) Y (aF (ag 1)))) (aL (dA (PW.pt (w_or (kY (hZ (Ou F.Hs (ag 1) F.bF F.Hr))) (oj (cy (kj Y) (Oq (ag 3)) ax (bP _))))) (aM (bt jx)) dO) (@aL _ _ _ _ _ _ (@cF _ _ _ _ _ 4 _ _ Z (@u4 _ _ 2 _ _ rfl) rfl (Vi rfl) rfl (Vi rfl)) (aM (bt (b9 (aX cu (ag 4) (@u4 _ _ 2 _ _ rfl)) (PN (ag 3))))))))))
def Oy (F:cj K mg) {c T:Ó} (ht:We K "law"=some (c,T)) (hC:PySem.W.codeHdIn K c T=true) (hB:base.BuiltinsAt mg T) {f:Ó} {fd:ė} (G:Gd K mg "law" (top 56) EY f fd) (hx:í K Ò "law"=some (some (.ref f))):bN P w K mg base cH 10 f fd EY (iD K u5):=by
 obtain ⟨_,_,X⟩:=F.Ls;have V:([Ww,Ws]:List Str).Nodup:=by decide +kernel
 exact PQ G hx ht [Wo,"_law_k",Wn,Wr,Wu,"_law_told","_law_things","_law_turn",Ws,"_law_kept","_law_good_here",Wt] (by kernel_rfl) fun Y _ _ _ _ _ Z=>(aL (mq Ŝ rfl (ju rfl F.gk (aF (bj (DM rfl) rfl F.D9 EF (aG ax (bj (N0 rfl) rfl F.Ea EG (aG (bj dP rfl F.dJ dR (aF (ag 0))) ax)))))) (fL 1 Y) (aL (cF 2 Y (bq F.J6 (Ka F) Z (aG (ag 0) (ag 1)))) (aL (Eu (bq F.J8 (Kb F) Z (aF (ag 2))) (yA rfl (kN (fL 3 Y) (kN (fL 4 Y) xW)))) (aL (dA (cy (fR Z) (bq F.gp (gr F) Z (aG (ag 2) ax)) ax (bP _)) (aM (cF 3 Y (kM nL rfl F.gm gy (aF (jJ ["_law_turn",Wn] (ju rfl F.gk (aF (bj dP rfl F.dJ dR (aF (ag 3))))) (fun _ _ _ _ _ _=>⟨jB,(bq F.wU (wV F) Z (aG (ag 1) ax))⟩)))))) dO) (aL (xZ 5 6 rfl Y (aG (bq F.Hi (Hj F) Z (aF (ag 3))) (qF (aG (ag 4) (bq F.MH (MI F) Z (aF (ag 2))))))) (aL (mq Ŝ rfl (ju rfl F.gk (aF ax)) (fL 7 Y) (aM (nX (yD (ag 6) (bq F.Lq (Lu F) Z (aG (ag 2) (Fp (PW.pt (w_or (cy Pq (ag 5) qE (bP _)) (oj (cy (fR Z) (bq F.gp (gr F) Z (aG (ag 2) ax)) ax (bP _))))) (ag 4) (ag 5)))))))) (aM (mq Ŝ rfl (kZ (aX cu (ag 6) (er (aF (ag 5))))) (fL 8 Y) (aL (xZ 9 10 rfl Y (aG (bj (DQ Z) rfl F.Di DT (aF (bU (aG (ag 3) (ag 8))))) (bq F.Lr (Lw F) Z (aG (ag 3) (ag 8))))) (aL (dA (kY (hZ (uu (xm F X 8) (Z.mono (by decide)) rfl X.mg X.fn.kp X.b (aG (bq F.HJ (HP F) Z (aG (ag 3) (ag 8))) (ag 10))))) (aM (bt eG)) dO) (aL (dA (hZ (ag 10)) (aL (xG 11 (N:=[Ww,Ws]) (nt:=1) (cap:=[8]) Y rfl (ow (by kernel_rfl)) (nK 0) (xX rfl F.gk (aG ax (bj dP rfl F.dJ dR (aF (ag 3))))) (fun cl C s H ex U=>⟨(iO (i:=0) V rfl (Vi rfl)),(mr (cy (fR Z) (b9 (ag 1) (ag 0)) (b9 (ag 1) (aX oo (ag 0) ax)) (bP _))),(ag 0)⟩)) (aM (dA (kY (hZ (uu (xm F X 8) (Z.mono (by decide)) rfl X.mg X.fn.kp X.b (aG (PU F.BA (BC F) Z (aG (ag 3) (ag 8))) (ag 11))))) (aM (bt eG)) dO))) (aM (dA (cy (kj Z) (PJ [Wr,Ws] rfl rfl ht hC hB F.Im (Ip F) HD Z (fun _ _ _ _ _ _ _ _ _ _ Z L=>(PR F.BA (BC F) (Ob L) Z (aG (ag 0) (ag 1))))) jx (bP _)) (aM (bt eG)) dO))) (aM (dA (cy (kj Z) (bj (DQ Z) rfl F.Di DT (aF (bU (aG (ag 3) (ag 8))))) (ag 9) (bP _)) (aM (bt eG)) dO))))))))))))) (aM (bt eG)))
end
end DI.cQ
namespace DI
open PySem L2
def bD (s:aa) (k:Nat):Prop:=∃a b:Int,s[k]?=some (.lst [.int a,.int b])/\0<=a/\0<=b/\b<2147483647
structure Ex (k:Nat) (s s':aa):Prop where
 len:s.length<=s'.length
 val:∀j,j<s.length->j≠k->s'[j]?=s[j]?
def Ex.refl (k:Nat) (s:aa):Ex k s s:=⟨Wl _,fun _ _ _=>rfl⟩
theorem Ex.trans (h:Ex k a b) (g:Ex k b c):Ex k a c:=⟨ã h.len g.len,fun j Z Y=>(g.val j (Æ Z h.len) Y).trans (h.val j Z Y)⟩
theorem Ex.set (k:Nat) (s:aa) (c:Cell):Ex k s (s.set k c):=⟨by simp,fun j _ Z=>Ü (Œ Z)⟩
def Ex.app (k:Nat) (s:aa) (c:List Cell):Ex k s (s++c):=⟨by simp,fun j Z _=>Û Z⟩
def bD.lt (h:bD s k):k<s.length:=by
 obtain ⟨a,b,e,_⟩:=h;exact (È.mp e).1
def bD.app (h:bD s k) (c:List Cell):bD (s++c) k:=by
 obtain ⟨a,b,e,r⟩:=h;exact ⟨a,b,by rw [Û (È.mp e).1];exact e,r⟩
theorem bD.set (h:bD s k) (hj:j≠k) (c:Cell):bD (s.set j c) k:=by
 obtain ⟨a,b,e,r⟩:=h;exact ⟨a,b,by rw [Ü hj];exact e,r⟩
def A1 (x y:D) (k:Nat) (s:aa) (h:s[k]?=some (.lst [x,y])):aZ (.ay k) (.int 0) s=ok x s:=by
 simp [aZ,ng,res,h,cW,eR,bI]
def A2 (x y:D) (k:Nat) (s:aa) (h:s[k]?=some (.lst [x,y])):aZ (.ay k) (.int 1) s=ok y s:=by
 simp [aZ,ng,res,h,cW,eR,bI]
def zE (x y z:D) (k:Nat) (s:aa) (h:s[k]?=some (.lst [x,y])):il (.ay k) (.int 0) z s=some (s.set k (.lst [z,y])):=by
 simp [il,h,eR]
def zF (x y z:D) (k:Nat) (s:aa) (h:s[k]?=some (.lst [x,y])):il (.ay k) (.int 1) z s=some (s.set k (.lst [x,z])):=by
 simp [il,h,eR]
@[simp] theorem n9 {a:D} {r:Env} {s:aa}:af 0 (some a::r) s=ok a s:=rfl
@[simp] theorem og {i:Nat} {a:Option D} {r:Env} {s:aa}:af (i+1) (a::r) s=af i r s:=rfl
def ltI (i j:Int) (s:aa):gK (.int i) (.int j) s=ok (.bl (decide (i<j))) s:=rfl
def A3 (i j:Int) (s:aa):rg (.int i) (.int j) s=ok (.bl (decide (j<i))) s:=rfl
def TN (i j:Int) (s:aa):vt (.int i) (.int j) s=ok (.bl (decide (j<=i))) s:=rfl
def TQ (i j:Int) (s:aa):rf (.int i) (.int j) s=ok (.bl (decide (i<=j))) s:=rfl
def zG (i j:Int) (s:aa):aT (.int i) (.int j) s=ok (.int (i+j)) s:=rfl
def FN (i j:Int) (s:aa):iX (.int i) (.int j) s=ok (.int (i-j)) s:=rfl
def G3 (i j:Int) (s:aa):bZ (.int i) (.int j) s=ok (.bl (i==j)) s:=rfl
def TR (i j:Int) (s:aa):dh (.int i) (.int j) s=ok (.bl (!(i==j))) s:=rfl
def o9 {i j:Int} (s:aa) (h:0<j):kh (.int i) (.int j) s=ok (.int (i % j)) s:=by
 simp [kh,zi,h,bI]
def FO (s:aa) (h:0<j) (h2:j<1073741824):qH (.int i) (.int j) s=ok (.int (i / j)) s:=by
 simp [qH,zj,h,h2,bI]
def rA (s:aa) (h:qG i j=true):gE (.int i) (.int j) s=ok (.int (i*j)) s:=by
 simp [gE,zh,h,bI]
def mulOk_of (h1:-(2 ^ 64)<i) (h2:i<2 ^ 64):qG i j=true:=by
 unfold qG;rw [ò h1,ò h2];rfl
def gB (h:bD s k) (h1:0<m) (h2:m<1073741824):Wp (de [.ay k,.int m] s) fun d s'=>∃r:Int,d=.int r/\0<=r/\r<m/\bD s' k/\Ex k s s':=by
 obtain ⟨a,b,e,Y,U,T⟩:=h;have X:=(È.mp e).1;by_cases W:0<a
 ·have Z:(s.set k (.lst [.int (a / m),.int b]))[k]?=some (.lst [.int (a / m),.int b]):=é X
  refine ⟨.int (a % m),s.set k (.lst [.int (a / m),.int b]),?_,a % m,rfl,Vn _ (by omega),Ű _ h1,⟨a / m,b,Z,Int.ediv_nonneg Y (by omega),U,T⟩,Ex.set _ _ _⟩;simp only [de,aS,aB,bT,bx,e2,n9,og,eC,dj,ç,ō,ļ,ĩ,A1 _ _ k s e,A3,dS,Ý,è,ò W,ă,bp,gN,o9 s h1,lC,FO s h1 h2,zE _ _ _ k s e,aO,Ĭ,ĭ,Î]
 ·have S:decide (0<a)=false:=Ę W
  have ex:0<=(b*48271+29) % 2147483647/\(b*48271+29) % 2147483647<2147483647:=⟨Vn _ (by decide),Ű _ (by decide)⟩;generalize R:(b*48271+29) % 2147483647=x at ex;have Z:(s.set k (.lst [.int a,.int x]))[k]?=some (.lst [.int a,.int x]):=é X;generalize V:(x*x+39373*x+7) % 2147483629=y;have K:0<=y/\y<2147483629:=by rw [<- V];exact ⟨Vn _ (by decide),Ű _ (by decide)⟩
  generalize Q:(y*y+16807*y) % 2147483587=z;refine ⟨.int (z / 8 % m),s.set k (.lst [.int a,.int x]),?_,_,rfl,Vn _ (by omega),Ű _ h1,⟨a,x,Z,Y,ex.1,ex.2⟩,Ex.set _ _ _⟩;have P:gE (.int b) (.int 48271) s=ok (.int (b*48271)) s:=rA s (mulOk_of (by omega) (by omega));have O:∀s',gE (.int x) (.int x) s'=ok (.int (x*x)) s':=fun s'=>rA s' (mulOk_of (by omega) (by omega));have N:∀s',gE (.int 39373) (.int x) s'=ok (.int (39373*x)) s':=fun s'=>rA s' (mulOk_of (by decide) (by decide));have M:∀s',gE (.int y) (.int y) s'=ok (.int (y*y)) s':=fun s'=>rA s' (mulOk_of (by omega) (by omega));have L:∀s',gE (.int 16807) (.int y) s'=ok (.int (16807*y)) s':=fun s'=>rA s' (mulOk_of (by decide) (by decide));simp only [de,aS,aB,bT,bx,e2,n9,og,eC,dj,ç,ō,ļ,ĩ,A1 _ _ k s e,A2 _ _ k s e,A3,dS,Ý,è,S,Ç,û,ă,cB,lC,P,zG,o9 _ (show (0:Int)<2147483647 by decide),R,zF _ _ _ k s e,bp,gN,A2 _ _ k _ Z,O,N,
   o9 _ (show (0:Int)<2147483629 by decide),V,Ĭ,ĭ,Î,M,L,o9 _ (show (0:Int)<2147483587 by decide),Q,aO,FO _ (show (0:Int)<8 by decide) (by decide),o9 _ h1]
def le_size (h:n<=1000000):n<=Ø:=ã h (by decide)
def tK (h1:-1000000<=j) (h2:j<=1000000):jC j=true:=by
 unfold jC;rw [ò (show -(2 ^ 62)<=j by omega),ò (show j<2 ^ 62 by omega)];rfl
def Lx {α:Type} {ds:List D} {r:Res α} (h:ds.length<=1000000):fu ds r=r:=ê (le_size h)
def Ec {α:Type} {xs:List α} {i:Int} (h0:0<=i) (h1:i<xs.length):∃x,cW xs i=some x/\xs[i.toNat]?=some x:=by
 have Z:i.toNat<xs.length:=by omega
 refine ⟨xs[i.toNat],?_,Ð Z⟩;unfold cW eR;rw [ê h0,ê h1];exact Ð Z
def MJ {ns:List Int} {i:Int} {s:aa} (h0:0<=i):∃c:Int,pU [.bu ns,.int i] s=ok (.int c) s:=by
 by_cases h:i<(ns.length:Int)
 ·obtain ⟨x,Z,_⟩:=Ec h0 h
  refine ⟨x,?_⟩;have Y:aZ (.bu ns) (.int i) s=ok (.int x) s:=by simp [aZ,ng,res,Z,bI]
  simp only [pU,aS,aB,bT,bx,e2,eB,ae,ah,bG,vv,res,bI,n9,og,eC,dj,ç,ō,ļ,ĩ,Ý,è,ă,ltI,dS,ò h,aO,Y,Î]
 ·refine ⟨0,?_⟩
  simp only [pU,aS,aB,bT,bx,e2,eB,ae,ah,bG,vv,res,bI,n9,og,eC,dj,ç,ō,ļ,ĩ,Ý,è,ă,ltI,dS,Ę h,Ç,û,cB,aO,Î]
def Ly {ns:List Int} {i:Int} {s:aa} (h0:0<=i):Wp (tF [.bu ns,.int i] s) fun d s'=>d=.ay s.length/\bD s' s.length/\∃c,s'=s++[c]:=by
 obtain ⟨c,Z⟩:=MJ (ns:=ns) (s:=s) h0;have Y:∀s,om (.int 10) (.int 18) s=ok (.int (10 ^ 18)) s:=fun s=>by
  have e:zk (.int 10) (.int 18)=some (.int (10 ^ 18)):=by
   show (if (decide ((0:Int)<=18)&&decide ((18:Int)<=1000000)&&decide ((10:Int).natAbs<2 ^ 64))=true then some (D.int (10 ^ (18:Int).toNat)) else none)=_
   rw [ê (by decide)];rfl
  simp only [om,e,bI]
 refine ⟨.ay s.length,s++[.lst [.int (if c-10 ^ 18 > 0 then c-10 ^ 18 else 0),.int (c % 2147483647)]],?_,rfl,⟨_,_,by simp;exact ⟨rfl,rfl⟩,?_,Vn _ (by decide),Ű _ (by decide)⟩,_,rfl⟩
 ·simp only [tF,aS,aB,bp,aK,ae,ah,n9,og,eC,dj,ç,ō,ļ,ĩ,Ý,è,ă,Z,jA,gN,Ĭ,ĭ,Î,aO,eNew,eB,mv,e2,Y,FN,o9 _ (show (0:Int)<2147483647 by decide)]
  rw [Lx (by simp)];rfl
 ·split<;>omega
structure ck (m:Nat) (ns:List Int):Prop where
 lo:∀x∈ns,0<=x/\x<m
 up:ns.Pairwise (· < ·)
noncomputable abbrev mD (ns:List Int):D:=.tup (ns.map D.int)
def ck.len (h:ck m ns):ns.length<=m:=by
 have key:∀(l:List Int) (b:Int),l.Pairwise (· < ·)->(∀x∈l,b<=x/\x<m)->(l.length:Int)<=m-b\/l=[]:=by
  intro l
  induction l with
  |nil=>intro b _ _;exact .inr rfl
  |cons x l ih =>
   intro b X Z;obtain ⟨W,V⟩:=Ğ.mp X;have U:=Z x Ô;left
   rcases ih (x+1) V (fun y Y=>⟨by have:=W y Y;omega,(Z y (Ï _ Y)).2⟩) with h|h
   ·rw [Ý];omega
   ·subst h
    simp;omega
 rcases key ns 0 h.up h.lo with h'|h'
 ·omega
 ·subst h';simp
def Kd {k n:Nat} {w:Int} (h1:bD s1 k) (w0:0<=w) (w1:w<4):Wp (dq 1 (gC [0,2] [some (.ay k),some (.int n),some (.int (1+w))]) (gN 0) (bx (e2 bZ (aK de (ae (af 1) (ae (e2 aT (af 2) (eC (.int 1))) ah))) (eC (.int 0)))) (af 0) (bV 0 n) s1)
   fun xs s'=>∃ns,xs=ns.map D.int/\ck n ns/\bD s' k/\Ex k s1 s':=by
 refine xH (fun i Z s'=>∃ns:List Int,Z=ns.map D.int/\ck i ns/\bD s' k/\Ex k s1 s') (bV 0 n) ⟨[],rfl,⟨by simp,.nil⟩,h1,Ex.refl _ _⟩ (fun i d Z s' X W=>?_) fun Z s' W=>?_
 ·obtain ⟨ns,rfl,Y,S,V⟩:=W
  rw [jY] at X;split at X
  ·cases X
   refine ⟨[some (.int (0+i)),some (.ay k),some (.int (1+w))],rfl,?_⟩;have R:=gB S (m:=1+w+1) (by omega) (by omega);obtain ⟨d,Q,P,r,rfl,M,L,U,T⟩:=R;have O:bx (e2 bZ (aK de (ae (af 1) (ae (e2 aT (af 2) (eC (.int 1))) ah))) (eC (.int 0))) [some (.int (0+(i:Int))),some (.ay k),some (.int (1+w))] s'=ok (r==0) Q:=by
    simp only [bx,e2,aK,ae,ah,n9,og,eC,dj,zG,P,jA,G3,dS]
   refine Wi O ?_;split
   ·refine Wp.ok ⟨ns++[0+(i:Int)],by simp,⟨fun x hx=>?_,?_⟩,U,V.trans T⟩
    ·rcases æ.mp hx with hx|hx
     ·have:=Y.lo x hx;omega
     ·rw [ð.mp hx];omega
    ·refine VO.mpr ⟨Y.up,by simp,fun x hx y N=>?_⟩
     rw [ð.mp N];have:=Y.lo x hx;omega
   ·exact ⟨ns,rfl,⟨fun x hx=>by have:=Y.lo x hx;omega,Y.up⟩,U,V.trans T⟩
  ·cases X
 ·rw [fk] at W
  exact W
def ka (h:fa env s=ok [.int n] s1) (hn:n<=1000000):fH fa env s=ok (bV 0 n) s1:=by
 unfold fH;rw [h,dj]
 show (if jC (n:Int)=true then ok (bV 0 (n:Int).toNat) s1 else none)=_
 rw [ê (tK (by omega) (by omega)),Ħ]
def Ed (h:fa env s=ok [.int i,.int j] s1) (h1:-1000000<=i) (h2:i<=1000000) (h3:-1000000<=j) (h4:j<=1000000):lM fa env s=ok (bV i (j-i).toNat) s1:=by
 unfold lM;rw [h,dj]
 show (if (jC i&&jC j)=true then ok (bV i (j-i).toNat) s1 else none)=_
 rw [ê (by rw [tK h1 h2,tK h3 h4];rfl)]
def uO:Wp (gK (.int i) (.int j) s) Q=Q (.bl (decide (i<j))) s:=by rw [ltI,aY]
def uP:Wp (rg (.int i) (.int j) s) Q=Q (.bl (decide (j<i))) s:=by rw [A3,aY]
def uQ:Wp (vt (.int i) (.int j) s) Q=Q (.bl (decide (j<=i))) s:=by rw [TN,aY]
def uR:Wp (rf (.int i) (.int j) s) Q=Q (.bl (decide (i<=j))) s:=by rw [TQ,aY]
def ua:Wp (aT (.int i) (.int j) s) Q=Q (.int (i+j)) s:=by rw [zG,aY]
def ue:Wp (iX (.int i) (.int j) s) Q=Q (.int (i-j)) s:=by rw [FN,aY]
def kW:Wp (bZ (.int i) (.int j) s) Q=Q (.bl (i==j)) s:=by rw [G3,aY]
def uT:Wp (dh (.int i) (.int j) s) Q=Q (.bl (!(i==j))) s:=by rw [TR,aY]
def xn {k n:Nat} (h:bD s k) (hn:n<=8):Wp (lW [.ay k,.int n] s) fun d s'=>∃ns,d=mD ns/\ck n ns/\bD s' k/\Ex k s s':=by
 unfold lW;simp only [aY,uG,ox,dI,eh,fU,u6,fc,ek,c9,qU,wp_call,qt,n5,qu,uH,j7,jr,qv,lY,tW,qw,tX,tY,uJ,tZ,qx,uK,lZ,jZ,qc,tH,nP,iS,me,uL,j8,j3,mz,u7,t5,tI,qh,uM,j4,t6,qy,jD,j9,uN,qi,oy,n6,ç,ō,ļ,ĩ,Ý,è,Ĭ,ĭ,Î,true_and,Nat.reduceSub,Nat.reduceAdd,uO,uP,uQ,uR,ua,ue,kW,uT];refine (gB h (by decide) (by decide)).mono fun d Q Z=>?_;obtain ⟨w,rfl,Y,X,W,V⟩:=Z;simp only [aY,uG,ox,dI,eh,fU,u6,fc,ek,c9,qU,wp_call,qt,n5,qu,uH,j7,jr,qv,lY,tW,qw,tX,tY,uJ,tZ,qx,uK,lZ,jZ,qc,tH,nP,iS,me,uL,j8,j3,mz,u7,t5,tI,qh,uM,j4,t6,qy,jD,j9,uN,qi,oy,n6,ç,ō,ļ,ĩ,Ý,è,Ĭ,ĭ,Î,true_and,Nat.reduceSub,Nat.reduceAdd,uO,uP,uQ,uR,ua,ue,kW,uT];refine Wi (ka rfl (by omega)) ⟨by rw [fk];exact le_size (by omega),(Kd W Y X).mono fun P O U=>?_⟩;obtain ⟨ns,rfl,T,S,R⟩:=U;exact Wi rfl ⟨ns,rfl,T,S,V.trans R⟩
end DI
local macro_rules | `(tactic| simp only [VC])=>`(tactic| simp only [DI.aY,DI.uG,DI.ox,DI.dI,DI.eh,DI.fU,DI.u6,DI.fc,DI.ek,DI.c9,DI.qU,DI.wp_call,DI.qt,DI.n5,DI.qu,DI.uH,DI.j7,DI.jr,DI.qv,DI.lY,DI.tW,DI.qw,DI.tX,DI.tY,DI.uJ,DI.tZ,DI.qx,DI.uK,DI.lZ,DI.jZ,DI.qc,DI.tH,DI.nP,DI.iS,DI.me,DI.uL,DI.j8,DI.j3,DI.mz,DI.u7,DI.t5,DI.tI,DI.qh,DI.uM,DI.j4,DI.t6,DI.qy,DI.jD,DI.j9,DI.uN,DI.qi,DI.oy,DI.n6,List.map_cons,List.map_nil,List.cons_append,List.nil_append,List.length_cons,List.length_nil,List.set_cons_succ,List.set_cons_zero,List.replicate,true_and,Nat.reduceSub,Nat.reduceAdd,DI.uO,DI.uP,DI.uQ,DI.uR,DI.ua,DI.ue,DI.kW,DI.uT])
local macro_rules | `(tactic| simp only [VC,$xs,*])=>`(tactic| simp only [DI.aY,DI.uG,DI.ox,DI.dI,DI.eh,DI.fU,DI.u6,DI.fc,DI.ek,DI.c9,DI.qU,DI.wp_call,DI.qt,DI.n5,DI.qu,DI.uH,DI.j7,DI.jr,DI.qv,DI.lY,DI.tW,DI.qw,DI.tX,DI.tY,DI.uJ,DI.tZ,DI.qx,DI.uK,DI.lZ,DI.jZ,DI.qc,DI.tH,DI.nP,DI.iS,DI.me,DI.uL,DI.j8,DI.j3,DI.mz,DI.u7,DI.t5,DI.tI,DI.qh,DI.uM,DI.j4,DI.t6,DI.qy,DI.jD,DI.j9,DI.uN,DI.qi,DI.oy,DI.n6,List.map_cons,List.map_nil,List.cons_append,List.nil_append,List.length_cons,List.length_nil,List.set_cons_succ,List.set_cons_zero,List.replicate,true_and,Nat.reduceSub,Nat.reduceAdd,DI.uO,DI.uP,DI.uQ,DI.uR,DI.ua,DI.ue,DI.kW,DI.uT,$xs,*])
namespace DI
open PySem L2
def Wj {α:Type} {r:Res α} {d:α} {s:aa} (h:Wp r fun a s'=>a=d/\s'=s):r=DI.ok d s:=by
 obtain ⟨a,s',e,rfl,rfl⟩:=h;exact e
def nH {f:Wh D} {env:Env} {s s1:aa} {ds:List D} (h:f env s=ok (.tup ds) s1):fx f env s=ok ds s1:=by
 unfold fx;rw [h];rfl
def CH (h:f env s=ok (.lst ds) s1):fx f env s=ok ds s1:=by
 unfold fx;rw [h];rfl
theorem pW:∀(ns:List Int),cU (ns.map D.int)=true
 | []=>rfl
 |n::ns=>by simp only [ç,cU,lay,pW ns,Ŀ]
theorem wW:∀(ns:List Int),gJ (ns.map D.int)=0
 | []=>rfl
 |n::ns=>by simp only [ç,gJ,dep,wW ns,Nat.max_self]
def Dj (x:Int) (ns:List Int):((ns.map D.int).any fun y=>beq y (.int x))=decide (x∈ns):=by
 induction ns with
 |nil=>simp
 |cons n ns ih =>
  simp only [ç,List.any_cons,ih,beq];by_cases h:n=x
  ·subst h;simp
  ·have Z:¬ x=n:=fun e=>h e.symm
   simp [h,Z]
def MK {x:Int} {ns:List Int} {s:aa}:oS (.int x) (mD ns) s=ok (.bl (decide (x∈ns))) s:=by
 have Z:ot 100 (.int x) (ns.map D.int)=true:=by simp only [ot,lay,pW,dep,Ŀ,Ě,decide_true]
 have e:inD (.int x) (ns.map D.int)=some (decide (x∈ns)):=by unfold inD;rw [ê Z,Dj]
 unfold oS;rw [show ou (mD ns) s=some (ns.map D.int) from rfl];simp only [e];rfl
def BU:nM (.int x) (mD ns) s=ok (.bl (!decide (x∈ns))) s:=by
 have Z:ot 100 (.int x) (ns.map D.int)=true:=by simp only [ot,lay,pW,dep,Ŀ,Ě,decide_true]
 have e:inD (.int x) (ns.map D.int)=some (decide (x∈ns)):=by unfold inD;rw [ê Z,Dj]
 unfold nM;rw [show ou (mD ns) s=some (ns.map D.int) from rfl];simp only [e];rfl
noncomputable def sub (a b:List Int):Bool:=a.all fun x=>decide (x∈b)
def ML:sub a b=true↔∀x∈a,x∈b:=by simp [sub]
def kP {α:Type} (p:α->Bool) (xs:List α) (s:aa):ik [.lst (xs.map fun x=>D.bl (p x))] s=ok (.bl (xs.all p)) s:=by
 have e:iE (xs.map fun x=>D.bl (p x))=some (xs.map p):=by
  have:=Mq (bs:=xs.map p);rw [V5] at this;exact this
 show bI ((iE (xs.map fun x=>D.bl (p x))).map fun (bs:List Bool)=>D.bl (bs.all id)) s=_;rw [e];show ok (D.bl ((xs.map p).all id)) s=_;rw [List.all_map];rfl
def filter_tt {α:Type} (xs:List α):xs.filter (fun _=>true)=xs:=by simp
def tw {nt:Nat} {caps:Env} {g:D->Env->Option Env} {t:Wh Bool} {f:Wh D} {s:aa} (p:Int->Bool) (h:Int->D) (ns:List Int) (hh:∀n∈ns,∃env,g (.int n) (Î nt none++caps)=some env/\t env s=ok (p n) s/\(p n=true->f env s=ok (h n) s)) :
  dq nt caps g t f (ns.map D.int) s=ok ((ns.filter p).map h) s:=by
 induction ns with
 |nil=>rfl
 |cons n ns ih =>
  obtain ⟨env,Y,X,W⟩:=hh n Ô;have ih:=ih fun V U=>hh V (Ï _ U);rw [ç];unfold dq;rw [Y];simp only [X,jA,dj]
  cases Z:p n with
  |true=>simp only [ă,W Z,jA,dj,ih,ŧ,Z,ç]
  |false=>simp only [Ç,û,ih,ŧ,Z]
def comp_map {α:Type} (d:α->D) (p:α->Bool) (h:α->D) (xs:List α) (hh:∀x∈xs,∃env,g (d x) (Î nt none++caps)=some env/\t env s=ok (p x) s/\(p x=true->f env s=ok (h x) s)) :
  dq nt caps g t f (xs.map d) s=ok ((xs.filter p).map h) s:=by
 induction xs with
 |nil=>rfl
 |cons n T ih =>
  obtain ⟨env,Y,X,W⟩:=hh n Ô;have ih:=ih fun V U=>hh V (Ï _ U);rw [ç];unfold dq;rw [Y];simp only [X,jA,dj]
  cases Z:p n with
  |true=>simp only [ă,W Z,jA,dj,ih,ŧ,Z,ç]
  |false=>simp only [Ç,û,ih,ŧ,Z]
def Jj {a b:List Int} {s:aa} (hb:b.length<=1000000):tj [mD a,mD b] s=ok (.bl (sub b a)) s:=by
 refine Wj ?_;unfold tj;simp only [VC];refine Wi (nH rfl) ⟨le_size (by rw [Í];exact hb),?_⟩;refine Wi (tw (fun _=>true) (fun x=>.bl (decide (x∈a))) b fun n _=>⟨[some (.int n),some (mD a)],rfl,rfl,fun _=>?_⟩) ?_
 ·show e2 oS (af 0) (af 1) _ _=_
  exact MK
 ·rw [filter_tt]
  exact Wi (kP _ _ _) ⟨rfl,rfl⟩
def Ke:pT [.int i] s=ok (.bl (decide (0<=i))) s:=by
 rfl
def pY:iK [.int i,.int m] s=ok (.bl (decide (0<=i)&&decide (i<m))) s:=by
 refine Wj ?_;unfold iK;simp only [VC,Ke];by_cases h:0<=i
 ·simp [h]
 ·simp [h]
def MM:sZ [.int i] s=ok (.bl (decide (0<=i)&&decide (i<8))) s:=by
 refine Wj ?_;unfold sZ;simp only [VC,pY,true_and]
def Lz (xs:List D):cutD xs (some 1) none=xs.drop 1:=by
 unfold cutD HT.aJ
 cases xs with
 |nil=>simp
 |cons x xs =>
  simp only [Ý]
  have e:(if (1:Int)<0 then (1+((xs.length+1:Nat):Int)).toNat else min (1:Int).toNat (xs.length+1))=1:=by simp
  simp
noncomputable def rise:List Int->Bool
 | []=>true
 | [_]=>true
 |a::b::r=>decide (a<b)&&rise (b::r)
def MN (h:ns.Pairwise (· < ·)):rise ns=true:=by
 induction ns with
 |nil=>rfl
 |cons a ns ih =>
  cases ns with
  |nil=>rfl
  |cons b r =>
   obtain ⟨Z,Y⟩:=Ğ.mp h;simp only [rise,ih Y,Bool.and_true];exact ò (Z b Ô)
theorem CI:∀(ns:List Int),((ns.zip (ns.drop 1)).all fun p=>decide (p.1<p.2))=rise ns
 | []=>rfl
 | [_]=>rfl
 |a::b::r=>by
  have ih:=CI (b::r);simp only [List.drop_succ_cons,List.drop_zero,ů,List.all_cons,rise] at ih |-;rw [ih]
def Cg (xs ys:List Int):fy (xs.map D.int) (ys.map D.int)=(xs.zip ys).map fun p=>D.tup [.int p.1,.int p.2]:=by
 unfold fy;rw [List.zip_map,V5];rfl
def LA (h:fa env s=ok [.tup xs,.tup ys] s1):oO fa env s=ok (fy xs ys) s1:=by
 unfold oO;rw [h];rfl
def Kf (hl:ns.length<=1000000):sU [mD ns] s=ok (.bl (rise ns)) s:=by
 refine Wj ?_;unfold sU;simp only [VC];have Z:oO (ae (af 0) (ae (cY (af 0) (cV (eC (.int 1))) cX) ah)) [some (mD ns)] s=ok (fy (ns.map D.int) ((ns.drop 1).map D.int)) s:=by
  refine LA (Wj ?_);simp only [VC];rw [xI (i:=1) rfl]
  try simp only [VC]
  refine Wi (show l8 (mD ns) (some 1) none s=ok (.tup (cutD (ns.map D.int) (some 1) none)) s from rfl) ⟨?_,rfl⟩;rw [Lz,List.map_drop]
 refine Wi Z ⟨le_size (by rw [xb];simp only [Í];omega),?_⟩;rw [Cg];refine Wi (comp_map (fun p:Int×Int=>D.tup [.int p.1,.int p.2]) (fun _=>true) (fun p=>.bl (decide (p.1<p.2))) _ fun p _=>⟨[some (.int p.1),some (.int p.2)],rfl,rfl,fun _=>rfl⟩) ?_;rw [filter_tt];exact Wi (kP _ _ _) ⟨by rw [CI],rfl⟩
def Jk (h:ck 8 ns):sV [mD ns] s=ok (.bl true) s:=by
 have Y:=h.len;refine Wj ?_;unfold sV;simp only [VC];refine Wi (show bw [mD ns,.ty "tuple"] s=ok (.bl true) s from rfl) ?_;simp only [VC,ă];refine Wi (nH rfl) ⟨le_size (by rw [Í];omega),?_⟩;refine Wi (tw (fun _=>true) (fun x=>.bl (decide (0<=x)&&decide (x<8))) ns fun n _=>⟨[some (.int n)],rfl,rfl,fun _=>?_⟩) ?_
 ·refine Wj ?_
  simp only [VC,MM,true_and]
 ·rw [filter_tt]
  refine Wi (kP _ _ _) ?_;have e:(ns.all fun x=>decide (0<=x)&&decide (x<8))=true:=by
   rw [õ];intro x Z;have:=h.lo x Z;simp only [Ë,Ú];omega
  rw [e];simp only [VC,ă];exact Wi (Kf (by omega)) ⟨by rw [MN h.up],rfl⟩
structure dU (rs:List (List Int)):Prop where
 lo:1<=rs.length
 hi:rs.length<=10
 jW:∀r∈rs,ck 8 r
abbrev rD (rs:List (List Int)):D:=.tup (rs.map mD)
def ug (h:dU rs):lT [rD rs] s=ok .aq s:=by
 have X:=h.lo;have W:=h.hi;have Z:sN [rD rs,.int 10] s=ok (.bl true) s:=by
  refine Wj ?_;unfold sN;simp only [VC];refine Wi (show bw [rD rs,.ty "tuple"] s=ok (.bl true) s from rfl) ?_;simp only [VC,ă];refine Wi (show bG [rD rs] s=ok (.int (rs.map mD).length) s from rfl) ?_;rw [Í];simp only [VC];rw [ò (show (1:Int)<=rs.length by omega),ò (show (rs.length:Int)<=10 by omega)];simp only [VC,ă];refine Wi (nH rfl) ⟨le_size (by rw [Í];omega),?_⟩;refine Wi (comp_map mD (fun _=>true) (fun _=>.bl true) rs fun r Y=>⟨[some (mD r)],rfl,rfl,fun _=>?_⟩) ?_
  ·refine Wj ?_
   simp only [VC,Jk (h.jW r Y),true_and]
  ·rw [filter_tt]
   exact Wi (kP (fun _=>true) _ _) ⟨by simp,rfl⟩
 refine Wj ?_;unfold lT;simp only [VC,Z,ď,Ç,û,true_and]
def uU {j:Nat} (h:xs[j]?=some d):aZ (.tup xs) (.int j) s=ok d s:=by
 unfold aZ ng;rw [show res (.tup xs) s=.tup xs from rfl];simp only [L4 h];rfl
def getD_some {α:Type} {xs:List α} {i:Nat} {d:α} (h:i<xs.length):xs[i]?=some (xs.getD i d):=by
 rw [List.getD_eq_getElem?_getD,Ð h];rfl
def pQ {ns:List Int} {i:Nat} {s:aa} (h:i<ns.length):aZ (mD ns) (.int i) s=ok (.int (ns.getD i 0)) s:=uU (by rw [à,getD_some (d:=0) h];rfl)
def wq {rs:List (List Int)} {i:Nat} {s:aa} (h:i<rs.length):aZ (rD rs) (.int i) s=ok (mD (rs.getD i [])) s:=uU (by rw [à,getD_some (d:=[]) h];rfl)
def vD:bG [mD ns] s=ok (.int ns.length) s:=by
 show ok (D.int (ns.map D.int).length) s=_;rw [Í]
def pb:bG [rD rs] s=ok (.int rs.length) s:=by
 show ok (D.int (rs.map mD).length) s=_;rw [Í]
def xK (lo:Int) (n:Nat):bV lo n=(Ĺ n).map fun i:Nat=>D.int (lo+i):=rfl
def iT (rs:List (List Int)) (laid:List Int) (m:Int):Bool:=((Ĺ laid.length).filter fun i=>laid.getD i 0==m).all fun i=>sub (rs.getD i []) (rs.getD laid.length [])
def Ee {rs:List (List Int)} {laid:List Int} {m:Int} {s:aa} (h:dU rs) (hl:laid.length<rs.length):pV [rD rs,mD laid,.int m] s=ok (.bl (iT rs laid m)) s:=by
 have hi:=h.hi;refine Wj ?_;unfold pV;simp only [VC,vD,wq hl];refine Wi (ka (s1:=s) (n:=laid.length) ?_ (by omega)) ⟨le_size (by rw [fk];omega),?_⟩
 ·refine Wj ?_
  simp only [VC,vD,ĵ]
 ·rw [xK]
  refine Wi (comp_map (fun i:Nat=>D.int (0+(i:Int))) (fun i=>laid.getD i 0==m) (fun i=>.bl (sub (rs.getD i []) (rs.getD laid.length []))) _ fun i Z=>⟨[some (.int (0+(i:Int))),some (mD (rs.getD laid.length [])),some (rD rs),some (.int m),some (mD laid)],rfl,?_,fun _=>?_⟩) ?_
  ·have Y:=Č.mp Z
   refine Wj ?_;simp only [VC,V6,pQ Y,ĵ]
  ·have Y:=Č.mp Z
   refine Wj ?_;have X:=(h.jW (rs.getD i []) (Ė (getD_some (d:=[]) (by omega)))).len;simp only [VC,V6,wq (show i<rs.length by omega),Jj (show (rs.getD i []).length<=1000000 by omega),ĵ]
  ·exact Wi (kP _ _ _) ⟨rfl,rfl⟩
def Ef {α:Type} (d:α->D) (p:α->Bool) (h:α->List D) (xs:List α) (hh:∀x∈xs,∃env,g (d x) lu=some env/\t env s=ok (p x) s/\(p x=true->act env s=ok (h x) s)) :
  ip g t act lu (xs.map d) s=ok ((xs.filter p).flatMap h) s:=by
 induction xs with
 |nil=>rfl
 |cons n T ih =>
  obtain ⟨env,Y,X,W⟩:=hh n Ô;have ih:=ih fun V U=>hh V (Ï _ U);rw [ç];unfold ip;rw [Y];simp only [X,jA,dj]
  cases Z:p n with
  |true=>simp only [ă,W Z,jA,dj,ih,ŧ,Z,List.flatMap_cons]
  |false=>simp only [Ç,û,ih,ŧ,Z]
def LB :
  Wp (uz nt cap it gd c act env s) Q=Wp (it env s) fun ds s=>Wp (ip gd c act (Î nt none++gC cap env) ds s) fun xs s=>xs.length<=Ø/\Q (.lst xs) s:=by
 unfold uz;simp only [bz,ox,qb,aY]
def step (rs:List (List Int)) (told:List (List Int)):List (List Int):=told.flatMap fun laid=>([0,1].filter fun m=>iT rs laid m).map fun m=>laid++[m]
def cz (rs:List (List Int)):Nat->List (List Int)
 |0=>[[0]]
 |k+1=>step rs (cz rs k)
def LC:(step rs told).length<=2*told.length:=by
 unfold step
 induction told with
 |nil=>simp
 |cons a r ih =>
  rw [List.flatMap_cons,ä,Ý,Í];have:=List.length_filter_le (fun m=>iT rs a m) [0,1];simp only [Ý,è] at this;omega
theorem Ci (rs:List (List Int)):∀k,(cz rs k).length<=2 ^ k
 |0=>by simp [cz]
 |k+1=>by
  have:=Ci rs k;have h:=LC (rs:=rs) (told:=cz rs k);rw [Nat.pow_succ];show (step rs (cz rs k)).length<=_;omega
theorem sX (rs:List (List Int)):∀k,∀l∈cz rs k,l.length=k+1
 |0,l,h=>by simp [cz] at h;subst h;rfl
 |k+1,l,h=>by
  simp only [cz,step,List.mem_flatMap,ķ] at h;obtain ⟨a,Z,m,_,rfl⟩:=h;rw [ä,sX rs k a Z];rfl
def pow10 (h:k<=10):2 ^ k<=1024:=by
 calc 2 ^ k<=2 ^ 10:=Nat.pow_le_pow_right (by decide) h
  _=1024:=by decide
def FP (h:a.length+b.length<=1000000):aT (mD a) (mD b) s=ok (mD (a++b)) s:=by
 have e:oQ (mD a) (mD b)=some (mD (a++b)):=by
  show (if i7 (a.map D.int) (b.map D.int)=true then some (D.tup (a.map D.int++b.map D.int)) else none)=_
  have Z:i7 (a.map D.int) (b.map D.int)=true:=by
   unfold i7;rw [Í,Í];exact ò (le_size h)
  rw [ê Z];show some (D.tup (a.map D.int++b.map D.int))=some (D.tup ((a++b).map D.int));rw [V3]
 show bI (oQ (mD a) (mD b)) s=_;rw [e];rfl
def Jl (h:dU rs):tm [rD rs] s=ok (.lst ((cz rs (rs.length-1)).map mD)) s:=by
 have T:=h.lo;have S:=h.hi;refine Wj ?_;unfold tm;simp only [VC];refine ⟨by decide,by decide,?_⟩;have V:lM (ae (eC (.int 1)) (ae (eB bG (ae (af 0) ah)) ah)) [some (rD rs),some (.lst [.tup [.int 0]]),none] s=ok (bV 1 (rs.length-1)) s:=by
  have:=Ed (fa:=ae (eC (.int 1)) (ae (eB bG (ae (af 0) ah)) ah)) (env:=[some (rD rs),some (.lst [.tup [.int 0]]),none]) (s:=s) (s1:=s) (i:=1) (j:=rs.length) (Wj (by simp only [VC,pb,ĵ])) (by omega) (by omega) (by omega) (by omega);have e:((rs.length:Int)-1).toNat=rs.length-1:=by omega
  rw [this,e]
 refine Wi V ?_;refine Wp.mP (fun i env X=>X=s/\∃x,env=[some (rD rs),some (.lst ((cz rs i).map mD)),x]) _ ⟨rfl,_,rfl⟩ (fun i d env X Y W=>?_) (fun env X W=>?_)
 ·obtain ⟨rfl,x,rfl⟩:=W
  rw [jY] at Y;split at Y
  ·rename_i hi
   cases Y;refine ⟨_,rfl,?_⟩;simp only [j3,mz];show Wp (uA 2 [0] _ _ _ _ _ _ _ _ _) _;unfold uA;rw [LB];refine Wi (CH rfl) ?_;refine Wi (Ef mD (fun _=>true) (fun laid=>(([0,1].filter fun m=>iT rs laid m).map fun m=>mD (laid++[m]))) _ fun laid U=>⟨[some (mD laid),none,some (rD rs)],rfl,rfl,fun _=>?_⟩) ?_
   ·have Z:=sX rs i laid U
    unfold more;rw [ka (n:=2) rfl (by decide),dj];rw [show bV 0 2=([0,1]:List Int).map D.int from rfl];rw [Ef D.int (fun m=>iT rs laid m) (fun m=>[mD (laid++[m])]) [0,1] fun m R=>⟨[some (mD laid),some (.int m),some (rD rs)],rfl,?_,fun _=>?_⟩]
    ·rw [<- List.map_eq_flatMap]
    ·refine Wj ?_
     simp only [VC,Ee h (show laid.length<rs.length by omega),ĵ]
    ·refine Wj ?_
     unfold emit;rw [bz];simp only [VC];refine ⟨by decide,?_⟩;refine Wi (show aT (mD laid) (.tup [.int m]) _=_ from FP (b:=[m]) (by rw [Z];simp;omega)) ?_;simp
   ·rw [filter_tt]
    have e:((cz rs i).flatMap fun laid=>([0,1].filter fun m=>iT rs laid m).map fun m=>mD (laid++[m]))=(cz rs (i+1)).map mD:=by
     show _=(step rs (cz rs i)).map mD;unfold step;simp only [List.map_flatMap,V5,Function.comp_def]
    rw [e];refine ⟨?_,rfl,_,rfl⟩;rw [Í];exact le_size (ã (Ci rs (i+1)) (ã (pow10 (by omega)) (by decide)))
  ·cases Y
 ·obtain ⟨rfl,x,rfl⟩:=W
  rw [fk];simp only [VC,ĵ]
noncomputable def brk (l:List Int):List Int:=((Ĺ (l.length-1)).filter fun i=>l.getD (i+1) 0==l.getD i 0).map fun i:Nat=>1+(i:Int)
def CJ {nt:Nat} (hl:l.length<=1000):dq 1 [some (mD l)] (gN 0) (bx (e2 bZ (e2 aZ (af 1) (af 0)) (e2 aZ (af 1) (e2 iX (af 0) (eC (.int 1)))))) (af 0) (bV 1 (l.length-1)) s=ok ((brk l).map D.int) s:=by
 rw [xK,comp_map (fun i:Nat=>D.int (1+(i:Int))) (fun i=>l.getD (i+1) 0==l.getD i 0) (fun i:Nat=>D.int (1+(i:Int))) _ fun i hi=>⟨[some (.int (1+(i:Int))),some (mD l)],rfl,?_,fun _=>rfl⟩]
 ·unfold brk
  rw [V5];rfl
 ·have hi:=Č.mp hi
  refine Wj ?_;simp only [VC];have e1:(1+(i:Int))=((i+1:Nat):Int):=by omega
  have e2:(1+(i:Int))-1=(i:Int):=by omega
  rw [e2,e1,pQ (show i+1<l.length by omega)];simp only [VC,pQ (show i<l.length by omega),ĵ]
def FQ (h:fa env s=ok [.int 1,.int rs] s) (hl:rs<=1000):lM fa env s=ok (bV 1 (rs-1)) s:=by
 have:=Ed h (by omega) (by omega) (by omega) (by omega);have e:((rs:Int)-1).toNat=rs-1:=by omega
 rw [this,e]
def Cj (hl:l.length<=1000):pR [mD l] s=ok (.lst ((brk l).map D.int)) s:=by
 refine Wj ?_;unfold pR;simp only [VC];refine Wi (FQ (rs:=l.length) (Wj (by simp only [VC,vD,ĵ])) hl) ⟨le_size (by rw [fk];omega),?_⟩;exact Wi (CJ (nt:=1) hl) ⟨rfl,rfl⟩
abbrev lr (l:List Int):D:=.tup [.int (brk l).length,mD l]
def EZ (hl:l.length<=1000):kL [mD l] s=ok (lr l) s:=by
 refine Wj ?_;unfold kL;simp only [VC,Cj hl];refine Wi (show bG [.lst ((brk l).map D.int)] s=ok (.int ((brk l).map D.int).length) s from rfl) ?_;rw [Í];simp only [VC,ĵ,and_true];decide
noncomputable def vE:List Int->List Int->Bool
 | [],[]=>false
 | [],_::_=>true
 |_::_,[]=>false
 |x::Z,y::Y=>if (x==y)=true then vE Z Y else decide (x<y)
def yj (h:beq x y=true):ja (x::xs) (y::ys)=ja xs ys:=by
 rw [ja,ê h]
def yk (h:beq x y=false):ja (x::xs) (y::ys)=nB x y:=by
 rw [ja,ú (by rw [h];exact Ñ)]
theorem Eg:∀(xs ys:List Int),ja (xs.map D.int) (ys.map D.int)=some (vE xs ys)
 | [],[]=>rfl
 | [],_::_=>rfl
 |_::_,[]=>rfl
 |x::xs,y::ys=>by
  rw [ç,ç,vE]
  cases h:(x==y) with
  |true=>rw [yj (show beq (.int x) (.int y)=true from h),ê rfl];exact Eg xs ys
  |false=>rw [yk (show beq (.int x) (.int y)=false from h),ú Ñ];rfl
def sI (a b:List Int):Bool:=if ((((brk a).length:Int)==((brk b).length:Int)))=true then (if beq (mD a) (mD b)=true then false else vE a b) else decide (((brk a).length:Int)<((brk b).length:Int))
def Oz:gK (lr a) (lr b) s=ok (.bl (sI a b)) s:=by
 have Z:∀l,lay (lr l)=true:=fun l=>by simp only [lay,DI.cU,pW,Ŀ]
 have X:dep (lr a)<=30:=by simp only [dep,gJ,wW];decide
 have e:nB (lr a) (lr b)=some (sI a b):=by
  show ja [.int (brk a).length,mD a] [.int (brk b).length,mD b]=_;unfold sI
  cases h:(((brk a).length:Int)==((brk b).length:Int)) with
  |true =>
   rw [yj (show beq (.int (brk a).length) (.int (brk b).length)=true from h),ê rfl]
   cases Y:beq (mD a) (mD b) with
   |true=>rw [yj Y,ê rfl];rfl
   |false=>rw [yk Y,ú Ñ];exact Eg a b
  |false =>
   rw [yk (show beq (.int (brk a).length) (.int (brk b).length)=false from h),ú Ñ];rfl
 unfold gK;rw [ê (by rw [Z a,Z b,ò X];rfl),e];rfl
def jE:List Int->List (List Int)->List Int
 |b,[]=>b
 |b,y::Z=>if sI y b=true then jE y Z else jE b Z
def u9:List (List Int)->D
 | []=>.aq
 |x::Z=>mD (jE x Z)
theorem E1:∀(ys:List (List Int)) (b:List Int),(∀y∈ys,y.length<=1000)->mO (fun d s=>kL [d] s) gK (mD b) (lr b) (ys.map mD) s=ok (mD (jE b ys)) s
 | [],b,_=>rfl
 |y::ys,b,h=>by
  have Z:=EZ (s:=s) (h y Ô);have ih:=fun b=>E1 (s:=s) ys b fun z Y=>h z (Ï _ Y);rw [ç];unfold mO;simp only [Z,jA,dj,Oz,jE]
  cases sI y b with
  |true=>simp only [ă];exact ih y
  |false=>simp only [Ç,û];exact ih b
def MO (h:dU rs):sP [rD rs] s=ok (u9 (cz rs (rs.length-1))) s:=by
 have V:=h.hi;refine Wj ?_;unfold sP;simp only [VC,ug h,Jl h];have Z:∀y∈cz rs (rs.length-1),y.length<=1000:=fun y Y=>by rw [sX _ _ y Y];omega
 show Wp (yH (fun d s=>kL [d] s) gK (some .aq) ((cz rs (rs.length-1)).map mD) s) _
 cases W:cz rs (rs.length-1) with
 |nil=>exact Wi rfl ⟨rfl,rfl⟩
 |cons x X =>
  rw [W] at Z;rw [ç];show Wp (aj (ne (kL [mD x] s)) fun k s=>mO (fun d s=>kL [d] s) gK (mD x) k (X.map mD) s) _;rw [EZ (Z x Ô),jA,dj];exact Wi (E1 X x fun y Y=>Z y (Ï _ Y)) ⟨rfl,rfl⟩
def Rm (h:xs.length+ys.length<=1000000):aT (.lst xs) (.lst ys) s=ok (.lst (xs++ys)) s:=by
 have e:oQ (.lst xs) (.lst ys)=some (.lst (xs++ys)):=by
  show (if i7 xs ys=true then some (D.lst (xs++ys)) else none)=_
  have Z:i7 xs ys=true:=ò (le_size h);rw [ê Z]
 show bI (oQ (.lst xs) (.lst ys)) s=_;rw [e];rfl
def Ex.get (h:Ex k s s') (e:s[j]?=some c) (hj:j≠k):s'[j]?=some c:=by
 rw [h.val j (È.mp e).1 hj];exact e
theorem Ex.hi (h:Ex k s s') (hj:s.length<=j) (c:Cell):Ex k s (s'.set j c):=⟨by rw [Ć];exact h.len,fun i hi Z=>by rw [Ü (by omega)];exact h.val i hi Z⟩
def Jm (h:ns.length<64):qa (.lst (ns.map D.int)) s=ok (.lst ((dQ ns).map D.int)) s:=by
 unfold qa;simp only [JS,ò (Nat.lt_of_le_of_lt (JT ns) h),ă]
def Kg (ha:ck 8 a) (hb:ck 8 b):ck 8 (dQ (a++b)):=⟨fun x Z=>by
 rw [sY] at Z
 rcases æ.mp Z with h|h
 ·exact ha.lo x h
 ·exact hb.lo x h,wy _⟩
structure RI (s0:aa) (k rh mh:Nat) (rs:List (List Int)) (s:aa):Prop where
 st:bD s k
 ex:Ex k s0 s
 run:s[rh]?=some (.lst (rs.map mD))
 mo:∃a b,s[mh]?=some (.lst [mD a,mD b])/\ck 8 a/\ck 8 b
 jW:∀r∈rs,ck 8 r
 k1:k<s0.length
 r1:s0.length<=rh
 m1:s0.length<=mh
 ne:rh≠mh
def RI.draw (h:RI s0 k rh mh rs s) (g:bD s' k) (x:Ex k s s'):RI s0 k rh mh rs s':=by
 have:=h.k1;have:=h.r1;have:=h.m1;obtain ⟨a,b,e,Z,Y⟩:=h.mo;exact ⟨g,h.ex.trans x,x.get h.run (by omega),⟨a,b,x.get e (by omega),Z,Y⟩,h.jW,h.k1,h.r1,h.m1,h.ne⟩
def RI.push (h:RI s0 k rh mh rs s) (hr:ck 8 r):RI s0 k rh mh (rs++[r]) (s.set rh (.lst (rs.map mD++[mD r]))):=by
 have:=h.k1;have:=h.r1;have:=h.m1;have:=h.ne;obtain ⟨a,b,e,Z,Y⟩:=h.mo;refine ⟨h.st.set (by omega) _,h.ex.hi (by omega) _,?_,⟨a,b,by rw [Ü (by omega)];exact e,Z,Y⟩,fun x hx=>?_,h.k1,h.r1,h.m1,h.ne⟩
 ·rw [é (È.mp h.run).1,V3]
  rfl
 ·rcases æ.mp hx with hx|hx
  ·exact h.jW x hx
  ·rw [ð.mp hx];exact hr
def RI.put (h:RI s0 k rh mh rs s) (h0:at_=0\/at_=1):(∃a,aZ (.ay mh) (.int at_) s=ok (mD a) s/\ck 8 a)/\∀c,ck 8 c->∃s',il (.ay mh) (.int at_) (mD c) s=some s'/\RI s0 k rh mh rs s':=by
 have:=h.k1;have:=h.r1;have:=h.m1;have:=h.ne;obtain ⟨a,b,e,Z,Y⟩:=h.mo;have key:∀a b,ck 8 a->ck 8 b->RI s0 k rh mh rs (s.set mh (.lst [mD a,mD b])):=fun a b Z Y=>⟨h.st.set (by omega) _,h.ex.hi (by omega) _,by rw [Ü (by omega)];exact h.run,⟨a,b,é (È.mp e).1,Z,Y⟩,h.jW,h.k1,h.r1,h.m1,h.ne⟩
 rcases h0 with rfl|rfl
 ·exact ⟨⟨a,A1 _ _ _ _ e,Z⟩,fun c X=>⟨_,zE _ _ _ _ _ e,key _ _ X Y⟩⟩
 ·exact ⟨⟨b,A2 _ _ _ _ e,Y⟩,fun c X=>⟨_,zF _ _ _ _ _ e,key _ _ Z X⟩⟩
def ck.A4 (h:ck n l) (hn:n<=8):ck 8 l:=⟨fun x Z=>by have:=h.lo x Z;omega,h.up⟩
structure Ft (n W:Nat) (d:D):Prop where
 pl:plain d=true
 sh:(py d).showable=true
 nd:(py d).hasDict=false
 dp:(py d).depth<=n
 wt:(py d).weight<=W
 lv:(py d).leavesShort 40=true
def vF (d:D):Bool:=plain d&&(py d).showable&&!(py d).hasDict&&decide ((py d).depth<=0)&&decide ((py d).weight<=110)&&(py d).leavesShort 40
def E2 (h:vF d=true):Ft 0 110 d:=by
 unfold vF at h;simp only [Ë,Ú,ś] at h;obtain ⟨⟨⟨⟨⟨Z,Y⟩,X⟩,W⟩,V⟩,U⟩:=h;exact ⟨Z,Y,X,W,V,U⟩
def OA:∀n:Fin 62,vF (.int ((n.val:Int)-1))=true:=by decide +kernel
def qz (h1:-1<=n) (h2:n<=60):Ft 0 110 (.int n):=by
 refine E2 ?_;have:=OA ⟨(n+1).toNat,by omega⟩;have e2:(((n+1).toNat:Nat):Int)-1=n:=by omega
 rw [e2] at this;exact this
theorem yl:∀{ds:List D},(∀x∈ds,Ft n W x)->fM ds=true/\V7 (bA ds)=true/\VB (bA ds)=false/\Ś (bA ds)<=n/\Ũ (bA ds)<=ds.length*(W+1)/\VM 40 (bA ds)=true
 | [],_=>⟨rfl,rfl,rfl,Ě _,by simp [bA,Ũ],rfl⟩
 |x::Z,h=>by
  obtain ⟨z,a,b,c,d,e⟩:=yl (ds:=Z) fun y Y=>h y (Ï _ Y);have k:=h x Ô;refine ⟨?_,?_,?_,?_,?_,?_⟩
  ·simp only [fM,k.pl,z,Ŀ]
  ·simp only [bA,V7,k.sh,a,Ŀ]
  ·simp only [bA,VB,k.nd,b,Bool.or_self]
  ·simp only [bA,Ś];have:=k.dp;omega
  ·simp only [bA,Ũ,Ý]
   have:=k.wt;rw [Nat.add_mul];omega
  ·simp only [bA,VM,k.lv,e,Ŀ]
def ym (hl:ds.length<=c) (h:∀x∈ds,Ft n W x):Ft (n+1) (c*(W+1)) (.tup ds):=by
 obtain ⟨z,a,b,X,Z,Y⟩:=yl h;have hw:Ũ (bA ds)<=c*(W+1):=ã Z (VP _ hl);exact ⟨by simp only [plain];exact z,by simp only [py,Vh];exact a,by simp only [py,PyData.hasDict];exact b,by simp only [py,PyData.depth];omega,by simp only [py,Wg];exact hw,by simp only [py,V8];exact Y⟩
def OB (hl:ds.length<=c) (h:∀x∈ds,Ft n W x):Ft (n+1) (c*(W+1)) (.lst ds):=by
 obtain ⟨z,a,b,X,Z,Y⟩:=yl h;have hw:Ũ (bA ds)<=c*(W+1):=ã Z (VP _ hl);exact ⟨by simp only [plain];exact z,by simp only [py,Vh];exact a,by simp only [py,PyData.hasDict];exact b,by simp only [py,PyData.depth];omega,by simp only [py,Wg];exact hw,by simp only [py,V8];exact Y⟩
def OC (h:dU rs):Ft 2 (10*(8*(110+1)+1)) (rD rs):=by
 refine ym (by rw [Í];exact h.hi) fun r Z=>?_;obtain ⟨Y,X,rfl⟩:=ķ.mp Z;have g:=h.jW Y X;refine ym (by rw [Í];exact g.len) fun x W=>?_;obtain ⟨V,U,rfl⟩:=ķ.mp W;have:=g.lo V U;exact qz (by omega) (by omega)
def ne_str:dh (.str x) (.str x) s=ok (.bl false) s:=by
 show (match k9 (.str x) (.str x) with|some b=>ok (D.bl (!b)) s|none=>none)=_
 have e:k9 (.str x) (.str x)=some true:=by
  unfold k9;rw [ê (show (m9 (.str x)&&m9 (.str x))=true from rfl)];simp [beq]
 rw [e];rfl
open DI.cQ
def Kh {s1:aa} {k n:Nat} {w:Int} (h1:bD s1 k) (w0:0<=w) (w1:w<100):Wp (dq 1 [some (.ay k),some (.int w)] (gN 0) (bx (e2 bZ (aK de (ae (af 1) (ae (e2 aT (af 2) (eC (.int 4))) ah))) (eC (.int 0)))) (af 0) (bV 0 n) s1)
   fun xs s'=>∃ns,xs=ns.map D.int/\ck n ns/\bD s' k/\Ex k s1 s':=by
 refine xH (fun i Z s'=>∃ns:List Int,Z=ns.map D.int/\ck i ns/\bD s' k/\Ex k s1 s') (bV 0 n) ⟨[],rfl,⟨by simp,.nil⟩,h1,Ex.refl _ _⟩ (fun i d Z s' Y W=>?_) fun Z s' W=>?_
 ·obtain ⟨ns,rfl,X,S,V⟩:=W
  rw [jY] at Y;split at Y
  ·cases Y
   refine ⟨[some (.int (0+i)),some (.ay k),some (.int w)],rfl,?_⟩;simp only [VC];refine (gB S (m:=w+4) (by omega) (by omega)).mono fun d Q Y=>?_;obtain ⟨r,rfl,P,O,U,T⟩:=Y;simp only [VC];split
   ·refine ⟨ns++[0+(i:Int)],by simp,⟨fun x hx=>?_,?_⟩,U,V.trans T⟩
    ·rcases æ.mp hx with hx|hx
     ·have:=X.lo x hx;omega
     ·rw [ð.mp hx];omega
    ·refine VO.mpr ⟨X.up,by simp,fun x hx y R=>?_⟩
     rw [ð.mp R];have:=X.lo x hx;omega
   ·exact ⟨ns,rfl,⟨fun x hx=>by have:=X.lo x hx;omega,X.up⟩,U,V.trans T⟩
  ·cases Y
 ·rw [fk] at W
  exact W
def hU (l:List Int):Prop:=∀x∈l,x=0\/x=1
structure RJ (s0:aa) (k rh mh lh:Nat) (rs:List (List Int)) (l:List Int) (s:aa):Prop where
 ri:RI s0 k rh mh rs s
 lay:s[lh]?=some (.lst (l.map D.int))
 l1:s0.length<=lh
 ne1:lh≠rh
 ne2:lh≠mh
 lR:hU l
section
variable {s0 s s':aa} {k rh mh lh:Nat} {rs:List (List Int)} {l:List Int}
theorem RJ.draw (h:RJ s0 k rh mh lh rs l s) (g:bD s' k) (x:Ex k s s'):RJ s0 k rh mh lh rs l s' :=
 ⟨h.ri.draw g x,x.get h.lay (by have:=h.l1;have:=h.ri.k1;omega),h.l1,h.ne1,h.ne2,h.lR⟩
theorem RJ.push {r:List Int} (h:RJ s0 k rh mh lh rs l s) (hr:ck 8 r):RJ s0 k rh mh lh (rs++[r]) l (s.set rh (.lst (rs.map mD++[mD r]))) :=
 ⟨h.ri.push hr,by rw [Ü (Œ h.ne1)];exact h.lay,h.l1,h.ne1,h.ne2,h.lR⟩
def RJ.P1 {x:Int} (h:RJ s0 k rh mh lh rs l s) (hx:x=0\/x=1):RJ s0 k rh mh lh rs (l++[x]) (s.set lh (.lst (l.map D.int++[.int x]))):=by
 have q:=h.ri;have:=h.l1;have:=h.ne1;have:=h.ne2;have:=q.k1;obtain ⟨a,b,e,Z,Y⟩:=q.mo;refine ⟨⟨q.st.set (by omega) _,q.ex.hi h.l1 _,by rw [Ü h.ne1];exact q.run,⟨a,b,by rw [Ü h.ne2];exact e,Z,Y⟩,q.jW,q.k1,q.r1,q.m1,q.ne⟩,?_,h.l1,h.ne1,h.ne2,fun y hy=>?_⟩
 ·rw [é (È.mp h.lay).1,V3];rfl
 ·rcases æ.mp hy with hy|hy
  ·exact h.lR y hy
  ·rw [ð.mp hy];exact hx
theorem RJ.put {at_:Int} (h:RJ s0 k rh mh lh rs l s) (h0:at_=0\/at_=1):(∃a,aZ (.ay mh) (.int at_) s=ok (mD a) s/\ck 8 a)/\∀c,ck 8 c->∃s',il (.ay mh) (.int at_) (mD c) s=some s'/\RJ s0 k rh mh lh rs l s':=by
 obtain ⟨Z,Y⟩:=h.ri.put h0;refine ⟨Z,fun c X=>?_⟩;obtain ⟨s',e,r⟩:=Y c X;refine ⟨s',e,r,?_,h.l1,h.ne1,h.ne2,h.lR⟩;obtain ⟨a,b,e2,_⟩:=h.ri.mo
 rcases h0 with rfl|rfl
 ·rw [zE _ _ _ _ _ e2] at e;cases e;rw [Ü (Œ h.ne2)];exact h.lay
 ·rw [zF _ _ _ _ _ e2] at e;cases e;rw [Ü (Œ h.ne2)];exact h.lay
end
def xM {ds:List D} {d:D} {j:Nat} {s:aa} (h:s[j]?=some (.lst ds)) (hl:ds.length<=1000):mK (.ay j) d s=ok .aq (s.set j (.lst (ds++[d]))):=by
 unfold mK;have Z:ds.length<Ø:=Nat.lt_of_le_of_lt hl (by decide);simp only [h,ò Z,ă]
def Jn {s0 s:aa} {k rh mh lh:Nat} {rs:List (List Int)} {l:List Int} {now w:Int} {e6 e7:Option D} {Q:Fl->aa->Prop} (r:RJ s0 k rh mh lh rs l s) (hl:l.length<=100) (TU:rs.length<=100) (hn:now=0\/now=1) (w0:2<=w) (w1:w<100)
  (hQ:∀r' vG e7 s',RJ s0 k rh mh lh (rs++[r']) (l++[now]) s'->(vG=0\/vG=1)->Q (.nx [some (.ay k),some (.ay mh),some (.ay rh),some (.ay lh),some (.int vG),some (.int w),e6,e7]) s') :
  Wp (wR [some (.ay k),some (.ay mh),some (.ay rh),some (.ay lh),some (.int now),some (.int w),e6,e7] s) Q:=by
 unfold wR;refine Wk fun R Z=>?_;simp only [VC];refine Wi (ka (n:=8) rfl (by decide)) ⟨le_size (by rw [fk];decide),?_⟩;refine (Kh r.ri.st (by omega) w1).mono fun C s5 P=>?_;obtain ⟨W,rfl,V,O,N⟩:=P;have M:=r.draw O N;obtain ⟨⟨a,L,U⟩,K⟩:=M.put hn;have B:=U.len;have ln:=V.len;subst Z;refine Wk fun R Z=>?_;simp only [VC];rw [L];simp only [VC];refine Wi (show mw [mD a] s5=ok (.lst (a.map D.int)) s5 from rfl) ?_;refine Wi (Rm (by simp only [Í];omega)) ?_;rw [<- V3];refine Wi (Jm (by rw [ä];omega)) ?_;refine Wi (show fm [.lst ((dQ (a++W)).map D.int)] s5=ok (mD (dQ (a++W))) s5 from rfl) ?_;obtain ⟨J,I,Y⟩:=K _ (Kg U V);refine ⟨J,I,?_⟩;subst Z;refine Wk fun R Z=>?_;simp only [VC];refine ⟨by unfold lB;simp only [Y.ri.run],?_⟩;obtain ⟨⟨m,em,H⟩,_⟩:=Y.put hn;refine Wi em ?_;refine Wi (xM Y.ri.run (by rw [Í];omega)) ?_;have X:=Y.push H;subst Z;refine Wk fun R Z=>?_;simp only [VC];refine ⟨by unfold lB;simp only [X.lay],?_⟩;refine Wi (xM X.lay (by rw [Í];omega)) ?_;have T:=X.P1 hn;subst Z;simp only [VC];refine (gB T.ri.st (by omega) (by omega)).mono fun d A G=>?_;obtain ⟨q,rfl,_,_,F,E⟩:=G;have S:=T.draw F E;simp only [VC];split
 ·exact hQ _ _ _ _ S (by omega)
 ·exact hQ _ _ _ _ S hn
def LD {s:aa} {k:Nat} (h:bD s k):Wp (tG [.ay k] s) fun d s'=>∃rs l,d=.tup [rD rs,mD l]/\dU rs/\hU l/\l.length=rs.length/\bD s' k/\Ex k s s':=by
 have B:=h.lt;unfold tG;refine (jD).mpr ⟨rfl,?_⟩;refine Wk fun R V=>?_;simp only [VC];refine (xn (n:=4) h (by decide)).mono fun d e Z=>?_;obtain ⟨O,rfl,A,z,G⟩:=Z;refine (xn (n:=4) z (by decide)).mono fun d Y Z=>?_;obtain ⟨N,rfl,y,v,F⟩:=Z;have c:=G.len;have b:=F.len;refine ⟨by decide,by decide,by decide,by decide,?_⟩;have W:RJ s k (Y.length+1) Y.length (Y.length+1+1) [] [] (((Y++[.lst [mD O,mD N]])++[.lst []])++[.lst []]):=by
  refine ⟨⟨((v.app _).app _).app _,(((G.trans F).trans (Ex.app _ _ _)).trans (Ex.app _ _ _)).trans (Ex.app _ _ _),by simp,⟨O,N,by simp,A.A4 (by decide),y.A4 (by decide)⟩,by simp,B,by omega,by omega,by omega⟩,by rw [ë (by simp)];simp,by omega,by omega,by omega,fun x u=>by cases u⟩
 simp only [ä,Ý,è,Nat.zero_add] at W |-;generalize ((Y++[.lst [mD O,mD N]])++[.lst []])++[.lst []]=S at W;generalize Y.length+1+1=U at W;generalize Y.length+1=T at W;generalize Y.length=M at W;subst V;refine Wk fun R V=>?_;simp only [VC];refine (gB W.ri.st (by decide) (by decide)).mono fun d a Z=>?_;obtain ⟨w,rfl,w0,w1,t,r⟩:=Z;have E:=W.draw t r;simp only [VC];subst V;refine Wk fun R V=>?_;rw [j4];refine Wp.mono (Q:=fun D L=>∃n:Nat,D=bV 0 n/\1<=n/\n<=10/\RJ s k T M U [] [] L) ?_ fun D L Z=>?_
 ·unfold fH
  rw [bz];simp only [VC];refine (gB E.ri.st (by decide) (by decide)).mono fun d L Z=>?_;obtain ⟨n,rfl,q,p,o,m⟩:=Z;simp only [VC];rw [ê (tK (by omega) (by omega))];exact Wp.ok ⟨(1+n).toNat,rfl,by omega,by omega,E.draw o m⟩
 obtain ⟨n,rfl,q,p,j⟩:=Z;refine Wp.mP (fun i env s'=>∃rs l now K P,rs.length=i/\l.length=i/\(now=0\/now=1)/\RJ s k T M U rs l s'/\env=[some (.ay k),some (.ay M),some (.ay T),some (.ay U),some (.int now),some (.int (2+w)),K,P]) _ ⟨[],[],0,_,_,rfl,rfl,.inl rfl,j,rfl⟩ (fun i d env s' Z J=>?_) (fun env s' J=>?_)
 ·obtain ⟨rs,l,now,K,P,I,H,C,X,rfl⟩:=J
  rw [jY] at Z;split at Z
  ·cases Z
   exact ⟨_,rfl,Jn X (by omega) (by omega) C (by omega) (by omega) fun r' vG P s' g f=>⟨_,_,_,_,_,by simp [I],by simp [H],f,g,rfl⟩⟩
  ·cases Z
 ·obtain ⟨rs,l,now,K,P,I,H,C,X,rfl⟩:=J
  rw [fk] at I H;subst V;simp only [VC];refine Wi (show fm [.ay T] s'=ok (rD rs) s' from ?_) ?_
  ·unfold fm res
   simp only [X.ri.run]
  refine Wi (show fm [.ay U] s'=ok (mD l) s' from ?_) ?_
  ·unfold fm res
   simp only [X.lay]
  exact ⟨by decide,rs,l,rfl,⟨by omega,by omega,X.ri.jW⟩,X.lR,by omega,X.ri.st,X.ri.ex⟩
def LF {xs:List D} {k:Nat} (h:k<=xs.length):cutD xs none (some k)=xs.take k:=by
 unfold cutD;rw [HT.CP];show (xs.drop 0).take (min k xs.length-0)=_;rw [Nat.min_eq_left h];rfl
def LG {xs:List D} {k:Nat}:cutD xs (some k) none=xs.drop k:=by
 unfold cutD;rw [HT.CP];show (xs.drop (min k xs.length)).take (xs.length-min k xs.length)=_;by_cases h:k<=xs.length
 ·rw [Nat.min_eq_left h]
  apply List.take_of_length_le;simp
 ·rw [Nat.min_eq_right (by omega),List.drop_of_length_le (Wl _),List.drop_of_length_le (by omega)]
  simp
def Dk {env:Env} {f g:Wh D} {xs:List D} {k:Nat} {s:aa} (hf:f env s=ok (.tup xs) s) (hg:g env s=ok (.int k) s) (h:k<=xs.length):cY f cX (cV g) env s=ok (.tup (xs.take k)) s:=by
 refine Wj ?_;rw [oy,hf,aY,n6,xI hg];refine Wi (show l8 (.tup xs) none (some k) s=ok (.tup (cutD xs none (some k))) s from rfl) ⟨?_,rfl⟩;rw [LF h]
def Dl {env:Env} {f g:Wh D} {xs:List D} {k:Nat} {s:aa} (hf:f env s=ok (.tup xs) s) (hg:g env s=ok (.int k) s):cY f (cV g) cX env s=ok (.tup (xs.drop k)) s:=by
 refine Wj ?_;rw [oy,hf,aY,xI hg,n6];refine Wi (show l8 (.tup xs) (some k) none s=ok (.tup (cutD xs (some k) none)) s from rfl) ⟨?_,rfl⟩;rw [LG]
def BV {d:D} {ds:List D} (h:fM ds=true) (hd:d∈ds):plain d=true:=by
 induction ds with
 |nil=>cases hd
 |cons e ds ih =>
  simp only [fM,Ë] at h
  rcases Ö.mp hd with z|z
  ·rw [z];exact h.1
  ·exact ih h.2 z
noncomputable def wu:D->Bool
 | .tup _=>true
 |_=>false
def Dm {d:D} {s:aa} (h:plain d=true):bw [d,.ty "tuple"] s=ok (.bl (wu d)) s:=by
 cases d<;>first|rfl | (simp [plain] at h)
def Ki {d:D} {n:Int} {s:aa} (h:plain d=true) (hi:∀i,d≠.int i):iK [d,.int n] s=ok (.bl false) s:=by
 have no:∀d:D,bw [d,.ty "int"] s=ok (.bl false) s->iK [d,.int n] s=ok (.bl false) s:=fun d h=>by
  refine Wj ?_;unfold iK pT;simp only [VC,h,Ç,û,ĵ]
 cases d with
 |int i=>exact absurd rfl (hi i)
 |bl b =>
  refine Wj ?_;unfold iK pT;simp only [VC];refine Wi (show bw [.bl b,.ty "int"] s=ok (.bl true) s from rfl) ?_;simp only [VC,ă];refine Wi (show bw [.bl b,.ty "bool"] s=ok (.bl true) s from rfl) ?_;simp only [VC,ď,Ç,û,ĵ]
 |aq=>exact no _ rfl
 |str x=>exact no _ rfl
 |tup Z=>exact no _ rfl
 |lst Z=>exact no _ rfl
 |aV Y=>exact no _ rfl
 |ay k=>simp [plain] at h
 |ty k=>simp [plain] at h
 |bu k=>simp [plain] at h
 |exc o=>simp [plain] at h
 |cg o _ _=>simp [plain] at h
noncomputable def b2:D->Bool
 | .int i=>decide (0<=i)&&decide (i<2)
 |_=>false
def OD {d:D} {s:aa} (h:plain d=true):iK [d,.int 2] s=ok (.bl (b2 d)) s:=by
 by_cases hi:∃i,d=.int i
 ·obtain ⟨i,rfl⟩:=hi
  exact pY
 ·have e:b2 d=false:=by
   cases d<;>first|rfl|exact (hi ⟨_,rfl⟩).elim
  rw [e];exact Ki h fun i z=>hi ⟨i,z⟩
theorem yn:∀{ds:List D},ds.all b2=true->∃l,ds=l.map D.int/\hU l
 | [],_=>⟨[],rfl,fun x Z=>by cases Z⟩
 |d::ds,h=>by
  simp only [List.all_cons,Ë] at h;obtain ⟨l,rfl,Y⟩:=yn h.2
  cases d with
  |int i =>
   have X:(decide (0<=i)&&decide (i<2))=true:=h.1;rw [Ë,Ú,Ú] at X;exact ⟨i::l,rfl,fun x Z=>by
    rcases Ö.mp Z with z|z
    ·subst z;omega
    ·exact Y x z⟩
  |_=>cases h.1
def OE {l:List Int} (h:hU l):(l.map D.int).all b2=true:=by
 rw [õ];intro d Z;obtain ⟨x,Y,rfl⟩:=ķ.mp Z
 rcases h x Y with rfl|rfl<;>rfl
structure FR (rs:List (List Int)) (l:List Int):Prop where
 lR:hU l
 len:l.length=rs.length
 fst:l.getD 0 0=0
 may:∀j,j<l.length->iT rs (l.take j) (l.getD j 0)=true
def mB (rs:List (List Int)) (d:D):Prop:=∃l,d=mD l/\FR rs l
noncomputable def G6:D->Int
 | .int i=>i
 |_=>0
def Eh {a b:List Int} (h:mD a=mD b):a=b:=by
 have e:a.map D.int=b.map D.int:=D.tup.inj h;have q:=ı (List.map G6) e;simpa [V5,Function.comp_def,G6] using q
def Ei {rs:List (List Int)} {d:D} (h:wu d=false):¬ mB rs d:=fun ⟨l,e,_⟩=>by subst e;cases h
def MP {rs:List (List Int)} {d:D} {s:aa} (h:dU rs) (hp:plain d=true) (hl:∀ds,d=.tup ds->ds.length<=1000):∃b,iM [rD rs,d] s=ok (.bl b) s/\(b=true↔mB rs d):=by
 suffices q:Wp (iM [rD rs,d] s) fun x V=>∃b,(x=.bl b/\V=s)/\(b=true↔mB rs d) by
  obtain ⟨x,V,e,b,⟨rfl,rfl⟩,q⟩:=q;exact ⟨b,e,q⟩
 have M:=h.hi;have L:=h.lo;unfold iM;refine jD.symm ▸ ⟨rfl,Wk fun R S=>?_⟩;simp only [VC];refine Wi (Dm hp) ?_;rw [lY]
 cases U:wu d with
 |false =>
  simp only [VG,ă,jZ,fU,me,j9];exact ⟨false,⟨rfl,trivial⟩,by simp [Ei U]⟩
 |true =>
  cases d with
  |tup ds =>
   have Q:∀x∈ds,plain x=true:=fun x=>BV (show fM ds=true from hp);have hl:=hl ds rfl;simp only [ď,Ç,û];refine Wi (show bG [.tup ds] s=ok (.int ds.length) s from rfl) ?_;simp only [VC,pb];by_cases Y:ds.length=rs.length
   case neg =>
    have e:(!((ds.length:Int)==(rs.length:Int)))=true:=by simp;omega
    rw [ê e];refine ⟨false,⟨rfl,trivial⟩,?_⟩;simp only [Ç,false_iff];rintro ⟨l,e,g⟩;have:=ı List.length (D.tup.inj e);rw [Í,g.len] at this;exact Y this
   have e:(!((ds.length:Int)==(rs.length:Int)))=false:=by simp;omega
   rw [e];simp only [VC,Ç,û];subst S;simp only [VC];refine Wi (nH (ds:=ds) rfl) ⟨le_size (by omega),?_⟩;have T:=comp_map (s:=s) (nt:=1) (caps:=[]) (g:=gN 0) (t:=fG) (f:=aK iK (ae (af 0) (ae (eC (.int 2)) ah))) (fun x:D=>x) (fun _=>true) (fun x=>D.bl (b2 x)) ds fun x P=>⟨[some x],rfl,rfl,fun _=>Wj (by simp only [VC];exact Wi (OD (Q x P)) ⟨rfl,rfl⟩)⟩;rw [filter_tt,List.map_id'] at T;refine Wi T ?_;refine Wi (kP b2 ds s) ?_;simp only [VC]
   cases X:ds.all b2 with
   |false =>
    simp only [Ç,û];refine ⟨false,⟨rfl,trivial⟩,?_⟩;simp only [Ç,false_iff];rintro ⟨l,e,g⟩;cases e;rw [OE g.lR] at X;cases X
   |true =>
    obtain ⟨l,rfl,O⟩:=yn X;rw [Í] at Y hl;simp only [ă];refine Wi (show aZ (mD l) (.int (0:Nat)) s=_ from pQ (by omega)) ?_;simp only [VC]
    cases W:(l.getD 0 0==0) with
    |false =>
     simp only [Ç,û];refine ⟨false,⟨rfl,trivial⟩,?_⟩;simp only [Ç,false_iff];rintro ⟨N,e,g⟩;cases Eh e;rw [g.fst] at W;cases W
    |true =>
     simp only [ă];refine Wi (ka (s1:=s) (n:=rs.length) (Wj (by simp only [VC,pb,ĵ])) (by omega)) ⟨le_size (by rw [fk];omega),?_⟩;rw [xK];refine Wi (comp_map (fun i:Nat=>D.int (0+(i:Int))) (fun _=>true) (fun j=>.bl (iT rs (l.take j) (l.getD j 0))) _ fun j Z=>⟨[some (.int (0+(j:Int))),some (rD rs),some (mD l)],rfl,rfl,fun _=>?_⟩) ?_
     ·have Z:=Č.mp Z
      refine Wj ?_;simp only [wp_call,c9,ek,dI,eh,fc,V6];refine Wi (show cY (af 2) cX (cV (af 0)) [some (.int (j:Int)),some (rD rs),some (mD l)] s=ok (mD (l.take j)) s from by rw [Dk (xs:=l.map D.int) (k:=j) rfl rfl (by rw [Í];omega),<- List.map_take]) ?_;refine Wi (pQ (by omega)) ?_;exact Wi (Ee h (by rw [İ];omega)) ⟨rfl,rfl⟩
     ·rw [filter_tt]
      refine Wi (kP (fun j=>iT rs (l.take j) (l.getD j 0)) _ _) ?_;refine ⟨_,⟨rfl,rfl⟩,?_⟩;rw [õ];constructor
      ·intro q
       exact ⟨l,rfl,O,Y,by simpa using W,fun j Z=>q j (Č.mpr (by omega))⟩
      ·rintro ⟨N,e,g⟩ j Z
       cases Eh e;exact g.may j (by have:=Č.mp Z;omega)
  |_=>cases U
def ne_nil {ns:List Int} {s:aa}:dh (.lst (ns.map D.int)) (.lst []) s=ok (.bl (!ns.isEmpty)) s:=by
 cases ns with
 |nil=>rfl
 |cons n ns =>
  unfold dh k9;simp [res,m9,beq,oP,lay,cU,pW,dep,gJ,wW]
def LH {a b:List Int}:(a.filter fun x=>!decide (x∈b)).isEmpty=sub a b:=by
 rw [ŕ,List.isEmpty_iff,List.filter_eq_nil_iff,ML];simp
def Dp {rs:List (List Int)} {l:List Int} {p:Nat} (hp:p<l.length):iT rs (l.take p) (l.getD p 0)=true↔∀j,j<p->l.getD j 0=l.getD p 0->sub (rs.getD j []) (rs.getD p [])=true:=by
 unfold iT;have e:(l.take p).length=p:=by rw [İ];omega
 rw [e,õ];have g:∀j,j<p->(l.take p).getD j 0=l.getD j 0:=fun j Z=>by simp [ť,List.getElem?_take,Z]
 constructor
 ·intro h j Z q
  refine h j (ő.mpr ⟨Č.mpr Z,?_⟩);rw [g j Z,q];simp
 ·intro h j Z
  obtain ⟨Y,X⟩:=ő.mp Z;have Y:=Č.mp Y;rw [g j Y] at X;exact h j Y (by simpa using X)
def good_int {rs:List (List Int)} {ds:List D} {j:Nat} {x:D} (h:mB rs (.tup ds)) (e:ds[j]?=some x):∃l,ds=l.map D.int/\FR rs l/\∃v,x=.int v/\l[j]?=some v:=by
 obtain ⟨l,e1,g⟩:=h;have e1:ds=l.map D.int:=D.tup.inj e1;subst e1;rw [à] at e;obtain ⟨v,Z,Y⟩:=Option.map_eq_some_iff.mp e;exact ⟨l,rfl,g,v,Y.symm,Z⟩
def nN {l:List Int} {j:Nat} {v:Int} (h:l[j]?=some v):l.getD j 0=v:=by simp [ť,h]
def Jo {rs:List (List Int)} {ds:List D} {s:aa} {p j:Nat} {i v:Int} {e5:Option D} {Q:Fl->aa->Prop} (h:dU rs) (hp:p<rs.length) (hj:j<p) (hv:ds[j]?=some (.int v))
  (kA:v=i->sub (rs.getD j []) (rs.getD p [])=false->Q (.rt (.bl false)) s) (vH:∀e5,(v=i->sub (rs.getD j []) (rs.getD p [])=true)->Q (.nx [some (rD rs),some (.tup ds),some (.int p),some (.int i),some (.int j),e5]) s) :
  Wp (xk [some (rD rs),some (.tup ds),some (.int p),some (.int i),some (.int j),e5] s) Q:=by
 have X:=(h.jW (rs.getD j []) (Ė (getD_some (d:=[]) (by omega)))).len;unfold xk;refine Wk fun R Y=>?_;simp only [VC];refine Wi (nH (ds:=(rs.getD j []).map D.int) (Wj (by simp only [VC];exact Wi (wq (by omega)) ⟨rfl,rfl⟩))) ⟨le_size (by rw [Í];omega),?_⟩;refine Wi (tw (fun n=>!decide (n∈rs.getD p [])) (fun n=>D.int n) (rs.getD j []) fun n W=>⟨[some (.int n),some (rD rs),some (.int p)],rfl,Wj ?_,fun _=>rfl⟩) ?_
 ·simp only [VC]
  refine Wi (wq hp) ?_;refine Wi (BU) ?_;simp only [VC,ĵ]
 subst Y;simp only [VC];refine Wi (uU hv) ?_;simp only [VC];by_cases e:v=i
 ·subst e
  simp only [Ť,ă];refine ⟨by decide,?_⟩;refine Wi ne_nil ?_;rw [LH];simp only [VC]
  cases Z:sub (rs.getD j []) (rs.getD p []) with
  |true=>simp only [ď,Ç,û];exact vH _ fun _=>Z
  |false=>simp only [VG,ă];exact kA rfl Z
 ·rw [ú (by simpa using e)]
  exact vH _ fun z=>(e z).elim
def Jp {rs:List (List Int)} {ds:List D} {s:aa} {p:Nat} {x:D} {e4 e5:Option D} {Q:Fl->aa->Prop} (h:dU rs) (hn:ds.length=rs.length) (hx:ds[p]?=some x) (aQ:plain x=true) (P2:∀j,j<p->∃v:Int,ds[j]?=some (.int v)) (h0:0<p->ds[0]?=some (.int 0))
  (kA:¬ mB rs (.tup ds)->Q (.rt (.bl false)) s)
  (vH:∀v e4 e5,x=.int v->(v=0\/v=1)->(p=0->v=0)->(∀j,j<p->ds[j]?=some (.int v)->sub (rs.getD j []) (rs.getD p [])=true)->Q (.nx [some (rD rs),some (.tup ds),some (.int p),some x,e4,e5]) s) :
  Wp (nG [some (rD rs),some (.tup ds),some (.int p),some x,e4,e5] s) Q:=by
 have M:p<rs.length:=by rw [<- hn];exact (È.mp hx).1
 have F:=h.hi;have no:bw [x,.ty "int"] s=ok (.bl false) s->(∀v,x≠.int v)->Wp (nG [some (rD rs),some (.tup ds),some (.int p),some x,e4,e5] s) Q:=fun q z=>by
  unfold nG;refine Wk fun R U=>?_;simp only [VC,q,VG,ă];refine kA fun g=>?_;obtain ⟨l,_,_,v,e,_⟩:=good_int g hx;exact z v e
 cases x with
 |int i =>
  unfold nG;refine Wk fun R U=>?_;simp only [VC];refine Wi (show bw [.int i,.ty "int"] s=ok (.bl true) s from rfl) ?_;simp only [VC,ď,Ç,û];refine Wi (show bw [.int i,.ty "bool"] s=ok (.bl false) s from rfl) ?_;simp only [VC,Ç,û];refine ⟨by decide,?_⟩;refine Wi (BU (ns:=[0,1])) ?_;simp only [VC];by_cases hi:i=0\/i=1
  case neg =>
   have e:(!decide (i∈[(0:Int),1]))=true:=by simpa using hi
   rw [ê e];simp only [VC,ă];refine kA fun g=>?_;obtain ⟨l,_,gl,v,e,X⟩:=good_int g hx;cases e;exact hi (gl.lR i (Ė X))
  have e:(!decide (i∈[(0:Int),1]))=false:=by rcases hi with rfl|rfl<;>decide
  rw [e];simp only [Ç,û];have L:∃z:Int,ds[0]?=some (.int z)/\(0<p->z=0)/\(p=0->z=i):=by
   by_cases q:0<p
   ·exact ⟨0,h0 q,fun _=>rfl,fun z=>by omega⟩
   ·have:p=0:=by omega
    subst this;exact ⟨i,hx,fun z=>by omega,fun _=>rfl⟩
  obtain ⟨z,N,E,K⟩:=L;refine Wi (show aZ (.tup ds) (.int (0:Nat)) s=_ from uU N) ?_;simp only [VC];by_cases T:z=0
  case neg =>
   have e:(!(z==0))=true:=by simpa using T
   rw [e];simp only [VC,ă];refine kA fun g=>?_;obtain ⟨l,_,gl,v,e,X⟩:=good_int g N;cases e;have:=gl.fst;rw [nN X] at this;exact T this
  subst T;have e:(!((0:Int)==0))=false:=rfl;rw [e];simp only [VC,Ç,û];subst U;simp only [VC];refine Wi (ka (s1:=s) (n:=p) (Wj (by simp only [VC,ĵ])) (by omega)) ?_;refine Wp.mP (fun j env S=>S=s/\(∃e4 e5,env=[some (rD rs),some (.tup ds),some (.int p),some (.int i),e4,e5])/\∀Y,Y < j->ds[Y]?=some (.int i)->sub (rs.getD Y []) (rs.getD p [])=true) _ ⟨rfl,⟨_,_,rfl⟩,fun Y J=>by omega⟩ (fun j d env S W Z=>?_) (fun env S Z=>?_)
  ·obtain ⟨rfl,⟨e4,e5,rfl⟩,Z⟩:=Z
   rw [jY] at W;split at W
   ·rename_i P
    cases W;refine ⟨[some (rD rs),some (.tup ds),some (.int p),some (.int i),some (.int j),e5],by rw [V6];rfl,?_⟩;obtain ⟨v,V⟩:=P2 j P;refine Jo h M P V (fun ev O=>?_) fun e5 O=>?_
    ·refine kA fun g=>?_
     obtain ⟨l,rfl,gl,C,e,X⟩:=good_int g hx;cases e;subst ev;rw [à] at V;obtain ⟨u,I,H⟩:=Option.map_eq_some_iff.mp V;cases H;have aQ:p<l.length:=(È.mp X).1;have:=(Dp aQ).mp (gl.may p aQ) j P (by rw [nN I,nN X]);rw [O] at this;cases this
    ·refine ⟨rfl,⟨_,_,rfl⟩,fun Y J q=>?_⟩
     by_cases G:Y=j
     ·subst G
      rw [V] at q;cases q;exact O rfl
     ·exact Z Y (by omega) q
   ·cases W
  ·obtain ⟨rfl,⟨e4,e5,rfl⟩,Z⟩:=Z
   rw [fk] at Z;exact vH i _ _ rfl hi (fun q=>(K q).symm.trans rfl) Z
 |bl b =>
  unfold nG;refine Wk fun R U=>?_;simp only [VC];refine Wi (show bw [.bl b,.ty "int"] s=ok (.bl true) s from rfl) ?_;simp only [VC,ď,Ç,û];refine Wi (show bw [.bl b,.ty "bool"] s=ok (.bl true) s from rfl) ?_;simp only [VC,ă];refine kA fun g=>?_;obtain ⟨l,_,_,v,e,_⟩:=good_int g hx;cases e
 |aq=>exact no rfl fun v z=>by cases z
 |str x=>exact no rfl fun v z=>by cases z
 |tup ds=>exact no rfl fun v z=>by cases z
 |lst ds=>exact no rfl fun v z=>by cases z
 |aV B=>exact no rfl fun v z=>by cases z
 |ay k=>simp [plain] at aQ
 |ty k=>simp [plain] at aQ
 |bu k=>simp [plain] at aQ
 |exc o=>simp [plain] at aQ
 |cg o _ _=>simp [plain] at aQ
def MQ {ds:List D} {i:Nat} {d:D} (h:(kg ds)[i]?=some d):∃x,ds[i]?=some x/\d=.tup [.int i,x]:=by
 unfold kg at h;simp only [à,List.getElem?_zipIdx] at h
 cases e:ds[i]? with
 |none=>rw [e] at h;cases h
 |some x =>
  rw [e] at h;simp at h;exact ⟨x,rfl,h.symm⟩
def MR {rs:List (List Int)} {d:D} {s:aa} (h:dU rs) (hp:plain d=true):∃b,qg [rD rs,d] s=ok (.bl b) s/\(b=true↔mB rs d):=by
 suffices q:Wp (qg [rD rs,d] s) fun x W=>∃b,(x=.bl b/\W=s)/\(b=true↔mB rs d) by
  obtain ⟨x,W,e,b,⟨rfl,rfl⟩,q⟩:=q;exact ⟨b,e,q⟩
 have w:=h.hi;have u:=h.lo;unfold qg;refine jD.symm ▸ ⟨rfl,Wk fun R P=>?_⟩;simp only [VC];refine Wi (Dm hp) ?_;rw [lY]
 cases K:wu d with
 |false =>
  simp only [VG,ă,jZ,fU,me,j9];exact ⟨false,⟨rfl,trivial⟩,by simp [Ei K]⟩
 |true =>
  cases d with
  |tup Z =>
   have J:∀x∈Z,plain x=true:=fun x=>BV (show fM Z=true from hp);simp only [ď,Ç,û];refine Wi (show bG [.tup Z] s=ok (.int Z.length) s from rfl) ?_;simp only [VC,pb];by_cases O:Z.length=rs.length
   case neg =>
    have e:(!((Z.length:Int)==(rs.length:Int)))=true:=by simp;omega
    rw [ê e];refine ⟨false,⟨rfl,trivial⟩,?_⟩;simp only [Ç,false_iff];rintro ⟨l,e,g⟩;have:=ı List.length (D.tup.inj e);rw [Í,g.len] at this;exact O this
   have e:(!((Z.length:Int)==(rs.length:Int)))=false:=by simp;omega
   rw [e];simp only [VC,Ç,û];subst P;refine Wk fun R P=>?_;rw [j4];refine Wi (show yB (ae (af 1) ah) _ s=ok (kg Z) s from rfl) ?_;have I:(kg Z).length=Z.length:=by unfold kg;simp
   refine Wp.mP (fun i env W=>W=s/\(∃e2 N T S,env=[some (rD rs),some (.tup Z),e2,N,T,S])/\(∀j,j<i->∃v:Int,Z[j]?=some (.int v)/\(v=0\/v=1))/\(0<i->Z[0]?=some (.int 0))/\∀p,p<i->∀j,j<p->Z[j]?=Z[p]?->sub (rs.getD j []) (rs.getD p [])=true) _ ⟨rfl,⟨_,_,_,_,rfl⟩,fun j Y=>by omega,fun z=>by omega,fun p hp=>by omega⟩ (fun i d env W H M=>?_) (fun env W M=>?_)
   ·obtain ⟨rfl,⟨e2,N,T,S,rfl⟩,V,U,Q⟩:=M
    obtain ⟨x,X,rfl⟩:=MQ H;refine ⟨[some (rD rs),some (.tup Z),some (.int i),some x,T,S],rfl,?_⟩
    refine Jp h O X (J x (Ė X)) (fun j Y=>let ⟨v,q,_⟩:=V j Y;⟨v,q⟩) U (fun g=>?_) fun v T S ev L G F=>?_
    ·subst P
     refine ⟨false,⟨rfl,rfl⟩,?_⟩;simp only [Ç,false_iff];exact g
    ·subst ev
     refine ⟨rfl,⟨_,_,_,_,rfl⟩,fun j Y=>?_,fun _=>?_,fun p hp j Y q=>?_⟩
     ·by_cases E:j=i
      ·subst E;exact ⟨v,X,L⟩
      ·exact V j (by omega)
     ·by_cases C:i=0
      ·subst C;rw [X,G rfl]
      ·exact U (by omega)
     ·by_cases B:p=i
      ·subst B;exact F j Y (q.trans X)
      ·exact Q p (by omega) j Y q
   ·obtain ⟨rfl,⟨e2,N,T,S,rfl⟩,V,U,Q⟩:=M
    rw [I] at V U Q;subst P;simp only [VC];refine ⟨true,⟨rfl,trivial⟩,?_⟩;simp only [true_iff];have A:Z.all b2=true:=by
     rw [õ];intro x X;obtain ⟨j,Y⟩:=VQ X;obtain ⟨v,q,L⟩:=V j (È.mp Y).1;rw [Y] at q;cases q
     rcases L with rfl|rfl<;>rfl
    obtain ⟨l,rfl,y⟩:=yn A;rw [Í] at O V U Q;have gt:∀j,j<l.length->(l.map D.int)[j]?=some (.int (l.getD j 0)):=fun j Y=>by rw [à,getD_some (d:=0) Y];rfl
    refine ⟨l,rfl,y,O,?_,fun p hp=>(Dp hp).mpr fun j Y q=>Q p hp j Y ?_⟩
    ·have:=U (by omega)
     rw [gt 0 (by omega)] at this;exact D.int.inj (Wm this)
    ·rw [gt j (by omega),gt p hp,q]
  |_=>cases K
structure iI (d:D):Prop where
 pl:plain d=true
 sh:(py d).showable=true
 dp:(py d).depth<=3
 wt:(py d).weight<=2000
 lv:(py d).leavesShort 40=true
 nd:(py d).hasDict=false\/jR (py d)=true
 ln:∀ds,d=.tup ds->ds.length<=1000
def A5 (d:D):Bool:=plain d&&(py d).showable&&decide ((py d).depth<=3)&&decide ((py d).weight<=2000)&&(py d).leavesShort 40&&(!(py d).hasDict||jR (py d))&&(match d with | .tup Z=>decide (Z.length<=1000) | _=>true)
def Ej {d:D} (h:A5 d=true):iI d:=by
 unfold A5 at h;simp only [Ë,Ú,V0,ś] at h;obtain ⟨⟨⟨⟨⟨⟨Z,Y⟩,X⟩,W⟩,V⟩,U⟩,T⟩:=h;refine ⟨Z,Y,X,W,V,U,fun S e=>?_⟩;subst e;exact ĕ T
def E3 {n W:Nat} {d:D} (h:Ft n W d) (hn:n<=3) (hw:W<=2000) (hl:∀ds,d=.tup ds->ds.length<=1000):iI d:=⟨h.pl,h.sh,ã h.dp hn,ã h.wt hw,h.lv,.inl h.nd,hl⟩
def Kj (ns:List Int):ie (bA (ns.map D.int))=true:=by
 induction ns with
 |nil=>rfl
 |cons n r ih=>rw [ç];simp only [bA,py,ie,jR,ih,Ŀ]
noncomputable def vI:List D:=[.aq,.bl true,.bl false,.int (-1),.int 8,.int 31,.int 4,.str "",.str "0",.str "made",.tup [],.lst [],.aV [],.tup [.int 0],.lst [.int 0],.int (10 ^ 29),.int (-(10 ^ 20)),.tup [.int 8]]
noncomputable def zH:List D:=[.tup [.str "made"],.tup [.int 0,.int 0],.tup [.tup [.int 0],.tup [.int 0]],.aV [(Vs "made",0)],.tup [.tup [],.tup []],.tup [.tup [.bl true],.tup []],.tup [.tup [.int 1,.int 0],.tup []],.str "made 0 0 -/-"]
def MS:(vI++zH).all A5=true:=by decide +kernel
def yo {ds:List D} {r:Int} {s:aa} (h0:0<=r) (h1:r<ds.length):∃d∈ds,aZ (.lst ds) (.int r) s=ok d s:=by
 obtain ⟨x,e,e2⟩:=Ec h0 h1;exact ⟨x,Ė e2,by simp only [aZ,ng,res,e,bI]⟩
def OF {s:aa} {k:Nat} (h:bD s k):Wp (uF [.ay k] s) fun d s'=>bD s' k/\Ex k s s'/\iI d:=by
 unfold uF;refine jD.symm ▸ ⟨rfl,?_⟩;refine ER (env':=[some (.ay k),some (.lst vI)]) (s':=s) rfl ?_;refine ER (env':=[some (.ay k),some (.lst (vI++zH))]) (s':=s) rfl ?_;simp only [jZ,fc,wp_call,c9,ek,dI,eh,fU,j9];refine (gB h (by decide) (by decide)).mono fun x Z Y=>?_;obtain ⟨r,rfl,X,W,V,ex⟩:=Y;obtain ⟨d,U,e⟩:=yo (ds:=vI++zH) (s:=Z) X W;exact Wi e ⟨V,ex,Ej (õ.mp MS d U)⟩
def LI (rs:List (List Int)):ie (bA (rs.map mD))=true:=by
 induction rs with
 |nil=>rfl
 |cons n r ih=>rw [ç];simp only [mD,bA,py,ie,jR,Kj,ih,Ŀ]
def xN {rs:List (List Int)} {d:D} {s:aa} (hr:dU rs) (h:iI d):qM [.tup [rD rs,d]] s=ok (.str (py (.tup [rD rs,d])).shown) s:=by
 have F:=OC hr;have nb:jR (py (rD rs))=true:=LI rs;generalize rD rs=B at F nb |-;have Z:=F.wt;have Y:=h.wt;have f2:=F.dp;have X:=h.dp;have lv:(py (.tup [B,d])).leavesShort 40=true:=by simp only [py.eq_5,bA,V8,VM,Bool.and_true,F.lv,h.lv]
 have l:=PyData.shown_le 40 (by decide) _ lv;have w:(py (.tup [B,d])).weight<=200000:=by
  show Wg (.tuple [py B,py d])<=200000;simp only [Wg,Ũ];omega
 have dp:(py (.tup [B,d])).depth<=10:=by
  show PyData.depth (.tuple [py B,py d])<=10;simp only [PyData.depth,Ś];omega
 have z:Ø=16777216:=ο
 show (if u0 (.tup [B,d])=true then ok (D.str (py (.tup [B,d])).shown) s else none)=_
 rw [ê];unfold u0;have e1:plain (.tup [B,d])=true:=by simp only [plain,fM,h.pl,F.pl,Bool.and_true]
 have e2:(py (.tup [B,d])).showable=true:=by
  show Vh (.tuple [py B,py d])=true;simp only [Vh,V7,F.sh,h.sh,Bool.and_true]
 rw [e1,e2,ò (show (py (.tup [B,d])).depth<=100 by omega),ò (show (py (.tup [B,d])).shown.length<=Ø by rw [z];omega)];show (true&&true&&(!(VB [py B,py d])||ie [py B,py d])&&true&&true)=true
 rcases h.nd with nd|nd
 ·simp [VB,F.nd,nd]
 ·simp [ie,nb,nd]
structure Itm (ds:List D):Prop where
 ln:ds.length<=11
 lf:∀x∈ds,Ft 0 110 x
theorem Itm.tup {ds:List D} (h:Itm ds):iI (.tup ds):=E3 (ym h.ln h.lf) (by decide) (by decide) fun Z e=>by cases e;have:=h.ln;omega
theorem Itm.lst {ds:List D} (h:Itm ds):iI (.lst ds):=E3 (OB h.ln h.lf) (by decide) (by decide) fun Z e=>by cases e
def uh {l:List Int} (h:hU l) (hl:l.length<=10):Itm (l.map D.int):=⟨by rw [Í];omega,fun x Z=>by
 obtain ⟨v,Y,rfl⟩:=ķ.mp Z
 rcases h v Y with rfl|rfl<;>exact qz (by decide) (by decide)⟩
theorem CK (rs:List (List Int)):∀k,∀l∈cz rs k,hU l
 |0,l,h=>by
  have e:l=[0]:=by simpa [cz] using h
  subst e;intro x hx;exact .inl (by simpa using hx)
 |k+1,l,h=>by
  simp only [cz,step,List.mem_flatMap,ķ,ő] at h;obtain ⟨a,Z,m,⟨Y,_⟩,rfl⟩:=h;intro x hx
  rcases æ.mp hx with hx|hx
  ·exact CK rs k a Z x hx
  ·rw [ð.mp hx];simpa using Y
noncomputable def zI:List D:=[.int (-1),.int 2,.bl true,.aq,.str "0",.bl false]
def MT:zI.all vF=true:=by decide +kernel
def Ek {l:List Int} {x:D} {i:Nat} (h:hU l) (hl:l.length<=10) (hi:i<l.length) (hx:Ft 0 110 x):Itm ((l.map D.int).take i++[x]++(l.map D.int).drop (i+1)):=by
 have q:=uh h hl;refine ⟨?_,fun y hy=>?_⟩
 ·simp only [ä,İ,ţ,Í,Ý,è];omega
 ·simp only [æ,ð] at hy
  rcases hy with (hy|rfl)|hy
  ·exact q.lf y (List.mem_of_mem_take hy)
  ·exact hx
  ·exact q.lf y (List.mem_of_mem_drop hy)
def E4 {a b:List D} {s:aa} (h:a.length+b.length<=1000000):aT (.tup a) (.tup b) s=ok (.tup (a++b)) s:=by
 show bI (if i7 a b=true then some (D.tup (a++b)) else none) s=_
 have Z:i7 a b=true:=ò (le_size h);rw [ê Z];rfl
def MU {s:aa} {k:Nat} {l:List Int} (h:bD s k) (fK:hU l) (h1:1<=l.length) (hl:l.length<=10):Wp (qf [.ay k,mD l] s) fun d s'=>bD s' k/\Ex k s s'/\iI d:=by
 have q:=uh fK hl;unfold qf;refine jD.symm ▸ ⟨rfl,Wk fun R V=>?_⟩;simp only [VC,vD];refine (gB h (m:=l.length) (by omega) (by omega)).mono fun x p Z=>?_;obtain ⟨at_,rfl,j,a1,N,M⟩:=Z;refine (gB N (by decide) (by decide)).mono fun x P Z=>?_;obtain ⟨way,rfl,_,_,L,K⟩:=Z;obtain ⟨i,rfl⟩:∃i:Nat,at_=i:=⟨at_.toNat,by omega⟩;have hi:i<l.length:=by omega
 subst V;refine Wk fun R V=>?_;simp only [j3,fc];refine Wi (show cA (ae (e1 qI (eC (.int 1))) (ae (eC (.int 2)) (ae (eC (.bl true)) (ae (eC .aq) (ae (eC (.str "0")) (ae (eC (.bl false)) ah)))))) _ P=ok (.lst zI) P from rfl) ?_;simp only [VC];refine (gB L (by decide) (by decide)).mono fun x Y Z=>?_;obtain ⟨r,rfl,U,T,S,J⟩:=Z;obtain ⟨o,I,H⟩:=yo (ds:=zI) (s:=Y) U T;have G:Ft 0 110 o:=E2 (õ.mp MT o I);refine Wi H ?_;have Q:Ex k s Y:=M.trans (K.trans J);subst V;have F:∀(s:aa) (e2 X W:Option D),cY (af 1) cX (cV (af 2)) [some (.ay k),some (mD l),some (.int (i:Int)),X,W] s=ok (.tup ((l.map D.int).take i)) s:=fun s e2 X W=>Dk (xs:=l.map D.int) (k:=i) rfl rfl (by rw [Í];omega);have E:∀(s:aa) (X W:Option D),cY (af 1) (cV (e2 aT (af 2) (eC (.int 1)))) cX [some (.ay k),some (mD l),some (.int (i:Int)),X,W] s=ok (.tup ((l.map D.int).drop (i+1))) s:=fun s X W=>Dl (xs:=l.map D.int) (k:=i+1) rfl rfl;have mid:∀(x:D) (f:Wh D) (X W:Option D) (s:aa),f [some (.ay k),some (mD l),some (.int (i:Int)),X,W] s=ok x s->(e2 aT (e2 aT (cY (af 1) cX (cV (af 2))) (bC (ae f ah))) (cY (af 1) (cV (e2 aT (af 2) (eC (.int 1)))) cX)) [some (.ay k),some (mD l),some (.int (i:Int)),X,W] s=ok (.tup ((l.map D.int).take i++[x]++(l.map D.int).drop (i+1))) s:=fun x f X W s C=>by
  refine Wj ?_;rw [fc,fc];refine Wi (F s none X W) ?_;rw [qt,c9,C,aY,ek];refine ⟨le_size (n:=1) (by decide),?_⟩;refine Wi (E4 (by simp only [İ,Í,Ý,è];omega)) ?_;refine Wi (E s X W) ?_;exact Wi (E4 (by simp only [ä,İ,ţ,Í,Ý,è];omega)) ⟨rfl,rfl⟩
 refine Wk fun R V=>?_;simp only [j8,j7,fc,dI,eh,fU,kW,jr];split
 ·rw [jZ,fc]
  have B:(cA (ae (cY (af 1) (cV (eC (.int 1))) cX) (ae (e2 aT (af 1) (bC (ae (eC (.int 0)) ah))) (ae (eB mw (ae (af 1) ah)) (ae (e2 aT (e2 aT (cY (af 1) cX (cV (af 2))) (bC (ae (af 4) ah))) (cY (af 1) (cV (e2 aT (af 2) (eC (.int 1)))) cX)) ah))))) [some (.ay k),some (mD l),some (.int (i:Int)),some (.int way),some o] Y=ok (.lst [.tup ((l.map D.int).drop 1),mD (l++[0]),.lst (l.map D.int),.tup ((l.map D.int).take i++[o]++(l.map D.int).drop (i+1))]) Y:=by
   refine Wj ?_;have A:=mid o (af 4) (some (.int way)) (some o) Y rfl;rw [n5,c9];refine Wi (Dl (xs:=l.map D.int) (k:=1) rfl rfl) ?_;rw [c9];refine Wi (show (e2 aT (af 1) (bC (ae (eC (.int 0)) ah))) [some (.ay k),some (mD l),some (.int (i:Int)),some (.int way),some o] Y=ok (mD (l++[0])) Y from Wj (by
    simp only [VC];exact ⟨by decide,Wi (show aT (mD l) (mD [0]) Y=_ from FP (by simp only [Ý,è];omega)) ⟨rfl,rfl⟩⟩)) ?_
   rw [c9];refine Wi (show (eB mw (ae (af 1) ah)) [some (.ay k),some (mD l),some (.int (i:Int)),some (.int way),some o] Y=ok (.lst (l.map D.int)) Y from rfl) ?_;rw [c9];refine Wi A ?_;rw [ek];exact ⟨le_size (n:=4) (by decide),rfl,rfl⟩
  refine Wi B ?_;simp only [wp_call,c9,ek,dI,fU];refine (gB S (by decide) (by decide)).mono fun x w Z=>?_;obtain ⟨r,rfl,U,T,u,t⟩:=Z;obtain ⟨y,O,e⟩:=yo (ds:=[.tup ((l.map D.int).drop 1),mD (l++[0]),.lst (l.map D.int),.tup ((l.map D.int).take i++[o]++(l.map D.int).drop (i+1))]) (s:=w) U T;refine Wi e ?_;rw [me,j9];refine ⟨u,Q.trans t,?_⟩;simp only [Ö,Ģ,or_false] at O
  rcases O with rfl|rfl|rfl|rfl
  ·exact Itm.tup ⟨by rw [ţ,Í];omega,fun x Z=>q.lf x (List.mem_of_mem_drop Z)⟩
  ·refine Itm.tup ⟨by rw [Í,ä];simp;omega,fun x Z=>?_⟩
   obtain ⟨v,hv,rfl⟩:=ķ.mp Z
   rcases æ.mp hv with hv|hv
   ·exact q.lf _ (List.mem_map_of_mem hv)
   ·rw [ð.mp hv];exact qz (by decide) (by decide)
  ·exact q.lst
  ·exact (Ek fK hl hi G).tup
 ·rw [lZ,iS]
  subst V;refine Wk fun R V=>?_;simp only [j8,j7,fc,dI,eh,fU,kW,jr];split
  ·simp only [VC]
   refine Wi (nH (ds:=l.map D.int) rfl) ⟨le_size (by rw [Í];omega),?_⟩;refine Wi (tw (fun _=>true) (fun n=>D.int (1-n)) l fun n g=>⟨[some (.int n)],rfl,rfl,fun _=>rfl⟩) ?_;rw [filter_tt];refine Wi (show fm [.lst (l.map fun n=>D.int (1-n))] Y=ok (.tup (l.map fun n=>D.int (1-n))) Y from rfl) ?_;refine ⟨S,Q,Itm.tup ⟨by rw [Í];omega,fun x Z=>?_⟩⟩;obtain ⟨v,hv,rfl⟩:=ķ.mp Z
   rcases fK v hv with rfl|rfl<;>exact qz (by decide) (by decide)
  ·rw [lZ,iS]
   subst V;rw [jZ];have Z:Ft 0 110 (.int (1-l.getD i 0)):=by
    rcases fK _ (Ė (getD_some (d:=0) hi)) with z|z<;>rw [z]<;>exact qz (by decide) (by decide)
   refine Wi (mid (.int (1-l.getD i 0)) (e2 iX (eC (.int 1)) (e2 aZ (af 1) (af 2))) (some (.int way)) (some o) Y (Wj ?_)) ?_
   ·simp only [VC]
    refine Wi (pQ hi) ?_;simp only [VC,ĵ]
   ·rw [j9]
    exact ⟨S,Q,(Ek fK hl hi Z).tup⟩
theorem wX:∀(xs:List (List Int)) (x:List Int),jE x xs∈x::xs
 | [],x=>by simp [jE]
 |z::xs,x=>by
  rw [jE];split
  ·exact Ï _ (wX xs z)
  ·rcases Ö.mp (wX xs x) with h|h
   ·rw [h];exact Ô
   ·exact Ï _ (Ï _ h)
def MV {n:Nat} {b:Bool} {s:aa}:cQ.hW (n+1) [.bl b,.bl b] s=ok (.bl true) s:=by
 refine Wj ?_;unfold cQ.hW;simp only [VC];refine Wi (show oU (.bl b) s=ok (.bl false) s from rfl) ?_;simp only [VC,Ç,û];refine Wi (show bw [.bl b,.ty "bool"] s=ok (.bl true) s from rfl) ?_;refine Wi (show bw [.bl b,.ty "bool"] s=ok (.bl true) s from rfl) ?_;refine Wi (show bZ (.bl true) (.bl true) s=ok (.bl true) s from rfl) ?_;simp only [VC,ă]
 refine Wi (show bZ (.bl b) (.bl b) s=ok (.bl true) s from by cases b<;>rfl) ?_
 exact ⟨rfl,rfl⟩
def Kk {rs:List (List Int)} {d:D} {b:Bool} {s:aa} (h:dU rs) (e:iM [rD rs,d] s=ok (.bl b) s):sW [rD rs,d] s=ok (.bl b) s:=by
 refine Wj ?_;unfold sW;simp only [VC,ug h];exact Wi e ⟨rfl,rfl⟩
def MW {rs:List (List Int)} {l:List Int} {s:aa} (h:dU rs) (e:iM [rD rs,mD l] s=ok (.bl true) s) (hl:l.length<=1000):jo [rD rs,mD l] s=ok (.lst ((brk l).map D.int)) s:=by
 refine Wj ?_;unfold jo;simp only [VC,ug h];refine Wi e ?_;simp only [VC,ď,Ç,û];exact Wi (Cj hl) ⟨rfl,rfl⟩
def OG {rs:List (List Int)} {d:D} {s:aa} (h:dU rs) (e:iM [rD rs,d] s=ok (.bl false) s):jo [rD rs,d] s=some (.error ⟨"NoLaying",none⟩,s):=by
 have e1:(jy (aK lT (ae (af 0) ah))) [some (rD rs),some d] s=ok (.nx [some (rD rs),some d]) s:=by
  refine Wj ?_;simp only [VC,ug h,ĵ]
 have e2:(fQ (eD (aK iM (ae (af 0) (ae (af 1) ah))))) [some (rD rs),some d] s=ok true s:=by
  refine Wj ?_;simp only [VC];refine Wi e ?_;simp only [VC,VG,ĵ]
 unfold jo aS;show aj (aB _ _ [some (rD rs),some d] s) _=_;unfold aB;rw [e1];show aj (aj (bT _ _ _ [some (rD rs),some d] s) _) _=_;unfold bT;rw [e2];rfl
def Jq {rs:List (List Int)} {d:D} {s:aa} {e0 e1 e2 e4 e5 e6 e7 e9 bJ bK:Option D} (h:dU rs) (e:iM [rD rs,d] s=ok (.bl false) s) (h0:s[0]?=some (.tb "law")) :
  rm "law" [3,8] (nZ jo (ae (af 0) (ae (af 1) ah))) iL [e0,e1,e2,some (rD rs),e4,e5,e6,e7,some d,e9,bJ,bK] s=ok (.str "laying") s:=by
 have q:(nZ jo (ae (af 0) (ae (af 1) ah))) [some (rD rs),some d] s=some (.error ⟨"NoLaying",none⟩,s):=OG h e;unfold rm;rw [show lj [e0,e1,e2,some (rD rs),e4,e5,e6,e7,some d,e9,bJ,bK] [3,8]=some [rD rs,d] from rfl];dsimp only;rw [h0];dsimp only;rw [ê (ò rfl)];rw [xJ (cl:=.aq) (th:=(nZ jo (ae (af 0) (ae (af 1) ah))) (List.map some [rD rs,d])) q];rfl
def P4 {l:List Int} {s:aa}:bG [.lst (l.map D.int)] s=ok (.int l.length) s:=by
 show ok (D.int ((l.map D.int).length:Nat)) s=_;rw [Í]
def MX {fa:Wh (List D)} {env:Env} {s s1:aa} {xs ys:List D} (h:fa env s=ok [.lst xs,.lst ys] s1):qP fa env s=ok (fy xs ys) s1:=by
 unfold qP;rw [h];rfl
def same_int' {n:Nat} {i:Int} {s:aa}:cQ.hW (n+1) [.int i,.int i] s=ok (.bl true) s:=by
 refine Wj ?_;unfold cQ.hW;simp only [VC];refine Wi (show oU (.int i) s=ok (.bl false) s from rfl) ?_;simp only [VC,Ç,û];refine Wi (show bw [.int i,.ty "bool"] s=ok (.bl false) s from rfl) ?_;refine Wi (show bw [.int i,.ty "bool"] s=ok (.bl false) s from rfl) ?_;refine Wi (show bZ (.bl false) (.bl false) s=ok (.bl true) s from rfl) ?_;simp only [VC,ă,Ť,ĵ]
def same_ints {n:Nat} {l:List Int} {s:aa} (hl:l.length<=1000):cQ.hW (n+2) [.lst (l.map D.int),.lst (l.map D.int)] s=ok (.bl true) s:=by
 refine Wj ?_;unfold cQ.hW;simp only [VC];refine Wi (show oU ((.lst (l.map D.int))) s=ok (.bl true) s from rfl) ?_;simp only [VC,ă];refine Wi (show bw [(.lst (l.map D.int)),.ty "tuple"] s=ok (.bl false) s from rfl) ?_;refine Wi (show bw [(.lst (l.map D.int)),.ty "tuple"] s=ok (.bl false) s from rfl) ?_;refine Wi (show dh (.bl false) (.bl false) s=ok (.bl false) s from rfl) ?_;simp only [VC,Ç,û];refine Wi (show bw [(.lst (l.map D.int)),.ty "list"] s=ok (.bl true) s from rfl) ?_;refine Wi (show bw [(.lst (l.map D.int)),.ty "list"] s=ok (.bl true) s from rfl) ?_;refine Wi (show dh (.bl true) (.bl true) s=ok (.bl false) s from rfl) ?_;simp only [VC,Ç,û,P4,Ť,ă];refine Wi (MX rfl) ⟨le_size (by rw [xb];simp only [Í];omega),?_⟩;rw [Cg];refine Wi (comp_map (fun p:Int×Int=>D.tup [.int p.1,.int p.2]) (fun _=>true) (fun p=>.bl true) _ fun p Y=>⟨[some (.int p.1),some (.int p.2)],rfl,rfl,fun _=>?_⟩) ?_
 ·have e:p.1=p.2:=by
   obtain ⟨i,hi⟩:=VQ Y;obtain ⟨X,Z⟩:=η.mp hi;rw [X] at Z;exact Wm Z
  refine Wj ?_;simp only [VC,e,same_int',ĵ]
 ·rw [filter_tt]
  exact Wi (kP (fun _=>true) _ _) ⟨by simp,rfl⟩
def Jr {rs:List (List Int)} {d:D} {s:aa} {e0 e1 e2 e4 e5 e6 e7 e9 bJ bK:Option D} {Q:Fl->aa->Prop} (h:dU rs) (hd:iI d) (h0:s[0]?=some (.tb "law"))
  (hQ:∀e9 bJ bK,Q (.nx [e0,e1,e2,some (rD rs),e4,e5,e6,e7,some d,e9,bJ,bK]) s) :
  Wp (yg [e0,e1,e2,some (rD rs),e4,e5,e6,e7,some d,e9,bJ,bK] s) Q:=by
 have S:=h.hi;have P:=h.lo;obtain ⟨b,Y,W⟩:=MP (s:=s) h hd.pl hd.ln;obtain ⟨g,V,X⟩:=MR (s:=s) h hd.pl;have U:g=b:=by rw [ŕ,X,W]
 subst U;unfold yg;refine Wk fun R Z=>?_;simp only [VC];refine ⟨by decide,?_⟩;refine Wi (xN h hd) ?_;refine Wi V ?_;subst Z;refine Wk fun R Z=>?_;simp only [VC];refine Wi (Kk h Y) ?_;refine Wi (MV (n:=7)) ?_;simp only [VC,ď,Ç,û];subst Z;refine Wk fun R Z=>?_;rw [j8];simp only [qv,dI,eh,lY]
 cases g with
 |true =>
  obtain ⟨l,rfl,gl⟩:=X.mp rfl;have T:=gl.len;rw [ê rfl];simp only [VC];refine Wi (FQ (rs:=l.length) (s:=s) (Wj (by simp only [VC,pb,T,ĵ])) (by omega)) ⟨le_size (by rw [fk];omega),?_⟩;refine Wi (CJ (nt:=1) (by omega)) ?_;refine Wi (MW h Y (by omega)) ?_;refine Wi (same_ints (n:=6) (by unfold brk;rw [Í];exact ã (List.length_filter_le _ _) (by rw [List.length_range];omega))) ?_;simp only [VC,ď,Ç,û];subst Z;simp only [VC];refine ⟨by decide,?_⟩;refine Wi (xN h hd) ?_;refine Wi ne_str ?_;simp only [VC,Ç,û];exact hQ _ _ _
 |false =>
  rw [ú Ñ];rw [j8,j7,fc];refine Wi (Jq h Y h0) ?_;rw [fU];refine Wi ne_str ?_;simp only [VC,Ç,û];subst Z;simp only [VC];refine ⟨by decide,?_⟩;refine Wi (xN h hd) ?_;refine Wi ne_str ?_;simp only [VC,Ç,û];exact hQ _ _ _
def Kl {s:aa} {k j:Nat} {l:List Int} {rs:List (List Int)} {told:D} {ds:List D} {e0 e1 e7 e8 e9 bJ bK:Option D} {Q:Fl->aa->Prop} (h:bD s k) (hj:s[j]?=some (.lst ds)) (T7:j≠k) (jf:ds.length<=100) (fK:hU l) (h1:1<=l.length) (hl:l.length<=10) (ht:told=.aq\/∃t,told=mD t/\hU t/\1<=t.length/\t.length<=10)
  (hQ:∀d s',iI d->bD s' k->Ex k s s'->Q (.nx [e0,e1,some (.ay k),some (rD rs),some (mD l),some told,some (.ay j),e7,e8,e9,bJ,bK]) (s'.set j (.lst (ds++[d])))) :
  Wp (yf [e0,e1,some (.ay k),some (rD rs),some (mD l),some told,some (.ay j),e7,e8,e9,bJ,bK] s) Q:=by
 unfold yf;simp only [qc,qy,dI,eh,wp_call,c9,ek,qx,qw,j7,fc,fU];refine ⟨by unfold lB;simp only [hj],?_⟩;have fin:∀t Z,hU t->1<=t.length->t.length<=10->bD Z k->Ex k s Z->Wp (qf [.ay k,mD t] Z) fun x W=>Wp (mK (.ay j) x W) fun _ S=>Q (.nx [e0,e1,some (.ay k),some (rD rs),some (mD l),some told,some (.ay j),e7,e8,e9,bJ,bK]) S:=fun t Z V t1 U X Y=>by
  refine (MU X V t1 U).mono fun d W R=>?_;obtain ⟨P,T,O⟩:=R;refine Wi (xM ((Y.trans T).get hj T7) (by omega)) ?_;exact hQ d W O P (Y.trans T)
 rcases ht with rfl | ⟨t,rfl,V,t1,U⟩
 ·refine Wi (show qK .aq .aq s=ok (.bl true) s from rfl) ?_
  simp only [jr,ă,dI,eh];exact fin l s fK h1 hl h (Ex.refl _ _)
 ·refine Wi (show qK (mD t) .aq s=ok (.bl false) s from rfl) ?_
  simp only [jr,Ç,û];refine (gB h (by decide) (by decide)).mono fun x Z N=>?_;obtain ⟨r,rfl,_,_,X,Y⟩:=N;simp only [kW,jr];split
  ·exact fin l Z fK h1 hl X Y
  ·exact fin t Z V t1 U X Y
def MY {rs:List (List Int)} (h:dU rs):u9 (cz rs (rs.length-1))=.aq\/∃t,u9 (cz rs (rs.length-1))=mD t/\hU t/\1<=t.length/\t.length<=10:=by
 have X:=h.hi;have W:=h.lo
 cases e:cz rs (rs.length-1) with
 |nil=>exact .inl rfl
 |cons x Z =>
  refine .inr ⟨jE x Z,rfl,?_⟩;have Y:jE x Z∈cz rs (rs.length-1):=by rw [e];exact wX Z x
  have:=sX rs _ _ Y;exact ⟨CK rs _ _ Y,by omega,by omega⟩
def Km {s:aa} {k:Nat} (h:bD s k) (n:Nat):Wp (dq 1 [some (.ay k)] (gN 0) fG (aK lW (ae (af 1) (ae (eC (.int 3)) ah))) (bV 0 n) s) fun xs s'=>∃rs:List (List Int),xs=rs.map mD/\rs.length=n/\(∀r∈rs,ck 8 r)/\bD s' k/\Ex k s s':=by
 refine xH (fun i Z s'=>∃rs:List (List Int),Z=rs.map mD/\rs.length=i/\(∀r∈rs,ck 8 r)/\bD s' k/\Ex k s s') (bV 0 n) ⟨[],rfl,rfl,fun r hr=>(by cases hr),h,Ex.refl _ _⟩ (fun i d Z s' Y X=>?_) fun Z s' X=>?_
 ·obtain ⟨rs,rfl,W,V,U,ex⟩:=X
  rw [jY] at Y;split at Y
  ·cases Y
   refine ⟨[some (.int (0+i)),some (.ay k)],rfl,?_⟩;refine Wi (show fG _ s'=ok true s' from rfl) ?_;rw [ê rfl];simp only [wp_call,c9,ek,dI,eh,fU];refine (xn (n:=3) U (by decide)).mono fun d P Y=>?_;obtain ⟨T,rfl,S,R,Q⟩:=Y;refine ⟨rs++[T],by simp,by simp [W],fun r hr=>?_,R,ex.trans Q⟩
   rcases æ.mp hr with hr|hr
   ·exact V r hr
   ·rw [ð.mp hr];exact S.A4 (by decide)
  ·cases Y
 ·rw [fk] at X
  exact X
def LJ {ns:List Int} {s:aa} {i:Nat} {e2 e3 e4 e5 e6 e7 e8 e9 bJ bK:Option D} {Q:Fl->aa->Prop} (h0:s[0]?=some (.tb "law"))
  (hQ:∀e2 e3 e4 e5 e6 e7 e8 e9 bJ bK s',s'[0]?=some (.tb "law")->Q (.nx [some (.bu ns),some (.int i),e2,e3,e4,e5,e6,e7,e8,e9,bJ,bK]) s') :
  Wp (yh [some (.bu ns),some (.int i),e2,e3,e4,e5,e6,e7,e8,e9,bJ,bK] s) Q:=by
 have h:0<s.length:=(È.mp h0).1;unfold yh;refine Wk fun R W=>?_;simp only [j3,mz,wp_call,c9,ek,dI,eh,Ĭ,ĭ];refine (Ly (by omega)).mono fun d s1 Y=>?_;obtain ⟨rfl,L,C,rfl⟩:=Y;have T:(0:Nat)≠s.length:=by omega
 have g1:(s++[C])[0]?=some (.tb "law"):=by rw [Û h];exact h0
 generalize s++[C]=S1 at L g1;generalize s.length=k at L T;rw [iS];subst W;refine Wk fun R W=>?_;simp only [j3,wp_call,c9,ek,dI,eh];refine (LD L).mono fun d P Y=>?_;obtain ⟨Z,l,rfl,K,B,AG,g,f⟩:=Y;have g2:=f.get g1 T;refine ⟨[some (.bu ns),some (.int i),some (.ay k),some (rD Z),some (mD l),e5,e6,e7,e8,e9,bJ,bK],rfl,?_⟩;rw [iS];subst W;have c:=K.hi;have b:=K.lo;refine Wk fun R W=>?_;simp only [j8,j7,fc,wp_call,c9,ek,dI,eh,fU];refine (gB g (by decide) (by decide)).mono fun x A hx=>?_;obtain ⟨r,rfl,_,_,z,a⟩:=hx;have g3:=a.get g2 T;simp only [kW,jr];have rest:∀(Z:List (List Int)) (V:aa),dU Z->Z.length=l.length->bD V k->V[0]?=some (.tb "law")->pP R Q (.nx [some (.bu ns),some (.int i),some (.ay k),some (rD Z),some (mD l),e5,e6,e7,e8,e9,bJ,bK]) V:=fun Z V S TU J g4=>by
  have c:=S.hi;have b:=S.lo;rw [iS];subst W;refine Wk fun R W=>?_;simp only [qh,c9,ek,wp_call,dI,eh,qu];refine Wi (MO S) ?_;refine (OF J).mono fun d s5 Y=>?_;obtain ⟨y,x5,I⟩:=Y;refine ⟨le_size (n:=2) (by decide),_,_,rfl,?_⟩;simp only [Ĭ,ĭ];have w:=x5.get g4 T;have l5:0<s5.length:=(È.mp w).1;have v:=y.app [.lst [mD l,d]];have kl:=y.lt;have u:(s5++[.lst [mD l,d]])[0]?=some (.tb "law"):=by rw [Û l5];exact w
  have H:(s5++[.lst [mD l,d]])[s5.length]?=some (.lst [mD l,d]):=by simp
  have q:(0:Nat)≠s5.length:=by omega
  have O:s5.length≠k:=by omega
  generalize s5++[.lst [mD l,d]]=S6 at v u H;generalize s5.length=j at H q O;have G:=MY S;generalize u9 (cz Z (Z.length-1))=told at G;have tt:iI told:=by
   rcases G with rfl | ⟨t,rfl,sL,_,tl⟩
   ·exact Ej (by decide +kernel)
   ·exact (uh sL tl).tup
  rw [iS];subst W;refine Wk fun R W=>?_;rw [j4];refine Wi (ka (n:=8) rfl (by decide)) ?_;refine Wp.mP (fun m env s'=>∃X e7,env=[some (.bu ns),some (.int i),some (.ay k),some (rD Z),some (mD l),some told,some (.ay j),e7,e8,e9,bJ,bK]/\bD s' k/\s'[0]?=some (.tb "law")/\s'[j]?=some (.lst X)/\X.length=2+m/\∀x∈X,iI x) _ ⟨[mD l,d],_,rfl,v,u,H,rfl,fun x hx=>?_⟩ (fun m d env s' Y U=>?_) (fun env s' U=>?_)
  ·simp only [Ö,Ģ,or_false] at hx
   rcases hx with rfl|rfl
   ·exact (uh B (by omega)).tup
   ·exact I
  ·obtain ⟨X,e7,rfl,p,N,M,dl,F⟩:=U
   rw [jY] at Y;split at Y
   ·rename_i hm
    cases Y;refine ⟨_,rfl,?_⟩;refine Kl p M O (by omega) B (by omega) (by omega) G fun d s8 I T9 o=>?_;have jl:j<s8.length:=(È.mp (o.get M O)).1;refine ⟨X++[d],_,rfl,T9.set O _,by rw [Ü (Œ q)];exact o.get N T,é jl,by rw [ä,dl];rfl,fun x hx=>?_⟩
    rcases æ.mp hx with hx|hx
    ·exact F x hx
    ·rw [ð.mp hx];exact I
   ·cases Y
  ·obtain ⟨X,e7,rfl,p,N,M,dl,F⟩:=U
   subst W;rw [iS,j4];refine Wi (show fx (DI.e2 aT (af 6) (cA (ae (af 5) ah))) [some (.bu ns),some (.int i),some (.ay k),some (rD Z),some (mD l),some told,some (.ay j),e7,e8,e9,bJ,bK] s'=ok (X++[told]) s' from CH (Wj ?_)) ?_
   ·simp only [fc,dI,eh,n5,c9,ek]
    refine ⟨le_size (n:=1) (by decide),?_⟩;have hf:i7 X [told]=true:=ò (le_size (by rw [Ý,è];rw [fk] at dl;omega));refine Wi (show aT (.ay j) (.lst [told]) s'=ok (.lst (X++[told])) s' from ?_) ⟨rfl,rfl⟩;unfold aT;have e:res (.ay j) s'=.lst X:=by unfold res;simp only [M]
    rw [e]
    show bI (if i7 X [told]=true then some (D.lst (X++[told])) else none) s'=_
    rw [ê hf];rfl
   ·refine Wp.mP (fun m env P=>P=s'/\∃e8 e9 bJ bK,env=[some (.bu ns),some (.int i),some (.ay k),some (rD Z),some (mD l),some told,some (.ay j),e7,e8,e9,bJ,bK]) _ ⟨rfl,_,_,_,_,rfl⟩ (fun m d env P Y U=>?_) (fun env P U=>?_)
    ·obtain ⟨rfl,e8,e9,bJ,bK,rfl⟩:=U
     have tx:iI d:=by
      have:=Ė Y
      rcases æ.mp this with hx|hx
      ·exact F d hx
      ·rw [ð.mp hx];exact tt
     refine ⟨_,rfl,?_⟩;exact Jr S tx N fun e9 bJ bK=>⟨rfl,_,_,_,_,rfl⟩
    ·obtain ⟨rfl,e8,e9,bJ,bK,rfl⟩:=U
     exact hQ _ _ _ _ _ _ _ _ _ _ _ N
 split
 ·simp only [j3,mz,qU,c9,ek,qi,Ĭ,ĭ]
  refine Wi (ka (s1:=A) (n:=Z.length) (Wj (by simp only [VC,pb,ĵ])) (by omega)) ⟨le_size (by rw [fk];omega),?_⟩;refine (Km z Z.length).mono fun xs V hx=>?_;obtain ⟨E,rfl,v7,Ua,J,x4⟩:=hx;refine Wi (show fm [.lst (E.map mD)] V=ok (rD E) V from rfl) ?_;exact rest E V ⟨by omega,by omega,Ua⟩ (by omega) J (x4.get g3 T)
 ·rw [lZ]
  exact rest Z A K (by omega) z g3
def LK (ns:List Int) (hn:ns.length<=63):∃s,cQ.u5 [.bu ns] [.tb "law"]=some (.ok (.bl true),s):=by
 suffices h:Wp (cQ.u5 [.bu ns] [.tb "law"]) fun d _=>d=.bl true by
  obtain ⟨d,s,e,rfl⟩:=h;exact ⟨s,e⟩
 unfold cQ.u5;refine jD.symm ▸ ⟨rfl,Wk fun R M=>?_⟩;rw [j4];have O:∃n:Nat,fH (ae (eB mv (ae (eC (.int 1)) (ae (eB qL (ae (eB bG (ae (af 0) ah)) (ae (eC (.int 5)) ah))) ah))) ah) [some (.bu ns),none,none,none,none,none,none,none,none,none,none,none] [.tb "law"]=ok (bV 0 n) [.tb "law"]:=by
  have e:∃n:Nat,n<=1000/\(ae (eB mv (ae (eC (.int 1)) (ae (eB qL (ae (eB bG (ae (af 0) ah)) (ae (eC (.int 5)) ah))) ah))) ah) [some (.bu ns),none,none,none,none,none,none,none,none,none,none,none] [.tb "law"]=ok [.int n] [.tb "law"]:=by
   refine ⟨(if (if (5:Int)<ns.length then (5:Int) else ns.length) > 1 then (if (5:Int)<ns.length then (5:Int) else ns.length) else 1).toNat,by split<;>split<;>omega,?_⟩
   rw [Int.toNat_of_nonneg (by split<;>split<;>omega)]
   rfl
  obtain ⟨n,J,L⟩:=e;exact ⟨n,ka L (by omega)⟩
 obtain ⟨n,O⟩:=O;refine Wi O ?_;refine Wp.mP (fun i env s=>s[0]?=some (.tb "law")/\∃e1 e2 Z Y X W V U T S Q,env=[some (.bu ns),e1,e2,Z,Y,X,W,V,U,T,S,Q]) _ ⟨rfl,_,_,_,_,_,_,_,_,_,_,_,rfl⟩ (fun i d env s P N=>?_) (fun env s N=>?_)
 ·obtain ⟨g,e1,e2,Z,Y,X,W,V,U,T,S,Q,rfl⟩:=N
  rw [jY] at P;split at P
  ·cases P
   refine ⟨_,rfl,?_⟩;rw [V6];exact LJ g fun e2 Z Y X W V U T S Q I K=>⟨K,_,_,_,_,_,_,_,_,_,_,_,rfl⟩
  ·cases P
 ·obtain ⟨g,e1,e2,Z,Y,X,W,V,U,T,S,Q,rfl⟩:=N
  subst M;simp only [VC]
end DI
end
namespace DI.cQ
open PySem L2 DI
noncomputable def P5:List Str:=["NoMarks","NoSheet","NoPage","NoBook","NoMould","NoDay","NoSort","NoNumber","NoSheets","NoRun","NoLaying","NoHeap","NoCount","Clash","NoDeed","NoText","NoRow","TooMany","Lacking"]
def Df (K:Ĉ) (x:Str) (st:Wc):Prop:=∃(f:Ó) (Z:Ä) (Y:Option Ó) (X:Array (Option Ä)) (kV W pm:Ä) (an:Option Ó) (cd V:Ä),í K Ò x=some (some (.ref f))/\K.lookup f=some ⟨Z,Y,.func (Ş x x (lX st) (gw st) (cm st) .none kV W pm an cd V),X⟩/\VE K cd x=true/\Ĵ K (.ref f)=true
def P6 {K:Ĉ} {x:Str} {st:Wc} {f:Ó} {oc:Ä} {od:Option Ó} {sl:Array (Option Ä)} {kV dc pm:Ä} {an:Option Ó} {cd ct:Ä} (a:í K Ò x=some (some (.ref f))) (l:K.lookup f=some ⟨oc,od,.func (Ş x x (lX st) (gw st) (cm st) .none kV dc pm an cd ct),sl⟩) (c:VE K cd x=true) (k:Ĵ K (.ref f)=true):Df K x st:=⟨f,oc,od,sl,kV,dc,pm,an,cd,ct,a,l,c,k⟩
def yM {K:Ĉ} {x:Str} {i:Int} {t:Tok} (e:í K Ò x=some (some (.int i t))):∃t,í K Ò x=some (some (.int i t)):=⟨t,e⟩
def cw {K:Ĉ} {h:Į} {mg:Str->Option Ä} {x:Str} {st:Wc} {ps:List Str} (X:K.In h) (G:h.Ns Ò mg) (D:Df K x st) (hb:∀(kV doc pm:Ä) (an:Option Ó) (ba ct:Ä) (us:List Ä),us.length=ps.length->bindArgs (Ş x x (lX st) (gw st) (cm st) .none kV doc pm an ba ct) ⟨us,[]⟩=pure (ps.zip us)):∃f fd,Gd K mg x st ps f fd:=by
 obtain ⟨f,Z,Y,W,kV,V,pm,an,cd,ct,a,l,c,k⟩:=D;have F:=DA (st:=st) l c k;exact ⟨f,_,Ż X G a,F,F.binds hb⟩
def fP {P:List Ä->Prop} (h:∀a0:Ä,P [a0]) (us:List Ä) (hl:us.length=1):P us:=by
 cases us with
 |nil=>simp at hl
 |cons a0 Z =>
 cases Z with
 |cons _ _=>simp at hl
 |nil =>
 exact h a0
def gF {P:List Ä->Prop} (h:∀a0 a1:Ä,P [a0,a1]) (us:List Ä) (hl:us.length=2):P us:=by
 cases us with
 |nil=>simp at hl
 |cons a0 Z =>
 cases Z with
 |nil=>simp at hl
 |cons a1 Y =>
 cases Y with
 |cons _ _=>simp at hl
 |nil =>
 exact h a0 a1
def P7 {P:List Ä->Prop} (h:∀a0 a1 a2:Ä,P [a0,a1,a2]) (us:List Ä) (hl:us.length=3):P us:=by
 cases us with
 |nil=>simp at hl
 |cons a0 Z =>
 cases Z with
 |nil=>simp at hl
 |cons a1 Y =>
 cases Y with
 |nil=>simp at hl
 |cons a2 X =>
 cases X with
 |cons _ _=>simp at hl
 |nil =>
 exact h a0 a1 a2
def all_mk {P:á} {w:Ą} {K:Ĉ} {h:Į} {mg:Str->Option Ä} {fa:Ó} (X:K.In h) (G:h.Ns Ò mg) (Uc:mg "law"=some (.ref fa))
  (d0:Df K "_law_cell_at" (top 44))
  (d1:Df K "_law_state" (top 45))
  (d2:Df K "_law_take" (top 46))
  (d3:Df K "_law_marks" (top 51))
  (d4:Df K "_law_grown" (top 53))
  (d5:Df K "breaks_in" (top 41))
  (d6:Df K "by_breaks" (top 42))
  (d7:Df K "is_rising" (top 26))
  (d8:Df K "is_number" (top 23))
  (d9:Df K "is_below" (top 24))
  (Ba:Df K "is_mark" (top 25))
  (Bb:Df K "are_marks" (top 28))
  (Bc:Df K "are_laid_marks" (top 30))
  (Bd:Df K "need_run" (top 37))
  (Be:Df K "has_all" (top 29))
  (Bf:Df K "may_lay" (top 39))
  (Bg:Df K "layings" (top 40))
  (Bh:Df K "best_laying" (top 36))
  (Bi:Df K "_law_odd" (top 50))
  (Bj:Df K "_law_bent" (top 54))
  (Bk:Df K "_law_good" (top 55))
  (Bl:Df K "_law_same" (top 49))
  (Bm:Df K "is_laid" (top 38))
  (Bn:Df K "is_laying" (top 34))
  (Bo:Df K "_law_kinds" (top 47))
  (Bp:Df K "breaks_of" (top 35))
  (Bq:Df K "_law_refused" (top 48))
  (dl:Df K "law" (top 56))
  (xO:∃t,í K Ò "MARKS"=some (some (.int (8) t)))
  (yN:∃t,í K Ò "RUN"=some (some (.int (10) t)))
  (xP:∃t,í K Ò "TWINS"=some (some (.int (2) t)))
  (wz:í K Ò "ValueError"=some none)
  (yO:í K Ò "all"=some none)
  (yp:í K Ò "bool"=some none)
  (wG:í K Ò "enumerate"=some none)
  (yP:í K Ò "int"=some none)
  (wA:í K Ò "isinstance"=some none)
  (yQ:í K Ò "len"=some none)
  (yq:í K Ò "list"=some none)
  (yR:í K Ò "max"=some none)
  (yS:í K Ò "min"=some none)
  (xQ:í K Ò "range"=some none)
  (yr:í K Ò "repr"=some none)
  (yT:í K Ò "set"=some none)
  (xo:í K Ò "sorted"=some none)
  (xR:í K Ò "tuple"=some none)
  (yU:í K Ò "zip"=some none)
  (xf:jw K bc P5 "MouldError"=true) (tf:ye K "law"=true)
  : ∃(c T:Ó) (fd:ė),We K "law"=some (c,T)/\K.lookup T=none/\(∀(s:Ã) (v:Ä),BindsTo s fd ⟨[v],[]⟩ [(Wo,v)])/\∀base:Į,K.In base->base.Ns Ò mg->base.BuiltinsAt mg T->bN P w K mg base cH 10 fa fd [Wo] (uE K T):=by
 have Y:=cw (ps:=[Wo,"_law_k"]) X G d0 fun _ _ _ _ _ _=>gF fun _ _=>rfl;have g1:=cw (ps:=[Wo,"_law_k"]) X G d1 fun _ _ _ _ _ _=>gF fun _ _=>rfl;have g2:=cw (ps:=[Wn,"_law_many"]) X G d2 fun _ _ _ _ _ _=>gF fun _ _=>rfl;have g3:=cw (ps:=[Wn,"_law_most"]) X G d3 fun _ _ _ _ _ _=>gF fun _ _=>rfl;have W:=cw (ps:=[Wn]) X G d4 fun _ _ _ _ _ _=>fP fun _=>rfl;have V:=cw (ps:=["laying"]) X G d5 fun _ _ _ _ _ _=>fP fun _=>rfl;have U:=cw (ps:=["laying"]) X G d6 fun _ _ _ _ _ _=>fP fun _=>rfl;have S:=cw (ps:=["things"]) X G d7 fun _ _ _ _ _ _=>fP fun _=>rfl;have R:=cw (ps:=["thing"]) X G d8 fun _ _ _ _ _ _=>fP fun _=>rfl;have Q:=cw (ps:=["thing","many"]) X G d9 fun _ _ _ _ _ _=>gF fun _ _=>rfl;have O:=cw (ps:=["thing"]) X G Ba fun _ _ _ _ _ _=>fP fun _=>rfl;have N:=cw (ps:=["thing"]) X G Bb fun _ _ _ _ _ _=>fP fun _=>rfl;have M:=cw (ps:=["thing","most"]) X G Bc fun _ _ _ _ _ _=>gF fun _ _=>rfl;have L:=cw (ps:=["thing"]) X G Bd fun _ _ _ _ _ _=>fP fun _=>rfl;have J:=cw (ps:=["marks","others"]) X G Be fun _ _ _ _ _ _=>gF fun _ _=>rfl;have I:=cw (ps:=["run","laid","mould"]) X G Bf fun _ _ _ _ _ _=>P7 fun _ _ _=>rfl;have H:=cw (ps:=["run"]) X G Bg fun _ _ _ _ _ _=>fP fun _=>rfl;have E:=cw (ps:=["run"]) X G Bh fun _ _ _ _ _ _=>fP fun _=>rfl;have D:=cw (ps:=[Wn]) X G Bi fun _ _ _ _ _ _=>fP fun _=>rfl;have C:=cw (ps:=[Wn,Wu]) X G Bj fun _ _ _ _ _ _=>gF fun _ _=>rfl;have B:=cw (ps:=[Wr,Ws]) X G Bk fun _ _ _ _ _ _=>gF fun _ _=>rfl;have A:=cw (ps:=[Wq,Wt]) X G Bl fun _ _ _ _ _ _=>gF fun _ _=>rfl;have z:=cw (ps:=["run","thing"]) X G Bm fun _ _ _ _ _ _=>gF fun _ _=>rfl;have y:=cw (ps:=["run","thing"]) X G Bn fun _ _ _ _ _ _=>gF fun _ _=>rfl;have x:=cw (ps:=[Wx]) X G Bo fun _ _ _ _ _ _=>fP fun _=>rfl;have u:=cw (ps:=["run","laying"]) X G Bp fun _ _ _ _ _ _=>gF fun _ _=>rfl;have r:=cw (ps:=["_law_call"]) X G Bq fun _ _ _ _ _ _=>fP fun _=>rfl;have q:∃t,mg "MARKS"=some (.int (8) t):=by obtain ⟨t,e⟩:=xO;exact ⟨t,Ż X G e⟩
 have p:∃t,mg "RUN"=some (.int (10) t):=by obtain ⟨t,e⟩:=yN;exact ⟨t,Ż X G e⟩
 have o:∃t,mg "TWINS"=some (.int (2) t):=by obtain ⟨t,e⟩:=xP;exact ⟨t,Ż X G e⟩
 have n:=ñ X G wz;have m:=ñ X G yO;have j:=ñ X G yp;have i:=ñ X G wG;have g:=ñ X G yP;have d:=ñ X G wA;have b:=ñ X G yQ;have OI:=ñ X G yq;have Qb:=ñ X G yR;have Qc:=ñ X G yS;have MZ:=ñ X G xQ;have OJ:=ñ X G yr;have Qd:=ñ X G yT;have LL:=ñ X G xo;have M0:=ñ X G xR;have Qe:=ñ X G yU;obtain ⟨f,oc,od,sl,kV,dc,pm,an,cd,ct,a,l,c,k⟩:=dl;have e:=Uc.symm.trans (Ż X G a);cases e;have F:=DA (st:=(top 56)) l c k;have GL:Gd K mg "law" (top 56) [Wo] _ _:=⟨Ż X G a,F,F.binds fun _ _ _ _ _ _=>fP fun _=>rfl⟩;obtain ⟨c0,T0,Z,hC,hT⟩:=MF tf;exact ⟨c0,T0,_,Z,hT,fun s v=>.of_eq rfl,fun base _ _ hB=>ME (Oy ⟨n,m,j,i,g,d,b,OI,Qb,Qc,MZ,OJ,Qd,LL,M0,Qe,dB X G xf (by decide +kernel),dB X G xf (by decide +kernel),dB X G xf (by decide +kernel),dB X G xf (by decide +kernel),dB X G xf (by decide +kernel),dB X G xf (by decide +kernel),dB X G xf (by decide +kernel),dB X G xf (by decide +kernel),dB X G xf (by decide +kernel),dB X G xf (by decide +kernel),dB X G xf (by decide +kernel),dB X G xf (by decide +kernel),dB X G xf (by decide +kernel),dB X G xf (by decide +kernel),dB X G xf (by decide +kernel),dB X G xf (by decide +kernel),dB X G xf (by decide +kernel),dB X G xf (by decide +kernel),dB X G xf (by decide +kernel),PV xf,Rk X G xf (by decide +kernel),Rl X G xf,q,p,o,Y,g1,g2,g3,W,V,U,S,R,Q,O,N,M,L,J,I,H,E,D,C,B,A,z,y,x,u,r⟩ Z hC hB GL a) Z LK⟩
def walk {l:PySem.W.OpenLaw} {q:á} {loose:List Str} {XP:(Str->Option Ä)->Į->Prop} {YP:Ą->Į->Prop} {d:DefRec} {K:Params->Ĉ} (hn:l.most=some 63) (rV:d.params.defaults=[]) (hd:(PyProof.Rows.recsOf q).find? (fun e=>e.name==d.name)=some d)
  (hY:∀(w:Ą) (h:Į),YP w h->(K w.params).In h)
  (F:∀(w:Ą) (mg:Str->Option Ä) (fa:Ó) (h:Į),(K w.params).In h->h.Ns Ò mg->mg d.name=some (.ref fa) ->
   ∃(c T:Ó) (fd:ė),We (K w.params) d.name=some (c,T)/\(K w.params).lookup T=none/\(∀(s:Ã) (u:Ä),BindsTo s fd ⟨[u],[]⟩ [(Wo,u)])/\∀base:Į,(K w.params).In base->base.Ns Ò mg->base.BuiltinsAt mg T->bN l.prog w (K w.params) mg base cH 10 fa fd [Wo] (uE (K w.params) T)) :
  PySem.W.WalkO q loose XP YP l.row.toRowW d [] (fun f vs=>PySem.call f vs) :=
 L2.Ot (n:=63) (k:=10) (x:= Wo) (CX:=fun _=>cH) (sp:=fun w=>uE (K w.params)) hn (by decide) rV ⟨rfl,by decide,by decide,rfl⟩ hY hd F (fun _ _ _ a Z Y X V=>⟨a,Z,rfl,V,Y,X,fun _=>rfl⟩) fun _ _ _ _ _ z=>z
end DI.cQ
open PySem PySem.W PyProof.Rows
namespace PySem.W.Fast
def te13540333498908457653:=trivial
def te2839851054199902966:=trivial
def te7447343274005217527:=trivial
def te8403559534865787773:=trivial
def te15500001179271910561:=trivial
def te4678103353419205127:=trivial
end PySem.W.Fast
set_option maxRecDepth 100000 in
set_option maxHeartbeats 0 in
theorem PySem.Challenge.cw_twinmoulds_k10_layings_looked_at_holds : PySem.Challenge.rw_twinmoulds_k10_layings_looked_at.Holds := by
 w_on;o_law;k_head;(case hw=>w_witness2)
 k_fill
 refine DI.cQ.walk (l:=PySem.Challenge.rw_twinmoulds_k10_layings_looked_at) rfl rfl rfl (fun w h Y=>PySem.W.km_in_of Y) ?F
 case F =>
  intro w V U h Z G X;refine' DI.cQ.all_mk Z G X ?d0 ?d1 ?d2 ?d3 ?d4 ?d5 ?d6 ?d7 ?d8 ?d9 ?Ba ?Bb ?Bc ?Bd ?Be ?Bf ?Bg ?Bh ?Bi ?Bj ?Bk ?Bl ?Bm ?Bn ?Bo ?Bp ?Bq ?dl ?xO ?yN ?xP ?wz ?yO ?yp ?wG ?yP ?wA ?yQ ?yq ?yR ?yS ?xQ ?yr ?yT ?xo ?xR ?yU ?xf ?tf
  (case d0|d1|d2|d3|d4|d5|d6|d7|d8|d9|Ba|Bb|Bc|Bd|Be|Bf|Bg|Bh|Bi|Bj|Bk|Bl|Bm|Bn|Bo|Bp|Bq|dl=>refine' DI.cQ.P6 ?a ?l ?c ?k;(case a=>k_is);(case l=>k_is);(case c=>k_is);(case k=>k_is))
  (case xO=>refine' DI.cQ.yM ?e;(case e=>k_is))
  (case yN=>refine' DI.cQ.yM ?e;(case e=>k_is))
  (case xP=>refine' DI.cQ.yM ?e;(case e=>k_is))
  (case wz|yO|yp|wG|yP|wA|yQ|yq|yR|yS|xQ|yr|yT|xo|xR|yU=>k_is)
  (case xf=>kernel_rfl)
  (case tf=>kernel_rfl)
